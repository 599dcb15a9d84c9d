import PyProof.Rows.All
import Wide.All
import OpenK.AllK
import Wide.FinOn
import Lean
import PyProof.EqAt
import PyProof.EqKinds
import PyProof.TupleCall
import KE.KSortKey
import KE.KLam
import KE.KMinKey
import PySem.Challenge.RW_warmshare_k23_what_is_bought
open PySem.W (Frag nsIn fnOf keepIn codeIn kia_one mg_of mg_none_of findIn kitx_list instObj methodObj lookIn kitx_dict plainGet specialIn isFn kitOne kitx_tuple cellsFrom_some tabObj)
open PyProof.Rows (boot_bool boot_enumerate boot_int boot_isinstance boot_list boot_max boot_min boot_reversed boot_sum boot_tuple boot_zip)
open List (length_map mem_map map_cons map_append length_append mem_append length_cons map_map length_take append_assoc mem_range filter_cons mem_singleton length_drop nodup_cons length_range filter_append sum_cons sum_append nodup_append getElem?_map getElem?_eq_getElem mem_of_getElem? mem_cons_of_mem mem_cons_self size_toArray filterMap_cons take_append_drop pairwise_append mem_append_left mem_append_right mem_of_mem_take mem_of_mem_drop perm_append_comm pairwise_map getD_eq_getElem?_getD map_congr_left filter_sublist map_take map_drop take_of_length_le drop_eq_getElem_cons map_set pairwise_iff_getElem mem_iff_getElem? length_set lookup_cons nodup_range append_nil length_eq_zero_iff eq_nil_or_concat concat_eq_append)
open Array (length_toList)
theorem aZa (h:True:=by rfl):True:=h
theorem aZb (h:True:=by decide):True:=h
theorem aZc (h:True:=by intro _;rfl):True:=h
theorem aZd (h:True:=by first | exact .inl rfl | exact .inr rfl | assumption):True:=h
theorem aZe (h:True:=by decide +kernel):True:=h
theorem aZf (h:True:=by first | exact Or.inl rfl | exact Or.inr (Or.inl rfl) | exact Or.inr (Or.inr rfl)):True:=h
theorem aZg (h:True:=by first | exact .inl rfl | exact .inr rfl):True:=h
theorem aZh (h:True:=by intros;rfl):True:=h
theorem aZi (h:True:=by exact Nat.le_of_ble_eq_true rfl):True:=h
theorem aZj (h:True:=by exact λ_ _=>rfl):True:=h
set_option maxHeartbeats 4000000
set_option bootstrap.genMatcherCode false
set_option tactic.hygienic false
set_option genSizeOfSpec false
noncomputable section
set_option Elab.async false
set_option linter.all false
set_option maxRecDepth 100000
namespace L2
open PySem PySem.Spec PyProof.Rows
noncomputable abbrev Key:=Sum Int Str
noncomputable def Ba:Key->Value->Bool
  | .inl k,v=>Value.isInt k v
  | .inr x,v=>Value.isStrOf x v
noncomputable def Fd (w:World):Key->Int
  | .inl k=>hashInt k
  | .inr x=>hashStr w x
theorem cy:∀{k:Key} {v:Value},Ba k v=true->(∃i t,k=Sum.inl i/\v=Value.int i t)\/(∃x t,k=Sum.inr x/\v=Value.str x t)
  | .inl i,v,h=>by
    obtain ⟨t,e⟩:=Value.isInt_shape (k:=i) (v:=v) h;exact .inl ⟨i,t,rfl,e⟩
  | .inr x,v,h=>by
    obtain ⟨t,e⟩:=Value.isStrOf_shape (x:=x) (v:=v) h;exact .inr ⟨x,t,rfl,e⟩
theorem BN (a b:Int):decide ((Sum.inl a:Key)=Sum.inl b)=(a == b):=by
  by_cases e:a=b
  · subst e;simp
  · have h:¬(Sum.inl a:Key)=Sum.inl b:=λq=>e (Sum.inl.inj q);rw[decide_eq_false h];exact (beq_eq_false_iff_ne.mpr e).symm
theorem BQ (a b:Str):decide ((Sum.inr a:Key)=Sum.inr b)=decide (a=b):=by
  by_cases e:a=b
  · subst e;simp
  · have h:¬(Sum.inr a:Key)=Sum.inr b:=λq=>e (Sum.inr.inj q);rw[decide_eq_false h,decide_eq_false e]
theorem BO (a:Int)(b:Str):decide ((Sum.inl a:Key)=Sum.inr b)=false:=decide_eq_false (λq=>nomatch q)
theorem BP (a:Str)(b:Int):decide ((Sum.inr a:Key)=Sum.inl b)=false:=decide_eq_false (λq=>nomatch q)
noncomputable def qW (prog:Program)(w:World):PySem.KeyKind prog w Key where
  is:=Ba
  hash:=Fd w
  inj:=λv a b ha hb=>by
    rcases cy ha with ⟨i,t,rfl,rfl⟩ | ⟨x,t,rfl,rfl⟩
    · rcases cy hb with ⟨j,u,rfl,e⟩ | ⟨y,u,rfl,e⟩
      · injection e with e1 _;rw[e1]
      · exact nomatch e
    · rcases cy hb with ⟨j,u,rfl,e⟩ | ⟨y,u,rfl,e⟩
      · exact nomatch e
      · injection e with e1 _;rw[e1]
  byValue:=λk v h=>by
    rcases cy h with ⟨i,t,rfl,rfl⟩ | ⟨x,t,rfl,rfl⟩<;>rfl
  pyHash:=λhv h=>by
    rcases cy hv with ⟨i,t,rfl,rfl⟩ | ⟨x,t,rfl,rfl⟩
    · exact wpAny_pyHash_int h
    · exact wpAny_pyHash_str h
  eqBool:=λhu hv h=>by
    rcases cy hu with ⟨i,t,rfl,rfl⟩ | ⟨x,t,rfl,rfl⟩
    · rcases cy hv with ⟨j,u,rfl,rfl⟩ | ⟨y,u,rfl,rfl⟩
      · rw[BN] at h;exact wpAny_eqBool_int h
      · rw[BO] at h;exact SeqAt.EqAt.int_str i t y u _ _ _ _ h
    · rcases cy hv with ⟨j,u,rfl,rfl⟩ | ⟨y,u,rfl,rfl⟩
      · rw[BP] at h;exact SeqAt.EqAt.str_int x t j u _ _ _ _ h
      · rw[BQ] at h;exact wpAny_eqBool_str h
  «strs»:=λk x t v h=>by
    rcases cy h with ⟨i,u,rfl,e⟩ | ⟨y,u,rfl,e⟩
    · exact nomatch e
    · injection e with e1 _
      subst e1;cases v<;>rfl
end L2
namespace L2
open PySem PySem.Spec PyProof.Rows
inductive V where
  | non | bl (b:Bool) | int (i:Int) | str (x:Str) | byt (b:Array UInt8) | flt (b:UInt64) | ref (a:Addr) | ty (n:String)
  deriving DecidableEq
noncomputable def RelV:V->Value->Prop
  | .non,u=>u=Value.none
  | .bl b,u=>u=Value.bool b
  | .int i,u=>∃t,u=Value.int i t
  | .str x,u=>∃t,u=Value.str x t
  | .byt b,u=>∃t,u=Value.bytes b t
  | .flt b,u=>∃t,u=Value.float b t
  | .ref a,u=>u=Value.ref a
  | .ty n,u=>u=Value.type n
noncomputable abbrev Vals:List V->List Value->Prop:=Paired RelV
theorem Vals.length {xs:List V}{us:List Value}(r:Vals xs us):xs.length=us.length:=Paired.length r
theorem Vals.get:∀{xs:List V} {us:List Value} {i:Nat} {x:V},Vals xs us->xs[i]?=some x->∃u,us[i]?=some u/\RelV x u
  | _,_,_,_,.nil,e=>by simp at e
  | _,_,0,_,.cons r _,e=>by simp at e;subst e;exact ⟨_,rfl,r⟩
  | _,_,i+1,x,.cons _ t,e=>by
    obtain ⟨u,h1,h2⟩:=Vals.get (i:=i) (x:=x) t (by simpa using e);exact ⟨u,by simpa using h1,h2⟩
theorem Vals.set {x:V}{u:Value}(r:RelV x u):∀{xs:List V} {us:List Value} (i:Nat),Vals xs us->Vals (xs.set i x) (us.set i u)
  | _,_,_,.nil=>.nil
  | _,_,0,.cons _ t=>.cons r t
  | _,_,i+1,.cons q t=>.cons q (Vals.set r i t)
theorem Vals.append:∀{xs ys:List V} {us ws:List Value},Vals xs us->Vals ys ws->Vals (xs++ys) (us++ws)
  | _,_,_,_,.nil,s=>s
  | _,_,_,_,.cons r t,s=>.cons r (Vals.append t s)
theorem Vals.take:∀{xs:List V} {us:List Value} (n:Nat),Vals xs us->Vals (xs.take n) (us.take n)
  | _,_,0,_=>.nil
  | _,_,_+1,.nil=>.nil
  | _,_,n+1,.cons r t=>.cons r (Vals.take n t)
theorem Vals.drop:∀{xs:List V} {us:List Value} (n:Nat),Vals xs us->Vals (xs.drop n) (us.drop n)
  | _,_,0,r=>r
  | _,_,_+1,.nil=>.nil
  | _,_,n+1,.cons _ t=>Vals.drop n t
theorem Vals.none_of:∀{xs:List V} {us:List Value} {i:Nat},Vals xs us->xs[i]?=none->us[i]?=none:=λ{xs us i} r e=>by
  have h1:=r.length;have h2:xs.length<=i:=List.getElem?_eq_none_iff.mp e;exact List.getElem?_eq_none_iff.mpr (by lia)
noncomputable def Bq:Option V->Option Value->Prop
  | some v,some u=>RelV v u
  | none,none=>True
  | _,_=>False
noncomputable def KV {κ:Type}:List (κ×V)->List (κ×Value)->Prop:=Paired λ(p:κ×V) (q:κ×Value)=>p.1=q.1/\RelV p.2 q.2
noncomputable def kV:Key->V
  | .inl i=>.int i
  | .inr x=>.str x
inductive HO where
  | lst (xs:List V)
  | tup (xs:List V)
  | dK (kvs:List (Key×V)) | dT (kvs:List (List Key×V))
  | set (S:Int->Bool) (n:Nat)
  | ins (C dx:Addr) (fs:List (Str×V))
  | own (x:Addr)
  | xd (fs:List (Str×V))
  | met (f x:Addr)
  | rng (lo hi:Int)
  | cM (o:Obj) (u:HO)
  | tbl (ps:Array Value)
  | ext (φ:Heap->Prop)
noncomputable abbrev Hp:=Addr->Option HO
noncomputable def upd (H:Hp)(a:Addr)(o:HO):Hp:=λb=>if b=a then some o else H b
theorem bf {H:Hp}{a:Addr}{o:HO}:upd H a o a=some o:=by unfold upd;rw[if_pos rfl]
theorem aC {H:Hp}{a b:Addr}{o:HO}(h:b≠a):upd H a o b=H b:=by unfold upd;rw[if_neg h]
theorem Bd {H:Hp}{a b:Addr}{o u:HO}(h:H a=some o)(h':H b=some u)(d:o≠u):a≠b:=by
  intro e;subst e;rw[h] at h';exact d (Option.some.inj h')
theorem aX {H:Hp}{a b:Addr}{o:HO}(h:H a=some o)(h':H b=none):a≠b:=by
  intro e;subst e;rw[h] at h';cases h'
section
variable (P:Program) (w:World)
noncomputable def d7 (H:Hp)(h:Heap)(a:Addr):HO->Prop
  | .lst xs=>xs.length<=sizeLine/\∃(its:List Value) (n:Nat),Vals xs its/\h.get? a=some { cls:=.type "list",data:=.seq its.toArray n }
  | .tup xs=>xs.length<=sizeLine/\∃its:List Value,Vals xs its/\IsTup h a its.toArray
  | .dK kvs=>kvs.length<=sizeLine/\(a == sysModules)=false/\∃vs,KV kvs vs/\h.DictOf (qW P w) a vs
  | .dT kvs=>kvs.length<=sizeLine/\(a == sysModules)=false/\∃xs:List (List Key×Addr×Value),
      Paired (λ(p:List Key×V) (q:List Key×Addr×Value)=>p.1=q.1/\H q.2.1=some (.tup (p.1.map kV))/\RelV p.2 q.2.2) kvs xs /\
      ∃o es ep,h.get? a=some o/\o.ExactDict/\o.data=.dict es ep/\es.toList=xs.map (entryOfKey (tupleKind (qW P w)))/\(xs.map (·.1)).Nodup
  | .set S n=>h.SetOf (intKind P w) a S n
  | .ins C dx fs=>H dx=some (.own a)/\fs.length<=1000/\dx≠a/\h.get? a=some (instObj C dx) /\
      ∃mA,h.Ns1 dx mA/\(∀f,Bq (fs.lookup f) (mA f))/\PySem.Within mA (fs.map (·.1))
  | .own _=>∃o,h.get? a=some o
  | .xd fs=>∃mA,h.Ns1 a mA/\∀f,Bq (fs.lookup f) (mA f)
  | .rng lo hi=>∃t u v,h.get? a=some { cls:=.type "range",data:=.fields #[.int lo t,.int hi u,.int 1 v] }
  | .cM o u=>h.get? a=some o/\d7 H h a u
  | .tbl qs=>∃tb:Array Value,h.get? a=some { cls:=.none,data:=.fields tb }/\TriplesOk tb.toList /\
      ∀pos cv,codeAmong pos tb.toList=some cv->∃c q t,cv=.ref c/\qs[0]?=some (.str q t)/\H c=some (.own a)/\h.CodeRec (.ref c) q
  | .met f x=>h.get? a=some (methodObj (.ref f) (.ref x))
  | .ext φ=>φ h/\(∃o,h.get? a=some o)/\∀h1 h2:Heap,φ h1->(∀o,h1.get? a=some o->h2.get? a=some o)->φ h2
noncomputable def lR (H:Hp)(h:Heap):Prop:=∀a o,H a=some o->d7 P w H h a o
end
section
variable {P:Program} {w:World} {H H':Hp} {h h':Heap} {a:Addr} {o:HO}
theorem d7.lt (x:d7 P w H h a o):a<h.objs.size:=by
  cases o with
  | lst xs=>obtain ⟨_,_,_,_,e⟩:=x;exact Heap.lt_size e
  | tup xs=>obtain ⟨_,_,_,p⟩:=x;exact p.lt
  | dK kvs=>obtain ⟨_,_,_,_,o,_,_,e,_⟩:=x;exact Heap.lt_size e
  | dT kvs=>obtain ⟨_,_,_,_,o,_,_,e,_⟩:=x;exact Heap.lt_size e
  | set S n=>obtain ⟨o,_,_,_,e,_⟩:=x;exact Heap.lt_size e
  | ins C dx fs=>obtain ⟨_,_,_,e,_⟩:=x;exact Heap.lt_size e
  | own y=>obtain ⟨_,e⟩:=x;exact Heap.lt_size e
  | xd fs=>obtain ⟨_,⟨_,_,_,e,_⟩,_⟩:=x;exact Heap.lt_size e
  | rng lo hi=>obtain ⟨_,_,_,e⟩:=x;exact Heap.lt_size e
  | cM ob u=>obtain ⟨e,_⟩:=x;exact Heap.lt_size e
  | tbl qs=>obtain ⟨_,e,_⟩:=x;exact Heap.lt_size e
  | met f y=>exact Heap.lt_size (show h.get? a=some _ from x)
  | ext φ=>obtain ⟨_,⟨_,e⟩,_⟩:=x;exact Heap.lt_size e
theorem Paired.BV {α β:Type}{F G:α->β->Prop}:∀{l₁:List α} {l₂:List β},Paired F l₁ l₂->(∀a b,F a b->G a b)->Paired G l₁ l₂
  | _,_,.nil,_=>.nil
  | _,_,.cons r t,f=>.cons (f _ _ r) (Paired.BV t f)
theorem Paired.imp' {α β:Type}{F G:α->β->Prop}(f:∀a b,F a b->G a b){l₁:List α}{l₂:List β}(r:Paired F l₁ l₂):Paired G l₁ l₂:=Paired.BV r f
theorem d7.df (x:d7 P w H h a o)(k:∀b u,(b=a\/H b=some (.own a))->h.get? b=some u->h'.get? b=some u)
    (ho:∀b,H b=some (.own a)->H' b=some (.own a)) (ht:∀b xs,H b=some (.tup xs)->H' b=some (.tup xs)):d7 P w H' h' a o:=by
  induction o with
  | lst xs=>obtain ⟨z,its,n,r,e⟩:=x;exact ⟨z,its,n,r,k _ _ (.inl rfl) e⟩
  | tup xs=>obtain ⟨z,its,r,ob,e,c⟩:=x;exact ⟨z,its,r,ob,k _ _ (.inl rfl) e,c⟩
  | dK kvs=>obtain ⟨z,y,vs,r,ob,es,ep,e,c⟩:=x;exact ⟨z,y,vs,r,ob,es,ep,k _ _ (.inl rfl) e,c⟩
  | dT kvs =>
    obtain ⟨z,y,xs,r,ob,es,ep,e,c⟩:=x;exact ⟨z,y,xs,Paired.BV r λp q z=>⟨z.1,ht _ _ z.2.1,z.2.2⟩,ob,es,ep,k _ _ (.inl rfl) e,c⟩
  | set S n=>obtain ⟨ob,es,ep,t,e,c⟩:=x;exact ⟨ob,es,ep,t,k _ _ (.inl rfl) e,c⟩
  | ins C dx fs =>
    obtain ⟨d,z,ne,e,mA,⟨od,es,ep,e2,c⟩,r⟩:=x;exact ⟨ho _ d,z,ne,k _ _ (.inl rfl) e,mA,⟨od,es,ep,k _ _ (.inr d) e2,c⟩,r⟩
  | own y=>obtain ⟨ob,e⟩:=x;exact ⟨ob,k _ _ (.inl rfl) e⟩
  | xd fs=>obtain ⟨mA,⟨od,es,ep,e,c⟩,r⟩:=x;exact ⟨mA,⟨od,es,ep,k _ _ (.inl rfl) e,c⟩,r⟩
  | rng lo hi=>obtain ⟨t,u,v,e⟩:=x;exact ⟨t,u,v,k _ _ (.inl rfl) e⟩
  | cM ob u ih=>obtain ⟨e,q⟩:=x;exact ⟨k _ _ (.inl rfl) e,ih q⟩
  | tbl qs =>
    obtain ⟨m,e,t,f⟩:=x;refine ⟨m,k _ _ (.inl rfl) e,t,λpos cv z=>?_⟩;obtain ⟨c,q,u,r,r2,o,c2,ob,vs,tk,e2,g,rest⟩:=f pos cv z;cases e2;exact ⟨c,q,u,r,r2,ho _ o,c,ob,vs,tk,rfl,k _ _ (.inr o) g,rest⟩
  | met f y =>
    have e:h.get? a=some (methodObj (.ref f) (.ref y)):=x;show h'.get? a=some (methodObj (.ref f) (.ref y));exact k a _ (.inl rfl) e
  | ext φ=>obtain ⟨p,⟨o,e⟩,st⟩:=x;exact ⟨st _ _ p λo q=>k _ _ (.inl rfl) q,⟨o,k _ _ (.inl rfl) e⟩,st⟩
theorem lR.lt (x:lR P w H h)(e:H a=some o):a<h.objs.size:=(x a o e).lt
theorem lR.fresh (x:lR P w H h)(e:h.objs.size<=a):H a=none:=by
  cases q:H a with
  | none=>rfl
  | some u=>exact absurd (Nat.lt_of_lt_of_le (x.lt q) e) (Nat.lt_irrefl _)
theorem lR.kept (x:lR P w H h)(k:∀b u,h.get? b=some u->h'.get? b=some u):lR P w H h':=λa o e =>
  (x a o e).df (λb u _ q=>k b u q) (λ_ q=>q) λ_ _ q=>q
theorem lR.laid (x:lR P w H h)(k:∀b u,h.get? b=some u->h'.get? b=some u)(hp:h.objs.size<=a)(new:d7 P w (upd H a o) h' a o):lR P w (upd H a o) h':=λb u e=>by
  have hn:=x.fresh hp;by_cases hb:b=a
  · subst hb;rw[bf] at e;cases e;exact new
  · rw[aC hb] at e;exact (x b u e).df (λc v _ q=>k c v q) (λc q=>by rw[aC (aX q hn)];exact q) λc xs q=>by rw[aC (aX q hn)];exact q
end
noncomputable def Rd (H:Hp)(a:Addr)(u:HO):Prop:=H a=some u\/∃o,H a=some (.cM o u)
theorem Rd.ok {P:Program}{w:World}{H:Hp}{h:Heap}{a:Addr}{u:HO}(r:Rd H a u)(x:lR P w H h):d7 P w H h a u:=by
  rcases r with r | ⟨o,r⟩
  · exact x a u r
  · obtain ⟨_,q⟩:=x a _ r;exact q
noncomputable def Ez:Option HO->Prop
  | some (.lst _)=>True
  | some (.dK _)=>True
  | some (.dT _)=>True
  | some (.set _ _)=>True
  | some (.ins _ _ _)=>True
  | some (.ext _)=>True
  | _=>False
section
variable {P:Program} {w:World} {H:Hp} {h h':Heap} {x e:Addr} {o':HO}
theorem lR.write (ok:lR P w H h)(mu:Ez (H x))(he:e=x\/H e=some (.own x))(k:∀b u,b≠e->h.get? b=some u->h'.get? b=some u)(heo:∃u,h'.get? e=some u)
    (new:d7 P w (upd H x o') h' x o'):lR P w (upd H x o') h':=λb u q=>by
  have nown:∀c y,H c=some (.own y)->c≠x:=λc y r z=>by subst z;rw[r] at mu;exact mu
  have ntup:∀c xs,H c=some (.tup xs)->c≠x:=λc xs r z=>by subst z;rw[r] at mu;exact mu
  by_cases hb:b=x
  · subst hb;rw[bf] at q;cases q;exact new
  · rw[aC hb] at q;by_cases hbe:b=e
    · have q':H b=some (.own x):=by
        rcases he with z | z
        · exact absurd (hbe.trans z) hb
        · rw[hbe];exact z
      rw[q] at q';cases q';obtain ⟨v,hv⟩:=heo;exact ⟨v,by rw[hbe];exact hv⟩
    · refine (ok b u q).df (λc v hc r => k c v ?_ r) (λc r => by rw [aC (nown c b r)];exact r) λc xs r => by rw [aC (ntup c xs r)];exact r
      rcases hc with rfl | hc
      · exact hbe
      · rintro rfl;rcases he with z | z
        · exact nown c b hc z
        · rw[hc] at z;cases z;exact hb rfl
end
structure Un (fs ex:List Addr)(H H':Hp)(h h':Heap):Prop where
  keep:∀b o,h.get? b=some o->H b=none->b∉fs->b∉ex->h'.get? b=some o
  slot:∀b o,h.get? b=some o->H b=none->b∈fs->b∉ex->∃sl,h'.get? b=some { o with slots:=sl }
  free:∀b o,h.get? b=some o->H b=none->b∉ex->H' b=none
  there:∀b o,h.get? b=some o->b∉ex->∃o',h'.get? b=some o'
  rC:∀b xs,H b=some (.tup xs)->H' b=some (.tup xs)
  pj:∀b o u,H b=some (.cM o u)->H' b=some (.cM o u)
  oR:∀b ps,H b=some (.tbl ps)->∃more,H' b=some (.tbl (ps++more))
section
variable {fs fs' ex ex':List Addr} {H H1 H2:Hp} {h h1 h2 h':Heap} {a x e:Addr} {o:HO}
theorem Un.any (u:Un fs ex H H1 h h1){b:Addr}{ob:Obj}(q:h.get? b=some ob)(n:H b=none)(hx:b∉ex):∃sl,h1.get? b=some { ob with slots:=sl }:=by
  by_cases hb:b∈fs
  · exact u.slot b ob q n hb hx
  · exact ⟨ob.slots,u.keep b ob q n hb hx⟩
theorem Un.kept (k:∀b u,h.get? b=some u->h'.get? b=some u):Un fs ex H H h h':=
  ⟨λb ob q _ _ _=>k b ob q,λb ob q _ _ _=>⟨ob.slots,k b ob q⟩,λ_ _ _ n _=>n,λb ob q _=>⟨ob,k b ob q⟩,λ_ _ q=>q,λ_ _ _ q=>q,λ_ ps q=>⟨#[],by rw[q];simp⟩⟩
theorem Un.refl:Un fs ex H H h h:=Un.kept λ_ _ q=>q
theorem Un.laid (k:∀b u,h.get? b=some u->h'.get? b=some u)(hp:h.objs.size<=a)(hn:H a=none):Un fs ex H (upd H a o) h h' where
  keep:=λb u q _ _ _=>k b u q
  slot:=λb u q _ _ _=>⟨u.slots,k b u q⟩
  free:=λb u q n _=>by rw[aC (Nat.ne_of_lt (Nat.lt_of_lt_of_le (Heap.lt_size q) hp))];exact n
  there:=λb u q _=>⟨u,k b u q⟩
  rC:=λb xs q=>by rw[aC (aX q hn)];exact q
  pj:=λb u xs q=>by rw[aC (aX q hn)];exact q
  oR:=λb ps q=>⟨#[],by rw[aC (aX q hn),q];simp⟩
theorem Un.write (mu:Ez (H x))(he:e=x\/H e=some (.own x))(k:∀b u,b≠e->h.get? b=some u->h'.get? b=some u)(heo:∃u,h'.get? e=some u):Un fs ex H (upd H x o) h h':=by
  have hx:∀b,H b=none->b≠x:=λb n z=>by subst z;rw[n] at mu;exact mu
  have hb:∀b,H b=none->b≠e:=λb n z=>by
    subst z;rcases he with r | r
    · exact hx b n r
    · rw[n] at r;cases r
  have hm:∀b u,H b=some u->¬Ez (some u)->b≠x:=λb u q nm z=>by subst z;rw[q] at mu;exact nm mu
  refine ⟨λb u q n _ _=>k b u (hb b n) q,λb u q n _ _=>⟨u.slots,k b u (hb b n) q⟩,λb u q n _=>by rw[aC (hx b n)];exact n,λb u q _=>?_,
    λb xs q=>by rw[aC (hm b _ q λz=>z)];exact q,λb u xs q=>by rw[aC (hm b _ q λz=>z)];exact q,λb ps q=>⟨#[],by rw[aC (hm b _ q λz=>z),q];simp⟩⟩
  by_cases hbe:b=e
  · subst hbe;exact heo
  · exact ⟨u,k b u hbe q⟩
end
noncomputable def EK (h:Heap)(H:Hp):List Addr:=(List.range h.objs.size).filter λa=>(H a).isSome
noncomputable def qS (h:Heap)(H:Hp):Heap:=PySem.W.hideAll h (EK h H)
theorem wN (h:Heap)(H:Hp):(qS h H).objs.size=h.objs.size:=PySem.W.hideAll_size _ _
theorem n4 {h:Heap}{H:Hp}{b:Addr}{o:Obj}(e:h.get? b=some o)(n:H b=none):(qS h H).get? b=some o:=
  PySem.W.hideAll_get _ e λhm=>by
    have q:(H b).isSome=true:=(List.mem_filter.mp hm).2;rw[n] at q;simp at q
theorem Am {h:Heap}{H:Hp}{b:Addr}{o:Obj}(e:(qS h H).get? b=some o):h.get? b=some o/\H b=none:=by
  have e':h.get? b=some o:=PySem.W.of_hideAll (EK h H) e;refine ⟨e',?_⟩;cases q:H b with
  | none=>rfl
  | some x =>
    have hm:b∈EK h H:=List.mem_filter.mpr ⟨mem_range.mpr (Heap.lt_size e'),by simp[q]⟩;have z:(qS h H).get? b=none:=PySem.W.hideAll_none (EK h H) hm;rw[z] at e;cases e
noncomputable def zD (g h:Heap)(L:Addr):List (Addr×Obj):=(List.range h.objs.size).filterMap λa=>if a=L\/(g.get? a).isSome=true then none else (h.get? a).map λo=>(a,o)
noncomputable def rest (g h:Heap)(L d:Addr):List (Addr×Obj):=(zD g h L).filter λp=>decide (p.1≠d)
end L2
namespace L2
open PySem PySem.Spec PyProof.Rows
structure Mod (K:Frag)(mg:Str->Option Value)(base:Heap):Prop where
  DD:K.In base
  glob:base.Ns mainGlobals mg
  blt:∃mb,base.Ns builtinsNs mb/\∀x:Str,x≠"__name__"->mb x=bootBuiltins x
  nolimit:base.NoLimit
structure Cx where
  prog:Program
  w:World
  K:Frag
  mg:Str->Option Value
  base:Heap
  A:Around
  N:List Str
  s₀:Shared
  H₀:Hp
  env:Env
  outer:List Env
  stack:List Env
  ex:List Addr
  fn:Str->Bool
  calm:Bool
  pn:List (Addr×Obj)
  xe:Value->Shared->Prop
noncomputable def xB (l:List Env):List Addr:=l.filterMap (·.frame)
noncomputable abbrev Cx.fs (X:Cx):List Addr:=xB X.outer
noncomputable def ua (sc:Scope)(x:Str):Prop:=sc.names.lookup x=some .local\/sc.names.lookup x=some .cell\/sc.names.lookup x=some .free
noncomputable def Loc (sc:Scope)(x:Str):Prop:=sc.names.lookup x=some .local\/sc.names.lookup x=some .cell
noncomputable def Look (env:Env)(h:Heap)(m:Str->Option Value)(x:Str)(u:Value):Prop:=
  (env.kindOf x=some .local/\m x=some u)\/((env.kindOf x=some .cell\/env.kindOf x=some .free)/\∃c,env.cells.lookup x=some c/\h.IsCell c (some u))
structure Cx.Ok (X:Cx):Prop where
  mod:Mod X.K X.mg X.base
  kind:X.env.scope.kind=.function
  glob:X.env.globals=mainGlobals
  blt:X.env.builtins=builtinsNs
  above:X.s₀.heap.objs.size<=X.env.locals
  inj:∀x y c,X.env.cells.lookup x=some c->X.env.cells.lookup y=some c->x=y
  has:∀x,(X.env.kindOf x=some .cell\/X.env.kindOf x=some .free)->∃c,X.env.cells.lookup x=some c
  Dg:∀x c,X.fn x=true->X.env.cells.lookup x=some c->X.s₀.heap.objs.size<=c
  hd:X.calm=true->X.A.handled=none
  frames:X.A.frames=some X.stack
  EI:X.stack=X.outer\/(X.stack=X.env::X.outer/\X.env.frame=some X.env.locals)
  ED:∀b∈X.ex,b≠X.env.locals/\∀x c,X.env.cells.lookup x=some c->c≠b
  bs:∀b o,X.base.get? b=some o->X.s₀.heap.get? b=some o/\X.H₀ b=none
  A1:X.base.objs.size<=X.s₀.heap.objs.size
  yP:∀b o,X.base.get? b=some o->b∉X.ex
  ym:∀b∈X.ex,b∉X.fs
  nZ:X.s₀.heap.FunFrames X.base X.outer
  CU:∀b∈X.fs,X.H₀ b=none
structure Inv (X:Cx)(pins:List (Addr×Obj))(σ:List (Option V))(H:Hp)(s:Shared):Prop where
  ok:X.Ok
  os:s.os=X.s₀.os
  bare:AllBare s.gens
  base:Un X.fs X.ex X.H₀ H X.s₀.heap s.heap
  loc:∃m,s.heap.Ns X.env.locals m/\∀(i:Nat) (x:Str) (v:V),X.N[i]?=some x->σ[i]?=some (some v)->ua X.env.scope x->∃u,RelV v u/\Look X.env s.heap m x u
  cell:∀x c,X.env.cells.lookup x=some c->∃v,s.heap.IsCell c v
  free:H X.env.locals=none
  km:∀x c,X.env.cells.lookup x=some c->H c=none
  pin:∀p∈X.pn++pins,s.heap.get? p.1=some p.2/\H p.1=none/\p.1≠X.env.locals/\p.1∉X.fs/\∀v,p.2.data≠.cell v
  bK:lR X.prog X.w H s.heap
  len:σ.length=X.N.length
section
variable {X:Cx} {pins:List (Addr×Obj)} {σ:List (Option V)} {H H':Hp} {s:Shared} {h':Heap}
theorem Cx.Ok.Ff (ok:X.Ok){b:Addr}{o:Obj}(e:X.base.get? b=some o):b∉X.fs:=λhb=>by
  have:=(ok.nZ.mem hb).1;rw[e] at this;cases this
theorem Inv.bs (I:Inv X pins σ H s):∀b o,X.base.get? b=some o->s.heap.get? b=some o/\H b=none:=λb o e =>
  ⟨I.base.keep b o (I.ok.bs b o e).1 (I.ok.bs b o e).2 (I.ok.Ff e) (I.ok.yP b o e),I.base.free b o (I.ok.bs b o e).1 (I.ok.bs b o e).2 (I.ok.yP b o e)⟩
theorem Inv.bk (I:Inv X pins σ H s):∀b o,X.base.get? b=some o->s.heap.get? b=some o:=λb o e=>(I.bs b o e).1
theorem Inv.mod (I:Inv X pins σ H s):Mod X.K X.mg X.base:=I.ok.mod
theorem Inv.oZ (I:Inv X pins σ H s):X.K.In s.heap:=I.ok.mod.DD.keeps I.bk
theorem Inv.nolimit (I:Inv X pins σ H s):s.heap.NoLimit:=I.ok.mod.nolimit.keeps I.bk
theorem Inv.lt (I:Inv X pins σ H s):X.env.locals<s.heap.objs.size:=let ⟨_,hn,_⟩:=I.loc;hn.lt
theorem Inv.sz (I:Inv X pins σ H s):X.s₀.heap.objs.size<=s.heap.objs.size:=Nat.le_trans I.ok.above (Nat.le_of_lt I.lt)
theorem Inv.Fg (I:Inv X pins σ H s){a:Addr}(h:s.heap.objs.size<=a):a∉X.fs:=λhb=>by
  obtain ⟨_,o,ho,_⟩:=I.ok.nZ.mem hb;exact absurd (Nat.lt_of_lt_of_le (Heap.lt_size ho) (Nat.le_trans I.sz h)) (Nat.lt_irrefl _)
theorem Inv.BD (I:Inv X pins σ H s):∀x c,X.env.cells.lookup x=some c->c≠X.env.locals:=λx c e z=>by
  obtain ⟨v,o,ho,hd⟩:=I.cell x c e;obtain ⟨m,⟨o',es,ep,ho',hd',_⟩,_⟩:=I.loc;rw[z,ho'] at ho;cases ho;rw[hd'] at hd;cases hd
theorem Inv.nZ (I:Inv X pins σ H s):s.heap.FunFrames X.base X.outer:=by
  have all:∀(l:List Env),(∀b∈xB l,b∈X.fs)->X.s₀.heap.FunFrames X.base l->s.heap.FunFrames X.base l:=by
    intro l;induction l with
    | nil=>intro _ _;trivial
    | cons env r ih =>
      intro hs hl;obtain ⟨hk,⟨L,o,hf,hn,ho,hd⟩,hr⟩:=hl;have hL:L∈X.fs:=hs L (by unfold xB;rw[filterMap_cons,hf];exact mem_cons_self);obtain ⟨sl,e⟩:=I.base.slot L o ho (I.ok.CU L hL) hL λz=>I.ok.ym L z hL;exact ⟨hk,⟨L,_,hf,hn,e,hd⟩,ih (λb hb=>hs b (by unfold xB;rw[filterMap_cons,hf];exact mem_cons_of_mem _ hb)) hr⟩
  exact all X.outer (λ_ hb=>hb) I.ok.nZ
theorem Inv.stack (I:Inv X pins σ H s):s.heap.FunFrames X.base X.stack:=by
  rcases I.ok.EI with e | ⟨e,hf⟩
  · rw[e];exact I.nZ
  · rw[e];obtain ⟨m,hn,_⟩:=I.loc;refine .cons (by rw[I.ok.kind];decide) hf hn ?_ I.nZ;exact Heap.get?_none_of_le (Nat.le_trans I.ok.A1 I.ok.above)
theorem Inv.uM (I:Inv X pins σ H s):∀b∈xB X.stack,b∈X.env.locals::X.fs:=λb hb=>by
  rcases I.ok.EI with e | ⟨e,hf⟩
  · rw[e] at hb;exact mem_cons_of_mem _ hb
  · rw[e] at hb;unfold xB at hb;rw[filterMap_cons,hf] at hb;exact hb
theorem Inv.we (I:Inv X pins σ H s):∀b∈xB X.stack,H b=none:=λb hb=>by
  rcases List.mem_cons.mp (I.uM b hb) with e | hb
  · rw[e];exact I.free
  · obtain ⟨_,o,ho,_⟩:=I.ok.nZ.mem hb;exact I.base.free b o ho (I.ok.CU b hb) λz=>I.ok.ym b z hb
theorem Inv.step {g':Array GenState}{t':Nat}{d':Drawn}{ch:List Addr}(I:Inv X pins σ H s)
    (hch:∀b∈ch,(b∈X.ex\/X.s₀.heap.objs.size<=b)/\b≠X.env.locals/\(∀x c,X.env.cells.lookup x=some c->c≠b)/\∀p∈X.pn++pins,p.1≠b)
    (keep:∀b o,b≠X.env.locals->b∉X.fs->b∉ch->s.heap.get? b=some o->H b=none->h'.get? b=some o)
    (slot:∀b o,b≠X.env.locals->b∈X.fs->b∉ch->s.heap.get? b=some o->H b=none->∃sl,h'.get? b=some { o with slots:=sl }) (free:∀b o,b∉ch->s.heap.get? b=some o->H b=none->H' b=none)
    (there:∀b o,b∉ch->s.heap.get? b=some o->∃o',h'.get? b=some o')
    (rC:∀b xs,H b=some (.tup xs)->H' b=some (.tup xs)) (pj:∀b o u,H b=some (.cM o u)->H' b=some (.cM o u)) (oR:∀b ps,H b=some (.tbl ps)->∃more,H' b=some (.tbl (ps++more)))
    (ns:∀m,s.heap.Ns X.env.locals m->h'.Ns X.env.locals m) (bK:lR X.prog X.w H' h') (hg:AllBare g') :
    Inv X pins σ H' { s with heap:=h',gens:=g',drawn:=d',toks:=t' }:=by
  have neL:∀b o,X.s₀.heap.get? b=some o->b≠X.env.locals:=λb o e=>Nat.ne_of_lt (Nat.lt_of_lt_of_le (Heap.lt_size e) I.ok.above);have neC:∀b o,X.s₀.heap.get? b=some o->b∉X.ex->b∉ch:=λb o e hx hb=>by
    rcases (hch b hb).1 with z | z
    · exact hx z
    · exact absurd (Nat.lt_of_lt_of_le (Heap.lt_size e) z) (Nat.lt_irrefl _)
  have cellK:∀x c,X.env.cells.lookup x=some c->∀v,s.heap.IsCell c v->h'.IsCell c v:= by
    rintro x c e v ⟨o,ho,hd⟩;have nch:c∉ch:=λz=>(hch c z).2.2.1 x c e rfl;by_cases hc:c∈X.fs
    · obtain ⟨sl,q⟩:=slot c o (I.BD x c e) hc nch ho (I.km x c e);exact ⟨_,q,hd⟩
    · exact ⟨o,keep c o (I.BD x c e) hc nch ho (I.km x c e),hd⟩
  refine ⟨I.ok,I.os,hg,⟨λb o e n hb hx=>?_,λb o e n hb hx=>?_,λb o e n hx=>?_,λb o e hx=>?_,λb xs e=>rC b xs (I.base.rC b xs e),λb o xs e=>pj b o xs (I.base.pj b o xs e),λb ps e=>?_⟩,?_,λx c e=>?_,?_,λx c e=>?_,λp hp=>?_,bK,I.len⟩
  · exact keep b o (neL b o e) hb (neC b o e hx) (I.base.keep b o e n hb hx) (I.base.free b o e n hx)
  · obtain ⟨sl,e1⟩:=I.base.slot b o e n hb hx;obtain ⟨sl',e2⟩:=slot b _ (neL b o e) hb (neC b o e hx) e1 (I.base.free b o e n hx);exact ⟨sl',e2⟩
  · obtain ⟨o',e1⟩:=I.base.there b o e hx;exact free b o' (neC b o e hx) e1 (I.base.free b o e n hx)
  · obtain ⟨o',e1⟩:=I.base.there b o e hx;exact there b o' (neC b o e hx) e1
  · obtain ⟨m1,e1⟩:=I.base.oR b ps e;obtain ⟨m2,e2⟩:=oR b _ e1;exact ⟨m1++m2,by rw[e2,Array.append_assoc]⟩
  · obtain ⟨m,hn,hl⟩:=I.loc;refine ⟨m,ns m hn,λi x v e1 e2 e3=>?_⟩;obtain ⟨u,r,l⟩:=hl i x v e1 e2 e3;refine ⟨u,r,?_⟩;rcases l with l | ⟨k,c,e,z⟩
    · exact .inl l
    · exact .inr ⟨k,c,e,cellK x c e _ z⟩
  · obtain ⟨v,z⟩:=I.cell x c e;exact ⟨v,cellK x c e v z⟩
  · obtain ⟨m,⟨o,_,_,ho,_⟩,_⟩:=I.loc;exact free _ o (λz=>(hch _ z).2.1 rfl) ho I.free
  · obtain ⟨v,o,ho,hd⟩:=I.cell x c e;exact free c o (λz=>(hch c z).2.2.1 x c e rfl) ho (I.km x c e)
  · obtain ⟨e,n,ne,nf,d⟩:=I.pin p hp;have nch:p.1∉ch:=λz=>(hch p.1 z).2.2.2 p hp rfl;exact ⟨keep p.1 p.2 ne nf nch e n,free p.1 p.2 nch e n,ne,nf,d⟩
theorem Inv.un {t':Nat}(I:Inv X pins σ H s)(u:Un X.fs [] H H' s.heap h')(bK:lR X.prog X.w H' h'):Inv X pins σ H' { s with heap:=h',toks:=t' }:=by
  obtain ⟨m,⟨o,es,ep,ho,r⟩,_⟩:=id I.loc;obtain ⟨sl,hL⟩:=u.any ho I.free (by simp);exact I.step (g':=s.gens) (d':=s.drawn) (ch:=[]) (λ_ z=>nomatch z) (λb o _ hb _ e n=>u.keep b o e n hb (by simp)) (λb o _ hb _ e n=>u.slot b o e n hb (by simp)) (λb o _ e n=>u.free b o e n (by simp)) (λb o _ e=>u.there b o e (by simp)) u.rC u.pj u.oR (λm' hm=>by
    obtain ⟨o',es',ep',ho',r'⟩:=hm;rw[ho] at ho';cases ho';exact ⟨_,es',ep',hL,r'⟩) bK I.bare
theorem Inv.call {g':Array GenState}{t':Nat}{d':Drawn}{ch:List Addr}(I:Inv X pins σ H s)(u:Un (xB X.stack) ch H H' s.heap h')(bK:lR X.prog X.w H' h')(hg:AllBare g')
    (hch:∀b∈ch,(b∈X.ex\/X.s₀.heap.objs.size<=b)/\b≠X.env.locals/\(∀x c,X.env.cells.lookup x=some c->c≠b)/\∀p∈X.pn++pins,p.1≠b) :
    Inv X pins σ H' { s with heap:=h',gens:=g',drawn:=d',toks:=t' }:=by
  obtain ⟨m,⟨o,es,ep,ho,r⟩,_⟩:=id I.loc;obtain ⟨sl,hL⟩:=u.any ho I.free λz=>(hch _ z).2.1 rfl;exact I.step (ch:=ch) hch (λb o hL hb hc e n=>u.keep b o e n (λz=>(List.mem_cons.mp (I.uM b z)).elim hL hb) hc) (λb o _ _ hc e n=>u.any e n hc) (λb o hc e n=>u.free b o e n hc) (λb o hc e=>u.there b o e hc) u.rC u.pj u.oR (λm' hm=>by
    obtain ⟨o',es',ep',ho',r'⟩:=hm;rw[ho] at ho';cases ho';exact ⟨_,es',ep',hL,r'⟩) bK hg
theorem Inv.turned {t':Nat}{it:Addr}(I:Inv X pins σ H s)(k:∀b o,b≠it->s.heap.get? b=some o->h'.get? b=some o)(hn:H it=none)(hL:it≠X.env.locals)
    (h1:it∈X.ex\/X.s₀.heap.objs.size<=it) (h2:∀x c,X.env.cells.lookup x=some c->c≠it) (h3:∀p∈X.pn++pins,p.1≠it):Inv X pins σ H { s with heap:=h',toks:=t' }:=by
  have nit:∀b u,H b=some u->b≠it:=λb u e z=>by rw[z,hn] at e;cases e
  refine I.step (g':=s.gens) (d':=s.drawn) (ch:=[it]) (λb hb=>?_) (λb o _ _ hc e _=>k b o (λz=>hc (by simp[z])) e) (λb o _ _ hc e _=>⟨o.slots,k b o (λz=>hc (by simp[z])) e⟩) (λ_ _ _ _ n=>n)
    (λb o hc e=>⟨o,k b o (λz=>hc (by simp[z])) e⟩) (λ_ _ e=>e) (λ_ _ _ e=>e) (λb ps e=>⟨#[],by rw[e];simp⟩) (λm hm=>?_) (λb u e=>?_) I.bare
  · have e : b = it := by simpa using hb
    subst e;exact ⟨h1,hL,h2,h3⟩
  · obtain ⟨o,es,ep,ho,r⟩:=hm;exact ⟨o,es,ep,k _ o (Ne.symm hL) ho,r⟩
  · refine (I.bK b u e).df (λc v hc q=>k c v ?_ q) (λ_ q=>q) λ_ _ q=>q;rcases hc with z | z
    · rw[z];exact nit b u e
    · exact nit c _ z
theorem Inv.tok (I:Inv X pins σ H s)(t:Nat):Inv X pins σ H { s with toks:=t }:=I.un (h':=s.heap) (t':=t) Un.refl I.bK
theorem Inv.kept {t':Nat}(I:Inv X pins σ H s)(k:∀b u,s.heap.get? b=some u->h'.get? b=some u):Inv X pins σ H { s with heap:=h',toks:=t' }:=I.un (Un.kept k) (I.bK.kept k)
theorem Inv.laid {a:Addr}{o:HO}{t':Nat}(I:Inv X pins σ H s)(k:∀b u,s.heap.get? b=some u->h'.get? b=some u)(hp:s.heap.objs.size<=a)(new:d7 X.prog X.w (upd H a o) h' a o) :
    Inv X pins σ (upd H a o) { s with heap:=h',toks:=t' }:=I.un (Un.laid k hp (I.bK.fresh hp)) (I.bK.laid k hp new)
theorem Inv.write {x e:Addr}{o:HO}{t':Nat}(I:Inv X pins σ H s)(mu:Ez (H x))(he:e=x\/H e=some (.own x))(k:∀b u,b≠e->s.heap.get? b=some u->h'.get? b=some u)(heo:∃u,h'.get? e=some u)
    (new:d7 X.prog X.w (upd H x o) h' x o):Inv X pins σ (upd H x o) { s with heap:=h',toks:=t' }:=I.un (Un.write mu he k heo) (I.bK.write mu he k heo new)
theorem Inv.vT {pins':List (Addr×Obj)}(I:Inv X pins σ H s)(h:∀p∈pins',s.heap.get? p.1=some p.2/\H p.1=none/\p.1≠X.env.locals/\p.1∉X.fs/\∀v,p.2.data≠.cell v):Inv X pins' σ H s:=
  ⟨I.ok,I.os,I.bare,I.base,I.loc,I.cell,I.free,I.km,λp hp=>(mem_append.mp hp).elim (λz=>I.pin p (mem_append_left _ z)) (h p),I.bK,I.len⟩
theorem sO {N:List Str}(hN:N.Nodup){i j:Nat}{x:Str}(a:N[i]?=some x)(b:N[j]?=some x):i=j:=by
  obtain ⟨h1,e1⟩:=List.getElem?_eq_some_iff.mp a;obtain ⟨h2,e2⟩:=List.getElem?_eq_some_iff.mp b;exact (List.getElem_inj hN).mp (e1.trans e2.symm)
theorem qk {M:Model}{A:Around}{E:Value->Shared->Prop}{i:Nat}{x:Str}{v:V}{u:Value}{Q:Unit->Shared->Prop}(I:Inv X pins σ H s)(hN:X.N.Nodup)(hi:X.N[i]?=some x)(hx:Loc X.env.scope x)(r:RelV v u)
    (h:∀s',Inv X pins (σ.set i (some v)) H s'->(∃a,Heap.SameBut a s.heap s'.heap/\(a=X.env.locals\/X.env.cells.lookup x=some a))->Q () s') (hf:autoParam (X.fn x=true\/X.env.scope.names.lookup x=some .local) aZd._auto_1):wpAny M A (storeName X.env x u) Q E s:=by
  obtain ⟨m,hn,hl⟩:=id I.loc;have hcls:(X.env.scope.kind == .class || (X.env.scope.kind == .module && X.env.locals != X.env.globals))=false:=by rw[I.ok.kind];rfl
  have hiσ:i<σ.length:=by rw[I.len];exact (List.getElem?_eq_some_iff.mp hi).1
  have BD:=I.BD;have tracked:∀{a:Addr} {h':Heap},(∃o,s.heap.get? a=some o/\H a=none)->Heap.SameBut a s.heap h'->lR X.prog X.w H h':=λ{a h'} ha hs b ob e=>by
    obtain ⟨_,_,hfree⟩:=ha;refine (I.bK b ob e).df (λc w' hc q=>(hs.2 c ?_).trans q) (λ_ q=>q) λ_ _ q=>q;rintro rfl;rcases hc with rfl | hc
    · rw[hfree] at e;cases e
    · rw[hfree] at hc;cases hc
  rcases hx with hk | hk
  · refine wpAny_storeName_local hk hn (λh' hn' hs=>?_) hcls;obtain ⟨oL,_,_,hoL,_⟩:=id hn;refine h _ ⟨I.ok,I.os,I.bare,⟨λb o e n hb hx=>?_,λb o e n hb hx=>?_,I.base.free,λb o e hx=>?_,I.base.rC,I.base.pj,I.base.oR⟩,⟨_,hn',λj y v' e1 e2 e3=>?_⟩,λy c e=>?_,I.free,I.km,λp hp=>?_,tracked ⟨oL,hoL,I.free⟩ hs,by simpa using I.len⟩ ⟨_,hs,.inl rfl⟩
    · exact (hs.2 b (Nat.ne_of_lt (Nat.lt_of_lt_of_le (Heap.lt_size e) I.ok.above))).trans (I.base.keep b o e n hb hx)
    · obtain ⟨sl,e1⟩:=I.base.slot b o e n hb hx;exact ⟨sl,(hs.2 b (Nat.ne_of_lt (Nat.lt_of_lt_of_le (Heap.lt_size e) I.ok.above))).trans e1⟩
    · obtain ⟨o',e1⟩:=I.base.there b o e hx;exact ⟨o',(hs.2 b (Nat.ne_of_lt (Nat.lt_of_lt_of_le (Heap.lt_size e) I.ok.above))).trans e1⟩
    · by_cases hj:j=i
      · subst hj;rw[hi] at e1;cases e1;rw[List.getElem?_set_self hiσ] at e2;cases e2;exact ⟨u,r,.inl ⟨hk,by simp⟩⟩
      · rw[List.getElem?_set_ne (Ne.symm hj)] at e2;obtain ⟨u',r',q⟩:=hl j y v' e1 e2 e3;refine ⟨u',r',?_⟩;rcases q with ⟨k,e⟩ | ⟨k,c,e,z⟩
        · refine .inl ⟨k,?_⟩;have:y≠x:=λe=>hj (sO hN e1 (e ▸ hi));simp[this,e]
        · exact .inr ⟨k,c,e,z.sameBut hs (BD y c e)⟩
    · obtain ⟨w',z⟩:=I.cell y c e;exact ⟨w',z.sameBut hs (BD y c e)⟩
    · obtain ⟨e,n,ne,nf,d⟩:=I.pin p hp;exact ⟨(hs.2 p.1 ne).trans e,n,ne,nf,d⟩
  · have hfn:X.fn x=true:=by
      rcases hf with z | z
      · exact z
      · rw[z] at hk;cases hk
    obtain ⟨c,hc⟩:=I.ok.has x (.inl hk);obtain ⟨w',z⟩:=I.cell x c hc;refine wpAny_storeName_cell I.ok.kind hk hc z (λh' hc' hs=>?_);obtain ⟨oc,hoc,hocd⟩:=id z;refine h { s with heap:=h' } ⟨I.ok,I.os,I.bare,⟨λb o e n hb hx=>?_,λb o e n hb hx=>?_,I.base.free,λb o e hx=>?_,I.base.rC,I.base.pj,I.base.oR⟩,⟨m,hn.sameBut hs (Ne.symm (BD x c hc)),λj y v' e1 e2 e3=>?_⟩,λy c' e=>?_,I.free,I.km,λp hp=>?_,tracked ⟨oc,hoc,I.km x c hc⟩ hs,by simpa using I.len⟩ ⟨c,hs,.inr hc⟩
    · exact (hs.2 b (Nat.ne_of_lt (Nat.lt_of_lt_of_le (Heap.lt_size e) (I.ok.Dg x c hfn hc)))).trans (I.base.keep b o e n hb hx)
    · obtain ⟨sl,e1⟩:=I.base.slot b o e n hb hx;exact ⟨sl,(hs.2 b (Nat.ne_of_lt (Nat.lt_of_lt_of_le (Heap.lt_size e) (I.ok.Dg x c hfn hc)))).trans e1⟩
    · obtain ⟨o',e1⟩:=I.base.there b o e hx;exact ⟨o',(hs.2 b (Nat.ne_of_lt (Nat.lt_of_lt_of_le (Heap.lt_size e) (I.ok.Dg x c hfn hc)))).trans e1⟩
    · by_cases hj:j=i
      · subst hj;rw[hi] at e1;cases e1;rw[List.getElem?_set_self hiσ] at e2;cases e2;exact ⟨u,r,.inr ⟨.inl hk,c,hc,hc'⟩⟩
      · rw[List.getElem?_set_ne (Ne.symm hj)] at e2;obtain ⟨u',r',q⟩:=hl j y v' e1 e2 e3;refine ⟨u',r',?_⟩;rcases q with q | ⟨k,c',e,z'⟩
        · exact .inl q
        · refine .inr ⟨k,c',e,z'.sameBut hs ?_⟩;rintro rfl;exact hj (sO hN e1 (I.ok.inj _ _ _ e hc ▸ hi))
    · by_cases hcc:c'=c
      · subst hcc;exact ⟨_,hc'⟩
      · obtain ⟨w2,z2⟩:=I.cell y c' e;exact ⟨w2,z2.sameBut hs hcc⟩
    · obtain ⟨e,n,ne,nf,d⟩:=I.pin p hp;refine ⟨(hs.2 p.1 ?_).trans e,n,ne,nf,d⟩;intro q;rw[q,hoc] at e;have q':oc=p.2:=Option.some.inj e;exact d w' (by rw[<-q'];exact hocd)
theorem oO {M:Model}{A:Around}{E:Value->Shared->Prop}{i:Nat}{x:Str}{v:V}{u:Value}{Q:Unit->Shared->Prop}(I:Inv X pins σ H s)(hN:X.N.Nodup)(hi:X.N[i]?=some x)(hx:Loc X.env.scope x)(r:RelV v u)
    (h:∀s',Inv X pins (σ.set i (some v)) H s'->Q () s') (hf:autoParam (X.fn x=true\/X.env.scope.names.lookup x=some .local) aZd._auto_1):wpAny M A (storeName X.env x u) Q E s:=
  qk I hN hi hx r (λs' I' _=>h s' I') hf
theorem Inv.Dh {s':Shared}{ch:List Addr}(I:Inv X pins σ H s)(ho:s'.os=s.os)(u:Un (xB X.stack) ch H H' s.heap s'.heap)(bK:lR X.prog X.w H' s'.heap)(hg:AllBare s'.gens)
    (hch:∀b∈ch,(b∈X.ex\/X.s₀.heap.objs.size<=b)/\b≠X.env.locals/\(∀x c,X.env.cells.lookup x=some c->c≠b)/\∀p∈X.pn++pins,p.1≠b):Inv X pins σ H' s':=by
  obtain ⟨h',g',d',t',o'⟩:=s';have e:o'=s.os:=ho;subst e;exact I.call (g':=g') (t':=t') (d':=d') u bK hg hch
end
noncomputable abbrev XK:=Value->Option Addr->Hp->Prop
noncomputable abbrev St:=List (Option V)
noncomputable abbrev VK:=V->Hp->Prop
noncomputable abbrev TE:=St->Hp->VK->Prop
noncomputable abbrev TT:=St->Hp->(Bool->Hp->Prop)->Prop
noncomputable abbrev TA:=St->Hp->(List V->Hp->Prop)->Prop
structure Ends where
  nx:St->Hp->Prop
  rt:VK
  bk:St->Hp->Prop:=λ_ _=>False
  ct:St->Hp->Prop:=λ_ _=>False
noncomputable abbrev TS:=Ends->St->Hp->Prop
noncomputable def EP (X:Cx)(pins:List (Addr×Obj))(σ:St)(Q:VK)(u:Value)(s':Shared):Prop:=∃v H',Inv X pins σ H' s'/\RelV v u/\Q v H'
noncomputable def TP (X:Cx)(pins:List (Addr×Obj))(σ:St)(Q:Bool->Hp->Prop)(b:Bool)(s':Shared):Prop:=∃H',Inv X pins σ H' s'/\Q b H'
noncomputable def AP (X:Cx)(pins:List (Addr×Obj))(σ:St)(Q:List V->Hp->Prop)(us:List Value)(s':Shared):Prop:=∃vs H',Inv X pins σ H' s'/\Vals vs us/\Q vs H'
noncomputable def SP (X:Cx)(pins:List (Addr×Obj))(D:Ends)(f:Flow)(s':Shared):Prop:=
  match f with
  | .next=>∃σ' H',Inv X pins σ' H' s'/\D.nx σ' H'
  | .brk=>∃σ' H',Inv X pins σ' H' s'/\D.bk σ' H'
  | .cont=>∃σ' H',Inv X pins σ' H' s'/\D.ct σ' H'
  | .ret u=>∃v σ' H',Inv X pins σ' H' s'/\RelV v u/\D.rt v H'
noncomputable def PE (X:Cx)(e:Expr)(t:TE):Prop:=
  ∀(pins:List (Addr×Obj)) (s:Shared) (σ:St) (H:Hp) (Q:VK),Inv X pins σ H s->t σ H Q->wpAny (model X.prog X.w) X.A (eval e X.env) (EP X pins σ Q) X.xe s
noncomputable def PT (X:Cx)(e:Expr)(t:TT):Prop:=
  ∀(pins:List (Addr×Obj)) (s:Shared) (σ:St) (H:Hp) (Q:Bool->Hp->Prop),Inv X pins σ H s->t σ H Q->wpAny (model X.prog X.w) X.A (isTrue e X.env (eval e X.env)) (TP X pins σ Q) X.xe s
noncomputable def PW (X:Cx)(e:Expr)(t:TT):Prop:=
  ∀(whole:Sem Value) (pins:List (Addr×Obj)) (s:Shared) (σ:St) (H:Hp) (Q:Bool->Hp->Prop),Inv X pins σ H s->t σ H Q->wpAny (model X.prog X.w) X.A (isTrue e X.env whole) (TP X pins σ Q) X.xe s
theorem PW.pt {X:Cx}{e:Expr}{t:TT}(h:PW X e t):PT X e t:=h _
noncomputable def PA (X:Cx)(es:List Expr)(t:TA):Prop:=
  ∀(pos:Pos) (pins:List (Addr×Obj)) (s:Shared) (σ:St) (H:Hp) (Q:List V->Hp->Prop),Inv X pins σ H s->t σ H Q->wpAny (model X.prog X.w) X.A (spliced (backTo pos (starEach es X.env))) (AP X pins σ Q) X.xe s
noncomputable def PS (X:Cx)(st:Stmt)(t:TS):Prop:=
  ∀(pins:List (Addr×Obj)) (s:Shared) (σ:St) (H:Hp) (D:Ends),Inv X pins σ H s->t D σ H->wpAny (model X.prog X.w) X.A (exec st X.env) (SP X pins D) X.xe s
noncomputable def qv (X:Cx)(st:List Stmt)(t:TS):Prop:=
  ∀(pins:List (Addr×Obj)) (s:Shared) (σ:St) (H:Hp) (D:Ends),Inv X pins σ H s->t D σ H->wpAny (model X.prog X.w) X.A (execs st X.env) (SP X pins D) X.xe s
theorem de {α:Type}{t:Sem α}{Q Q':α->Shared->Prop}{M:Model}{A:Around}{E:Value->Shared->Prop}{s:Shared}(h:wpAny M A t Q E s)(hQ:∀a s,Q a s->Q' a s):wpAny M A t Q' E s:=wpAny_mono h hQ λ_ _ x=>x
end L2
namespace L2
open PySem PySem.Spec PyProof.Rows
section
variable {X:Cx}
theorem bin {a b:Expr}{ta tb:TE}(ha:PE X a ta)(hb:PE X b tb){pins:List (Addr×Obj)}{s:Shared}{σ:St}{H:Hp}{R:V->V->Hp->Prop}(I:Inv X pins σ H s)(h:ta σ H λx H1=>tb σ H1 λy H2=>R x y H2)
    {α:Type} {Q:α->Shared->Prop} {f:Value->Value->Sem α}
    (hf:∀v u s2 x y H2,Inv X pins σ H2 s2->RelV x v->RelV y u->R x y H2->wpAny (model X.prog X.w) X.A (f v u) Q X.xe s2) :
    wpAny (model X.prog X.w) X.A (eval a X.env) (λv s₁=>wpAny (model X.prog X.w) X.A (eval b X.env) (λu s₂=>wpAny (model X.prog X.w) X.A (f v u) Q X.xe s₂) X.xe s₁) X.xe s:=by
  refine de (ha pins s σ H _ I h) ?_;rintro v s1 ⟨x,H1,I1,r1,q1⟩;refine de (hb pins s1 σ H1 _ I1 q1) ?_;rintro u s2 ⟨y,H2,I2,r2,q2⟩;exact hf v u s2 x y H2 I2 r1 r2 q2
noncomputable def AS (i:Nat):TE:=λσ H Q=>∃v,σ[i]?=some (some v)/\Q v H
noncomputable def tC (v:V):TE:=λ_ H Q=>Q v H
theorem gT {i:Nat}{x:Str}{pos:Pos}(hN:X.N[i]?=some x)(hv:ua X.env.scope x)(hd:autoParam ((x == ("__debug__" : Str))=false) aZb._auto_1)(hcd:autoParam ((x == ("__classdict__" : Str))=false) aZb._auto_1):PE X (.Name x pos) (AS i):=by
  intro pins s σ H Q I h;obtain ⟨v,e,h⟩:=h;obtain ⟨m,hn,hl⟩:=I.loc;obtain ⟨u,r,l⟩:=hl i x v hN e hv;have fin:EP X pins σ Q u s:=⟨v,H,I,r,h⟩
  rcases l with ⟨hk,hm⟩ | ⟨hk,c,hc,hcell⟩
  · exact wpAny_Name (wpAny_loadName_local I.ok.kind hk hn hm fin) hd
  · rcases hk with hk | hk
    · exact wpAny_Name (wpAny_loadName_cell I.ok.kind hk hc hcell fin) hd
    · exact wpAny_Name (wpAny_loadName_free I.ok.kind hk hc hcell fin hcd) hd
theorem jI {i j pos}:PE X (.Constant (.int i) j pos) (tC (.int i)):=λ_ _ _ H _ I h=>wpAny_Constant_int ⟨.int i,H,I.tok _,⟨_,rfl⟩,h⟩
theorem DY {b j pos}:PE X (.Constant (.bool b) j pos) (tC (.bl b)):=λ_ _ _ H _ I h=>Constant_bool ⟨.bl b,H,I,rfl,h⟩
theorem Cj {j pos}:PE X (.Constant .none j pos) (tC .non):=λ_ _ _ H _ I h=>Constant_none ⟨.non,H,I,rfl,h⟩
theorem Cm {x j pos}:PE X (.Constant (.str x) j pos) (tC (.str x)):=λ_ _ _ H _ I h=>Calls.Constant_str ⟨.str x,H,I.tok _,⟨_,rfl⟩,h⟩
noncomputable def Gl (X:Cx)(x:Str):Prop:=X.env.kindOf x=some .globalImplicit
theorem vK {E:Value->Shared->Prop}{pins:List (Addr×Obj)}{s:Shared}{σ:St}{H:Hp}{x:Str}{u:Value}{pos:Pos}{Q:Value->Shared->Prop}(I:Inv X pins σ H s)(hg:Gl X x)(hm:X.mg x=some u)(h:Q u s)
    (hd:autoParam ((x == ("__debug__" : Str))=false) aZb._auto_1):wpAny (model X.prog X.w) X.A (eval (.Name x pos) X.env) Q E s:=
  Calls.Name_function_global I.ok.kind hg (Calls.loadGlobal_global (by rw[I.ok.glob];exact I.mod.glob.keeps I.bk) hm h) hd
theorem fh {E:Value->Shared->Prop}{pins:List (Addr×Obj)}{s:Shared}{σ:St}{H:Hp}{x:Str}{u:Value}{pos:Pos}{Q:Value->Shared->Prop}(I:Inv X pins σ H s)(hg:Gl X x)(hm:X.mg x=none)(hv:bootBuiltins x=some u)(h:Q u s)
    (hn:autoParam (x≠"__name__") aZb._auto_1) (hd:autoParam ((x == ("__debug__" : Str))=false) aZb._auto_1):wpAny (model X.prog X.w) X.A (eval (.Name x pos) X.env) Q E s:=by
  obtain ⟨mb,h1,h2⟩:=I.mod.blt;exact Calls.Name_function_global I.ok.kind hg (Calls.loadGlobal_builtin (by rw[I.ok.glob];exact I.mod.glob.keeps I.bk) hm (by rw[I.ok.blt];exact h1.keeps I.bk) ((h2 x hn).trans hv) h) hd
theorem Av {x:Str}{v:V}{u:Value}{pos:Pos}(hg:Gl X x)(hm:X.mg x=some u)(r:RelV v u)(hd:autoParam ((x == ("__debug__" : Str))=false) aZb._auto_1):PE X (.Name x pos) (tC v):=
  λ_ _ _ H _ I h=>vK I hg hm ⟨v,H,I,r,h⟩ hd
theorem lI {x:Str}{v:V}{u:Value}{pos:Pos}(hg:Gl X x)(hm:X.mg x=none)(hv:bootBuiltins x=some u)(r:RelV v u)(hn:autoParam (x≠"__name__") aZb._auto_1)(hd:autoParam ((x == ("__debug__" : Str))=false) aZb._auto_1):PE X (.Name x pos) (tC v):=
  λ_ _ _ H _ I h=>fh I hg hm hv ⟨v,H,I,r,h⟩ hn hd
variable {a b:Expr} {ta tb:TE} {pos:Pos}
noncomputable def PC (X:Cx)(op:CmpOp)(a b:Expr)(t:TE):Prop:=
  ∀(pins:List (Addr×Obj)) (s:Shared) (σ:St) (H:Hp) (Q:VK),Inv X pins σ H s->t σ H Q ->
    wpAny (model X.prog X.w) X.A (eval a X.env) (λv s₁=>wpAny (model X.prog X.w) X.A (eval b X.env) (λu s₂=>wpAny (model X.prog X.w) X.A (compareOp op v u) (EP X pins σ Q) X.xe s₂) X.xe s₁) X.xe s
theorem yN (b:Expr){op:CmpOp}(h:op≠.In)(h2:op≠.NotIn):behindInMarks op b=false:=by
  have e1:(op == CmpOp.In)=false:=by cases op<;>first | rfl | exact absurd rfl h
  have e2:(op == CmpOp.NotIn)=false:=by cases op<;>first | rfl | exact absurd rfl h2
  cases b<;>simp[behindInMarks,e1,e2]
noncomputable def tB (t:TE):TT:=λσ H Q=>t σ H λx H1=>∃c,x=.bl c/\Q c H1
theorem Fl {op:CmpOp}{t:TE}(h:PC X op a b t)(h1:behindInMarks op b=false:=by first | exact yN _ (by decide) (by decide) | rfl):PT X (.Compare a [op] [b] pos) (tB t):=by
  intro pins s σ H Q I hw;refine wpAny_isTrue_Compare1 (de (h pins s σ H _ I hw) λv s1 h1=>de h1 λu s2 h2=>de h2 ?_) h1;rintro c s3 ⟨x,H1,I1,r1,q1⟩;obtain ⟨d,rfl,q⟩:=q1;cases r1;exact wpAny_truthy_bool ⟨H1,I1,q⟩
theorem Cy {e:Expr}{t:TE}(h:PE X e t)(he:autoParam (∀whole,isTrue e X.env whole=(do let v <-whole;standAt e.pos;holding [v] (truthy v))) aZc._auto_1):PT X e (tB t):=by
  intro pins s σ H Q I hw;refine isTrue_plain (de (h pins s σ H _ I hw) ?_) (he _);rintro v s1 ⟨x,H1,I1,r1,q1⟩;obtain ⟨d,rfl,q⟩:=q1;cases r1;exact wpAny_truthy_bool ⟨H1,I1,q⟩
variable {tA tB':TT} {rest:List Expr}
noncomputable def Ei (t u:TT):TT:=λσ H Q=>t σ H λc H1=>if c=true then u σ H1 Q else Q false H1
noncomputable def FP (t u:TT):TT:=λσ H Q=>t σ H λc H1=>if c=true then Q true H1 else u σ H1 Q
noncomputable def FE (t:TT):TT:=λσ H Q=>t σ H λc H1=>Q (!c) H1
theorem AG (ha:PT X a tA):PW X (.BoolOp .And [a] pos) tA:=by
  intro wh pins s σ H Q I h;refine isTrue_and (de (ha pins s σ H Q I h) λc s1 e=>?_);cases c with
  | true=>exact isTrue_and_nil e
  | false=>exact e
theorem CA (ha:PT X a tA):PW X (.BoolOp .Or [a] pos) tA:=by
  intro wh pins s σ H Q I h;refine isTrue_or (de (ha pins s σ H Q I h) λc s1 e=>?_);cases c with
  | false=>exact isTrue_or_nil e
  | true=>exact e
theorem Cz (ha:PT X a tA)(hb:PW X (.BoolOp .And (b::rest) pos) tB'):PW X (.BoolOp .And (a::b::rest) pos) (Ei tA tB'):=by
  intro wh pins s σ H Q I h;refine isTrue_and (de (ha pins s σ H _ I h) ?_);rintro c s1 ⟨H1,I1,q1⟩;cases c with
  | true=>exact hb wh pins s1 σ H1 Q I1 q1
  | false=>exact ⟨H1,I1,q1⟩
theorem D7 (ha:PT X a tA)(hb:PW X (.BoolOp .Or (b::rest) pos) tB'):PW X (.BoolOp .Or (a::b::rest) pos) (FP tA tB'):=by
  intro wh pins s σ H Q I h;refine isTrue_or (de (ha pins s σ H _ I h) ?_);rintro c s1 ⟨H1,I1,q1⟩;cases c with
  | true=>exact ⟨H1,I1,q1⟩
  | false=>exact hb wh pins s1 σ H1 Q I1 q1
theorem Cw (ha:PT X a tA):PT X (.UnaryOp .Not a pos) (FE tA):=by
  intro pins s σ H Q I h;exact isTrue_not (ha pins s σ H (λc H1=>Q (!c) H1) I h)
noncomputable def Ej (ta tb:TE):TE:=λσ H Q=>ta σ H λx H1=>∃c,x=.bl c/\if c=true then tb σ H1 Q else Q (.bl false) H1
theorem Ck {op}{t:TE}(h:PE X a t):PE X (.BoolOp op [a] pos) t:=λpins s σ H Q I hw=>BoolOp_one (h pins s σ H Q I hw)
theorem Ci (ha:PE X a ta)(hb:PE X (.BoolOp .And (b::rest) pos) tb):PE X (.BoolOp .And (a::b::rest) pos) (Ej ta tb):=by
  intro pins s σ H Q I h;refine BoolOp_and (de (ha pins s σ H _ I h) ?_);rintro v s1 ⟨x,H1,I1,r1,q1⟩;obtain ⟨c,rfl,q1⟩:=q1;cases r1;refine wpAny_truthy_bool ?_;cases c with
  | true=>exact hb pins s1 σ H1 Q I1 q1
  | false=>exact ⟨.bl false,H1,I1,rfl,q1⟩
end
end L2
namespace L2
open PySem PySem.Spec PyProof.Rows
noncomputable def d6 (K:Frag)(H:Hp)(a:Addr)(xs:List V):Prop:=
  Rd H a (.lst xs) \/
    ∃(o:Obj) (its:Array Value) (n:Nat),K.lookup a=some o/\o.cls=.type "list"/\o.dict=none/\o.data=.seq its n/\its.size<=sizeLine/\Vals xs its.toList
noncomputable def kX (K:Frag)(H:Hp)(a:Addr)(xs:List V):Prop:=
  Rd H a (.tup xs) \/
    ∃(o:Obj) (its:Array Value) (n:Nat),K.lookup a=some o/\o.cls=.type "tuple"/\o.data=.seq its n/\its.size<=sizeLine/\Vals xs its.toList
noncomputable def EW:Value->Option V
  | .none=>some .non
  | .bool b=>some (.bl b)
  | .int i _=>some (.int i)
  | .str x _=>some (.str x)
  | .bytes b _=>some (.byt b)
  | .float b _=>some (.flt b)
  | .ref a=>some (.ref a)
  | .type n=>some (.ty n)
  | _=>none
theorem RelV.abs {x:V}{u:Value}(r:RelV x u):EW u=some x:=by
  cases x with
  | non=>cases r;rfl
  | bl _=>cases r;rfl
  | int _=>obtain ⟨t,rfl⟩:=r;rfl
  | str _=>obtain ⟨t,rfl⟩:=r;rfl
  | byt _=>obtain ⟨t,rfl⟩:=r;rfl
  | flt _=>obtain ⟨t,rfl⟩:=r;rfl
  | ref _=>cases r;rfl
  | ty _=>cases r;rfl
theorem RelV.inj {x y:V}{u:Value}(r:RelV x u)(q:RelV y u):x=y:=Option.some.inj (r.abs.symm.trans q.abs)
theorem Vals.inj:∀{xs ys:List V} {us:List Value},Vals xs us->Vals ys us->xs=ys
  | _,_,_,.nil,.nil=>rfl
  | _,_,_,.cons r t,.cons r' t'=>by rw[r.inj r',Vals.inj t t']
section
variable {X:Cx} {pins:List (Addr×Obj)} {σ:St} {H:Hp} {s:Shared} {a:Addr} {xs ys:List V}
theorem d6.of {K:Frag}(h:H a=some (.lst xs)):d6 K H a xs:=.inl (.inl h)
theorem kX.of {K:Frag}(h:H a=some (.tup xs)):kX K H a xs:=.inl (.inl h)
theorem Inv.list (I:Inv X pins σ H s)(h:d6 X.K H a xs):∃its:List Value,Vals xs its/\PlainL s.heap a its.toArray/\xs.length<=sizeLine:=by
  rcases h with h | ⟨o,its,n,hk,hc,hd,hs,hz,r⟩
  · obtain ⟨z,its,n,r,e⟩:=h.ok I.bK;exact ⟨its,r,⟨_,n,e,rfl,rfl,rfl⟩,z⟩
  · refine ⟨its.toList, r, ⟨o, n, I.oZ a o hk, hc, hd, by simpa using hs⟩, ?_⟩;have e:=r.length;simp only[length_toList] at e;lia
theorem Inv.tuple (I:Inv X pins σ H s)(h:kX X.K H a xs):∃its:List Value,Vals xs its/\IsTup s.heap a its.toArray/\xs.length<=sizeLine:=by
  rcases h with h | ⟨o,its,n,hk,hc,hs,hz,r⟩
  · obtain ⟨z,its,r,p⟩:=h.ok I.bK;exact ⟨its,r,p,z⟩
  · refine ⟨its.toList, r, ⟨o, I.oZ a o hk, hc, n, by simpa using hs⟩, ?_⟩;have e:=r.length;simp only[length_toList] at e;lia
theorem Inv.yJ (I:Inv X pins σ H s)(h:d6 X.K H a xs)(h':d6 X.K H a ys):xs=ys:=by
  obtain ⟨its,r,⟨o,n,e,_,_,d⟩,_⟩:=I.list h;obtain ⟨its',r',⟨o',n',e',_,_,d'⟩,_⟩:=I.list h';rw[e] at e';cases e';rw[d] at d';injection d' with d1 _
  have:its=its':=by simpa using congrArg Array.toList d1
  subst this;exact r.inj r'
theorem Inv.xx (I:Inv X pins σ H s)(h:kX X.K H a xs)(h':kX X.K H a ys):xs=ys:=by
  obtain ⟨its,r,⟨o,e,_,n,d⟩,_⟩:=I.tuple h;obtain ⟨its',r',⟨o',e',_,n',d'⟩,_⟩:=I.tuple h';rw[e] at e';cases e';rw[d] at d';injection d' with d1 _
  have:its=its':=by simpa using congrArg Array.toList d1
  subst this;exact r.inj r'
end
noncomputable abbrev Cx.pM (X:Cx)(E:Value->Shared->Prop):Cx:={ X with xe:=E }
noncomputable abbrev Cx.Be (X:Cx):Cx:=X.pM λ_ _=>False
theorem Cx.Ok.pM {X:Cx}(ok:X.Ok)(E:Value->Shared->Prop):(X.pM E).Ok:=
  ⟨ok.mod,ok.kind,ok.glob,ok.blt,ok.above,ok.inj,ok.has,ok.Dg,ok.hd,ok.frames,ok.EI,ok.ED,ok.bs,ok.A1,ok.yP,ok.ym,ok.nZ,ok.CU⟩
theorem Cx.Ok.jQ {X:Cx}{E:Value->Shared->Prop}(ok:(X.pM E).Ok):X.Ok:=
  ⟨ok.mod,ok.kind,ok.glob,ok.blt,ok.above,ok.inj,ok.has,ok.Dg,ok.hd,ok.frames,ok.EI,ok.ED,ok.bs,ok.A1,ok.yP,ok.ym,ok.nZ,ok.CU⟩
section
variable {X:Cx} {pins:List (Addr×Obj)} {σ:St} {H:Hp} {s:Shared} {E:Value->Shared->Prop}
theorem Inv.pM (I:Inv X pins σ H s)(E:Value->Shared->Prop):Inv (X.pM E) pins σ H s:=⟨I.ok.pM E,I.os,I.bare,I.base,I.loc,I.cell,I.free,I.km,I.pin,I.bK,I.len⟩
theorem Inv.jQ (I:Inv (X.pM E) pins σ H s):Inv X pins σ H s:=⟨I.ok.jQ,I.os,I.bare,I.base,I.loc,I.cell,I.free,I.km,I.pin,I.bK,I.len⟩
theorem SP.jQ {D:Ends}{f:Flow}{s':Shared}(h:SP (X.pM E) pins D f s'):SP X pins D f s':=by
  cases f with
  | next=>obtain ⟨σ',H',I,q⟩:=h;exact ⟨σ',H',I.jQ,q⟩
  | brk=>obtain ⟨σ',H',I,q⟩:=h;exact ⟨σ',H',I.jQ,q⟩
  | cont=>obtain ⟨σ',H',I,q⟩:=h;exact ⟨σ',H',I.jQ,q⟩
  | ret u=>obtain ⟨v,σ',H',I,r,q⟩:=h;exact ⟨v,σ',H',I.jQ,r,q⟩
theorem qv.Be {st:List Stmt}{t:TS}(h:qv X.Be st t):qv X st t:=λpins s σ H D I hw =>
  wpAny_mono (h pins s σ H D (I.pM _) hw) (λ_ _ q=>q.jQ) λ_ _ z=>False.elim z
end
section
variable {X:Cx} {st:Stmt} {rest:List Stmt} {t u:TS} {e:Expr} {te:TE} {pos:Pos}
noncomputable def En:TS:=λD σ H=>D.nx σ H
noncomputable def FG (t u:TS):TS:=λD σ H=>t { D with nx:=u D } σ H
theorem AE:qv X [] En:=λ_ _ σ H _ I h=>wpAny_execs_nil ⟨σ,H,I,h⟩
theorem y3 (h1:PS X st t)(h2:qv X rest u):qv X (st::rest) (FG t u):=by
  intro pins s σ H D I h;refine wpAny_execs_cons (de (h1 pins s σ H { D with nx:=u D } I h) λf s1 q=>?_);cases f with
  | next =>
    obtain ⟨σ',H',I',q⟩:=q;exact h2 pins s1 σ' H' D I' q
  | ret v=>exact q
  | brk=>exact q
  | cont=>exact q
theorem vU (h1:PS X st t):qv X [st] t:=by
  intro pins s σ H D I h;refine wpAny_execs_cons (de (h1 pins s σ H D I h) λf s1 q=>?_);cases f with
  | next=>exact wpAny_execs_nil q
  | ret v=>exact q
  | brk=>exact q
  | cont=>exact q
theorem Inv.quiet {pins:List (Addr×Obj)}{σ:St}{H:Hp}{s:Shared}(I:Inv X pins σ H s):interactive X.env=false:=by simp[interactive,I.ok.kind]
noncomputable def El (te:TE):TS:=λD σ H=>te σ H λ_ H1=>D.nx σ H1
theorem rg (he:PE X e te)(hs:autoParam (swapsWith e none pos.line X.env=pure false) aZa._auto_1):PS X (.Expr e pos) (El te):=by
  intro pins s σ H D I h;exact wpAny_Expr_any (de (he pins s σ H _ I h) (by rintro v s1 ⟨x,H1,I1,r1,q1⟩;exact ⟨σ,H1,I1,q1⟩)) I.quiet hs
noncomputable def FF (te:TE):TS:=λD σ H=>te σ H D.rt
theorem oD (he:PE X e te):PS X (.Return (some e) pos) (FF te):=by
  intro pins s σ H D I h;exact wpAny_Return_some (de (he pins s σ H _ I h) (by rintro v s1 ⟨x,H1,I1,r1,q1⟩;exact ⟨x,σ,H1,I1,r1,q1⟩))
noncomputable def Fz (c:TT)(t u:TS):TS:=λD σ H=>c σ H λb H1=>if b=true then t D σ H1 else u D σ H1
theorem D5 {c:Expr}{a b:List Stmt}{tc:TT}(hc:PT X c tc)(ha:qv X a t)(hb:qv X b u):PS X (.If c a b pos) (Fz tc t u):=by
  intro pins s σ H D I h;refine wpAny_If (de (hc pins s σ H _ I h) ?_);rintro d s1 ⟨H1,I1,q1⟩;cases d with
  | true=>exact ha pins s1 σ H1 D I1 q1
  | false=>exact hb pins s1 σ H1 D I1 q1
end
noncomputable abbrev TG:=V->St->Hp->(St->Hp->Prop)->Prop
noncomputable abbrev A0:=List V->St->Hp->(St->Hp->Prop)->Prop
noncomputable def PG (X:Cx)(target:Expr)(t:TG):Prop:=
  ∀(pins:List (Addr×Obj)) (s:Shared) (σ:St) (H:Hp) (v:V) (u:Value) (Q:St->Hp->Prop),Inv X pins σ H s->RelV v u->t v σ H Q ->
    wpAny (model X.prog X.w) X.A (assign target X.env u) (λ_ s'=>∃σ' H',Inv X pins σ' H' s'/\Q σ' H') X.xe s
noncomputable def EA (X:Cx)(ts:List Expr)(t:A0):Prop:=
  ∀(pins:List (Addr×Obj)) (s:Shared) (σ:St) (H:Hp) (vs:List V) (us:List Value) (Q:St->Hp->Prop),Inv X pins σ H s->Vals vs us->t vs σ H Q ->
    wpAny (model X.prog X.w) X.A (assignInOrder ((assignEach ts X.env).map (·.2)) us) (λ_ s'=>∃σ' H',Inv X pins σ' H' s'/\Q σ' H') X.xe s
noncomputable abbrev Bv:=V->V->V->Hp->(Hp->Prop)->Prop
noncomputable def C8 (X:Cx)(t:Bv):Prop:=
  ∀(pins:List (Addr×Obj)) (s:Shared) (σ:St) (H:Hp) (o i v:V) (ov iv u:Value) (Q:Hp->Prop),Inv X pins σ H s->RelV o ov->RelV i iv->RelV v u->t o i v H Q ->
    wpAny (model X.prog X.w) X.A (setItem ov iv u) (λ_ s'=>∃H',Inv X pins σ H' s'/\Q H') X.xe s
noncomputable abbrev CT:=V->V->Hp->VK->Prop
noncomputable def Bp (X:Cx)(op:Operator)(t:CT):Prop:=
  ∀(pins:List (Addr×Obj)) (s:Shared) (σ:St) (H:Hp) (x y:V) (v u:Value) (Q:VK),Inv X pins σ H s->RelV x v->RelV y u->t x y H Q ->
    wpAny (model X.prog X.w) X.A (inplaceOp op v u) (EP X pins σ Q) X.xe s
section
variable {X:Cx} {pos:Pos}
noncomputable def vB (i:Nat):TG:=λv σ H Q=>Q (σ.set i (some v)) H
theorem aq {i:Nat}{x:Str}(hN:X.N.Nodup)(hi:X.N[i]?=some x)(hx:Loc X.env.scope x)(hf:autoParam (X.fn x=true\/X.env.scope.names.lookup x=some .local) aZd._auto_1):PG X (.Name x pos) (vB i):=by
  intro pins s σ H v u Q I r h;exact wpAny_assign_Name (oO I hN hi hx r (λs' I'=>⟨_,H,I',h⟩) hf)
noncomputable def Dt:A0:=λvs σ H Q=>vs = []/\Q σ H
noncomputable def A8 (t:TG)(u:A0):A0:=λvs σ H Q=>∃v r,vs=v::r/\t v σ H λσ' H'=>u r σ' H' Q
theorem cQ:EA X [] Dt:=by
  intro pins s σ H vs us Q I r h;obtain ⟨e,h⟩:=h;subst e;cases r;exact assignInOrder_nil ⟨σ,H,I,h⟩
theorem au {e:Expr}{es:List Expr}{t:TG}{u:A0}(h1:PG X e t)(h2:EA X es u)
    (hs:autoParam ((assignEach (e::es) X.env).map (·.2)=assign e X.env::(assignEach es X.env).map (·.2)) aZa._auto_1):EA X (e::es) (A8 t u):=by
  intro pins s σ H vs us Q I r h;obtain ⟨v,vr,e1,h⟩:=h;subst e1;cases r with
  | cons r rr =>
    rw[hs];refine assignInOrder_cons (de (h1 pins s σ H _ _ _ I r h) ?_);rintro _ s1 ⟨σ1,H1,I1,q1⟩;exact h2 pins s1 σ1 H1 _ _ Q I1 rr q1
noncomputable def Ek (te:TE)(g:TG):TS:=λD σ H=>te σ H λx H1=>g x σ H1 D.nx
theorem Cs {tg e:Expr}{te:TE}{g:TG}(he:PE X e te)(hg:PG X tg g)(hs:autoParam (swapsWithSole [tg] e pos.line X.env=pure false) aZa._auto_1)(hw:autoParam (swappedStores [tg] e X.env=pure none) aZa._auto_1)
    (h1:autoParam ((assignEach [tg] X.env).map (·.2) = [assign tg X.env]) aZa._auto_1):PS X (.Assign [tg] e pos) (Ek te g):=by
  intro pins s σ H D I h;refine wpAny_Assign_stores (de (he pins s σ H _ I h) ?_) hs hw;rintro v s1 ⟨x,H1,I1,r1,q1⟩;rw[h1];exact de (hg pins s1 σ H1 x v _ I1 r1 q1) λ_ s2 q=>q
theorem rh {i:Nat}{x:Str}{e:Expr}{te:TE}{pos':Pos}(hN:X.N.Nodup)(hi:X.N[i]?=some x)(hx:Loc X.env.scope x)(he:PE X e te)(hs:autoParam (swapsWith e (some (.Name x pos')) pos.line X.env=pure false) aZa._auto_1)(hf:autoParam (X.fn x=true\/X.env.scope.names.lookup x=some .local) aZd._auto_1) :
    PS X (.Assign [.Name x pos'] e pos) (Ek te (vB i)):=by
  intro pins s σ H D I h;refine wpAny_Assign_Name (de (he pins s σ H _ I h) ?_) hs;rintro v s1 ⟨y,H1,I1,r1,q1⟩;exact oO I1 hN hi hx r1 (λs2 I2=>⟨_,H1,I2,q1⟩) hf
noncomputable def Fx (i:Nat)(te:TE)(ti:CT):TS:=λD σ H=>∃x,σ[i]?=some (some x)/\te σ H λy H1=>ti x y H1 λz H2=>D.nx (σ.set i (some z)) H2
theorem Cu {i:Nat}{x:Str}{e:Expr}{te:TE}{op:Operator}{ti:CT}{pos':Pos}(hN:X.N.Nodup)(hi:X.N[i]?=some x)(hx:Loc X.env.scope x)(he:PE X e te)(ho:Bp X op ti)(hf:autoParam (X.fn x=true\/X.env.scope.names.lookup x=some .local) aZd._auto_1) :
    PS X (.AugAssign (.Name x pos') op e pos) (Fx i te ti):=by
  intro pins s σ H D I h;obtain ⟨v,e1,h⟩:=h;obtain ⟨m,hn,hl⟩:=I.loc;have vis:ua X.env.scope x:=by rcases hx with k | k;exact .inl k;exact .inr (.inl k)
  obtain ⟨u,r,l⟩:=hl i x v hi e1 vis;refine wpAny_AugAssign_Name ?_;have go:wpAny (model X.prog X.w) X.A (eval e X.env) (λw s₂=>wpAny (model X.prog X.w) X.A (inplaceOp op u w) (λr s₃=>wpAny (model X.prog X.w) X.A (storeName X.env x r) (λ_=>SP X pins D .next) X.xe s₃) X.xe s₂) X.xe s:=by
    refine de (he pins s σ H _ I h) ?_;rintro w s1 ⟨y,H1,I1,r1,q1⟩;refine de (ho pins s1 σ H1 v y u w _ I1 r r1 q1) ?_;rintro z s2 ⟨zv,H2,I2,r2,q2⟩;exact oO I2 hN hi hx r2 (λs3 I3=>⟨_,H2,I3,q2⟩) hf
  rcases l with ⟨hk,hm⟩ | ⟨hk,c,hc,hcell⟩
  · exact wpAny_loadName_local I.ok.kind hk hn hm go
  · rcases hk with hk | hk
    · exact wpAny_loadName_cell I.ok.kind hk hc hcell go
    · rcases hx with k | k
      · have:X.env.scope.names.lookup x=some .free:=hk;rw[k] at this;cases this
      · have:X.env.scope.names.lookup x=some .free:=hk;rw[k] at this;cases this
noncomputable def Bj (to ti te:TE)(tget:V->V->Hp->VK->Prop)(tip:CT)(tset:Bv):TS:=λD σ H=>to σ H λo H1=>ti σ H1 λi H2=>tget o i H2 λx H3=>te σ H3 λy H4=>tip x y H4 λz H5=>tset o i z H5 λH6=>D.nx σ H6
noncomputable def C7 (X:Cx)(t:V->V->Hp->VK->Prop):Prop:=
  ∀(pins:List (Addr×Obj)) (s:Shared) (σ:St) (H:Hp) (o i:V) (ov iv:Value) (Q:VK),Inv X pins σ H s->RelV o ov->RelV i iv->t o i H Q ->
    wpAny (model X.prog X.w) X.A (getItem ov iv) (EP X pins σ Q) X.xe s
theorem je {o i e:Expr}{to ti te:TE}{tget:V->V->Hp->VK->Prop}{tip:CT}{tset:Bv}{op:Operator}{tpos:Pos}(ho:PE X o to)(hi:PE X i ti)(hg:C7 X tget)(he:PE X e te)(hp:Bp X op tip)(hs:C8 X tset)
    (ha:autoParam (∀ov iv new,augStore i ov iv new=(do holding [new,ov,iv] (setItem ov iv new);release [new,ov,iv] [];pure .next)) aZh._auto_1):PS X (.AugAssign (.Subscript o i tpos) op e pos) (Bj to ti te tget tip tset):=by
  intro pins s σ H D I h;refine wpAny_AugAssign_SubscriptAny (de (ho pins s σ H _ I h) ?_) ha;rintro ov s1 ⟨x1,H1,I1,r1,q1⟩;refine de (hi pins s1 σ H1 _ I1 q1) ?_;rintro iv s2 ⟨x2,H2,I2,r2,q2⟩;refine de (hg pins s2 σ H2 x1 x2 ov iv _ I2 r1 r2 q2) ?_;rintro old s3 ⟨x3,H3,I3,r3,q3⟩;refine de (he pins s3 σ H3 _ I3 q3) ?_;rintro v s4 ⟨x4,H4,I4,r4,q4⟩;refine de (hp pins s4 σ H4 x3 x4 old v _ I4 r3 r4 q4) ?_;rintro new s5 ⟨x5,H5,I5,r5,q5⟩;exact de (hs pins s5 σ H5 x1 x2 x5 ov iv new _ I5 r1 r2 r5 q5) (by rintro _ s6 ⟨H6,I6,q6⟩;exact ⟨σ,H6,I6,q6⟩)
noncomputable def CV (f:Int->Int->Int):CT:=λx y H Q=>∃i j,x=.int i/\y=.int j/\Q (.int (f i j)) H
theorem ja:Bp X .Add (CV λi j=>i+j):=by
  intro pins s σ H x y v u Q I r1 r2 h;obtain ⟨i,j,e1,e2,q⟩:=h;subst e1;subst e2;obtain ⟨t,rfl⟩:=r1;obtain ⟨t',rfl⟩:=r2;exact iadd_int ⟨.int _,H,I.tok _,⟨_,rfl⟩,q⟩
theorem mq:Bp X .Sub (CV λi j=>i - j):=by
  intro pins s σ H x y v u Q I r1 r2 h;obtain ⟨i,j,e1,e2,q⟩:=h;subst e1;subst e2;obtain ⟨t,rfl⟩:=r1;obtain ⟨t',rfl⟩:=r2;exact isub_int ⟨.int _,H,I.tok _,⟨_,rfl⟩,q⟩
end
section
variable {X:Cx} {pos:Pos}
end
structure It where
  go:Nat->Hp->Prop
  xD:Nat->Hp->V->Hp->Prop
  stop:Nat->Hp->Prop
noncomputable def kU (X:Cx)(pins:List (Addr×Obj))(H:Hp)(b:Addr):Prop:=
  H b=none/\b≠X.env.locals/\b∉X.fs/\(b∈X.ex\/X.s₀.heap.objs.size<=b)/\(∀x c,X.env.cells.lookup x=some c->c≠b)/\∀p∈X.pn++pins,p.1≠b
theorem Inv.um {X:Cx}{pins:List (Addr×Obj)}{σ:St}{H H':Hp}{s:Shared}{b:Addr}(I:Inv X pins σ H s)(hb:s.heap.objs.size<=b)(hn:H' b=none):kU X pins H' b:=by
  refine ⟨hn,Nat.ne_of_gt (Nat.lt_of_lt_of_le I.lt hb),I.Fg hb,.inr (Nat.le_trans I.sz hb),λx c e z=>?_,λp hp z=>?_⟩
  · obtain ⟨v,q⟩:=I.cell x c e;exact absurd (Nat.lt_of_lt_of_le q.lt (by rw[z];exact hb)) (Nat.lt_irrefl _)
  · exact absurd (Nat.lt_of_lt_of_le (Heap.lt_size (I.pin p hp).1) (by rw[z];exact hb)) (Nat.lt_irrefl _)
structure Turn (P:Program)(w:World)(K:Frag)(tg:Expr)(J:It)(fp:List Addr)(it:Addr)(tn:Nat->Heap->Prop):Prop where
  mem:it∈fp
  obj:∀i h,tn i h->∀b∈fp,∃o,h.get? b=some o/\∀v,o.data≠.cell v
  keep:∀i h h',tn i h->(∀b∈fp,∀o,h.get? b=some o->h'.get? b=some o)->tn i h'
  item:∀(X:Cx),X.prog=P->X.w=w->X.K=K->X.calm=true->∀(i:Nat) (pins:List (Addr×Obj)) (s:Shared) (σ:St) (H:Hp) (E:Value->Shared->Prop),Inv X pins σ H s->(∀b∈fp,kU X pins H b)->tn i s.heap->J.go i H ->
    wpAny (model P w) X.A (pyNext (.ref it)) (λr s1=>∃u,r=some u /\
      wpAny (model P w) X.A (letOwnedTupleGo tg (.ref it) u) (λ_ s2=>∃x H',Inv X pins σ H' s2/\RelV x u/\J.xD i H x H'/\tn (i+1) s2.heap/\∀b∈fp,H' b=none) E s1) E s
  done:∀(X:Cx),X.prog=P->X.w=w->X.K=K->X.calm=true->∀(i:Nat) (pins:List (Addr×Obj)) (s:Shared) (σ:St) (H:Hp) (E:Value->Shared->Prop),Inv X pins σ H s->(∀b∈fp,kU X pins H b)->tn i s.heap->J.stop i H ->
    wpAny (model P w) X.A (pyNext (.ref it)) (λr s1=>r=none/\Inv X pins σ H s1) E s
  self:∀(A:Around) (i:Nat) (s:Shared) (Q:Value->Shared->Prop) (E:Value->Shared->Prop),tn i s.heap->Q (.ref it) s->wpAny (model P w) A (pyIter (.ref it)) Q E s
noncomputable abbrev TI:=St->Hp->(It->Hp->Prop)->Prop
noncomputable def FK (X:Cx)(pins:List (Addr×Obj))(σ:St)(tg:Expr)(R:It->Hp->Prop)(itv:Value)(s2:Shared):Prop:=
  ∃(it:Addr) (fp:List Addr) (tn:Nat->Heap->Prop) (J:It) (H':Hp),itv=.ref it/\Inv X pins σ H' s2/\Turn X.prog X.w X.K tg J fp it tn/\tn 0 s2.heap/\(∀b∈fp,kU X pins H' b)/\R J H'
noncomputable def PI (X:Cx)(tg iter:Expr)(wi:TI):Prop:=
  ∀(pins:List (Addr×Obj)) (s:Shared) (σ:St) (H:Hp) (R:It->Hp->Prop),Inv X pins σ H s->wi σ H R ->
    wpAny (model X.prog X.w) X.A (eval iter X.env) (λv s1=>wpAny (model X.prog X.w) X.A (pyIter v) (FK X pins σ tg R) X.xe s1) X.xe s
theorem yv {M:Model}{A:Around}{E:Value->Shared->Prop}{s:Shared}{tg:Expr}{it:Addr}{u:Value}{o:Obj}{n:String}{vs:Array Value}{Q:Unit->Shared->Prop}(ho:s.heap.get? it=some o)(hc:o.cls=.type n)(hd:o.data=.fields vs)
    (hn:["enumerate","zip","dict_itemiterator","dict_reverseitemiterator","odict_iterator","itertools.zip_longest","itertools.pairwise"].contains n=false) (hQ:Q () s):wpAny M A (letOwnedTupleGo tg (.ref it) u) Q E s:=by
  unfold letOwnedTupleGo;cases tg<;>first
    | exact wpAny_pure hQ
    | (cases u<;>first
        | exact wpAny_pure hQ
        | (refine wpAny_bind (wpAny_load ho ?_)
           rw[hc,hd];show wpAny M A (if (["enumerate","zip","dict_itemiterator","dict_reverseitemiterator","odict_iterator","itertools.zip_longest","itertools.pairwise"].contains n && vs[0]? == some (rawInt _))=true then _ else _) Q E s;rw[if_neg (by intro h;rw[hn,Bool.false_and] at h;cases h)];exact wpAny_pure hQ))
noncomputable def EM (K:Frag)(a:Addr):It:=
  ⟨λi H=>∃xs x,d6 K H a xs/\xs[i]?=some x,λi H x H'=>H'=H/\∀xs,d6 K H a xs->xs[i]?=some x,λi H=>∃xs,d6 K H a xs/\xs.length<=i⟩
noncomputable def C4 (lo:Int)(n:Nat):It:=⟨λi _=>i<n,λi H x H'=>H'=H/\x=.int (lo+i),λi _=>n<=i⟩
theorem xA {P:Program}{w:World}{K:Frag}{tg:Expr}(a it:Addr):Turn P w K tg (EM K a) [it] it (λi h=>h.IsListIter it a i) where
  mem:=by simp
  obj:=λi h st b hb=>by
    have e:b=it:=by simpa using hb
    subst e;obtain ⟨o,e,c,d⟩:=st;exact ⟨o,e,λv z=>by rw[d] at z;cases z⟩
  keep:=λi h h' st k=>st.at λo e=>k it (by simp) o e
  item:=by
    intro X hP hw hK hc i pins s σ H E I hf st hg;subst hP hw hK;obtain ⟨xs,x,hq,hx⟩:=hg;obtain ⟨its,rv,p,hz⟩:=I.list hq;obtain ⟨u,hu,ru⟩:=rv.get hx;obtain ⟨f0,f1,f2,f3,f4,f5⟩:=hf it (by simp);refine wpAny_pyNext_list_item st p.isList (x:=u) (by simpa using hu) λh' st' sb=>?_;have I1:Inv X pins σ H { s with heap:=h' }:=I.turned (t':=s.toks) (λb o hb e=>(sb.2 b hb).trans e) f0 f1 f3 f4 f5;obtain ⟨o,e,c,d⟩:=id st';exact ⟨u,rfl,yv (s:={ s with heap:=h' }) e c d (by decide) ⟨x,H,I1,ru,⟨rfl,λys hy=>by rw[I.yJ hy hq];exact hx⟩,st',λb hb=>(hf b hb).1⟩⟩
  done:=by
    intro X hP hw hK hc i pins s σ H E I hf st hg;subst hP hw hK;obtain ⟨xs,hq,hx⟩:=hg;obtain ⟨its,rv,p,hz⟩:=I.list hq;obtain ⟨f0,f1,f2,f3,f4,f5⟩:=hf it (by simp);have hl:=rv.length;exact wpAny_pyNext_list_end (I.ok.hd hc) st p.isList (by simp;lia) λh' eb=>⟨rfl,I.turned (t':=s.toks) (λb o hb e=>eb b o hb e) f0 f1 f3 f4 f5⟩
  self:=λ_ _ _ _ _ st h=>wpAny_pyIter_listiter st h
theorem uO {P:Program}{w:World}{K:Frag}{tg:Expr}(it:Addr)(lo:Int)(n:Nat):Turn P w K tg (C4 lo n) [it] it (λi h=>IsRangeIter h it (lo+(i:Nat)*1) ((n:Int) - (i:Nat)) 1) where
  mem:=by simp
  obj:=λi h st b hb=>by
    have e:b=it:=by simpa using hb
    subst e;exact ⟨_,st,λv z=>by
      have z':Data.fields _=Data.cell v:=z;cases z'⟩
  keep:=λi h h' st k=>k it (by simp) _ st
  item:=by
    intro X hP hw hK hc i pins s σ H E I hf st hg;subst hP hw hK;obtain ⟨f0,f1,f2,f3,f4,f5⟩:=hf it (by simp);have W:=Walks.range (prog:=X.prog) (w:=X.w) (I.ok.hd hc) it lo 1 n;refine W.item i s _ _ hg st λv h' tk hv st' kk=>?_;obtain ⟨t,rfl⟩:=hv;have I1:Inv X pins σ H { s with heap:=h',toks:=tk }:=I.turned (λb o hb e=>kk b o (by simpa using hb) e) f0 f1 f3 f4 f5;refine ⟨_,rfl,yv (s:={ s with heap:=h',toks:=tk }) (n:="range_iterator") st' rfl rfl (by decide) ⟨.int (lo+i),H,I1,⟨t,?_⟩,⟨rfl,rfl⟩,st',λb hb=>(hf b hb).1⟩⟩;rw[Int.mul_one]
  done:=by
    intro X hP hw hK hc i pins s σ H E I hf st hg;subst hP hw hK;obtain ⟨f0,f1,f2,f3,f4,f5⟩:=hf it (by simp);exact wpAny_pyNext_range_end (I.ok.hd hc) st (by have:n<=i:=hg;lia) λh' eb=>⟨rfl,I.turned (t':=s.toks) (λb o hb e=>eb b o hb e) f0 f1 f3 f4 f5⟩
  self:=λ_ _ _ _ _ st h=>wpAny_pyIter_rangeiter st h
end L2
namespace L2
open PySem PySem.Spec PyProof.Rows
section
variable {X:Cx} {tg:Expr}
noncomputable def Dw (K:Frag)(tl:TE):TI:=λσ H R=>tl σ H λx H1=>∃a,x=.ref a/\(∃xs,d6 K H1 a xs)/\R (EM K a) H1
theorem vS {l:Expr}{tl:TE}(hl:PE X l tl):PI X tg l (Dw X.K tl):=by
  intro pins s σ H R I h;refine de (hl pins s σ H _ I h) ?_;rintro v s1 ⟨x,H1,I1,r1,q1⟩;obtain ⟨a,e,⟨xs,hq⟩,q⟩:=q1;subst e;cases r1;obtain ⟨its,rv,p,hz⟩:=I1.list hq;refine wpAny_pyIter_list p.isList ?_;refine ⟨s1.heap.objs.size,[s1.heap.objs.size],_,_,H1,rfl,I1.kept (t':=s1.toks) λb o e=>Heap.get?_push_of_some _ e,xA a _,⟨_,Heap.get?_push_size _ rfl,rfl,rfl⟩,λb hb=>?_,q⟩;have e:b=s1.heap.objs.size:=by simpa using hb
  subst e;exact I1.um (Nat.le_refl _) (I1.bK.fresh (Nat.le_refl _))
theorem tE {pins:List (Addr×Obj)}{σ:St}{H:Hp}{s:Shared}{R:It->Hp->Prop}{E:Value->Shared->Prop}{lo hi:Int}{t u v:Tok}{tk:Nat}(I:Inv X pins σ H s)(h1 : -(2 ^ 62)<=lo)(h2:lo<2 ^ 62)(h3 : -(2 ^ 62)<=hi)(h4:hi<2 ^ 62)
    (q:R (C4 lo (hi - lo).toNat) H):wpAny (model X.prog X.w) X.A (pyIter (.ref s.heap.objs.size)) (FK X pins σ tg R) E { s with heap:=s.heap.push { cls:=.type "range",data:=.fields #[.int lo t,.int hi u,.int 1 v] },toks:=tk }:=by
  refine wpAny_pyIter_range (IsRange.new ..) (small_one h1 h2 h3 h4) ?_;have I1:Inv X pins σ H { s with heap:=s.heap.push { cls:=.type "range",data:=.fields #[.int lo t,.int hi u,.int 1 v] },toks:=tk }:=I.kept λb o e=>Heap.get?_push_of_some _ e;refine ⟨(s.heap.push { cls:=.type "range",data:=.fields #[.int lo t,.int hi u,.int 1 v] }).objs.size,[(s.heap.push { cls:=.type "range",data:=.fields #[.int lo t,.int hi u,.int 1 v] }).objs.size],_,_,H,rfl,
    I1.kept (t':=tk) λb o e=>Heap.get?_push_of_some _ e,uO _ lo (hi - lo).toNat,?_,λb hb=>?_,q⟩
  · have e1 : lo + ((0 : Nat):Int) * 1 = lo := by simp
    have e2:(((hi - lo).toNat:Nat):Int) - ((0:Nat):Int)=Builtin.Range.rangeSize lo hi 1:=by rw[rangeSize_one];split<;>lia
    show IsRangeIter _ _ (lo+((0:Nat):Int)*1) ((((hi - lo).toNat:Nat):Int) - ((0:Nat):Int)) 1;rw[e1,e2];exact Heap.get?_push_size _ rfl
  · have e : b = (s.heap.push { cls := .type "range", data := .fields #[.int lo t, .int hi u, .int 1 v] }).objs.size := by simpa using hb
    subst e;exact I1.um (Nat.le_refl _) (I1.bK.fresh (Nat.le_refl _))
noncomputable def Dx (ta:TA):TI:=λσ H R=>ta σ H λvs H1=>∃j:Int,vs = [.int j]/\-(2 ^ 62)<=j/\j<2 ^ 62/\R (C4 0 j.toNat) H1
noncomputable def Dy (ta:TA):TI:=λσ H R=>ta σ H λvs H1=>∃i j:Int,vs = [.int i,.int j]/\(-(2 ^ 62)<=i/\i<2 ^ 62/\-(2 ^ 62)<=j/\j<2 ^ 62)/\R (C4 i (j - i).toNat) H1
theorem xg {a:Expr}{ta:TA}{p pos:Pos}(hg:Gl X "range")(hm:X.mg "range" = none)(ha:PA X [a] ta)(hs:autoParam (starEach [a] X.env = [(false,eval a X.env)]) aZa._auto_1):PI X tg (.Call (.Name "range" p) [a] [] pos) (Dx ta):=by
  intro pins s σ H R I h;refine Call_ (fh I hg hm boot_range (PyProof.Rows.callWith_type1 (de (ha pos pins s σ H _ I h) ?_) hs rfl));rintro us s1 ⟨vs,H1,I1,r1,q1⟩;obtain ⟨j,e,q1,q2,q⟩:=q1;subst e;cases r1 with
  | cons r rr =>
    cases rr;obtain ⟨t,rfl⟩:=r;exact call_range_1 (tE I1 (by lia) (by lia) q1 q2 (by simpa using q))
theorem xh {a b:Expr}{ta:TA}{p pos:Pos}(hg:Gl X "range")(hm:X.mg "range" = none)(ha:PA X [a,b] ta)(hs:autoParam (starEach [a,b] X.env = [(false,eval a X.env),(false,eval b X.env)]) aZa._auto_1)(hs2:autoParam (starEach [b] X.env = [(false,eval b X.env)]) aZa._auto_1) :
    PI X tg (.Call (.Name "range" p) [a,b] [] pos) (Dy ta):=by
  intro pins s σ H R I h;refine Call_ (fh I hg hm boot_range (PyProof.Rows.callWith_type1 (de (ha pos pins s σ H _ I h) ?_) (by rw[hs,hs2]) (by rw[hs2];rfl)));rintro us s1 ⟨vs,H1,I1,r1,q1⟩;obtain ⟨i,j,e,⟨q1,q2,q3,q4⟩,q⟩:=q1;subst e;cases r1 with
  | cons r rr =>
    cases rr with
    | cons r' rr =>
      cases rr;obtain ⟨t,rfl⟩:=r;obtain ⟨t',rfl⟩:=r';exact call_range_2 (tE I1 q1 q2 q3 q4 q)
noncomputable def Fy (wi:TI)(g:TG)(tb:TS):TS:=λD σ H=>wi σ H λJ H1=>∃W:Nat->Nat->St->Hp->Prop,(∃m,W 0 m σ H1)/\∀i m σ H,W i m σ H ->
  (J.stop i H/\D.nx σ H)\/(J.go i H/\∃N:St->Hp->Prop,(∀σ' H',N σ' H'->∃m',m'<m/\W (i+1) m' σ' H')/\∀x H',J.xD i H x H'->g x σ H' λσ2 H2=>tb { D with nx:=N,ct:=N,bk:=D.nx } σ2 H2)
noncomputable def oB (fp:List Addr)(h:Heap):List (Addr×Obj):=fp.filterMap λb=>(h.get? b).map λo=>(b,o)
theorem jb {fp:List Addr}{h:Heap}{b:Addr}{o:Obj}(hb:b∈fp)(e:h.get? b=some o):(b,o)∈oB fp h:=List.mem_filterMap.mpr ⟨b,hb,by rw[e];rfl⟩
theorem xb {fp:List Addr}{h:Heap}{p:Addr×Obj}(hp:p∈oB fp h):p.1∈fp/\h.get? p.1=some p.2:=by
  obtain ⟨b,hb,e⟩:=List.mem_filterMap.mp hp;cases q:h.get? b with
  | none=>rw[q] at e;cases e
  | some o =>
    rw[q] at e;have e':(b,o)=p:=Option.some.inj e;subst e';exact ⟨hb,q⟩
theorem Inv.pinned {pins:List (Addr×Obj)}{σ:St}{H:Hp}{s:Shared}{fp:List Addr}(I:Inv X pins σ H s)(hf:∀b∈fp,kU X pins H b)(ho:∀b∈fp,∃o,s.heap.get? b=some o/\∀v,o.data≠.cell v):Inv X (pins++oB fp s.heap) σ H s:=
  I.vT λp hp=>(mem_append.mp hp).elim (λz=>I.pin p (mem_append_right _ z)) λz=>by
    obtain ⟨hb,e⟩:=xb z;obtain ⟨f0,f1,f2,_⟩:=hf p.1 hb;obtain ⟨o,e',d⟩:=ho p.1 hb;rw[e] at e';cases e';exact ⟨e,f0,f1,f2,d⟩
theorem Inv.lO {pins pl:List (Addr×Obj)}{σ:St}{H:Hp}{s:Shared}(I:Inv X (pins++pl) σ H s):Inv X pins σ H s:=I.vT λp hp=>I.pin p (mem_append_right _ (mem_append_left _ hp))
theorem uJ {iter:Expr}{body:List Stmt}{wi:TI}{g:TG}{tb:TS}{pos:Pos}(hp:PassesOwn (model X.prog X.w) X.A X.env X.xe)(hc:X.calm=true)(hi:PI X tg iter wi)(hg:PG X tg g)(hb:qv X body tb)
    (hs:autoParam (∀x,foldedSetIterable iter X.env x=pure x) aZc._auto_1):PS X (.For tg iter body [] pos) (Fy wi g tb):=by
  intro pins s σ H D I h;refine wpAny_For (de (hi pins s σ H _ I h) λv s1 h1=>de h1 λitv s2 h2=>?_) hs;obtain ⟨it,fp,tn,J,H2,e,I2,T,st2,f2,W,⟨m0,w0⟩,turn⟩:=h2;subst e;have stat:∀{H':Hp},(∀b∈fp,H' b=none)->∀b∈fp,kU X pins H' b:=λhn b hb=>⟨hn b hb,(f2 b hb).2⟩
  refine codeAny_forLoop_any (λn s'=>∃i σ' H',Inv X pins σ' H' s'/\tn i s'.heap/\(∀b∈fp,H' b=none)/\W i n σ' H') ?_ m0 ⟨0,σ,H2,I2,st2,λb hb=>(f2 b hb).1,w0⟩;rintro n s3 ⟨i,σ3,H3,I3,st3,fr3,w3⟩;rcases turn i n σ3 H3 w3 with ⟨stop,qn⟩ | ⟨go,N,hN,step⟩
  · refine wpAny_passesOwn hp (de (T.done X rfl rfl rfl hc i pins s3 σ3 H3 X.xe I3 (stat fr3) st3 stop) ?_);rintro r s4 ⟨hr,I4⟩;subst hr;exact wpAny_execs_nil ⟨σ3,H3,I4,qn⟩
  · refine wpAny_passesOwn hp (de (T.item X rfl rfl rfl hc i pins s3 σ3 H3 X.xe I3 (stat fr3) st3 go) ?_);rintro r s4 ⟨u,hr,h4⟩;subst hr;refine wpAny_passesOwn hp (de h4 ?_);rintro _ s5 ⟨x,H5,I5,r5,y5,st5,fr5⟩;have I5':=I5.pinned (stat fr5) (T.obj _ _ st5);refine wpAny_passesOwn hp (de (hg _ s5 σ3 H5 x u _ I5' r5 (step x H5 y5)) ?_);rintro _ s6 ⟨σ6,H6,I6,q6⟩;refine wpAny_passesOwn hp (de (hb _ s6 σ6 H6 _ I6 q6) λf s7 q7=>?_);have again:∀{σ7:St} {H7:Hp},Inv X (pins++oB fp s5.heap) σ7 H7 s7->N σ7 H7->∃m,m<n/\∃i σ' H',Inv X pins σ' H' s7/\tn i s7.heap/\(∀b∈fp,H' b=none)/\W i m σ' H':=λ{σ7 H7} I7 n7=>by
      obtain ⟨m',hm,w7⟩:=hN σ7 H7 n7;refine ⟨m',hm,i+1,σ7,H7,I7.lO,T.keep _ _ _ st5 λb hb o e=>(I7.pin (b,o) (mem_append_right _ (mem_append_right _ (jb hb e)))).1,λb hb=>?_,w7⟩;obtain ⟨o,e,d⟩:=T.obj _ _ st5 b hb;exact (I7.pin (b,o) (mem_append_right _ (mem_append_right _ (jb hb e)))).2.1
    cases f with
    | next=>obtain ⟨σ7,H7,I7,n7⟩:=q7;exact again I7 n7
    | cont=>obtain ⟨σ7,H7,I7,n7⟩:=q7;exact again I7 n7
    | brk=>obtain ⟨σ7,H7,I7,q7⟩:=q7;exact ⟨σ7,H7,I7.lO,q7⟩
    | ret v=>obtain ⟨x7,σ7,H7,I7,r7,q7⟩:=q7;exact ⟨x7,σ7,H7,I7.lO,r7,q7⟩
end
end L2
namespace L2
open PySem PySem.Spec PyProof.Rows
noncomputable abbrev R2:=V->V->Hp->VK->Prop
noncomputable def jS (X:Cx)(f:Value->Value->Sem Value)(r:R2):Prop:=
  ∀(pins:List (Addr×Obj)) (s:Shared) (σ:St) (H:Hp) (x y:V) (v u:Value) (Q:VK),Inv X pins σ H s->RelV x v->RelV y u->r x y H Q ->
    wpAny (model X.prog X.w) X.A (f v u) (EP X pins σ Q) X.xe s
noncomputable def EV (X:Cx)(f:Value->Sem Value)(r:V->Hp->VK->Prop):Prop:=
  ∀(pins:List (Addr×Obj)) (s:Shared) (σ:St) (H:Hp) (x:V) (v:Value) (Q:VK),Inv X pins σ H s->RelV x v->r x H Q ->
    wpAny (model X.prog X.w) X.A (f v) (EP X pins σ Q) X.xe s
noncomputable def hJ (X:Cx)(f:Value)(r:List V->Hp->VK->Prop):Prop:=
  ∀(pins:List (Addr×Obj)) (s:Shared) (σ:St) (H:Hp) (xs:List V) (us:List Value) (Q:VK),Inv X pins σ H s->Vals xs us->r xs H Q ->
    wpAny (model X.prog X.w) X.A (call f us) (EP X pins σ Q) X.xe s
noncomputable def ET (X:Cx)(r:V->Hp->(Bool->Hp->Prop)->Prop):Prop:=
  ∀(pins:List (Addr×Obj)) (s:Shared) (σ:St) (H:Hp) (x:V) (v:Value) (Q:Bool->Hp->Prop),Inv X pins σ H s->RelV x v->r x H Q ->
    wpAny (model X.prog X.w) X.A (truthy v) (TP X pins σ Q) X.xe s
noncomputable def Eo (r:R2)(ta tb:TE):TE:=λσ H Q=>ta σ H λx H1=>tb σ H1 λy H2=>r x y H2 Q
noncomputable def Ge (r:V->Hp->VK->Prop)(ta:TE):TE:=λσ H Q=>ta σ H λx H1=>r x H1 Q
noncomputable def rI (C:Int->Int->Prop)(g:Int->Int->V):R2:=λx y H Q=>∃i j,x=.int i/\y=.int j/\C i j/\Q (g i j) H
noncomputable def AI (g:Int->Int->V):R2:=λx y H Q=>∃i j,x=.int i/\y=.int j/\Q (g i j) H
noncomputable def rU (g:Int->V):V->Hp->VK->Prop:=λx H Q=>∃i,x=.int i/\Q (g i) H
section
variable {X:Cx} {a b c:Expr} {ta tb tc:TE} {pos:Pos}
theorem Bz (ha:PE X a ta)(hb:PE X b tb){pins:List (Addr×Obj)}{s:Shared}{σ:St}{H:Hp}{R:V->V->Hp->Prop}(I:Inv X pins σ H s)
    (h:ta σ H λx H1=>tb σ H1 λy H2=>R x y H2) {Q:Value->Shared->Prop} {f:Value->Value->Sem Value}
    (hf:∀v u s2 x y H2,Inv X pins σ H2 s2->RelV x v->RelV y u->R x y H2->wpAny (model X.prog X.w) X.A (f v u) Q X.xe s2) :
    wpAny (model X.prog X.w) X.A (eval a X.env) (λv s₁=>wpAny (model X.prog X.w) X.A (eval b X.env) (λu s₂=>wpAny (model X.prog X.w) X.A (f v u) Q X.xe s₂) X.xe s₁) X.xe s:=by
  refine de (ha pins s σ H _ I h) ?_;rintro v s1 ⟨x,H1,I1,r1,q1⟩;refine de (hb pins s1 σ H1 _ I1 q1) ?_;rintro u s2 ⟨y,H2,I2,r2,q2⟩;exact hf v u s2 x y H2 I2 r1 r2 q2
theorem D3 {op:Operator}{r:R2}(ho:jS X (binaryOp op) r)(ha:PE X a ta)(hb:PE X b tb):PE X (.BinOp a op b pos) (Eo r ta tb):=by
  intro pins s σ H Q I h;exact wpAny_BinOp (Bz ha hb I h λv u s2 x y H2 I2 rx ry q=>ho pins s2 σ H2 x y v u Q I2 rx ry q)
theorem D4 {op:UnaryOp}{r:V->Hp->VK->Prop}(ho:EV X (unaryOp op) r)(ha:PE X a ta):PE X (.UnaryOp op a pos) (Ge r ta):=by
  intro pins s σ H Q I h;exact UnaryOp_ (de (ha pins s σ H _ I h) (by rintro v s1 ⟨x,H1,I1,r1,q1⟩;exact ho pins s1 σ H1 x v Q I1 r1 q1))
theorem EG {f:Value->Value->Sem Value}{C:Int->Int->Prop}{g:Int->Int->Int}
    (rule:∀(i j:Int) (t u:Tok) (s:Shared) (Q:Value->Shared->Prop) (E:Value->Shared->Prop),C i j->Q (.int (g i j) s.toks) { s with toks:=s.toks+1 }->wpAny (model X.prog X.w) X.A (f (.int i t) (.int j u)) Q E s) :
    jS X f (rI C λi j=>.int (g i j)):=by
  intro pins s σ H x y v u Q I rx ry h;obtain ⟨i,j,rfl,rfl,hc,q⟩:=h;obtain ⟨t,rfl⟩:=rx;obtain ⟨t',rfl⟩:=ry;exact rule i j t t' s _ _ hc ⟨.int (g i j),H,I.tok _,⟨_,rfl⟩,q⟩
theorem DK {f:Value->Value->Sem Value}{g:Int->Int->Int}
    (rule:∀(i j:Int) (t u:Tok) (s:Shared) (Q:Value->Shared->Prop) (E:Value->Shared->Prop),Q (.int (g i j) s.toks) { s with toks:=s.toks+1 }->wpAny (model X.prog X.w) X.A (f (.int i t) (.int j u)) Q E s) :
    jS X f (AI λi j=>.int (g i j)):=by
  intro pins s σ H x y v u Q I rx ry h;obtain ⟨i,j,rfl,rfl,q⟩:=h;obtain ⟨t,rfl⟩:=rx;obtain ⟨t',rfl⟩:=ry;exact rule i j t t' s _ _ ⟨.int (g i j),H,I.tok _,⟨_,rfl⟩,q⟩
theorem An {f:Value->Value->Sem Value}{g:Int->Int->Bool}
    (rule:∀(i j:Int) (t u:Tok) (s:Shared) (Q:Value->Shared->Prop) (E:Value->Shared->Prop),Q (.bool (g i j)) s->wpAny (model X.prog X.w) X.A (f (.int i t) (.int j u)) Q E s) :
    jS X f (AI λi j=>.bl (g i j)):=by
  intro pins s σ H x y v u Q I rx ry h;obtain ⟨i,j,rfl,rfl,q⟩:=h;obtain ⟨t,rfl⟩:=rx;obtain ⟨t',rfl⟩:=ry;exact rule i j t t' s _ _ ⟨.bl (g i j),H,I,rfl,q⟩
noncomputable def C2 (i j:Int):Prop:=0<j/\j<1073741824
noncomputable def C3 (i j:Int):Prop:=0<=j/\j<=1000000/\i.natAbs<2 ^ 64
noncomputable def t8 (i j:Int):Prop:=(-(2 ^ 64)<i/\i<2 ^ 64)\/(-(2 ^ 64)<j/\j<2 ^ 64)
theorem t8.ok {i j:Int}(h:t8 i j):IntMulOk i j:=by
  rcases h with ⟨h1,h2⟩ | ⟨h1,h2⟩
  · exact .of_left (intBits_le_64 h1 h2)
  · exact .of_right (intBits_le_64 h1 h2)
theorem B6:jS X (binaryOp .Add) (AI λi j=>.int (i+j)):=DK λ_ _ _ _ _ _ _ q=>add_int q
theorem Cf:jS X (binaryOp .Sub) (AI λi j=>.int (i - j)):=DK λ_ _ _ _ _ _ _ q=>sub_int q
theorem Cb:jS X (binaryOp .Mult) (rI t8 λi j=>.int (i*j)):=EG λ_ _ _ _ _ _ _ hc q=>mul_int q hc.ok
theorem Ap:jS X (binaryOp .FloorDiv) (rI C2 λi j=>.int (i / j)):=EG λi j _ _ _ _ _ hc q=>by
  have h1:(0:Int)<j:=hc.1;have h2:j<1073741824:=hc.2;exact floordiv_int (by lia) (by rw[Int.fdiv_eq_ediv_of_nonneg i (by lia)];exact q) (.inl (PyProof.noPylong_small (by lia)))
theorem Ca:jS X (binaryOp .Mod) (rI (λ_ j=>0<j) λi j=>.int (i % j)):=EG λi j _ _ _ _ _ hc q=>by
  have h1:(0:Int)<j:=hc;exact mod_int' (by lia) (by rw[Int.fmod_eq_emod_of_nonneg i (by lia)];exact q)
theorem Cd:jS X (binaryOp .Pow) (rI C3 λi j=>.int (i ^ j.toNat)):=EG λ_ _ _ _ _ _ _ hc q=>pow_int_small hc.1 hc.2.1 hc.2.2 q
theorem Gg {f:Value->Sem Value}{g:Int->Int}
    (rule:∀(i:Int) (t:Tok) (s:Shared) (Q:Value->Shared->Prop) (E:Value->Shared->Prop),Q (.int (g i) s.toks) { s with toks:=s.toks+1 }->wpAny (model X.prog X.w) X.A (f (.int i t)) Q E s) :
    EV X f (rU λi=>.int (g i)):=by
  intro pins s σ H x v Q I rx h;obtain ⟨i,rfl,q⟩:=h;obtain ⟨t,rfl⟩:=rx;exact rule i t s _ _ ⟨.int (g i),H,I.tok _,⟨_,rfl⟩,q⟩
theorem CL:EV X (unaryOp .USub) (rU λi=>.int (-i)):=Gg λ_ _ _ _ _ q=>neg_int q
end
noncomputable def Eg:V->V->Bool
  | .non,.non=>true | .non,.int _=>true | .int _,.non=>true | .non,.bl _=>true | .bl _,.non=>true | .non,.str _=>true | .str _,.non=>true
  | .int _,.int _=>true | .bl _,.bl _=>true | .str _,.str _=>true | .byt _,.byt _=>true
  | .int _,.str _=>true | .str _,.int _=>true | .bl _,.str _=>true | .str _,.bl _=>true
  | _,_=>false
noncomputable def FY:R2:=λx y H Q=>Eg x y=true/\Q (.bl (decide (x=y))) H
noncomputable def F0:R2:=λx y H Q=>Eg x y=true/\Q (.bl (!decide (x=y))) H
theorem vj {i j:Int}:decide (V.int i=V.int j)=(i == j):=by
  rw[Bool.eq_iff_iff];simp
theorem yc {i j:Bool}:decide (V.bl i=V.bl j)=(i == j):=by
  rw[Bool.eq_iff_iff];simp
theorem vk {i j:Str}:decide (V.str i=V.str j)=(i == j):=by
  rw[Bool.eq_iff_iff];simp
theorem vi {i j:Array UInt8}:decide (V.byt i=V.byt j)=(i.toList == j.toList):=by
  rw[Bool.eq_iff_iff];cases i;cases j;simp
section
variable {X:Cx} {a b c:Expr} {ta tb tc:TE} {pos:Pos}
theorem aY {pins:List (Addr×Obj)}{σ:St}{H:Hp}{s:Shared}{Q:VK}{k k':Bool}(I:Inv X pins σ H s)(q:Q (.bl k) H)(e:k=k'):EP X pins σ Q (.bool k') s:=by
  subst e;exact ⟨.bl k,H,I,rfl,q⟩
theorem DM:jS X (compareOp .Eq) FY:=by
  intro pins s σ H x y v u Q I rx ry h;obtain ⟨hs,q⟩:=h;cases x with
  | non =>
    cases rx;cases y with
    | non=>cases ry;exact PySem.EqNone.eq_none_none (aY I q (by simp))
    | bl j=>cases ry;exact PySem.EqNone.eq_none_bool (aY I q (by simp))
    | int j=>obtain ⟨t',rfl⟩:=ry;exact PySem.EqNone.eq_none_int (aY I q (by simp))
    | str j=>obtain ⟨t',rfl⟩:=ry;exact PySem.EqNone.eq_none_str (aY I q (by simp))
    | _=>exact absurd (show false=true from hs) Bool.false_ne_true
  | bl i =>
    cases rx;cases y with
    | non=>cases ry;exact PySem.EqNone.eq_bool_none (aY I q (by simp))
    | bl j=>cases ry;exact eq_bool (aY I q yc)
    | str j=>obtain ⟨t',rfl⟩:=ry;exact PySem.EqMixed.eq_bool_str (aY I q (by simp))
    | _=>exact absurd (show false=true from hs) Bool.false_ne_true
  | int i =>
    obtain ⟨t,rfl⟩:=rx;cases y with
    | non=>cases ry;exact PySem.EqNone.eq_int_none (aY I q (by simp))
    | int j=>obtain ⟨t',rfl⟩:=ry;exact eq_int (aY I q vj)
    | str j=>obtain ⟨t',rfl⟩:=ry;exact PySem.EqMixed.eq_int_str (aY I q (by simp))
    | _=>exact absurd (show false=true from hs) Bool.false_ne_true
  | str i =>
    obtain ⟨t,rfl⟩:=rx;cases y with
    | non=>cases ry;exact PySem.EqNone.eq_str_none (aY I q (by simp))
    | bl j=>cases ry;exact PySem.EqMixed.eq_str_bool (aY I q (by simp))
    | int j=>obtain ⟨t',rfl⟩:=ry;exact PySem.EqMixed.eq_str_int (aY I q (by simp))
    | str j=>obtain ⟨t',rfl⟩:=ry;exact eq_str (aY I q vk)
    | _=>exact absurd (show false=true from hs) Bool.false_ne_true
  | byt i =>
    obtain ⟨t,rfl⟩:=rx;cases y with
    | byt j=>obtain ⟨t',rfl⟩:=ry;exact PySem.W.eq_bytes (aY I q vi)
    | _=>exact absurd (show false=true from hs) Bool.false_ne_true
  | _=>cases y<;>exact absurd (show false=true from hs) Bool.false_ne_true
theorem DV:jS X (compareOp .NotEq) F0:=by
  intro pins s σ H x y v u Q I rx ry h;obtain ⟨hs,q⟩:=h;cases x with
  | non =>
    cases rx;cases y with
    | non=>cases ry;exact PySem.EqNone.ne_none_none (aY I q (by simp))
    | bl j=>cases ry;exact PySem.EqNone.ne_none_bool (aY I q (by simp))
    | int j=>obtain ⟨t',rfl⟩:=ry;exact PySem.EqNone.ne_none_int (aY I q (by simp))
    | str j=>obtain ⟨t',rfl⟩:=ry;exact PySem.EqNone.ne_none_str (aY I q (by simp))
    | _=>exact absurd (show false=true from hs) Bool.false_ne_true
  | bl i =>
    cases rx;cases y with
    | non=>cases ry;exact PySem.EqNone.ne_bool_none (aY I q (by simp))
    | bl j=>cases ry;exact ne_bool (aY I q (congrArg not yc))
    | str j=>obtain ⟨t',rfl⟩:=ry;exact PySem.EqMixed.ne_bool_str (aY I q (by simp))
    | _=>exact absurd (show false=true from hs) Bool.false_ne_true
  | int i =>
    obtain ⟨t,rfl⟩:=rx;cases y with
    | non=>cases ry;exact PySem.EqNone.ne_int_none (aY I q (by simp))
    | int j=>obtain ⟨t',rfl⟩:=ry;exact ne_int (aY I q (congrArg not vj))
    | str j=>obtain ⟨t',rfl⟩:=ry;exact PySem.EqMixed.ne_int_str (aY I q (by simp))
    | _=>exact absurd (show false=true from hs) Bool.false_ne_true
  | str i =>
    obtain ⟨t,rfl⟩:=rx;cases y with
    | non=>cases ry;exact PySem.EqNone.ne_str_none (aY I q (by simp))
    | bl j=>cases ry;exact PySem.EqMixed.ne_str_bool (aY I q (by simp))
    | int j=>obtain ⟨t',rfl⟩:=ry;exact PySem.EqMixed.ne_str_int (aY I q (by simp))
    | str j=>obtain ⟨t',rfl⟩:=ry;exact ne_str (aY I q (congrArg not vk))
    | _=>exact absurd (show false=true from hs) Bool.false_ne_true
  | byt i =>
    obtain ⟨t,rfl⟩:=rx;cases y with
    | byt j=>obtain ⟨t',rfl⟩:=ry;exact PySem.W.ne_bytes (aY I q (congrArg not vi))
    | _=>exact absurd (show false=true from hs) Bool.false_ne_true
  | _=>cases y<;>exact absurd (show false=true from hs) Bool.false_ne_true
theorem DU:jS X (compareOp .Lt) (AI λi j=>.bl (decide (i<j))):=An λ_ _ _ _ _ _ _ q=>lt_int q
theorem DQ:jS X (compareOp .LtE) (AI λi j=>.bl (decide (i<=j))):=An λ_ _ _ _ _ _ _ q=>le_int q
theorem DP:jS X (compareOp .Gt) (AI λi j=>.bl (decide (j<i))):=An λ_ _ _ _ _ _ _ q=>gt_int q
theorem DN:jS X (compareOp .GtE) (AI λi j=>.bl (decide (j<=i))):=An λ_ _ _ _ _ _ _ q=>ge_int q
theorem B9:jS X (compareOp .Is) (λx y H Q=>y=.non/\Q (.bl (decide (x=.non))) H):=by
  intro pins s σ H x y v u Q I rx ry h;obtain ⟨rfl,q⟩:=h;cases ry;refine is_none_gen (aY I q ?_);cases x<;>first
    | (cases rx;rfl)
    | (obtain ⟨t,rfl⟩:=rx;rfl)
theorem Ar:jS X (compareOp .IsNot) (λx y H Q=>y=.non/\Q (.bl (!decide (x=.non))) H):=by
  intro pins s σ H x y v u Q I rx ry h;obtain ⟨rfl,q⟩:=h;cases ry;refine isnot_none_gen (aY I q ?_);cases x<;>first
    | (cases rx;rfl)
    | (obtain ⟨t,rfl⟩:=rx;rfl)
theorem jS.or {f:Value->Value->Sem Value}{r r':R2}(h:jS X f r)(h':jS X f r'):jS X f (λx y H Q=>r x y H Q\/r' x y H Q):=by
  intro pins s σ H x y v u Q I rx ry q;rcases q with q | q
  · exact h pins s σ H x y v u Q I rx ry q
  · exact h' pins s σ H x y v u Q I rx ry q
theorem aT (b:Expr){op:CmpOp}(h:autoParam (op≠.In) aZb._auto_1)(h2:autoParam (op≠.NotIn) aZb._auto_1):behindInMarks op b=false:=by
  have e1:(op == CmpOp.In)=false:=by cases op<;>first | rfl | exact absurd rfl h
  have e2:(op == CmpOp.NotIn)=false:=by cases op<;>first | rfl | exact absurd rfl h2
  cases b<;>simp[behindInMarks,e1,e2]
theorem Au {op:CmpOp}{r:R2}(ho:jS X (compareOp op) r)(ha:PE X a ta)(hb:PE X b tb)(hm:behindInMarks op b=false):PE X (.Compare a [op] [b] pos) (Eo r ta tb):=by
  intro pins s σ H Q I h;exact wpAny_Compare1 (Bz ha hb I h λv u s2 x y H2 I2 rx ry q=>ho pins s2 σ H2 x y v u Q I2 rx ry q) hm
noncomputable def Et (t:TE):TT:=λσ H Q=>t σ H λx H'=>∃k,x=.bl k/\Q k H'
theorem AF {op:CmpOp}{r:R2}(ho:jS X (compareOp op) r)(ha:PE X a ta)(hb:PE X b tb)(hm:behindInMarks op b=false):PT X (.Compare a [op] [b] pos) (Et (Eo r ta tb)):=by
  intro pins s σ H Q I h;refine wpAny_isTrue_Compare1 (de (ha pins s σ H _ I h) λv s1 ⟨x,H1,I1,r1,q1⟩=>de (hb pins s1 σ H1 _ I1 q1) λu s2 ⟨y,H2,I2,r2,q2⟩ =>
    de (ho pins s2 σ H2 x y v u _ I2 r1 r2 q2) λc s3 ⟨z,H3,I3,r3,k,e,q3⟩=>?_) hm
  subst e;cases r3;exact wpAny_truthy_bool ⟨H3,I3,q3⟩
noncomputable def EU (K:Frag)(x:V)(H:Hp)(k:Bool):Prop:=
  match x with
  | .non=>k=false
  | .bl b=>k=b
  | .int i=>k=(i != 0)
  | .str y=>y.length<=sizeLine/\k=((y.length:Int) != 0)
  | .byt y=>y.size<=sizeLine/\k=((y.size:Int) != 0)
  | .ref p=>(∃xs,d6 K H p xs/\k = !xs.isEmpty)\/(∃xs,kX K H p xs/\k = !xs.isEmpty)\/∃kvs,H p=some (.dK kvs)/\k = !kvs.isEmpty
  | _=>False
theorem ur {κ:Type}{kvs:List (κ×V)}{vs:List (κ×Value)}(r:KV kvs vs):(!vs.isEmpty) = !kvs.isEmpty:=by
  cases r<;>rfl
theorem n5 {xs:List V}{its:List Value}(r:Vals xs its):(!its.toArray.isEmpty) = !xs.isEmpty:=by
  cases r<;>simp
theorem jE:(sizeLine:Nat)<2 ^ 63:=by rw[sizeLine_eq];decide
theorem FJ:ET X (λx H Q=>∃k,EU X.K x H k/\Q k H):=by
  intro pins s σ H x v Q I rx h;obtain ⟨k,e,q⟩:=h;have hl:=jE;have hs:sizeLine=16777216:=sizeLine_eq;cases x with
  | non =>
    cases rx;have e':k=false:=e;subst e';exact truthy_none ⟨H,I,q⟩
  | bl b =>
    cases rx;have e':k=b:=e;subst e';exact wpAny_truthy_bool ⟨H,I,q⟩
  | int i =>
    obtain ⟨t,rfl⟩:=rx;have e':k=(i != 0):=e;subst e';exact PySem.P.truthy_int ⟨H,I,q⟩
  | str y =>
    obtain ⟨t,rfl⟩:=rx;obtain ⟨hy,e'⟩ : y.length<=sizeLine/\k=((y.length:Int) != 0):=e;subst e';exact PySem.P.truthy_str (by lia) ⟨H,I.tok _,q⟩
  | byt y =>
    obtain ⟨t,rfl⟩:=rx;obtain ⟨hy,e'⟩ : y.size<=sizeLine/\k=((y.size:Int) != 0):=e;subst e';exact PySem.W.truthy_bytes (by lia) ⟨H,I.tok _,q⟩
  | ref p =>
    cases rx;have e':(∃xs,d6 X.K H p xs/\k = !xs.isEmpty)\/(∃xs,kX X.K H p xs/\k = !xs.isEmpty)\/∃kvs,H p=some (.dK kvs)/\k = !kvs.isEmpty:=e;rcases e' with ⟨xs,hx,e'⟩ | ⟨xs,hx,e'⟩ | ⟨kvs,hx,e'⟩
    · subst e';obtain ⟨its,r,pl,hz⟩:=I.list hx;have hlen:=r.length;exact wpAny_truthy_list pl.isList (by simp only[size_toArray];lia) ⟨H,I.tok _,by rw[n5 r];exact q⟩
    · subst e';obtain ⟨its,r,pl,hz⟩:=I.tuple hx;have hlen:=r.length;exact truthy_tuple pl (by simp only[size_toArray];lia) ⟨H,I.tok _,by rw[n5 r];exact q⟩
    · subst e';obtain ⟨hz,hS,vs,r,m⟩ : kvs.length<=sizeLine/\(p == sysModules)=false/\∃vs,KV kvs vs/\s.heap.DictOf (qW X.prog X.w) p vs:=I.bK p _ hx;have hlen:kvs.length=vs.length:=Paired.length r;exact wpAny_truthy_dict hS m (by lia) ⟨H,I.tok _,by rw[ur r];exact q⟩
  | _=>exact (show False from e).elim
theorem uE:jS X (binaryOp .Add) (λx y H Q=>∃i j,x=.str i/\y=.str j/\i.length+j.length<=sizeLine/\Q (.str (i++j)) H):=by
  intro pins s σ H x y v u Q I rx ry h;obtain ⟨i,j,rfl,rfl,hz,q⟩:=h;obtain ⟨t,rfl⟩:=rx;obtain ⟨t',rfl⟩:=ry;exact add_str (λt' tk=>⟨.str (i++j),H,I.tok _,⟨_,rfl⟩,q⟩) hz
theorem vals1 {x:V}{us:List Value}(r:Vals [x] us):∃u,us = [u]/\RelV x u:=by
  cases r with
  | cons r1 r2=>cases r2;exact ⟨_,rfl,r1⟩
theorem vals2 {x y:V}{us:List Value}(r:Vals [x,y] us):∃u w',us = [u,w']/\RelV x u/\RelV y w':=by
  cases r with
  | cons r1 r2 =>
    cases r2 with
    | cons r3 r4=>cases r4;exact ⟨_,_,rfl,r1,r3⟩
theorem wy (hc:X.calm=true):hJ X (.builtin "max") (λxs H Q=>∃i j,xs = [.int i,.int j]/\Q (.int (if j>i then j else i)) H):=by
  intro pins s σ H xs us Q I r h;obtain ⟨i,j,rfl,q⟩:=h;obtain ⟨u,w',rfl,⟨t,rfl⟩,⟨t',rfl⟩⟩:=vals2 r;refine max_two_ints (I.ok.hd hc) λh' tk k=>⟨_,H,I.kept k,?_,q⟩
  by_cases hj:j>i
  · rw[if_pos hj,if_pos hj];exact ⟨_,rfl⟩
  · rw[if_neg hj,if_neg hj];exact ⟨_,rfl⟩
theorem wA (hc:X.calm=true):hJ X (.builtin "min") (λxs H Q=>∃i j,xs = [.int i,.int j]/\Q (.int (if j<i then j else i)) H):=by
  intro pins s σ H xs us Q I r h;obtain ⟨i,j,rfl,q⟩:=h;obtain ⟨u,w',rfl,⟨t,rfl⟩,⟨t',rfl⟩⟩:=vals2 r;refine min_two_ints (I.ok.hd hc) λh' tk k=>⟨_,H,I.kept k,?_,q⟩
  by_cases hj:j<i
  · rw[if_pos hj,if_pos hj];exact ⟨_,rfl⟩
  · rw[if_neg hj,if_neg hj];exact ⟨_,rfl⟩
noncomputable def C6 (K:Frag)(x:V)(H:Hp)(n:Nat):Prop:=
  match x with
  | .str y=>y.length<=sizeLine/\n=y.length
  | .byt y=>y.size<=sizeLine/\n=y.size
  | .ref p=>(∃xs,d6 K H p xs/\n=xs.length)\/∃xs,kX K H p xs/\n=xs.length
  | _=>False
theorem xQ:hJ X (.builtin "len") (λxs H Q=>∃x n,xs = [x]/\C6 X.K x H n/\Q (.int n) H):=by
  intro pins s σ H xs us Q I r h;obtain ⟨x,n,rfl,e,q⟩:=h;obtain ⟨u,rfl,rx⟩:=vals1 r;have hl:=jE;have hs:sizeLine=16777216:=sizeLine_eq;cases x with
  | str y =>
    obtain ⟨t,rfl⟩:=rx;obtain ⟨hy,e'⟩ : y.length<=sizeLine/\n=y.length:=e;subst e';exact len_str (by lia) ⟨.int _,H,I.tok _,⟨_,rfl⟩,q⟩
  | byt y =>
    obtain ⟨t,rfl⟩:=rx;obtain ⟨hy,e'⟩ : y.size<=sizeLine/\n=y.size:=e;subst e';exact PySem.W.len_bytes (by lia) ⟨.int _,H,I.tok _,⟨_,rfl⟩,q⟩
  | ref p =>
    cases rx;have e':(∃xs,d6 X.K H p xs/\n=xs.length)\/∃xs,kX X.K H p xs/\n=xs.length:=e;rcases e' with ⟨xs,hx,e'⟩ | ⟨xs,hx,e'⟩
    · subst e';obtain ⟨its,r',pl,hz⟩:=I.list hx;have hlen:=r'.length;exact Calls.call_len_list pl.isList (by simp only[size_toArray];lia) ⟨.int xs.length,H,I.tok _,⟨_,by simp only[size_toArray];rw[hlen]⟩,q⟩
    · subst e';obtain ⟨its,r',pl,hz⟩:=I.tuple hx;have hlen:=r'.length;exact len_tuple pl (by simp only[size_toArray];lia) ⟨.int xs.length,H,I.tok _,⟨_,by simp only[size_toArray];rw[hlen]⟩,q⟩
  | _=>exact (show False from e).elim
end
end L2
namespace L2
open PySem PySem.Spec PyProof.Rows
structure Bo (h:Heap)(x dx C:Addr)(mA:Str->Option Value):Prop where
  obj:h.get? x=some (instObj C dx)
  ns:h.Ns1 dx mA
  ne:dx≠x
set_option tactic.hygienic true in
theorem wX {h:Heap}{dx:Addr}{mA:Str->Option Value}(n:h.Ns1 dx mA):∃od,h.get? dx=some od/\∀name,lookIn name od=some (mA name):=by
  obtain ⟨o,es,ep,ho,hd,hk,_,hm⟩:=n;refine ⟨o,ho,λname=>?_⟩;have e:=hm name;unfold nsFind findBy at e;rw[<-Array.find?_toList] at e;unfold lookIn;rw[hd];dsimp only;split
  · rename_i y q;rw[q] at e;exact congrArg some e
  · rename_i q;rw[q] at e;have a:es.toList.any (·.refKey)=false:=by
      rw[List.any_eq_false];intro y hy;obtain ⟨z,t,hkey⟩:=hk y (Array.mem_toList_iff.mp hy);simp[DictEntry.refKey,hkey]
    have a':¬es.toList.any (·.refKey)=true:=by rw[a];exact Bool.false_ne_true
    rw[if_neg a'];exact congrArg some e
theorem Bo.look {h:Heap}{x dx C:Addr}{mA:Str->Option Value}(I:Bo h x dx C mA):∃od,PySem.W.InstAt h x (instObj C dx) C (some od)/\∀name,lookIn name od=some (mA name):=
  let ⟨od,ho,hl⟩:=wX I.ns
  ⟨od,⟨I.obj,rfl,rfl,ho⟩,hl⟩
section
variable {prog:Program} {w:World} {A:Around} {E:Value->Shared->Prop} {s:Shared} {K:Frag} {x dx C f:Addr} {mA:Str->Option Value} {name:Str} {v:Value}
end
section
variable {P:Program} {w:World} {H H':Hp} {h h':Heap} {a C dx:Addr} {fs fs':List (Str×V)}
theorem zX (bK:lR P w H h)(e:H a=some (.ins C dx fs)):∃mA,Bo h a dx C mA/\(∀f,Bq (fs.lookup f) (mA f))/\PySem.Within mA (fs.map (·.1))/\fs.length<=1000/\H dx=some (.own a):=by
  obtain ⟨d,z,ne,ob,mA,n,r,q⟩:=(show d7 P w H h a (.ins C dx fs) from bK a _ e)
  exact ⟨mA,⟨ob,n,ne⟩,r,q,z,d⟩
end
structure EL (K:Frag)(C:Addr):Prop where
  pg:plainGet K C Str.empty=true
  hd:PySem.W.hasDictIn K C=true
  po:PySem.W.plainOver K C=true
  sa:findIn K (.ref C) "__setattr__" = some (some (.builtin "object.__setattr__"))
theorem EL.get {K:Frag}{C:Addr}(c:EL K C)(f:Str):plainGet K C f=true:=c.pg
structure Gi (K:Frag)(C:Addr)(f:Str)(v:V)(u:Value):Prop where
  at_:findIn K (.ref C) f=some (some u)
  rel:RelV v u
  get:specialIn K u "__get__" = some none
  cp:PySem.W.copiedNames.contains f=false
structure Meth (K:Frag)(C:Addr)(m:Str)(f:Addr):Prop where
  at_:findIn K (.ref C) m=some (some (.ref f))
  fn:isFn K (.ref f)=true
  kp:keepIn K (.ref f)=true
section
variable {X:Cx} {pins:List (Addr×Obj)} {σ:St} {H:Hp} {s:Shared} {a C dx:Addr} {fs:List (Str×V)} {f:Str} {v:V} {A:Around} {E:Value->Shared->Prop}
end
section
variable {X:Cx} {o e value:Expr} {f:Str} {pos pos' tpos:Pos} {ta tv:TE}
end
section
variable {X:Cx} {pins:List (Addr×Obj)} {σ:St} {H:Hp} {s:Shared} {A:Around} {E:Value->Shared->Prop} {Q:Value->Shared->Prop} {c:Value} {b:Bool}
inductive mW (K:Frag)(H:Hp):V->Value->Prop where
  | non:mW K H .non (.type "NoneType")
  | bl (x:Bool):mW K H (.bl x) (.type "bool")
  | int (i:Int):mW K H (.int i) (.type "int")
  | str (x:Str):mW K H (.str x) (.type "str")
  | flt (x:UInt64):mW K H (.flt x) (.type "float")
  | lst {a:Addr} {xs:List V} (e:H a=some (.lst xs)):mW K H (.ref a) (.type "list")
  | cM {a:Addr} {o:Obj} {xs:List V} (e:H a=some (.cM o (.lst xs))):mW K H (.ref a) (.type "list")
  | tup {a:Addr} {xs:List V} (e:H a=some (.tup xs)):mW K H (.ref a) (.type "tuple")
  | dK {a:Addr} {kvs:List (Key×V)} (e:H a=some (.dK kvs)):mW K H (.ref a) (.type "dict")
  | dT {a:Addr} {kvs:List (List Key×V)} (e:H a=some (.dT kvs)):mW K H (.ref a) (.type "dict")
  | ins {a C dx:Addr} {fs:List (Str×V)} (e:H a=some (.ins C dx fs)) (cl:EL K C) (ha:findIn K (.ref C) "__class__" = some (some (.builtin "object.__class__")))
      (hn:specialIn K (.builtin "object.__class__") "__get__" = some (some (.builtin "getset_descriptor.__get__"))) (htk:PySem.W.takesIn K (.builtin "object.__class__")=some true)
      (hm:PySem.W.mroIn K C (.type "object")=some true):mW K H (.ref a) (.ref C)
theorem j0 {x:V}{u t:Value}(I:Inv X pins σ H s)(rx:RelV x u)(ty:mW X.K H x t)(e:kitOne X.K t c=some b)(h:∀tk,Q (.bool b) { s with toks:=tk }) :
    wpAny (model X.prog X.w) A (call (.builtin "isinstance") [u,c]) Q E s:=by
  cases ty with
  | non=>cases (show u=Value.none from rx);exact kia_one PySem.W.kitx_none I.oZ True.intro e (λz=>nomatch z) h
  | bl y=>cases (show u=Value.bool y from rx);exact kia_one PySem.W.kitx_bool I.oZ True.intro e (λz=>nomatch z) h
  | int i=>obtain ⟨t,q⟩:=(show ∃t,u=Value.int i t from rx);cases q;exact kia_one PySem.W.kitx_int I.oZ True.intro e (λz=>nomatch z) h
  | str y=>obtain ⟨t,q⟩:=(show ∃t,u=Value.str y t from rx);cases q;exact kia_one PySem.W.kitx_str I.oZ True.intro e (λz=>nomatch z) h
  | flt y=>obtain ⟨t,q⟩:=(show ∃t,u=Value.float y t from rx);cases q;exact kia_one PySem.W.kitx_float I.oZ True.intro e (λz=>nomatch z) h
  | @lst a xs ea =>
    cases (show u=Value.ref a from rx);obtain ⟨_,_,n,_,h1⟩:=(show d7 X.prog X.w H s.heap a (.lst xs) from I.bK a _ ea)
    exact kia_one kitx_list I.oZ ⟨_,h1,rfl⟩ e (λz=>nomatch z) h
  | @cM a ob xs ea =>
    cases (show u=Value.ref a from rx);obtain ⟨_,_,_,n,_,h1⟩:=(show d7 X.prog X.w H s.heap a (.cM ob (.lst xs)) from I.bK a _ ea)
    exact kia_one kitx_list I.oZ ⟨_,h1,rfl⟩ e (λz=>nomatch z) h
  | @tup a xs ea =>
    cases (show u=Value.ref a from rx);obtain ⟨_,_,_,p⟩:=(show d7 X.prog X.w H s.heap a (.tup xs) from I.bK a _ ea)
    obtain ⟨o,h1,h2,_⟩:=p;exact kia_one kitx_tuple I.oZ ⟨o,h1,h2⟩ e (λz=>nomatch z) h
  | @dK a kvs ea =>
    cases (show u=Value.ref a from rx);obtain ⟨_,_,vs,_,p⟩:=(show d7 X.prog X.w H s.heap a (.dK kvs) from I.bK a _ ea)
    obtain ⟨o,es,ep,h1,h2,_⟩:=p;exact kia_one kitx_dict I.oZ ⟨o,h1,h2.1⟩ e (λz=>nomatch z) h
  | @dT a kvs ea =>
    cases (show u=Value.ref a from rx);obtain ⟨_,_,xs,_,o,es,ep,h1,h2,_⟩:=(show d7 X.prog X.w H s.heap a (.dT kvs) from I.bK a _ ea)
    exact kia_one kitx_dict I.oZ ⟨o,h1,h2.1⟩ e (λz=>nomatch z) h
  | @ins a C dx fs ea cl ha hn htk hm =>
    cases (show u=Value.ref a from rx);obtain ⟨mA,O,_⟩:=zX I.bK ea;obtain ⟨od,J,_⟩:=O.look;exact kia_one (PySem.W.kitx_own (cl.get _) cl.hd ha hn htk hm) I.oZ J e (λz=>nomatch z) h
end
end L2
namespace L2
open PySem PySem.Spec PyProof.Rows
structure fX (k:Nat)(A:Around):Prop where
  hd:A.handled=none
  dp:A.depth+3*k+5<recursionLimit
  un:A.units+16*k+200<cLine
  gs:A.guards=some []
theorem fX.mono {j k:Nat}{A:Around}(r:fX k A)(h:j<=k):fX j A:=⟨r.hd,by have:=r.dp;lia,by have:=r.un;lia,r.gs⟩
theorem fX.deeper {k:Nat}{A:Around}(r:fX (k+1) A)(env:Env):fX k (A.deeper env):=
  ⟨r.hd,by have:=r.dp;show A.depth+1+3*k+5<_;lia,by have:=r.un;show A.units+3+16*k+200<_;lia,r.gs⟩
theorem fX.depth {k:Nat}{A:Around}(r:fX k A):A.depth<recursionLimit:=by have:=r.dp;lia
theorem fX.units {k:Nat}{A:Around}(r:fX k A):A.units+64<cLine:=by have:=r.un;lia
noncomputable def AO:TA:=λ_ H Q=>Q [] H
noncomputable def wj (ta:TE)(tr:TA):TA:=λσ H Q=>ta σ H λx H1=>tr σ H1 λxs H2=>Q (x::xs) H2
section
variable {X:Cx} {e:Expr} {es:List Expr} {te:TE} {t:TA} {pos:Pos}
theorem gS:PA X [] AO:=λ_ _ _ _ H Q I h=>Calls.spliced_nil ⟨[],H,I,.nil,h⟩
theorem br (ha:PE X e te)(hr:PA X es t)(hs:autoParam (starEach (e::es) X.env=(false,eval e X.env)::starEach es X.env) aZa._auto_1):PA X (e::es) (wj te t):=by
  intro pos pins s σ H Q I h;rw[hs];show wpAny _ _ (spliced ((false,eval e X.env)::backTo pos (starEach es X.env))) _ _ s;refine Calls.spliced_cons (de (ha pins s σ H _ I h) ?_);rintro u s1 ⟨x,H1,I1,r1,q1⟩;exact de (hr pos pins s1 σ H1 _ I1 q1) (by rintro us s2 ⟨xs,H2,I2,r2,q2⟩;exact ⟨x::xs,H2,I2,.cons r1 r2,q2⟩)
noncomputable def FI (t:TA):TE:=λσ H Q=>t σ H λxs H1=>xs.length<=sizeLine/\∀p,H1 p=none->Q (.ref p) (upd H1 p (.tup xs))
noncomputable def FD (t:TA):TE:=λσ H Q=>t σ H λxs H1=>xs.length<=sizeLine/\∀p,H1 p=none->Q (.ref p) (upd H1 p (.lst xs))
theorem oA {x1}(h:PA X es t):PE X (.Tuple es x1 pos) (FI t):=by
  intro pins s σ H Q I hq;refine wpAny_Tuple_spliced (de (h pos pins s σ H _ I hq) λus s1 ⟨xs,H1,I1,r,z,q⟩=>⟨by rw[<-r.length];exact z,?_⟩);have hf:H1 s1.heap.objs.size=none:=I1.bK.fresh (Nat.le_refl _);refine ⟨.ref s1.heap.objs.size,upd H1 s1.heap.objs.size (.tup xs),I1.laid (t':=s1.toks) (λb u e=>Heap.get?_push_of_some _ e) (Nat.le_refl _) ?_,rfl,q _ hf⟩;exact ⟨z,us,r,⟨_,Heap.get?_push_size _ rfl,rfl,_,rfl⟩⟩
theorem yU (h:PA X es t):PE X (.List es pos) (FD t):=by
  intro pins s σ H Q I hq;refine wpAny_List_spliced (de (h pos pins s σ H _ I hq) λus s1 ⟨xs,H1,I1,r,z,q⟩=>⟨by rw[<-r.length];exact z,?_⟩);have hf:H1 s1.heap.objs.size=none:=I1.bK.fresh (Nat.le_refl _);refine ⟨.ref s1.heap.objs.size,upd H1 s1.heap.objs.size (.lst xs),I1.laid (t':=s1.toks) (λb u e=>Heap.get?_push_of_some _ e) (Nat.le_refl _) ?_,rfl,q _ hf⟩;exact ⟨z,us,0,r,Heap.get?_push_size _ rfl⟩
end
noncomputable abbrev Sp:=List V->Hp->VK->XK->Prop
noncomputable abbrev zq:=List Env->Hp->Shared->XK->Value->Shared->Prop
structure zA (P:Program)(w:World)(K:Frag)(mg:Str->Option Value)(base:Heap)(A:Around)(outer:List Env)(s:Shared)(H:Hp):Prop where
  frames:A.frames=some outer
  mod:Mod K mg base
  bs:∀b o,base.get? b=some o->s.heap.get? b=some o/\H b=none
  A1:base.objs.size<=s.heap.objs.size
  nZ:s.heap.FunFrames base outer
  CU:∀b∈xB outer,H b=none
  bK:lR P w H s.heap
  bare:AllBare s.gens
noncomputable def CE (outer:List Env)(P:Program)(w:World)(H:Hp)(s:Shared)(Q:VK)(u:Value)(s':Shared):Prop:=
  ∃v H',s'.os=s.os/\AllBare s'.gens/\Un (xB outer) [] H H' s.heap s'.heap/\lR P w H' s'.heap/\RelV v u/\Q v H'
noncomputable def CR (CX:zq)(outer:List Env)(P:Program)(w:World)(H:Hp)(s:Shared)(Q:VK)(E:XK)(r:Result)(s':Shared):Prop:=
  match r with
  | .ok (.ret u)=>CE outer P w H s Q u s'
  | .ok _=>False
  | .error e=>CX outer H s E e s'
structure bO (P:Program)(w:World)(K:Frag)(mg:Str->Option Value)(base:Heap)(CX:zq)(k:Nat)(f:Addr)(fd:FuncData)(ps:List Str)(sp:Sp):Prop where
  len:∀vs H Q E,sp vs H Q E->vs.length=ps.length
  run:∀(A:Around) (outer:List Env) (s:Shared) (H:Hp) (args:Args) (us:List Value) (vs:List V) (Q:VK) (E:XK),fX k A->zA P w K mg base A outer s H->BindsTo s fd args (ps.zip us)->Vals vs us->sp vs H Q E ->
    codeAny (model P w) A (.call (.ref f) args) (CR CX outer P w H s Q E) s
theorem bO.imp {P:Program}{w:World}{K:Frag}{mg:Str->Option Value}{base:Heap}{CX:zq}{k:Nat}{f:Addr}{fd:FuncData}{ps:List Str}{sp sp':Sp}(F:bO P w K mg base CX k f fd ps sp)
    (h:∀vs H Q E,sp' vs H Q E->sp vs H Q E):bO P w K mg base CX k f fd ps sp':=
  ⟨λvs H Q E q=>F.len vs H Q E (h _ _ _ _ q),λA outer s H args us vs Q E hr he hb hv hs=>F.run A outer s H args us vs Q E hr he hb hv (h _ _ _ _ hs)⟩
section
variable {X:Cx} {pins:List (Addr×Obj)} {σ:St} {H:Hp} {s s':Shared}
theorem Inv.EY (I:Inv X pins σ H s):zA X.prog X.w X.K X.mg X.base X.A X.stack s H:=
  ⟨I.ok.frames,I.ok.mod,I.bs,Nat.le_trans I.ok.A1 I.sz,I.stack,I.we,I.bK,I.bare⟩
theorem Inv.after {Q:VK}{u:Value}(I:Inv X pins σ H s)(h:CE X.stack X.prog X.w H s Q u s'):EP X pins σ Q u s':=by
  obtain ⟨v,H',os,bare,un,bK,r,q⟩:=h;obtain ⟨hh,g,d,t,os'⟩:=s';obtain rfl:os'=s.os:=os;exact ⟨v,H',I.call (h':=hh) (g':=g) (d':=d) (t':=t) (ch:=[]) un bK bare (λb z=>absurd z (by simp)),r,q⟩
end
noncomputable def Bk (sp:Sp)(dvs:List V)(E:XK)(t:TA):TE:=λσ H Q=>t σ H λvs H1=>sp (vs++dvs) H1 Q E
noncomputable def Binds (K:Frag)(fd:FuncData)(ps:List Str)(ds:List Value):Prop:=
  ∀(s:Shared) (us:List Value),K.In s.heap->(us++ds).length=ps.length->BindsTo s fd ⟨us,[]⟩ (ps.zip (us++ds))
theorem Binds.all {K:Frag}{fd:FuncData}{ps:List Str}(h:∀us:List Value,us.length=ps.length->bindArgs fd ⟨us,[]⟩=pure (ps.zip us)):Binds K fd ps []:=λs us _ hl=>by
  rw[append_nil] at hl ⊢;exact .of_eq (h us hl)
noncomputable def Passes (CX:zq)(X:Cx)(E:XK):Prop:=∀(pins:List (Addr×Obj)) (σ:St) (H:Hp) (s:Shared) (e:Value) (s':Shared),Inv X pins σ H s->CX X.stack H s E e s'->X.xe e s'
section
variable {X:Cx} {CX:zq} {k:Nat} {f C:Addr} {fd:FuncData} {ps:List Str} {sp:Sp} {dvs:List V} {ds:List Value} {E:XK} {x m:Str} {p pos apos:Pos} {e o:Expr} {es:List Expr} {ta:TE} {t:TA}
theorem CC {pins:List (Addr×Obj)}{σ:St}{H:Hp}{s:Shared}{Q:VK}{us:List Value}{vs:List V}(F:bO X.prog X.w X.K X.mg X.base CX k f fd ps sp)(hr:fX k X.A)(hb:Binds X.K fd ps ds)(hd:Vals dvs ds)(hx:Passes CX X E)
    (I:Inv X pins σ H s) (r:Vals vs us) (h:sp (vs++dvs) H Q E):wpAny (model X.prog X.w) X.A (call (.ref f) us) (EP X pins σ Q) X.xe s:=by
  have r2:Vals (vs++dvs) (us++ds):=r.append hd;have hl:(us++ds).length=ps.length:=by rw[<-r2.length];exact F.len _ _ _ _ h
  refine wpAny_call (codeAny_mono (F.run X.A X.stack s H ⟨us,[]⟩ (us++ds) (vs++dvs) Q E hr I.EY (hb s us I.oZ hl) r2 h) λr s' hq=>?_);cases r with
  | error e=>exact hx pins σ H s e s' I hq
  | ok fl =>
    cases fl with
    | ret u=>exact I.after hq
    | next=>exact False.elim hq
    | brk=>exact False.elim hq
    | cont=>exact False.elim hq
theorem As (F:bO X.prog X.w X.K X.mg X.base CX k f fd ps sp)(hr:fX k X.A)(hg:Gl X x)(hm:X.mg x=some (.ref f))(hk:keepIn X.K (.ref f)=true)(hb:Binds X.K fd ps ds)(hd:Vals dvs ds)(hx:Passes CX X E)
    (ha:PA X (e::es) t) (hdb:autoParam ((x == ("__debug__" : Str))=false) aZb._auto_1) (he:autoParam (starEach (e::es) X.env=(false,eval e X.env)::starEach es X.env) aZa._auto_1) (hpl:autoParam ((backTo pos (starEach es X.env)).any (·.1)=false) aZa._auto_1) :
    PE X (.Call (.Name x p) (e::es) [] pos) (Bk sp dvs E t):=by
  intro pins s σ H Q I h;refine wpAny_Call_Name_kw (vK I hg hm ?_ hdb);refine PySem.W.callWith_K (h₀:=X.base) I.ok.mod.DD hk (de (ha pos pins s σ H _ I h) λus s1 ⟨vs,H1,I1,r,q⟩=>⟨I1.oZ,?_⟩) he hpl;exact CC F hr hb hd hx I1 r q
structure Mk (K:Frag)(C f:Addr):Prop where
  makes:PySem.W.makesIn K C=true
  init:findIn K (.ref C) "__init__" = some (some (.ref f))
  fn:isFn K (.ref f)=true
  kp:keepIn K (.ref C)=true
end
noncomputable def PK (X:Cx)(kws:List Keyword)(t:TA):Prop:=
  ∀(pos:Pos) (pins:List (Addr×Obj)) (s:Shared) (σ:St) (H:Hp) (Q:List V->Hp->Prop),Inv X pins σ H s->t σ H Q->wpAny (model X.prog X.w) X.A (evalAll ((backToKw pos (keywordEach kws X.env)).map (·.2))) (AP X pins σ Q) X.xe s
section
variable {X:Cx} {CX:zq} {k:Nat} {f C:Addr} {fd:FuncData} {ps ks:List Str} {sp:Sp} {E:XK} {x m:Str} {p pos apos kpos:Pos} {e o:Expr} {es:List Expr} {kws:List Keyword} {te ta:TE} {t tk:TA} {nm:Option Str}
theorem Cq:PK X [] AO:=λ_ _ _ _ H Q I h=>wpAny_evalAll_nil ⟨[],H,I,.nil,h⟩
theorem AA (ha:PE X e te)(hr:PK X kws t):PK X (⟨nm,e,kpos⟩::kws) (wj te t):=by
  intro pos pins s σ H Q I h;show wpAny _ _ (evalAll ((do let v <-eval e X.env;standAt pos;pure v)::(backToKw pos (keywordEach kws X.env)).map (·.2))) _ _ s;refine wpAny_evalAll_cons (wpAny_bind (de (ha pins s σ H _ I h) λu s1 ⟨x,H1,I1,r1,q1⟩=>wpAny_bind (wpAny_standAt (wpAny_pure ?_))));exact de (hr pos pins s1 σ H1 _ I1 q1) (by rintro us s2 ⟨xs,H2,I2,r2,q2⟩;exact ⟨x::xs,H2,I2,.cons r1 r2,q2⟩)
structure EN (K:Frag)(fd:FuncData)(ps ks:List Str)(g:List Value->List Value->List Value)(gV:List V->List V->List V):Prop where
  to:∀(s:Shared) (us ws:List Value),K.In s.heap->(g us ws).length=ps.length->BindsTo s fd ⟨us,ks.zip ws⟩ (ps.zip (g us ws))
  rel:∀{vs:List V} {us:List Value} {zs:List V} {ws:List Value},Vals vs us->Vals zs ws->Vals (gV vs zs) (g us ws)
variable {g:List Value->List Value->List Value} {gV:List V->List V->List V}
end
structure aF (N P:List Str)(sc:Scope):Prop where
  kind:sc.kind=.function
  co:sc.isCoroutine=false
  gen:sc.isGenerator=false
  nd:N.Nodup
  pre:N.take P.length=P
  par:∀x∈P,sc.names.lookup x=some .local\/sc.names.lookup x=some .cell
  BW:∀y∈sc.names,y.2≠.free
theorem pT {kindOf:Str->Option NameKind}{x:Str}:∀{binds:List (Str×Value)} {m:Str->Option Value},(∀v,(x,v)∉binds)->bindL kindOf binds m x=m x
  | [],_,_=>rfl
  | (n,v)::r,m,h=>by
    unfold bindL;rw[pT λw hw=>h w (mem_cons_of_mem _ hw)];split
    · have : x ≠ n := by rintro rfl;exact h v mem_cons_self
      simp[this]
    · rfl
theorem pR {kindOf:Str->Option NameKind}{x:Str}:∀{binds:List (Str×Value)} {m:Str->Option Value},(∀v,(x,v)∉binds)->bindC kindOf binds m x=m x
  | [],_,_=>rfl
  | (n,v)::r,m,h=>by
    unfold bindC;rw[pR λw hw=>h w (mem_cons_of_mem _ hw)];split
    · rfl
    · have : x ≠ n := by rintro rfl;exact h v mem_cons_self
      simp[this]
theorem pS {kindOf:Str->Option NameKind}{x:Str}{v:Value}:∀{P:List Str} {vs:List Value} {i:Nat} {m:Str->Option Value},P.Nodup->P[i]?=some x->vs[i]?=some v->kindOf x=some .local ->
    bindL kindOf (P.zip vs) m x=some v
  | [],_,_,_,_,h,_,_=>by simp at h
  | _::_,[],_,_,_,_,h,_=>by simp at h
  | p::P,w::vs,0,m,nd,h1,h2,hk=>by
    simp at h1 h2;subst h1;subst h2;show bindL kindOf ((p,w)::P.zip vs) m p=_;unfold bindL;rw[pT λv hv=>(nodup_cons.mp nd).1 (List.of_mem_zip hv).1,if_pos hk];simp
  | p::P,w::vs,i+1,m,nd,h1,h2,hk=>by
    show bindL kindOf ((p,w)::P.zip vs) m x=_;unfold bindL;exact pS (i:=i) (nodup_cons.mp nd).2 (by simpa using h1) (by simpa using h2) hk
theorem pQ {kindOf:Str->Option NameKind}{x:Str}{v:Value}:∀{P:List Str} {vs:List Value} {i:Nat} {m:Str->Option Value},P.Nodup->P[i]?=some x->vs[i]?=some v->kindOf x≠some .local ->
    bindC kindOf (P.zip vs) m x=some v
  | [],_,_,_,_,h,_,_=>by simp at h
  | _::_,[],_,_,_,_,h,_=>by simp at h
  | p::P,w::vs,0,m,nd,h1,h2,hk=>by
    simp at h1 h2;subst h1;subst h2;show bindC kindOf ((p,w)::P.zip vs) m p=_;unfold bindC;rw[pR λv hv=>(nodup_cons.mp nd).1 (List.of_mem_zip hv).1,if_neg hk];simp
  | p::P,w::vs,i+1,m,nd,h1,h2,hk=>by
    show bindC kindOf ((p,w)::P.zip vs) m x=_;unfold bindC;exact pQ (i:=i) (nodup_cons.mp nd).2 (by simpa using h1) (by simpa using h2) hk
noncomputable def start (N:List Str)(vs:List V):St:=vs.map some++List.replicate (N.length - vs.length) none
noncomputable def qH (CX:zq)(P:Program)(w:World)(K:Frag)(mg:Str->Option Value)(base:Heap)(N:List Str)(qual:Str)(scope:Scope)(f:Addr)(cd:Value)(A:Around)(outer:List Env)(s:Shared)(H:Hp)(E:XK):Cx where
  prog:=P
  w:=w
  K:=K
  mg:=mg
  base:=base
  A:=A.deeper (envOfC qual scope s.heap.objs.size f cd)
  N:=N
  s₀:=s
  H₀:=H
  env:=envOfC qual scope s.heap.objs.size f cd
  outer:=outer
  stack:=envOfC qual scope s.heap.objs.size f cd::outer
  ex:=[]
  calm:=true
  fn:=λ_=>true
  pn:=[]
  xe:=λe s'=>wpAny (model P w) (A.deeper (envOfC qual scope s.heap.objs.size f cd)) (leaving (envOfC qual scope s.heap.objs.size f cd) e) (λ_ s''=>CX outer H s E e s'') (λe' s''=>CX outer H s E e' s'') s'
theorem rQ {sc:Scope}{n:Nat}{x:Str}(h:sc.names.lookup x=some .cell):∃c,(cellsFrom n sc.names []).lookup x=some c:=by
  have q:=cellsFrom_some sc.names n [] (.inl h);exact Option.isSome_iff_exists.mp q
theorem wO {CX:zq}{P:Program}{w:World}{K:Frag}{mg:Str->Option Value}{base:Heap}{N ps:List Str}{qual:Str}{scope:Scope}{f:Addr}{cd:Value}{A:Around}{outer:List Env}{s s1:Shared}{H:Hp}{E:XK}{us:List Value}{vs:List V}
    (S:aF N ps scope) (hd:A.handled=none) (e0:zA P w K mg base A outer s H) (hl:vs.length=ps.length) (r:Vals vs us)
    (x:InCallC s s.heap.objs.size (bindL (envOfC qual scope s.heap.objs.size f cd).kindOf (ps.zip us) λ_=>none) (cellsFrom (s.heap.objs.size+1) scope.names []) (bindC (envOfC qual scope s.heap.objs.size f cd).kindOf (ps.zip us) λ_=>none) s1) :
    Inv (qH CX P w K mg base N qual scope f cd A outer s H E) [] (start N vs) H s1:=by
  have hpl:ps.length<=N.length:=by have:=congrArg List.length S.pre;rw[length_take] at this;lia
  obtain ⟨h1,tk,rfl,hk⟩:=x.done;have noA:∀b:Addr,b∉(qH CX P w K mg base N qual scope f cd A outer s H E).ex:=λb z=>absurd (show b∈([]:List Addr) from z) (by simp);refine ⟨⟨e0.mod,S.kind,rfl,rfl,Nat.le_refl _,λy z c h1 h2=>?_,λy hy=>?_,λy c _ h=>?_,λ_=>hd,Around.frames_deeper e0.frames,.inr ⟨rfl,rfl⟩,λb z=>absurd z (noA b),e0.bs,e0.A1,λb _ _=>noA b,λb z=>absurd z (noA b),e0.nZ,e0.CU⟩,
    rfl,e0.bare,Un.kept hk,⟨_,x.toInCall.ns,λi y v h1 h2 h3=>?_⟩,λy c h=>⟨_,x.cell y c h⟩,e0.bK.fresh (Nat.le_refl _),λy c h=>?_,λp hp=>absurd (show p∈([]:List (Addr×Obj)) from hp) (by simp),e0.bK.kept hk,?_⟩
  · exact name_of_addr x.apart (PySem.mem_of_lookup h1) (PySem.mem_of_lookup h2)
  · have hy:scope.names.lookup y=some .cell\/scope.names.lookup y=some .free:=hy;rcases hy with hy | hy
    · exact rQ hy
    · exact absurd rfl (S.BW _ (PySem.mem_of_lookup hy))
  · exact Nat.le_of_lt (x.above y c (PySem.mem_of_lookup h))
  · have hi:i<vs.length:=by
      unfold start at h2;by_cases hi:i<vs.length
      · exact hi
      · rw [List.getElem?_append_right (by simpa using hi)] at h2;rw[List.getElem?_replicate] at h2;split at h2<;>cases h2
    have ha:vs[i]?=some v:=by
      unfold start at h2;rw[List.getElem?_append_left (by simpa using hi),getElem?_map] at h2;cases e:vs[i]? with
      | none=>rw[e] at h2;cases h2
      | some a=>rw[e] at h2;cases h2;rfl
    obtain ⟨u,hu,rv⟩:=r.get ha;have hp:ps[i]?=some y:=by
      rw[<-S.pre,List.getElem?_take_of_lt (by lia)];exact h1
    have ndP:ps.Nodup:=by rw[<-S.pre];exact S.nd.sublist (List.take_sublist _ _)
    refine ⟨u,rv,?_⟩;rcases S.par y (mem_of_getElem? hp) with k | k
    · exact .inl ⟨k,pS ndP hp hu k⟩
    · obtain ⟨c,e⟩:=rQ (n:=s.heap.objs.size+1) k;refine .inr ⟨.inl k,c,e,?_⟩;have q:=x.cell y c e;rw[pQ ndP hp hu (by show scope.names.lookup y≠_;rw[k];decide)] at q;exact q
  · exact e0.bK.fresh (Nat.le_of_lt (x.above y c (PySem.mem_of_lookup h)))
  · unfold start;show _=N.length;rw[length_append,length_map,List.length_replicate];lia
theorem A7 {CX:zq}{P:Program}{w:World}{K:Frag}{mg:Str->Option Value}{base:Heap}{k:Nat}{f:Addr}{name qual:Str}{params:Arguments}{body:List Stmt}{scope:Scope}{dV kV doc pm cdv ct oc:Value}{an od:Option Addr}
    {osl:Array (Option Value)} {N ps:List Str} {sp:Sp} (lk:K.lookup f=some ⟨oc,od,.func (fnOf name qual params body scope dV kV doc pm an cdv ct),osl⟩) (hcd:codeIn K cdv qual=true) (S:aF N ps scope)
    (len:∀vs H Q E,sp vs H Q E->vs.length=ps.length)
    (hbody:∀(A:Around) (outer:List Env) (s:Shared) (H:Hp) (vs:List V) (Q:VK) (E:XK),fX k (A.deeper (envOfC qual scope s.heap.objs.size f cdv))->sp vs H Q E ->
      ∃t,qv (qH CX P w K mg base N qual scope f cdv A outer s H E) body t/\t { nx:=λ_ H'=>Q .non H',rt:=Q } (start N vs) H) :
    bO P w K mg base CX (k+1) f (fnOf name qual params body scope dV kV doc pm an cdv ct) ps sp:=by
  refine ⟨len,λA outer s H args us vs Q E hr e0 hb r hsp=>?_⟩;have hl:=len _ _ _ _ hsp;have KX:K.In s.heap:=e0.mod.DD.keeps λb o e=>(e0.bs b o e).1;have lim:s.heap.NoLimit:=e0.mod.nolimit.keeps λb o e=>(e0.bs b o e).1;have hkind:∀y∈ps.zip us,scope.names.lookup y.1=some .local\/(scope.names.lookup y.1=some .cell/\((cellsFrom (s.heap.objs.size+1) scope.names []).lookup y.1).isSome=true):= by
    rintro ⟨n,v⟩ hy;rcases S.par n (List.of_mem_zip hy).1 with q | q
    · exact .inl q
    · exact .inr ⟨q,cellsFrom_some _ _ _ (.inl q)⟩
  refine codeAny_call_function hr.depth (KX _ _ lk) rfl S.co S.gen rfl (PySem.W.codeRec_of KX hcd) (hb _ _ _ _ ?_);refine wpAny_newFunctionEnv_cells S.kind hkind λenv he s1 x=>?_;subst he;refine ⟨lim.keeps x.toInCall.keep,codeAny_func ?_⟩;obtain ⟨t,ht,hq⟩:=hbody A outer s H vs Q E (hr.deeper _) hsp;have I:Inv (qH CX P w K mg base N qual scope f cdv A outer s H E) [] (start N vs) H s1:=wO S hr.hd e0 hl r x;refine wpAny_mono (ht [] s1 (start N vs) H _ I hq) (λfl s' hs=>?_) λe s' hs=>hs;have fin:∀{σ':St} {H':Hp} {v:V} {u:Value},Inv (qH CX P w K mg base N qual scope f cdv A outer s H E) [] σ' H' s'->RelV v u->Q v H'->CE outer P w H s Q u s':=
    λ{σ' H' v u} J rv q=>⟨v,H',J.os,J.bare,J.base,J.bK,rv,q⟩
  cases fl with
  | ret u =>
    obtain ⟨v,σ',H',J,rv,q⟩:=hs;exact fin J rv q
  | next =>
    obtain ⟨σ',H',J,q⟩:=hs;exact fin (v:=V.non) (u:=Value.none) J rfl q
  | brk =>
    obtain ⟨_,_,_,q⟩:=hs;exact False.elim q
  | cont =>
    obtain ⟨_,_,_,q⟩:=hs;exact False.elim q
end L2
namespace L2
open PySem PySem.Spec PyProof.Rows
section
variable {X:Cx} {x:Str} {p pos:Pos} {e:Expr} {es:List Expr} {t:TA} {id T:String} {r:List V->Hp->VK->Prop}
noncomputable def EJ (r:List V->Hp->VK->Prop)(t:TA):TE:=λσ H Q=>t σ H λvs H1=>r vs H1 Q
theorem td (hc:hJ X (.builtin id) r)(hg:Gl X x)(hm:X.mg x=none)(hv:bootBuiltins x=some (.builtin id))(ha:PA X (e::es) t)(hn:autoParam (x≠"__name__") aZb._auto_1)(hdb:autoParam ((x == ("__debug__" : Str))=false) aZb._auto_1)
    (he:autoParam (starEach (e::es) X.env=(false,eval e X.env)::starEach es X.env) aZa._auto_1) (hpl:autoParam ((backTo pos (starEach es X.env)).any (·.1)=false) aZa._auto_1):PE X (.Call (.Name x p) (e::es) [] pos) (EJ r t):=by
  intro pins s σ H Q I h;refine wpAny_Call_Name_kw (fh I hg hm hv ?_ hn hdb);exact PyProof.Rows.callWith_builtin1 (de (ha pos pins s σ H _ I h) (by rintro us s1 ⟨vs,H1,I1,r1,q1⟩;exact hc pins s1 σ H1 vs us Q I1 r1 q1)) he hpl
theorem mF (hc:hJ X (.type T) r)(hg:Gl X x)(hm:X.mg x=none)(hv:bootBuiltins x=some (.type T))(ha:PA X (e::es) t)(hn:autoParam (x≠"__name__") aZb._auto_1)(hdb:autoParam ((x == ("__debug__" : Str))=false) aZb._auto_1)
    (he:autoParam (starEach (e::es) X.env=(false,eval e X.env)::starEach es X.env) aZa._auto_1) (hpl:autoParam ((backTo pos (starEach es X.env)).any (·.1)=false) aZa._auto_1):PE X (.Call (.Name x p) (e::es) [] pos) (EJ r t):=by
  intro pins s σ H Q I h;refine wpAny_Call_Name_kw (fh I hg hm hv ?_ hn hdb);exact PyProof.Rows.callWith_type1 (de (ha pos pins s σ H _ I h) (by rintro us s1 ⟨vs,H1,I1,r1,q1⟩;exact hc pins s1 σ H1 vs us Q I1 r1 q1)) he hpl
end
end L2
namespace HT
open PySem PyProof.Rows
section
open PySem.SeqAt
open PySem.AutoSeq1 (wpAny_loadPart')
open PySem.MeetsSeq PySem.MeetsSeq2 PySem.MeetsSeq3
end
section
variable {prog:Program} {w:World} {A:Around} {E:Value->Shared->Prop} {s:Shared}
theorem zH {t b:Addr}{vs ws:List Value}{Q:Value->Shared->Prop}(ht:IsTup s.heap t vs.toArray)(hb:IsTup s.heap b ws.toArray)(hv:vs≠[])
    (h1:ws = []->Q (.ref t) s) (h2:ws≠[]->Q (.ref s.heap.objs.size) { s with heap:=s.heap.push { cls:=.type "tuple",data:=.seq (vs++ws).toArray } })
    (hsz:vs.length+ws.length<=sizeLine):wpAny (model prog w) A (binaryOp .Add (.ref t) (.ref b)) Q E s:=by
  obtain ⟨⟨cls,dd,data,sl⟩,ho,hc,n,hd⟩:=id ht;obtain ⟨⟨cls2,dd2,data2,sl2⟩,ho2,hc2,n2,hd2⟩:=id hb;simp only at hc hd hc2 hd2;subst hc hd hc2 hd2;have e:vs.toArray++ws.toArray=(vs++ws).toArray:=by simp
  by_cases hw:ws = []
  · exact concat_meets ⟨_,ho,rfl⟩ ⟨_,ho2,rfl⟩ noFill_tuple_add seq_tuple_add PySem.F.slot_tuple_add PySem.F.entry_tuple_add (PySem.F.args_tuple_add_2 _ _)
      (tuple_addW1 t b vs.toArray ws.toArray n n2 dd dd2 sl sl2 (by simpa using hv) (by simp[hw])) ⟨ho,ho2,h1 hw⟩
  · refine concat_meets ⟨_,ho,rfl⟩ ⟨_,ho2,rfl⟩ noFill_tuple_add seq_tuple_add PySem.F.slot_tuple_add PySem.F.entry_tuple_add (PySem.F.args_tuple_add_2 _ _)
      (tuple_addW2 t b vs.toArray ws.toArray n n2 dd dd2 sl sl2 (by simpa using hv) (by simpa using hw) (by rw[size_toArray,size_toArray];exact hsz)) ⟨ho,ho2,?_⟩
    rw[e];exact h2 hw
noncomputable def fv (n d:Nat):Option Int->Nat
  | none=>d
  | some v=>if v<0 then (v+(n:Int)).toNat else min v.toNat n
theorem tK (n d:Nat):fv n d none=d:=rfl
theorem vY (n d k:Nat):fv n d (some (k:Int))=min k n:=by
  show (if (k:Int)<0 then ((k:Int)+(n:Int)).toNat else min (k:Int).toNat n)=min k n;rw[if_neg (by lia),Int.toNat_natCast]
theorem CD (n d:Nat)(hd:d<=n)(o:Option Int):fv n d o<=n:=by
  cases o with
  | none=>exact hd
  | some v =>
    show (if v<0 then (v+(n:Int)).toNat else min v.toNat n)<=n;by_cases hv:v<0
    · rw[if_pos hv];lia
    · rw[if_neg hv];exact Nat.min_le_right _ _
theorem u7 (v:Int)(n d:Nat):(if v<0 then max (v+(n:Int)) 0 else min v (n:Int))=((fv n d (some v):Nat):Int):=by
  show (if v<0 then max (v+(n:Int)) 0 else min v (n:Int))=(((if v<0 then (v+(n:Int)).toNat else min v.toNat n):Nat):Int)
  by_cases hv:v<0
  · simp only[if_pos hv];lia
  · simp only[if_neg hv];lia
theorem uc (lo hi:Option Int)(n:Nat):Builtin.Slice.sliceAdjust lo hi 1 (n:Int)=(((fv n 0 lo:Nat):Int),((fv n n hi:Nat):Int)):=by
  have h1:¬((1:Int)<0):=by lia
  unfold Builtin.Slice.sliceAdjust;simp only[h1,if_false];refine Prod.ext ?_ ?_
  · cases lo with
    | none=>rfl
    | some v=>exact u7 v n 0
  · cases hi with
    | none=>rfl
    | some v=>exact u7 v n n
theorem uG (i j:Nat):Builtin.Slice.slicePlaces (i:Int) (j:Int) 1=j - i:=by
  unfold Builtin.Slice.slicePlaces;have h1:(1:Int)>0:=by lia
  simp only[h1,if_true,Int.ediv_one];split<;>lia
theorem oK {v:Value}{o:Option Int}{Q:Option Int->Shared->Prop}(p:IsPart v o)(h:Q o s):wpAny (model prog w) A (Builtin.Slice.slicePartIndex v) Q E s:=by
  cases p with
  | none=>exact slicePart_none h
  | int i t=>exact slicePart_int h
theorem mK {sl:Addr}{vl vu:Value}{lo hi:Option Int}{n:Nat}{Q:Int×Int×Nat->Shared->Prop}(hs:s.heap.IsSliceOf sl vl vu .none)(pl:IsPart vl lo)(pu:IsPart vu hi)
    (h:Q (((fv n 0 lo:Nat):Int),1,fv n n hi - fv n 0 lo) s):wpAny (model prog w) A (Builtin.Slice.sliceApplied (.ref sl) (pure (n:Int))) Q E s:=by
  obtain ⟨os,hos,hcs,hds⟩:=id hs;unfold Builtin.Slice.sliceApplied Builtin.Slice.sliceFields;refine wpAny_bind (wpAny_bind (wpAny_field hos hds (x:=vl) rfl (wpAny_bind (wpAny_field hos hds (x:=vu) rfl (wpAny_bind (wpAny_field hos hds (x:=.none) rfl (wpAny_pure ?_)))))));refine wpAny_bind (slicePart_none ?_);show wpAny _ _ (if ((1:Int) == 0)=true then _ else _) _ _ s;rw[if_neg (by decide)];refine wpAny_bind (oK pl (wpAny_bind (oK pu (wpAny_bind (wpAny_pure ?_)))));show wpAny _ _ (match Builtin.Slice.sliceAdjust lo hi 1 (n:Int) with | (lo,hi)=>pure (lo,(1:Int),Builtin.Slice.slicePlaces lo hi 1)) _ _ s;rw[uc lo hi n];show wpAny _ _ (pure (((fv n 0 lo:Nat):Int),(1:Int),Builtin.Slice.slicePlaces ((fv n 0 lo:Nat):Int) ((fv n n hi:Nat):Int) 1)) _ _ s;rw[uG];exact wpAny_pure h
theorem yX (xs:Array Value)(i k:Nat):((List.range k).filterMap λ(m:Nat)=>xs[((i:Int)+(m:Int)*1).toNat]?).toArray=((xs.toList.drop i).take k).toArray:=by
  have e:(λ(m:Nat)=>xs[((i:Int)+(m:Int)*1).toNat]?)=λm=>xs[i+m]?:=by
    funext m
    have:((i:Int)+(m:Int)*1).toNat=i+m:=by lia
    rw[this]
  rw[e];have:=pick_run xs i k;rw[List.filterMap_map] at this;have e2:((λx=>xs[x]?)∘λx=>i+x)=λm=>xs[i+m]?:=rfl;rw[e2] at this;rw[this]
theorem lE {t sl:Addr}{items:Array Value}{vl vu:Value}{lo hi:Option Int}{Q:Value->Shared->Prop}(ht:IsTup s.heap t items)(hs:s.heap.IsSliceOf sl vl vu .none)(pl:IsPart vl lo)(pu:IsPart vu hi)
    (hw:¬(fv items.size 0 lo=0/\fv items.size items.size hi=items.size))
    (h:Q (.ref s.heap.objs.size) { s with heap:=s.heap.push { cls:=.type "tuple",data:=.seq ((items.toList.drop (fv items.size 0 lo)).take (fv items.size items.size hi - fv items.size 0 lo)).toArray } })
    (hsz:items.size<=sizeLine):wpAny (model prog w) A (getItem (.ref t) (.ref sl)) Q E s:=by
  have htake:sizeOk (.seq ((items.toList.drop (fv items.size 0 lo)).take (fv items.size items.size hi - fv items.size 0 lo)).toArray):=by
    show ((items.toList.drop (fv items.size 0 lo)).take (fv items.size items.size hi - fv items.size 0 lo)).toArray.size<=sizeLine;rw[size_toArray,length_take,length_drop,length_toList];lia
  have hj:fv items.size items.size hi<=items.size:=CD _ _ (Nat.le_refl _) hi;obtain ⟨os,hos,hcs,hds⟩:=id hs;have hTs:s.TypeIs (.ref sl) "slice":=⟨os,hos,hcs⟩
  unfold getItem;try with_reducible refine wpAny_holding ?_
  first | refine wpAny_bind (wpAny_pure ?_) | skip
  refine wpAny_bind (wpAny_sequenceKey ht.typeIs (by decide) ?_);refine wpAny_bind (wpAny_callSpecial?_slot (name:=Str.ofString "__getitem__") ht.typeIs PyProof.Rows.slot_tuple_getitem
    (wpAny_call_entry PyProof.Rows.slot_tuple_getitem ht.typeIs entry_tuple_getitem ?_ (args_tuple_getitem _ _)))
  show wpAny _ _ (Builtin.Tuple.tupleItemsOf (.ref t) >>= _) _ _ s;refine wpAny_bind (tupleItemsOf_ ht ?_);refine wpAny_bind (wpAny_typeOf hTs ?_);rw[if_pos (by decide)];refine wpAny_bind (mK hs pl pu ?_);have hno:¬((((fv items.size 0 lo:Nat):Int) == 0 && (1:Int) == 1 && (fv items.size items.size hi - fv items.size 0 lo) == items.size)=true):=by
    intro q;rw[Bool.and_eq_true,Bool.and_eq_true] at q;have q1:((fv items.size 0 lo:Nat):Int)=0:=eq_of_beq q.1.1;have q2:fv items.size items.size hi - fv items.size 0 lo=items.size:=eq_of_beq q.2;exact hw ⟨by lia,by lia⟩
  show wpAny _ _ (if (((fv items.size 0 lo:Nat):Int) == 0 && (1:Int) == 1 && (fv items.size items.size hi - fv items.size 0 lo) == items.size)=true then _ else _) _ _ s;rw[if_neg hno,yX];first
    | exact wpAny_bind (m:=Builtin.Tuple.tupleExact _) (wpAny_newObj_type (wpAny_pure ⟨_,rfl,wpAny_pure h⟩) htake)
    | exact wpAny_bind (m:=Builtin.Tuple.tupleExact _) (wpAny_newObj_type (wpAny_bind (wpAny_pure (wpAny_pure ⟨_,rfl,wpAny_pure h⟩))) htake)
    | exact wpAny_bind (wpAny_bind (m:=Builtin.Tuple.tupleExact _) (wpAny_newObj_type (wpAny_pure (wpAny_pure ⟨_,rfl,wpAny_pure h⟩)) htake))
    | exact wpAny_bind (wpAny_bind (m:=Builtin.Tuple.tupleExact _) (wpAny_newObj_type (wpAny_pure ⟨_,rfl,wpAny_pure h⟩) htake))
end
end HT
namespace L2
open PySem PySem.Spec PyProof.Rows
noncomputable abbrev TO:=St->Hp->(Option Int->Hp->Prop)->Prop
noncomputable def PO (X:Cx)(e:Option Expr)(t:TO):Prop:=
  ∀(pins:List (Addr×Obj)) (s:Shared) (σ:St) (H:Hp) (Q:Option Int->Hp->Prop),Inv X pins σ H s->t σ H Q ->
    wpAny (model X.prog X.w) X.A (evalPart e X.env) (λu s'=>∃o H',Inv X pins σ H' s'/\IsPart u o/\Q o H') X.xe s
noncomputable def AQ:TO:=λ_ H Q=>Q none H
noncomputable def Ep (t:TE):TO:=λσ H Q=>t σ H λx H1=>∃i,x=.int i/\Q (some i) H1
theorem intsAre_of {ns:List Int}:∀{us:List Value},Vals (ns.map V.int) us->IntsAre us ns:=by
  induction ns with
  | nil=>intro us r;rw[List.map_nil] at r;cases r;exact .nil
  | cons n ns ih =>
    intro us r;rw[map_cons] at r;cases r with
    | cons r1 r2 =>
      obtain ⟨t,e⟩:=r1;subst e;exact .cons n t (ih r2)
section
variable {X:Cx} {e:Expr} {te:TE} {lo hi:Option Expr} {tl th:TO} {pos p2:Pos}
theorem AB:PO X none AQ:=by
  intro pins s σ H Q I h;rw[evalPart_none];exact wpAny_pure ⟨none,H,I,.none,h⟩
theorem AD (h:PE X e te):PO X (some e) (Ep te):=by
  intro pins s σ H Q I hw;rw[evalPart_some];refine de (h pins s σ H _ I hw) ?_;rintro u s1 ⟨x,H1,I1,r1,q1⟩;obtain ⟨i,rfl,q⟩:=q1;obtain ⟨t,rfl⟩:=r1;exact ⟨some i,H1,I1,.int i t,q⟩
noncomputable def Bt (X:Cx)(r:V->Option Int->Option Int->Hp->VK->Prop):Prop:=
  ∀(pins:List (Addr×Obj)) (s:Shared) (σ:St) (H:Hp) (x:V) (v vl vu:Value) (lo hi:Option Int) (sl:Addr) (Q:VK),Inv X pins σ H s->RelV x v->s.heap.IsSliceOf sl vl vu .none->IsPart vl lo->IsPart vu hi->r x lo hi H Q ->
    ∃T id,typeLookup (.type T) "__getitem__" = pure (some (.builtin id))/\s.TypeIs v T/\wpAny (model X.prog X.w) X.A (getItem v (.ref sl)) (EP X pins σ Q) X.xe s
theorem Bt.or {r r':V->Option Int->Option Int->Hp->VK->Prop}(h:Bt X r)(h':Bt X r'):Bt X (λx lo hi H Q=>r x lo hi H Q\/r' x lo hi H Q):=by
  intro pins s σ H x v vl vu lo hi sl Q I rx hs pl pu q;rcases q with q | q
  · exact h pins s σ H x v vl vu lo hi sl Q I rx hs pl pu q
  · exact h' pins s σ H x v vl vu lo hi sl Q I rx hs pl pu q
noncomputable def Gd (r:V->Option Int->Option Int->Hp->VK->Prop)(te:TE)(tl th:TO):TE:=λσ H Q=>te σ H λx H1=>tl σ H1 λl H2=>th σ H2 λu H3=>r x l u H3 Q
theorem yV {r:V->Option Int->Option Int->Hp->VK->Prop}(hr:Bt X r)(he:PE X e te)(hl:PO X lo tl)(hu:PO X hi th):PE X (.Subscript e (.Slice lo hi none p2) pos) (Gd r te tl th):=by
  intro pins s σ H Q I h;refine Subscript_ (de (he pins s σ H _ I h) ?_);rintro v s1 ⟨x,H1,I1,r1,q1⟩;refine wpAny_Slice (de (hl pins s1 σ H1 _ I1 q1) λvl s2 ⟨l,H2,I2,pl,q2⟩=>de (hu pins s2 σ H2 _ I2 q2) ?_);rintro vu s3 ⟨u,H3,I3,pu,q3⟩;rw[evalPart_none];refine wpAny_pure ?_;have I4:Inv X pins σ H3 { s3 with heap:=s3.heap.push { cls:=.type "slice",data:=.fields #[vl,vu,.none] } }:=I3.kept (t':=s3.toks) λb ob q=>Heap.get?_push_of_some _ q;obtain ⟨T,id,hT,ht,hg⟩:=hr pins { s3 with heap:=s3.heap.push { cls:=.type "slice",data:=.fields #[vl,vu,.none] } } σ H3 x v vl vu l u s3.heap.objs.size Q I4 r1 (Heap.IsSliceOf.new ..) pl pu q3;show wpAny (model X.prog X.w) X.A (subscriptTail e (.Slice lo hi none p2) v (.ref s3.heap.objs.size)) (EP X pins σ Q) X.xe { s3 with heap:=s3.heap.push { cls:=.type "slice",data:=.fields #[vl,vu,.none] } };exact tail_any (ops:=[.ref s3.heap.objs.size,v]) ht hT hg (by with_unfolding_all rfl)
noncomputable def pd (xs:List V)(lo hi:Option Int):List V:=(xs.drop (HT.fv xs.length 0 lo)).take (HT.fv xs.length xs.length hi - HT.fv xs.length 0 lo)
theorem mQ (xs:List V)(lo hi:Option Int):(pd xs lo hi).length<=xs.length:=by
  unfold pd;rw[length_take,length_drop];lia
noncomputable def Ft (K:Frag):V->Option Int->Option Int->Hp->VK->Prop:=λx lo hi H Q=>∃a xs,x=.ref a/\kX K H a xs /\
  ¬(HT.fv xs.length 0 lo=0/\HT.fv xs.length xs.length hi=xs.length)/\∀p,H p=none->Q (.ref p) (upd H p (.tup (pd xs lo hi)))
theorem CH:Bt X (Ft X.K):=by
  intro pins s σ H x v vl vu lo hi sl Q I rx hs pl pu h;obtain ⟨a,xs,rfl,hx,hw,q⟩:=h;cases rx;obtain ⟨its,r,ht,hz⟩:=I.tuple hx;have hlen:its.toArray.size=xs.length:=by rw[size_toArray];exact r.length.symm
  refine ⟨"tuple",_,PyProof.Rows.slot_tuple_getitem.lookup,ht.typeIs,?_⟩;refine HT.lE ht hs pl pu (by rw[hlen];exact hw) ?_ (by rw[hlen];exact hz);rw[hlen];refine ⟨.ref s.heap.objs.size,_,I.laid (t':=s.toks) (o:=.tup (pd xs lo hi)) (λb ob q=>Heap.get?_push_of_some _ q) (Nat.le_refl _) ?_,rfl,q _ (I.bK.fresh (Nat.le_refl _))⟩;exact ⟨Nat.le_trans (mQ xs lo hi) hz,_,(r.drop (HT.fv xs.length 0 lo)).take (HT.fv xs.length xs.length hi - HT.fv xs.length 0 lo),IsTup.new _ _⟩
noncomputable def D8 (K:Frag):R2:=λx y H Q=>∃a b xs ys,x=.ref a/\y=.ref b/\kX K H a xs/\kX K H b ys/\xs≠[]/\xs.length+ys.length<=sizeLine /\
  (ys = []->Q (.ref a) H)/\(ys≠[]->∀p,H p=none->Q (.ref p) (upd H p (.tup (xs++ys))))
theorem Vals.qX {xs:List V}{us:List Value}(r:Vals xs us):us = []↔xs = []:=by
  cases r with
  | nil=>simp
  | cons _ _=>simp
theorem Ao:jS X (binaryOp .Add) (D8 X.K):=by
  intro pins s σ H x y v u Q I rx ry h;obtain ⟨a,b,xs,ys,rfl,rfl,ha,hb,hx,hz,q1,q2⟩:=h;cases rx;cases ry;obtain ⟨its,r1,p1,_⟩:=I.tuple ha;obtain ⟨its2,r2,p2,_⟩:=I.tuple hb;refine HT.zH p1 p2 (λz=>hx (r1.qX.mp z)) (λz=>⟨.ref a,H,I,rfl,q1 (r2.qX.mp z)⟩) (λz=>?_) (by rw[<-r1.length,<-r2.length];exact hz);refine ⟨.ref s.heap.objs.size,_,I.laid (t':=s.toks) (o:=.tup (xs++ys)) (λb ob q=>Heap.get?_push_of_some _ q) (Nat.le_refl _) ?_,rfl,q2 (λw=>z (r2.qX.mpr w)) _ (I.bK.fresh (Nat.le_refl _))⟩;exact ⟨by rw[length_append];exact hz,_,r1.append r2,IsTup.new _ _⟩
end
end L2
namespace L2
open PySem PySem.Spec PyProof.Rows
noncomputable def qf (n:Nat)(i:Int):Option Nat:=if 0<=i then (if i<n then some i.toNat else none) else if -(n:Int)<=i then some (i+n).toNat else none
noncomputable def fm {α:Type}(xs:List α)(i:Int):Option α:=(qf xs.length i).bind λj=>xs[j]?
theorem vJ {n:Nat}{i:Int}{j:Nat}(h:qf n i=some j):seqIndex? i n=some j/\j<n/\-(n:Int)<=i/\i<n:=by
  unfold qf at h;by_cases h0:0<=i
  · rw[if_pos h0] at h;by_cases h1:i<n
    · rw[if_pos h1] at h;have e:i.toNat=j:=Option.some.inj h;exact ⟨by rw[seqIndex_of h0 h1,e],by lia,by lia,h1⟩
    · rw[if_neg h1] at h;cases h
  · rw[if_neg h0] at h;by_cases h1 : -(n:Int)<=i
    · rw[if_pos h1] at h;have e:(i+n).toNat=j:=Option.some.inj h;exact ⟨by rw[seqIndex_neg (by lia) h1,e],by lia,h1,by lia⟩
    · rw[if_neg h1] at h;cases h
theorem kZ {α:Type}{xs:List α}{i:Int}{v:α}(h:fm xs i=some v):∃j,seqIndex? i xs.length=some j/\xs[j]?=some v/\j<xs.length/\-(xs.length:Int)<=i/\i<xs.length:=by
  unfold fm at h;cases e:qf xs.length i with
  | none=>rw[e] at h;cases h
  | some j =>
    rw[e] at h;obtain ⟨h1,h2,h3,h4⟩:=vJ e;exact ⟨j,h1,h,h2,h3,h4⟩
theorem lj {α:Type}{xs:List α}{j:Nat}{v:α}(h:xs[j]?=some v):fm xs (j:Int)=some v:=by
  have hj:j<xs.length:=(List.getElem?_eq_some_iff.mp h).1;have e:qf xs.length (j:Int)=some j:=by
    unfold qf;rw[if_pos (by lia),if_pos (by lia)];simp
  unfold fm;rw[e];exact h
noncomputable def ni (b:Expr):Prop:=∀o i,subscripted b false o i=operate [o,i] (getItem o i)
noncomputable def zC (X:Cx)(r:R2):Prop:=
  ∀(value slice:Expr) (pins:List (Addr×Obj)) (s:Shared) (σ:St) (H:Hp) (x y:V) (v u:Value) (Q:VK),Inv X pins σ H s->RelV x v->RelV y u->r x y H Q ->
    subscripted slice false v u=operate [v,u] (getItem v u)->wpAny (model X.prog X.w) X.A (subscriptTail value slice v u) (EP X pins σ Q) X.xe s
noncomputable def FW (X:Cx)(id:String)(r:V->List V->Hp->VK->Prop):Prop:=
  ∀(pins:List (Addr×Obj)) (s:Shared) (σ:St) (H:Hp) (x:V) (xs:List V) (v:Value) (us:List Value) (Q:VK),Inv X pins σ H s->RelV x v->Vals xs us->r x xs H Q ->
    wpAny (model X.prog X.w) X.A (call (.builtin id) (v::us)) (EP X pins σ Q) X.xe s
section
variable {X:Cx} {a b:Expr} {ta tb:TE} {pos:Pos}
theorem zC.or {r r':R2}(h:zC X r)(h':zC X r'):zC X (λx y H Q=>r x y H Q\/r' x y H Q):=by
  intro value slice pins s σ H x y v u Q I rx ry q hs;rcases q with q | q
  · exact h value slice pins s σ H x y v u Q I rx ry q hs
  · exact h' value slice pins s σ H x y v u Q I rx ry q hs
theorem oz {r:R2}(hr:zC X r)(ha:PE X a ta)(hb:PE X b tb)(hs:ni b):PE X (.Subscript a b pos) (Eo r ta tb):=by
  intro pins s σ H Q I h;exact Subscript_ (Bz ha hb I h λv u s2 x y H2 I2 rx ry q=>hr a b pins s2 σ H2 x y v u Q I2 rx ry q (hs _ _))
noncomputable def AK (K:Frag):R2:=λx y H Q=>∃p xs i v,x=.ref p/\y=.int i/\d6 K H p xs/\fm xs i=some v/\Q v H
noncomputable def Eb (K:Frag):R2:=λx y H Q=>∃p xs i v,x=.ref p/\y=.int i/\kX K H p xs/\fm xs i=some v/\Q v H
noncomputable def Ea:R2:=λx y H Q=>∃z i c,x=.str z/\y=.int i/\z.length<=sizeLine/\fm z.cps.toList i=some c/\Q (.str ⟨#[c]⟩) H
theorem Ab:zC X (AK X.K):=by
  intro value slice pins s σ H x y v u Q I rx ry h hs;obtain ⟨p,xs,i,z,rfl,rfl,hq,he,q⟩:=h;cases rx;obtain ⟨t,rfl⟩:=ry;obtain ⟨its,r,pl,hz⟩:=I.list hq;obtain ⟨j,h1,h2,h3,h4,h5⟩:=kZ he;obtain ⟨w,ew,rw'⟩:=r.get h2;have hl:=r.length;have hn:=jE;have fin:EP X pins σ Q w s:=⟨z,H,I,rw',q⟩
  by_cases h0:0<=i
  · have hj:i.toNat=j:=by
      rw[seqIndex_of h0 h5] at h1;exact Option.some.inj h1
    exact item_listR pl.isList h0 (by lia) (by rw[hj];simpa using ew) fin hs
  · have hj:(i+(its.toArray.size:Int)).toNat=j:=by
      rw[seqIndex_neg (by lia) h4] at h1;rw[size_toArray,<-hl];exact Option.some.inj h1
    exact subscriptTail_builtinR (x:=w) pl.isList.typeIs slot_list_getitem.lookup
      (wpAny_getItem_list_neg (Q:=λr s'=>r=w/\EP X pins σ Q r s') pl.isList (by lia) (by rw[size_toArray]<;>lia) (by lia) (by rw[hj];simpa using ew) ⟨rfl,fin⟩) hs
theorem mr:zC X (Eb X.K):=by
  intro value slice pins s σ H x y v u Q I rx ry h hs;obtain ⟨p,xs,i,z,rfl,rfl,hq,he,q⟩:=h;cases rx;obtain ⟨t,rfl⟩:=ry;obtain ⟨its,r,pl,hz⟩:=I.tuple hq;obtain ⟨j,h1,h2,h3,h4,h5⟩:=kZ he;obtain ⟨w,ew,rw'⟩:=r.get h2;have hl:=r.length;have hn:=jE;have fin:EP X pins σ Q w s:=⟨z,H,I,rw',q⟩
  exact subscriptTail_builtinR (x:=w) pl.typeIs slot_tuple_getitem.lookup
    (getItem_tuple (j:=j) (Q:=λr s'=>r=w/\EP X pins σ Q r s') pl (by lia) (by lia) (by rw[size_toArray,<-hl];exact h1) (by simpa using ew) ⟨rfl,fin⟩) hs
theorem BK:zC X Ea:=by
  intro value slice pins s σ H x y v u Q I rx ry h hs;obtain ⟨z,i,c,rfl,rfl,hz,he,q⟩:=h;obtain ⟨t,rfl⟩:=rx;obtain ⟨t',rfl⟩:=ry;obtain ⟨j,h1,h2,h3,h4,h5⟩:=kZ he;have hl:z.cps.toList.length=z.length:=by simp[Str.length]
  rw[hl] at h1 h4 h5;have hn:=jE;exact tail_any (typeIs_str s z t) slot_str_getitem.lookup (getItem_str (c:=c) (by
    have e1:decide (i < -(2 ^ 63:Int))=false:=decide_eq_false (by lia);have e2:decide (i>=2 ^ 63)=false:=decide_eq_false (by lia);rw[e1,e2,Bool.or_false]) (by rw[h1];simpa using h2) ⟨.str ⟨#[c]⟩,H,I.tok _,⟨_,rfl⟩,q⟩) hs
noncomputable def FZ (K:Frag):R2:=λx y H Q=>AK K x y H Q\/Eb K x y H Q\/Ea x y H Q
theorem yE:zC X (FZ X.K):=Ab.or (mr.or BK)
theorem ux (its:List Value)(n j:Nat)(u:Value):Obj.mapSeq (·.setIfInBounds j u) { cls:=.type "list",data:=.seq its.toArray n } = { cls:=.type "list",data:=.seq (its.set j u).toArray n }:=by
  simp[Obj.mapSeq]
theorem Inv.lst {pins:List (Addr×Obj)}{σ:St}{H:Hp}{s:Shared}{p:Addr}{xs:List V}(I:Inv X pins σ H s)(h:H p=some (.lst xs)) :
    ∃(its:List Value) (n:Nat),Vals xs its/\s.heap.get? p=some { cls:=.type "list",data:=.seq its.toArray n }/\xs.length<=sizeLine:=by
  obtain ⟨z,its,n,r,e⟩:=I.bK p _ h;exact ⟨its,n,r,e,z⟩
theorem Inv.BU {pins:List (Addr×Obj)}{σ:St}{H:Hp}{s:Shared}{p:Addr}{xs ys:List V}{its its':List Value}{n n':Nat}{f:Obj->Obj}(I:Inv X pins σ H s)(h:H p=some (.lst xs))
    (ho:s.heap.get? p=some { cls:=.type "list",data:=.seq its.toArray n }) (hf:f { cls:=.type "list",data:=.seq its.toArray n } = { cls:=.type "list",data:=.seq its'.toArray n' }) (r:Vals ys its') (hz:ys.length<=sizeLine) (t:Nat) :
    Inv X pins σ (upd H p (.lst ys)) { s with heap:=s.heap.update p f,toks:=t }:=by
  have e:(s.heap.update p f).get? p=some { cls:=.type "list",data:=.seq its'.toArray n' }:=by
    rw[Heap.get?_update_self f ho (by rw[hf]<;>rfl),hf]
  refine I.write (x:=p) (e:=p) (by rw[h];trivial) (.inl rfl) (λb u hb q=>(Heap.get?_update_other _ _ (Ne.symm hb)).trans q) ⟨_,e⟩ ?_;exact ⟨hz,its',n',r,e⟩
noncomputable def Bh:V->V->V->Hp->(Hp->Prop)->Prop:=λo i v H Q=>∃p xs k j,o=.ref p/\i=.int k/\H p=some (.lst xs)/\qf xs.length k=some j/\Q (upd H p (.lst (xs.set j v)))
theorem set_list:C8 X Bh:=by
  intro pins s σ H o i v ov iv u Q I ro ri rv h;obtain ⟨p,xs,k,j,rfl,rfl,hp,hj,q⟩:=h;cases ro;obtain ⟨t,rfl⟩:=ri;obtain ⟨its,n,r,ho,hz⟩:=I.lst hp;obtain ⟨h1,h2,h3,h4⟩:=vJ hj;have hl:=r.length;have hn:=jE;have I':Inv X pins σ (upd H p (.lst (xs.set j v))) { s with heap:=s.heap.update p (Obj.mapSeq (·.setIfInBounds j u)) }:=
    I.BU hp ho (ux its n j u) (r.set rv j) (by rw[length_set];exact hz) s.toks
  by_cases h0:0<=k
  · have hk:k.toNat=j:=by
      rw[seqIndex_of h0 h4] at h1;exact Option.some.inj h1
    exact PySem.W.ki_setAt ho h0 (by lia) (by rw[size_toArray,<-hl];exact h4) (by rw[hk];exact ⟨_,I',q⟩)
  · have hk:(k+(its.toArray.size:Int)).toNat=j:=by
      rw[seqIndex_neg (by lia) h3] at h1;rw[size_toArray,<-hl];exact Option.some.inj h1
    exact PySem.W.ki_setBack ho (by lia) (by rw[size_toArray,<-hl];exact h3) (by lia) (by rw[hk];exact ⟨_,I',q⟩)
theorem rq (lo hi:Option Int)(n:Nat):(sliceBounds lo hi none n).1=((HT.fv n 0 lo:Nat):Int)/\(sliceBounds lo hi none n).2.1=((HT.fv n n hi:Nat):Int)/\(sliceBounds lo hi none n).2.2=1:=by
  refine ⟨?_,?_,rfl⟩
  · cases lo with
    | none=>simp[sliceBounds,HT.fv]
    | some i =>
      simp only[sliceBounds,HT.fv,Option.getD_none,show (1:Int)>0 by decide,if_true];by_cases h:i<0
      · simp only[h,if_true]<;>lia
      · simp only[h,if_false]<;>lia
  · cases hi with
    | none=>simp[sliceBounds,HT.fv]
    | some i =>
      simp only[sliceBounds,HT.fv,Option.getD_none,show (1:Int)>0 by decide,if_true];by_cases h:i<0
      · simp only[h,if_true]<;>lia
      · simp only[h,if_false]<;>lia
theorem pL (its:List Value)(lo hi:Option Int):slicePick its.toArray lo hi none=((its.drop (HT.fv its.length 0 lo)).take (HT.fv its.length its.length hi - HT.fv its.length 0 lo)).toArray:=by
  obtain ⟨h1,h2,h3⟩:=rq lo hi its.toArray.size;unfold slicePick;rw[h1,h2,h3];simp only[sliceRange_one,pick_run,size_toArray]<;>rfl
noncomputable def Fs (K:Frag):V->Option Int->Option Int->Hp->VK->Prop:=λx lo hi H Q=>∃a xs,x=.ref a/\d6 K H a xs/\∀p,H p=none->Q (.ref p) (upd H p (.lst (pd xs lo hi)))
theorem AN:Bt X (Fs X.K):=by
  intro pins s σ H x v vl vu lo hi sl Q I rx hs pl pu h;obtain ⟨a,xs,rfl,hx,q⟩:=h;cases rx;obtain ⟨its,r,ht,hz⟩:=I.list hx;have hlen:=r.length;refine ⟨"list",_,slot_list_getitem.lookup,ht.isList.typeIs,?_⟩;refine wpAny_getItem_list_slice ht.isList hs pl pu .none (by simp) ?_ (by rw[size_toArray]<;>lia);rw[pL,<-hlen];refine ⟨.ref s.heap.objs.size,_,I.laid (t':=s.toks) (o:=.lst (pd xs lo hi)) (λb ob q=>Heap.get?_push_of_some _ q) (Nat.le_refl _) ?_,rfl,q _ (I.bK.fresh (Nat.le_refl _))⟩;exact ⟨Nat.le_trans (mQ xs lo hi) hz,_,0,(r.drop (HT.fv xs.length 0 lo)).take (HT.fv xs.length xs.length hi - HT.fv xs.length 0 lo),Heap.get?_push_size _ rfl⟩
noncomputable def Dq:V->Bool
  | .non=>true
  | .bl _=>true
  | .int _=>true
  | .str _=>true
  | _=>false
theorem qE:hJ X (.type "list") (λxs H Q=>∃p ys,xs = [.ref p]/\(d6 X.K H p ys\/kX X.K H p ys)/\∀l,H l=none->Q (.ref l) (upd H l (.lst ys))):=by
  intro pins s σ H xs us Q I r h;obtain ⟨p,ys,rfl,hq,q⟩:=h;obtain ⟨u,rfl,rx⟩:=vals1 r;cases rx;have fin:∀(its:List Value),Vals ys its->ys.length<=sizeLine->∀(h':Heap) (c':Nat),(∀b o',s.heap.get? b=some o'->h'.get? b=some o') ->
      h'.get? s.heap.objs.size=some { cls:=.type "list",dict:=none,data:=.seq its.toArray c',slots:=#[] }->EP X pins σ Q (.ref s.heap.objs.size) { s with heap:=h' }:=λits r' hz h' c' kp e =>
    ⟨.ref s.heap.objs.size,_,I.laid (t':=s.toks) kp (Nat.le_refl _) (show d7 X.prog X.w _ h' _ (.lst ys) from ⟨hz,its,c',r',e⟩),rfl,q _ (I.bK.fresh (Nat.le_refl _))⟩
  rcases hq with hq | hq
  · obtain ⟨its,r',pl,hz⟩:=I.list hq;have hlen:=r'.length;obtain ⟨o,ho,hc,n,hd⟩:=pl.isList;exact call_list_seq p (.inl rfl) ho hc hd (λh' c' kp e=>fin its r' hz h' c' kp e) (by simp only[size_toArray]<;>lia)
  · obtain ⟨its,r',pl,hz⟩:=I.tuple hq;have hlen:=r'.length;obtain ⟨o,ho,hc,n,hd⟩:=pl;exact call_list_seq p (.inr rfl) ho hc hd (λh' c' kp e=>fin its r' hz h' c' kp e) (by simp only[size_toArray]<;>lia)
noncomputable def FQ (K:Frag)(T:String)(x:V)(H:Hp):Prop:=match x with
  | .str _=>T = "str"
  | .int _=>T = "int"
  | .ref p=>(T = "list"/\∃xs,d6 K H p xs)\/(T = "tuple"/\∃o,K.lookup p=some o/\o.cls=.type "tuple"/\o.dict=none) \/
      (T = "dict"/\((∃kvs,H p=some (.dK kvs))\/∃kvs,H p=some (.dT kvs)))\/(T = "set"/\∃S n,H p=some (.set S n))
  | _=>False
theorem CK {pins:List (Addr×Obj)}{σ:St}{H:Hp}{s:Shared}{T:String}{x:V}{v:Value}(I:Inv X pins σ H s)(r:RelV x v)(ty:FQ X.K T x H) :
    s.TypeIs v T/\∀a,v=.ref a->∃ob,s.heap.get? a=some ob/\ob.dict=none:=by
  cases x with
  | str z =>
    obtain ⟨t,rfl⟩:=r;cases (show T = "str" from ty);exact ⟨typeIs_str s z t,λ_ e=>nomatch e⟩
  | int i =>
    obtain ⟨t,rfl⟩:=r;cases (show T = "int" from ty);exact ⟨typeIs_int s i t,λ_ e=>nomatch e⟩
  | ref p =>
    cases r;rcases ty with ⟨rfl,xs,hq⟩ | ⟨rfl,o,hk,hc,hd⟩ | ⟨rfl,hk⟩ | ⟨rfl,S,n,hk⟩
    · obtain ⟨its,_,pl,_⟩:=I.list hq;refine ⟨pl.isList.typeIs,λa e=>?_⟩;cases e;obtain ⟨o,n,e,c,hd,_⟩:=pl;exact ⟨o,e,hd⟩
    · refine ⟨⟨o,I.oZ p o hk,hc⟩,λa e=>?_⟩;cases e;exact ⟨o,I.oZ _ o hk,hd⟩
    · have z:∃o,s.heap.get? p=some o/\o.ExactDict:=by
        rcases hk with ⟨kvs,hk⟩ | ⟨kvs,hk⟩
        · obtain ⟨_,_,_,_,o,_,_,e,ex,_⟩:=I.bK p _ hk;exact ⟨o,e,ex⟩
        · obtain ⟨_,_,_,_,o,_,_,e,ex,_⟩:=I.bK p _ hk;exact ⟨o,e,ex⟩
      obtain ⟨o,e,ex⟩:=z;refine ⟨⟨o,e,ex.1⟩,λa e2=>?_⟩;cases e2;exact ⟨o,e,ex.2.1⟩
    · obtain ⟨o,_,_,_,e,ex,_⟩:=I.bK p _ hk;refine ⟨⟨o,e,ex.1⟩,λa e2=>?_⟩;cases e2;exact ⟨o,e,ex.2.1⟩
  | _=>exact False.elim ty
noncomputable def Gb (K:Frag)(T:String)(r:V->List V->Hp->VK->Prop)(to:TE)(t:TA):TE:=λσ H Q=>to σ H λx H1=>FQ K T x H1/\t σ H1 λxs H2=>r x xs H2 Q
variable {o e:Expr} {es:List Expr} {to:TE} {t:TA} {name:Str} {apos cpos:Pos} {T id:String} {r:V->List V->Hp->VK->Prop}
theorem yT (pa:PlainAttrs T)(slot:Slot T name id)(hty:typeOf (.builtin id)=pure (.type "method_descriptor"))(hm:FW X id r)(ho:PE X o to)(ha:PA X (e::es) t)
    (hbase:autoParam (attributeBase o name X.env (eval o X.env)=eval o X.env) aZa._auto_1)
    (hfew:autoParam (((backTo cpos (starEach (e::es) X.env)).all (λx=>!x.1) && (backToKw cpos (keywordEach [] X.env)).all (λx=>x.1.isSome)
      && decide ((e::es).length+([]:List Keyword).length+(if ([]:List Keyword).isEmpty then 0 else 1)<30))=true) aZa._auto_1)
    (hline:autoParam ((apos.endLine == cpos.line)=true) aZa._auto_1) (hs:autoParam (starEach (e::es) X.env=(false,eval e X.env)::starEach es X.env) aZa._auto_1) (hplain:autoParam ((backTo cpos (starEach es X.env)).any (·.1)=false) aZa._auto_1) :
    PE X (.Call (.Attribute o name apos) (e::es) [] cpos) (Gb X.K T r to t):=by
  intro pins s σ H Q I h;refine wpAny_Call_method_late hbase hfew hline rfl (de (ho pins s σ H _ I h) ?_);rintro v s1 ⟨x,H1,I1,r1,ty,q1⟩;obtain ⟨h1,h2⟩:=CK I1 r1 ty;refine ⟨T,id,pa,slot,hty,h1,h2,?_⟩;have hA:=ha cpos pins s1 σ H1 _ I1 q1;rw[hs] at hA ⊢;refine Calls.callWith_builtin (by show (false || (backTo cpos (starEach es X.env)).any (·.1))=false;rw[hplain]<;>rfl) (Calls.evalArgs_plain ?_);exact de hA (by rintro us s2 ⟨vs,H2,I2,r2,q2⟩;exact hm pins s2 σ H2 x vs v us Q I2 r1 r2 q2)
end
end L2
namespace L2
open PySem PySem.Spec PyProof.Rows
noncomputable def EO (X:Cx)(id:String)(r:V->List V->Hp->VK->Prop):Prop:=
  ∀(pins:List (Addr×Obj)) (s:Shared) (σ:St) (H:Hp) (x:V) (xs:List V) (v:Value) (us:List Value) (Q:VK),Inv X pins σ H s->RelV x v->Vals xs us->r x xs H Q ->
    wpAny (model X.prog X.w) X.A (call (.builtin id) (v::us)) (EP X pins σ Q) X.xe s
theorem Vals.one:∀{x:V} {us:List Value},Vals [x] us->∃u,us = [u]/\RelV x u
  | _,_,.cons r .nil=>⟨_,rfl,r⟩
theorem Vals.rep {xs:List V}{us:List Value}(h:Vals xs us):∀k:Nat,Vals (List.replicate k xs).flatten (List.replicate k us).flatten
  | 0=>.nil
  | k+1=>by
    rw[List.replicate_succ,List.replicate_succ,List.flatten_cons,List.flatten_cons];exact Vals.append h (Vals.rep h k)
theorem foldl_rep (its:List Value):∀(k:Nat) (acc:List Value),
    List.foldl (λx1 x2=>x1++x2) acc.toArray (List.replicate k its.toArray)=(acc++(List.replicate k its).flatten).toArray
  | 0,acc=>by simp
  | k+1,acc=>by
    have e:acc.toArray++its.toArray=(acc++its).toArray:=by simp
    have e2:(acc++its)++(List.replicate k its).flatten=acc++(List.replicate (k+1) its).flatten:=by
      rw[List.replicate_succ,List.flatten_cons,append_assoc]
    rw[<-e2,<-foldl_rep its k (acc++its),<-e,List.replicate_succ,List.foldl_cons]
section
variable {X:Cx} {pins:List (Addr×Obj)} {σ:St} {H:Hp} {s:Shared} {l b:Addr} {xs ys zs:List V}
theorem Inv.BS {its its':List Value}{n:Nat}{f:Array Value->Array Value}{t':Nat}(I:Inv X pins σ H s)(hH:H l=some (.lst xs))
    (e:s.heap.get? l=some { cls:=.type "list",data:=.seq its.toArray n }) (hf:f its.toArray=its'.toArray) (hv:Vals ys its') (hz:ys.length<=sizeLine) :
    Inv X pins σ (upd H l (.lst ys)) { s with heap:=s.heap.update l (Obj.mapSeq f),toks:=t' }:=by
  have q:=PySem.IsL.update e f;rw[hf] at q;refine I.write (x:=l) (e:=l) (by rw[hH];exact trivial) (.inl rfl) (λb' u hb hu=>(Heap.get?_update_other s.heap (Obj.mapSeq f) (Ne.symm hb)).trans hu) ⟨_,q⟩ ?_;exact ⟨hz,its',_,hv,q⟩
theorem Inv.BR {its:List Value}{t':Nat}(I:Inv X pins σ H s)(hv:Vals ys its)(hz:ys.length<=sizeLine) :
    Inv X pins σ (upd H s.heap.objs.size (.lst ys)) { s with heap:=s.heap.push { cls:=.type "list",data:=.seq its.toArray },toks:=t' }:=
  I.laid (λ_ _ q=>Heap.get?_push_of_some _ q) (Nat.le_refl _) ⟨hz,its,0,hv,Heap.get?_push_size _ rfl⟩
theorem Inv.fresh (I:Inv X pins σ H s):H s.heap.objs.size=none:=I.bK.fresh (Nat.le_refl _)
theorem Inv.uw (I:Inv X pins σ H s)(hH:H l=some (.lst xs)):xs.length<=sizeLine/\∃(its:List Value) (n:Nat),Vals xs its/\xs.length=its.length/\s.heap.get? l=some { cls:=.type "list",data:=.seq its.toArray n }:=by
  obtain ⟨z,its,n,r,e⟩:=I.bK l _ hH;exact ⟨z,its,n,r,r.length,e⟩
theorem sP {n:Nat}(h:n<=sizeLine):Builtin.List.listTooLong n=false:=by
  unfold Builtin.List.listTooLong;exact decide_eq_false (by lia)
end
section
variable {X:Cx}
noncomputable def vV:V->List V->Hp->VK->Prop:=λx vs H Q=>∃l xs y,x=.ref l/\vs = [y]/\H l=some (.lst xs)/\xs.length<sizeLine/\Q .non (upd H l (.lst (xs++[y])))
theorem my:EO X "list.append" vV:=by
  intro pins s σ H x vs v us Q I rx rv h;obtain ⟨l,xs,y,rfl,rfl,hH,hz,q⟩:=h;cases rx;obtain ⟨u,rfl,ru⟩:=rv.one;obtain ⟨z,its,n,r,hl,e⟩:=I.uw hH;refine call_meets F.slot_list_append ⟨_,e,rfl⟩ F.entry_list_append (F.args_list_append_2 _ _) (PySem.list_append l its.toArray n u (by rw[size_toArray];lia)) ⟨e,?_⟩;refine ⟨.non,_,I.BS (its':=its++[u]) hH e (by simp) (r.append (.cons ru .nil)) ?_,rfl,q⟩;rw[length_append,List.length_singleton];lia
noncomputable def AH:V->List V->Hp->VK->Prop:=λx vs H Q=>∃l b xs zs,x=.ref l/\vs = [.ref b]/\H l=some (.lst xs)/\H b=some (.lst zs)/\xs.length+zs.length<=sizeLine/\Q .non (upd H l (.lst (xs++zs)))
theorem CY:EO X "list.extend" AH:=by
  intro pins s σ H x vs v us Q I rx rv h;obtain ⟨l,b,xs,zs,rfl,rfl,hH,hB,hz,q⟩:=h;cases rx;obtain ⟨u,rfl,ru⟩:=rv.one;cases ru;obtain ⟨z,its,n,r,hl,e⟩:=I.uw hH;obtain ⟨z2,its2,n2,r2,hl2,e2⟩:=I.uw hB;have hsz:its.toArray.size+its2.toArray.size<=sizeLine:=by rw[size_toArray,size_toArray];lia
  have hlong:¬(!its.toArray.isEmpty && Builtin.List.listTooLong (its.toArray.size+its2.toArray.size))=true:=by
    rw[sP hsz,Bool.and_false];exact Bool.false_ne_true
  refine call_meets F.slot_list_extend ⟨_,e,rfl⟩ F.entry_list_extend (F.args_list_extend_2 _ _)
    (AutoSeq1.list_extend_list_list_0 l its.toArray n b its2.toArray n2 hlong (by rw[size_toArray];lia) (by lia)) ⟨e,e2,?_⟩
  refine ⟨.non,_,I.BS (its':=its++its2) hH e (by simp) (r.append r2) ?_,rfl,q⟩;rw[length_append];lia
noncomputable def Fo:R2:=λx y H Q=>∃l b xs zs,x=.ref l/\y=.ref b/\H l=some (.lst xs)/\H b=some (.lst zs)/\xs.length+zs.length<=sizeLine/\∀p,H p=none->Q (.ref p) (upd H p (.lst (xs++zs)))
theorem B7:jS X (binaryOp .Add) Fo:=by
  intro pins s σ H x y v u Q I rx ry h;obtain ⟨l,b,xs,zs,rfl,rfl,hH,hB,hz,q⟩:=h;cases rx;cases ry;obtain ⟨z,its,n,r,hl,e⟩:=I.uw hH;obtain ⟨z2,its2,n2,r2,hl2,e2⟩:=I.uw hB;refine PySem.P.add_list e e2 ?_ (by rw[size_toArray,size_toArray];lia);have ea:its.toArray++its2.toArray=(its++its2).toArray:=by simp
  rw[ea];exact ⟨.ref _,_,I.BR (t':=s.toks) (r.append r2) (by rw[length_append];lia),rfl,q _ I.fresh⟩
noncomputable def Fq:R2:=λx y H Q=>∃l k xs,x=.ref l/\y=.int k/\H l=some (.lst xs)/\-(2 ^ 63)<=k/\k<2 ^ 63/\xs.length*k.toNat<=sizeLine /\
  ∀p,H p=none->Q (.ref p) (upd H p (.lst (List.replicate k.toNat xs).flatten))
theorem len_rep {α:Type}(xs:List α)(k:Nat):(List.replicate k xs).flatten.length=k*xs.length:=by
  induction k with
  | zero=>simp
  | succ k ih=>rw[List.replicate_succ,List.flatten_cons,length_append,ih,Nat.succ_mul,Nat.add_comm]
theorem Ce:jS X (binaryOp .Mult) Fq:=by
  intro pins s σ H x y v u Q I rx ry h;obtain ⟨l,k,xs,rfl,rfl,hH,h1,h2,hz,q⟩:=h;cases rx;obtain ⟨t,rfl⟩:=ry;obtain ⟨z,its,n,r,hl,e⟩:=I.uw hH;have hlen:its.toArray.size*k.toNat<=sizeLine:=by rw[size_toArray,<-hl];exact hz
  have hcap:¬its.toArray.size*k.toNat>(2 ^ 63 - 1) / 8:=by
    have:(sizeLine:Nat)<=(2 ^ 63 - 1) / 8:=by decide
    lia
  have hfit:¬(!Builtin.List.listFitsIndex k)=true:=by
    rw[fitsIndex_both h1 h2];exact Bool.false_ne_true
  have hlong:¬Builtin.List.listTooLong (its.toArray.size*k.toNat)=true:=by
    rw[sP hlen];exact Bool.false_ne_true
  have hnew:List.foldl (λx1 x2=>x1++x2) #[] (List.replicate (if its.toArray.isEmpty=true then 0 else k.toNat) its.toArray)=(List.replicate k.toNat its).flatten.toArray:=by
    have f0:∀m:Nat,List.foldl (λx1 x2=>x1++x2) #[] (List.replicate m its.toArray)=(List.replicate m its).flatten.toArray:=λm=>by
      have:=foldl_rep its m [];rw[List.nil_append] at this;exact this
    rw[f0];cases its with
    | nil=>simp
    | cons a r'=>rw[if_neg (by simp)]
  refine wpAny_binaryOp_repeat_ref (T:="list") (U:="int") (by decide) ⟨_,e,rfl⟩ (λs'=>typeIs_int s' k t) noFill_list_mul F.fills_int_mul F.slot_int_rmul repeat_list F.slot_int_index.lookup
    (call_meets F.slot_int_rmul (typeIs_int s k t) F.entry_int_rmul (F.args_int_rmul_2 _ _) (int___rmul___int_list k t l its.toArray n)
      ⟨e,rfl,⟨_,e,rfl⟩,call_meets F.slot_list_mul ⟨_,e,rfl⟩ F.entry_list_mul (F.args_list_mul_2 _ _) (AutoListH.list___mul___list_int_3 l its.toArray n k t hfit hcap hlong) ⟨e,?_⟩⟩)
  rw[hnew];exact ⟨.ref _,_,I.BR (t':=s.toks) (r.rep k.toNat) (by rw[len_rep,Nat.mul_comm];exact hz),rfl,q _ I.fresh⟩
end
section
variable {prog:Program} {w:World} {A:Around} {E:Value->Shared->Prop} {s:Shared}
end
section
variable {X:Cx}
end
end L2
namespace Att
open PySem PySem.W PySem.Calls PyProof.Rows
theorem mX {P:Params}{h:Heap}:∀(ns:List Int) (vs:List Value),WellAll P h vs (ns.map WData.int)->IntsAre vs ns:=by
  intro ns;induction ns with
  | nil =>
    intro vs w;rw[List.map_nil] at w;cases w;exact .nil
  | cons n ns ih =>
    intro vs w;rw[map_cons] at w;cases w with
    | cons a b =>
      cases a;exact .cons _ _ (ih _ b)
theorem xp {l:OpenLaw}{n:Nat}(hn:l.most=some n){P:Params}{h:Heap}{args:List WData}{vals:List Value}
    (hpre:l.row.toRowW.claim.pre args=true) (hwl:WellAll P h vals args) :
    ∃a vs ns,vals = [Value.ref a]/\args = [WData.list (ns.map WData.int)]/\h.get? a=some { cls:=.type "list",data:=.seq vs.toArray }/\IntsAre vs ns/\ns.length<=n:=by
  have hsh:WShape.hasAll [] args [.list .int]=true:=(pre_splitW hpre).1;have hc:l.pre.holds [] { args:=args }=true:=(pre_splitW hpre).2;obtain ⟨d,r,rfl,h1,h2⟩:=hasAllW_cons hsh;obtain rfl:=hasAllW_nil h2;obtain ⟨xs,rfl,h3⟩:=hasW_list h1;obtain ⟨ns,rfl⟩:=items_int h3;have hlen:ns.length<=n:=by
    unfold OpenLaw.pre at hc;have h4:(WTm.not (.lt (.lit (.int (n:Int))) (.len (.arg 0)))).holds [] { args:=[.list (ns.map .int)] }=true:=by
      have h4:=(holds_andW hc).1;rw[hn] at h4;exact h4
    have h5:=condW_of h4 (w_not (w_lt w_lit (w_len_list (w_arg rfl))));rw[length_map] at h5;refine Nat.le_of_not_lt λq=>?_;have q':(n:Int)<((ns.length:Nat):Int):=by lia
    first
      | (rw[decide_eq_true q'] at h5;exact absurd h5 (by decide))
      | (simp at h5;lia)
  cases hwl with
  | cons w1 w2 =>
    cases w2;cases w1 with
    | list ho hall=>exact ⟨_,_,ns,rfl,rfl,ho,mX ns _ hall,hlen⟩
theorem xj (l:OpenLaw)(args:List WData):l.row.toRowW.claim.post args (.bool true) args=true:=
  postW_of (r:=l.row.toRowW) (X:=(true == true))
    (show WShape.has [] (.bool true) .bool=true by first | rfl | decide | simp[WShape.has,WShape.arms,WShape.armsAll])
    (show (WTm.eq .res (.lit (.bool true))).value [] { args:=args,res:=some (.bool true),after:=args }=some (.bool (true == true)) from w_eq_bool (w_res rfl) w_lit) rfl
theorem rN {l:OpenLaw}{n:Nat}{q:Program}{loose:List Str}{XP:(Str->Option Value)->Heap->Prop}{YP:World->Heap->Prop}{d:DefRec}
    (hn:l.most=some n) (hdf:d.params.defaults = [])
    (call:∀(w:World) (s₀ s₁:Shared) (mg mb:Str->Option Value) (fa:Addr) (o:Obj) (pm cd doc:Value) (a:Addr) (vs:List Value) (ns:List Int),
      Ground q loose [] XP w s₀ mg mb s₁.heap->YP w s₁.heap ->
      s₁.heap.get? fa=some o->o.data=.func (docDef d.name d.params d.body d.scope pm cd doc)->s₁.heap.CodeRec cd d.name->mg d.name=some (.ref fa) ->
      s₁.heap.get? a=some { cls:=.type "list",data:=.seq vs.toArray }->IntsAre vs ns->ns.length<=n->s₁.gens = #[] ->
      codeAny (model l.prog w) callerA (.call (.ref fa) ⟨[.ref a],[]⟩) (λr s'=>r=.ok (.ret (.bool true))/\OldK s₁.heap s'.heap/\s'.os=s₁.os/\AllBare s'.gens) s₁) :
    WalkO q loose XP YP l.row.toRowW d [] (λf vs=>PySem.call f vs):=by
  intro w s₀ s₁ mg mb G Y fa o pm cd doc dV kV ho hd hcd hD hmg hg args vals as hpre hlay hrd hwl hlo;obtain rfl:dV=.none:=Dflts.none hD hdf;obtain rfl:kV=.none:=Dflts.noKw hD;obtain ⟨a,vs,ns,rfl,rfl,hobj,hints,hlen⟩:=xp hn hpre hwl;refine enter_call (codeAny_mono (call w s₀ s₁ mg mb fa o pm cd doc a vs ns G Y ho (fd_plain hd) hcd hmg hobj hints hlen hg) λr s' hq=>?_);obtain ⟨rfl,h2,h3,h4⟩:=hq;exact ⟨.inl ⟨.bool true,.bool true,[],rfl,λ_=>rfl,.bool true,xj l _,λ_=>⟨List.Pairwise.nil,λ_ hm=>(nomatch hm)⟩⟩,h2,h3,h4⟩
section
variable {prog:Program} {w:World} {A:Around} {E:Value->Shared->Prop} {s:Shared} {K:Frag}
end
end Att
namespace L2
open PySem PySem.Spec PyProof.Rows
theorem mM:∀{vs:List Value} {ns:List Int},IntsAre vs ns->Vals (ns.map V.int) vs
  | _,_,.nil=>.nil
  | _,_,.cons n t h=>.cons ⟨t,rfl⟩ (mM h)
end L2
namespace L2
open PySem PySem.Spec PyProof.Rows
end L2
namespace L2
open PySem PySem.Spec PyProof.Rows
noncomputable def aB (s:Stmt):Arguments:=match s with
  | .FunctionDef _ a _ _ _ _ _ _ _ _=>a
  | _=>{ posonlyargs:=[],args:=[],vararg:=none,kwonlyargs:=[],kw_defaults:=[],kwarg:=none,defaults:=[] }
noncomputable def av (s:Stmt):List Stmt:=match s with
  | .FunctionDef _ _ b _ _ _ _ _ _ _=>b
  | _=>[]
noncomputable def ag (s:Stmt):Scope:=match s with
  | .FunctionDef _ _ _ _ _ _ sc _ _ _=>sc
  | _=>{ kind:=.function,names:=[],isGenerator:=false,isCoroutine:=false }
noncomputable abbrev gX:zq:=λ_ _ _ _ _ _=>False
noncomputable abbrev E0:XK:=λ_ _ _=>False
theorem DX {X:Cx}:Passes gX X E0:=λ_ _ _ _ _ _ _ h=>h.elim
structure iT (K:Frag)(x qual:Str)(st:Stmt)(f:Addr)(fd:FuncData):Prop where
  ex:∃(oc:Value) (od:Option Addr) (kV doc pm:Value) (an:Option Addr) (cdv ct:Value) (osl:Array (Option Value)),
    fd=fnOf x qual (aB st) (av st) (ag st) .none kV doc pm an cdv ct/\K.lookup f=some ⟨oc,od,.func fd,osl⟩/\codeIn K cdv qual=true
  kp:keepIn K (.ref f)=true
section
variable {P:Program} {w:World} {K:Frag} {mg:Str->Option Value} {base:Heap}
theorem iT.ok {x qual:Str}{st:Stmt}{f:Addr}{fd:FuncData}{N ps:List Str}{k:Nat}{sp:Sp}(F:iT K x qual st f fd)(S:aF N ps (ag st))(len:∀vs H Q E,sp vs H Q E->vs.length=ps.length)
    (hbody:∀(cdv:Value) (A:Around) (outer:List Env) (s:Shared) (H:Hp) (vs:List V) (Q:VK) (E:XK),fX k (A.deeper (envOfC qual (ag st) s.heap.objs.size f cdv))->sp vs H Q E ->
      ∃t,qv (qH gX P w K mg base N qual (ag st) f cdv A outer s H E).Be (av st) t/\t { nx:=λ_ H'=>Q .non H',rt:=Q } (start N vs) H):bO P w K mg base gX (k+1) f fd ps sp:=by
  obtain ⟨oc,od,kV,doc,pm,an,cdv,ct,osl,rfl,lk,hcd⟩:=F.ex;refine A7 lk hcd S len λA outer s H vs Q E hr hsp=>?_;obtain ⟨t,h,q⟩:=hbody cdv A outer s H vs Q E hr hsp;exact ⟨t,h.Be,q⟩
theorem iT.binds {x qual:Str}{st:Stmt}{f:Addr}{fd:FuncData}{ps:List Str}(F:iT K x qual st f fd)
    (h:∀(kV doc pm:Value) (an:Option Addr) (cdv ct:Value) (us:List Value),us.length=ps.length->bindArgs (fnOf x qual (aB st) (av st) (ag st) .none kV doc pm an cdv ct) ⟨us,[]⟩=pure (ps.zip us)):Binds K fd ps []:=by
  obtain ⟨oc,od,kV,doc,pm,an,cdv,ct,osl,rfl,lk,hcd⟩:=F.ex;exact .all (h kV doc pm an cdv ct)
theorem aZ {x qual:Str}{st:Stmt}{f:Addr}{oc:Value}{od an:Option Addr}{osl:Array (Option Value)}{kV doc pm cdv ct:Value}(l:K.lookup f=some ⟨oc,od,.func (fnOf x qual (aB st) (av st) (ag st) .none kV doc pm an cdv ct),osl⟩)
    (c:codeIn K cdv qual=true) (k:keepIn K (.ref f)=true):iT K x qual st f (fnOf x qual (aB st) (av st) (ag st) .none kV doc pm an cdv ct):=⟨⟨oc,od,kV,doc,pm,an,cdv,ct,osl,rfl,l,c⟩,k⟩
end
theorem g8 {n:Nat}(h:n<=1000):n<sizeLine:=Nat.lt_of_le_of_lt h (by decide)
section
variable {X:Cx}
theorem pv (i:Nat){x:Str}{pos:Pos}(hN:autoParam (X.N[i]?=some x) aZa._auto_1)(hv:autoParam (ua X.env.scope x) aZf._auto_1)(hd:autoParam ((x == ("__debug__" : Str))=false) aZb._auto_1)
    (hcd:autoParam ((x == ("__classdict__" : Str))=false) aZb._auto_1):PE X (.Name x pos) (AS i):=gT hN hv hd hcd
end
theorem yC {A B:Prop}(h:B):if false=true then A else B:=by
  rw[if_neg Bool.false_ne_true];exact h
theorem yD {A B:Prop}(h:A):if true=true then A else B:=by
  rw[if_pos rfl];exact h
noncomputable def aE (H H':Hp):Prop:=∀b o,H b=some o->H' b=some o
theorem aE.refl (H:Hp):aE H H:=λ_ _ h=>h
theorem aE.trans {H H1 H2:Hp}(a:aE H H1)(b:aE H1 H2):aE H H2:=λc o h=>b c o (a c o h)
theorem aE.free {H H':Hp}(e:aE H H'){l:Addr}(h:H' l=Option.none):H l=Option.none:=by
  cases q:H l with
  | none=>rfl
  | some o =>
    rw[e l o q] at h;cases h
theorem aE.seq {K:Frag}{H H':Hp}{a:Addr}{xs:List V}(e:aE H H')(h:d6 K H a xs):d6 K H' a xs:=by
  rcases h with (h | ⟨o,h⟩) | h
  · exact .inl (.inl (e _ _ h))
  · exact .inl (.inr ⟨o,e _ _ h⟩)
  · exact .inr h
end L2
namespace L2
open PySem PySem.Spec PyProof.Rows
noncomputable def o7 (X:Cx)(scope:Scope)(N':List Str)(cl:List (Str×Addr))(fp:List Addr)(C:Addr)(s:Shared)(H:Hp):Cx:=
  { X with N:=N',s₀:=s,H₀:=H,env:=compEnvC scope cl C X.env,outer:=X.stack,stack:=X.stack,ex:=fp,fn:=λ_=>false,pn:=[],xe:=λ_ _=>False }
noncomputable def iY (sc0:Scope)(N0:List Str)(scope:Scope)(N':List Str)(fr:List (Option Nat)):Bool:=
  decide (scope.kind=.function) && scope.names.all (λy=>decide (y.2≠.cell)) && scope.names.all (λy=>decide (y.2=.local->scope.names.lookup y.1=some .local)) &&
  scope.names.all (λy=>decide (y.2=.free->(sc0.names.lookup y.1=some .cell\/sc0.names.lookup y.1=some .free))) && decide (fr.length=N'.length) &&
  (List.range N'.length).all (λi=>match fr[i]?,N'[i]? with
    | some (some j),some x=>decide (N0[j]?=some x) && decide (scope.names.lookup x=some .free) && decide (sc0.names.lookup x=some .cell\/sc0.names.lookup x=some .free)
    | _,_=>true)
structure lX (sc0:Scope)(N0:List Str)(scope:Scope)(N':List Str)(fr:List (Option Nat)):Prop where
  kind:scope.kind=.function
  yO:∀y∈scope.names,y.2≠.cell
  names:∀y∈scope.names,y.2=.local->scope.names.lookup y.1=some .local
  frees:∀y∈scope.names,y.2=.free->(sc0.names.lookup y.1=some .cell\/sc0.names.lookup y.1=some .free)
  len:fr.length=N'.length
  fix:∀(i j:Nat) (x:Str),fr[i]?=some (some j)->N'[i]?=some x->N0[j]?=some x/\scope.names.lookup x=some .free/\(sc0.names.lookup x=some .cell\/sc0.names.lookup x=some .free)
theorem pU {sc0:Scope}{N0:List Str}{scope:Scope}{N':List Str}{fr:List (Option Nat)}(h:iY sc0 N0 scope N' fr=true):lX sc0 N0 scope N' fr:=by
  unfold iY at h;rw[Bool.and_eq_true,Bool.and_eq_true,Bool.and_eq_true,Bool.and_eq_true,Bool.and_eq_true] at h;obtain ⟨⟨⟨⟨⟨h1,h2⟩,h3⟩,h4⟩,h5⟩,h6⟩:=h;refine ⟨of_decide_eq_true h1,λy hy=>of_decide_eq_true (List.all_eq_true.mp h2 y hy),λy hy=>of_decide_eq_true (List.all_eq_true.mp h3 y hy),λy hy=>of_decide_eq_true (List.all_eq_true.mp h4 y hy),of_decide_eq_true h5,λi j x e1 e2=>?_⟩;have hi:i<N'.length:=(List.getElem?_eq_some_iff.mp e2).1;have q:=List.all_eq_true.mp h6 i (mem_range.mpr hi);rw[e1,e2] at q;dsimp only at q;rw[Bool.and_eq_true,Bool.and_eq_true] at q;exact ⟨of_decide_eq_true q.1.1,of_decide_eq_true q.1.2,of_decide_eq_true q.2⟩
noncomputable def rF (env:Env):List (Str×NameKind)->List (Str×Addr)->List (Str×Addr)
  | [],cs=>cs
  | (n,k)::r,cs=>if k=.free then rF env r ((n,(env.cells.lookup n).getD 0)::cs) else rF env r cs
theorem mem_of_lookup {α:Type}:∀{l:List (Str×α)} {x:Str} {v:α},l.lookup x=some v->(x,v)∈l
  | [],_,_,h=>by simp at h
  | (y,w)::r,x,v,h=>by
    cases hx:x == y with
    | true =>
      simp only[lookup_cons,hx] at h;cases h;rw[beq_iff_eq.mp hx];exact mem_cons_self
    | false =>
      simp only[lookup_cons,hx] at h;exact mem_cons_of_mem _ (mem_of_lookup h)
theorem qF {env:Env}:∀{l:List (Str×NameKind)} {cs:List (Str×Addr)} {p:Str×Addr},p∈rF env l cs->p∈cs\/(∃y∈l,y.2=.free/\p=(y.1,(env.cells.lookup y.1).getD 0))
  | [],_,_,h=>.inl h
  | (n,k)::r,cs,p,h=>by
    unfold rF at h;by_cases hk:k=.free
    · rw[if_pos hk] at h;rcases qF h with q | ⟨y,hy,e1,e2⟩
      · rcases List.mem_cons.mp q with q | q
        · exact .inr ⟨(n,k),mem_cons_self,hk,q⟩
        · exact .inl q
      · exact .inr ⟨y,mem_cons_of_mem _ hy,e1,e2⟩
    · rw[if_neg hk] at h;rcases qF h with q | ⟨y,hy,e1,e2⟩
      · exact .inl q
      · exact .inr ⟨y,mem_cons_of_mem _ hy,e1,e2⟩
theorem nI {env:Env}:∀{l:List (Str×NameKind)} {cs:List (Str×Addr)} {p:Str×Addr},p∈cs->p∈rF env l cs
  | [],_,_,h=>h
  | (n,k)::r,cs,p,h=>by
    unfold rF;by_cases hk:k=.free
    · rw[if_pos hk];exact nI (mem_cons_of_mem _ h)
    · rw[if_neg hk];exact nI h
theorem nj {env:Env}:∀{l:List (Str×NameKind)} {cs:List (Str×Addr)} {x:Str},(x,NameKind.free)∈l->(x,(env.cells.lookup x).getD 0)∈rF env l cs
  | [],_,_,h=>nomatch h
  | (n,k)::r,cs,x,h=>by
    unfold rF;rcases List.mem_cons.mp h with q | q
    · cases q;rw[if_pos rfl];exact nI mem_cons_self
    · by_cases hk:k=.free
      · rw[if_pos hk];exact nj q
      · rw[if_neg hk];exact nj q
theorem iB {α:Type}:∀{l:List (Str×α)} {x:Str} {v:α},(x,v)∈l->∃w,l.lookup x=some w
  | [],_,_,h=>nomatch h
  | (y,w)::r,x,v,h=>by
    cases hx:x == y with
    | true=>exact ⟨w,by simp[lookup_cons,hx]⟩
    | false =>
      rcases List.mem_cons.mp h with q | q
      · cases q;simp at hx
      · obtain ⟨w',e⟩:=iB q;exact ⟨w',by simp[lookup_cons,hx,e]⟩
theorem kB {env:Env}:∀(l:List (Str×NameKind)) (cs:List (Str×Addr)),(∀y∈l,y.2=.free->∃c,env.cells.lookup y.1=some c) ->
    (forIn l cs λ(x:Str×NameKind) (r:List (Str×Addr))=>(if (x.2 == NameKind.free)=true then do let a <-cellOf env x.1;pure (ForInStep.yield ((x.1,a)::r)) else pure (ForInStep.yield r):Sem (ForInStep (List (Str×Addr)))))=pure (rF env l cs)
  | [],cs,_=>rfl
  | (n,k)::r,cs,h=>by
    rw[List.forIn_cons];by_cases hk:k=.free
    · subst hk;obtain ⟨c,e⟩:=h (n,.free) mem_cons_self rfl;have hc:cellOf env n=pure c:=by unfold cellOf;rw[e]
      have ih:=kB r ((n,c)::cs) λy hy=>h y (mem_cons_of_mem _ hy);simp only[beq_self_eq_true,if_true,hc];unfold rF;rw[if_pos rfl,e];exact ih
    · have hb : (k == NameKind.free) = false := by simpa using hk
      have ih:=kB r cs λy hy=>h y (mem_cons_of_mem _ hy);simp only[hb,Bool.false_eq_true,if_false];unfold rF;rw[if_neg hk];exact ih
theorem nJ {scope:Scope}{env:Env}(h:∀y∈scope.names,y.2=.free->∃c,env.cells.lookup y.1=some c):closureFor scope env=pure (rF env scope.names []):=by
  unfold closureFor;have:=kB scope.names [] h;first
    | (rw[this];rfl)
    | (refine Eq.trans ?_ this;rfl)
    | (simp only[this];rfl)
theorem jV {env:Env}{l:List (Str×NameKind)}(h:∀y∈l,y.2=.free->∃c,env.cells.lookup y.1=some c){x:Str}{c:Addr}(e:(rF env l []).lookup x=some c):env.cells.lookup x=some c:=by
  rcases qF (mem_of_lookup e) with q | ⟨y,hy,e1,e2⟩
  · exact nomatch q
  · obtain ⟨c',ec⟩:=h y hy e1;have e3:x=y.1:=congrArg Prod.fst e2;have e4:c=(env.cells.lookup y.1).getD 0:=congrArg Prod.snd e2;rw[ec] at e4;rw[e3,ec,e4];rfl
theorem rm {scope:Scope}{env:Env}{x:Str}:scope.names.lookup x=some .free->(relabel scope env).names.lookup x=some .cell\/(relabel scope env).names.lookup x=some .free:=by
  show scope.names.lookup x=some .free->(scope.names.map _).lookup x=_\/(scope.names.map _).lookup x=_;induction scope.names with
  | nil=>intro h;simp at h
  | cons p r ih =>
    intro h;obtain ⟨n,k⟩:=p;rw[map_cons];cases hx:x == n with
    | true =>
      simp only[lookup_cons,hx] at h;cases h;dsimp only;split
      · exact .inl (by simp[lookup_cons,hx])
      · exact .inr (by simp[lookup_cons,hx])
    | false =>
      simp only[lookup_cons,hx] at h;dsimp only;split<;>(simp only[lookup_cons,hx];exact ih h)
theorem rl {scope:Scope}{env:Env}{x:Str}(nc:∀y∈scope.names,y.2≠.cell):((relabel scope env).names.lookup x=some .cell\/(relabel scope env).names.lookup x=some .free)->scope.names.lookup x=some .free:=by
  show ((scope.names.map _).lookup x=_\/(scope.names.map _).lookup x=_)->_;revert nc;induction scope.names with
  | nil=>intro _ h;simp at h
  | cons p r ih =>
    intro nc h;obtain ⟨n,k⟩:=p;rw[map_cons] at h;have ih':=ih (λy hy=>nc y (mem_cons_of_mem _ hy));cases hx:x == n with
    | true =>
      simp only[lookup_cons,hx];dsimp only at h;by_cases hc:(k == NameKind.free && env.scope.kind == .function && env.kindOf n == some .cell)=true
      · simp only[Bool.and_eq_true] at hc;have:k=.free:=by simpa using hc.1.1
        rw[this]
      · rw[if_neg hc] at h;simp only[lookup_cons,hx] at h;rcases h with h | h
        · cases h;exact absurd rfl (nc (n,.cell) mem_cons_self)
        · exact h
    | false =>
      simp only[lookup_cons,hx];dsimp only at h;refine ih' ?_;by_cases hc:(k == NameKind.free && env.scope.kind == .function && env.kindOf n == some .cell)=true
      · rw[if_pos hc] at h;simpa only[lookup_cons,hx] using h
      · rw[if_neg hc] at h;simpa only[lookup_cons,hx] using h
theorem Un.but {fs ex:List Addr}{H H':Hp}{h h1 h2:Heap}{C:Addr}(u:Un fs ex H H' h h1)(sb:Heap.SameBut C h1 h2)(hC:h.objs.size<=C):Un fs ex H H' h h2:=by
  have ne:∀b o,h.get? b=some o->b≠C:=λb o e=>Nat.ne_of_lt (Nat.lt_of_lt_of_le (Heap.lt_size e) hC);refine ⟨λb o e n hb hx=>(sb.2 b (ne b o e)).trans (u.keep b o e n hb hx),λb o e n hb hx=>?_,u.free,λb o e hx=>?_,u.rC,u.pj,u.oR⟩
  · obtain ⟨sl,q⟩:=u.slot b o e n hb hx;exact ⟨sl,(sb.2 b (ne b o e)).trans q⟩
  · obtain ⟨o',q⟩:=u.there b o e hx;exact ⟨o',(sb.2 b (ne b o e)).trans q⟩
theorem lR.but {P:Program}{w:World}{H:Hp}{h1 h2:Heap}{C:Addr}(x:lR P w H h1)(hC:H C=none)(sb:Heap.SameBut C h1 h2):lR P w H h2:=λb ob e=>by
  refine (x b ob e).df (λc w' hc q=>(sb.2 c ?_).trans q) (λ_ q=>q) λ_ _ q=>q;rintro rfl;rcases hc with rfl | hc
  · rw[hC] at e;cases e
  · rw[hC] at hc;cases hc
noncomputable def mn (fr:List (Option Nat))(σ:St):St:=fr.map λo=>match o with | none=>none | some j=>(σ[j]?).getD none
theorem yt {fr:List (Option Nat)}{σ:St}{i:Nat}{v:V}(e:(mn fr σ)[i]?=some (some v)):∃j,fr[i]?=some (some j)/\σ[j]?=some (some v):=by
  unfold mn at e;rw[getElem?_map] at e;cases q:fr[i]? with
  | none=>rw[q] at e;cases e
  | some o =>
    rw[q] at e;cases o with
    | none=>cases e
    | some j =>
      refine ⟨j,rfl,?_⟩;have e':(σ[j]?).getD none=some v:=Option.some.inj e;cases r:σ[j]? with
      | none=>rw[r] at e';cases e'
      | some y=>rw[r] at e';rw[<-e'];rfl
section
variable {X:Cx} {pins:List (Addr×Obj)} {σ:St} {H:Hp} {s:Shared}
theorem BA {scope:Scope}{N':List Str}{fr:List (Option Nat)}{fp:List Addr}(I:Inv X pins σ H s)(S:lX X.env.scope X.N scope N' fr)(hf:∀b∈fp,kU X pins H b)(ho:∀b∈fp,∃o,s.heap.get? b=some o) :
    (o7 X scope N' (rF X.env scope.names []) fp s.heap.objs.size s H).Ok:=by
  have has:∀y∈scope.names,y.2=.free->∃c,X.env.cells.lookup y.1=some c:=λy hy hk=>I.ok.has y.1 (S.frees y hy hk);refine ⟨I.ok.mod,S.kind,I.ok.glob,I.ok.blt,Nat.le_refl _,λx y c e1 e2=>I.ok.inj x y c (jV has e1) (jV has e2),λx hx=>?_,λx c hx=>(nomatch hx),I.ok.hd,I.ok.frames,.inl rfl,λb hb=>⟨?_,λx c e=>(hf b hb).2.2.2.2.1 x c (jV has e)⟩,I.bs,Nat.le_trans I.ok.A1 I.sz,λb o e hb=>?_,λb hb hz=>?_,I.stack,I.we⟩
  · have q:=rl (env:=X.env) S.yO (x:=x) hx;exact iB (nj (mem_of_lookup q))
  · obtain ⟨o,e⟩:=ho b hb;exact Nat.ne_of_lt (Heap.lt_size e)
  · rcases (hf b hb).2.2.2.1 with z | z
    · exact I.ok.yP b o e z
    · exact absurd (Nat.lt_of_lt_of_le (Heap.lt_size e) (Nat.le_trans I.ok.A1 z)) (Nat.lt_irrefl _)
  · rcases List.mem_cons.mp (I.uM b hz) with z | z
    · exact (hf b hb).2.1 z
    · exact (hf b hb).2.2.1 z
theorem wu {scope:Scope}{N':List Str}{fr:List (Option Nat)}{fp:List Addr}{h₁:Heap}{m₁:Str->Option Value}{tk:Nat}(I:Inv X pins σ H s)(S:lX X.env.scope X.N scope N' fr)(hf:∀b∈fp,kU X pins H b)(ho:∀b∈fp,∃o,s.heap.get? b=some o)
    (hn:h₁.Ns s.heap.objs.size m₁) (hk:∀b o,s.heap.get? b=some o->h₁.get? b=some o) :
    Inv (o7 X scope N' (rF X.env scope.names []) fp s.heap.objs.size s H) [] (mn fr σ) H { s with heap:=h₁,toks:=tk }:=by
  have has:∀y∈scope.names,y.2=.free->∃c,X.env.cells.lookup y.1=some c:=λy hy hk=>I.ok.has y.1 (S.frees y hy hk);have cellK:∀c v,s.heap.IsCell c v->h₁.IsCell c v:=by rintro c v ⟨o,e,d⟩;exact ⟨o,hk c o e,d⟩
  refine ⟨BA I S hf ho,rfl,I.bare,Un.kept hk,⟨m₁,hn,λi x v e1 e2 e3=>?_⟩,λx c e=>?_,I.bK.fresh (Nat.le_refl _),λx c e=>I.km x c (jV has e),λp hp=>(nomatch hp),I.bK.kept hk,?_⟩
  · obtain ⟨j,q1,q2⟩:=yt e2;obtain ⟨z1,z2,z3⟩:=S.fix i j x q1 e1;obtain ⟨m,hm,hl⟩:=I.loc;obtain ⟨u,ru,lk⟩:=hl j x v z1 q2 (.inr z3);refine ⟨u,ru,.inr ⟨rm (env:=X.env) z2,?_⟩⟩;rcases lk with ⟨k,_⟩ | ⟨k,c,e,z⟩
    · have k':X.env.scope.names.lookup x=some .local:=k;rcases z3 with z3 | z3<;>(rw[z3] at k';cases k')
    · obtain ⟨c',ec⟩:=iB (nj (env:=X.env) (cs:=[]) (mem_of_lookup z2));have:=jV has ec;rw[e] at this;cases this;exact ⟨c,ec,cellK c _ z⟩
  · obtain ⟨v,z⟩:=I.cell x c (jV has e);exact ⟨v,cellK c v z⟩
  · show (mn fr σ).length=N'.length;unfold mn;rw[length_map];exact S.len
end
noncomputable def t9 (X:Cx)(ifs:List Expr)(t:TT):Prop:=
  ∀(pins:List (Addr×Obj)) (s:Shared) (σ:St) (H:Hp) (Q:Bool->Hp->Prop),Inv X pins σ H s->t σ H Q ->
    wpAny (model X.prog X.w) X.A (forIn ifs true λc r=>if r=true then do let ok <-isTrue c X.env (eval c X.env);pure (ForInStep.yield ok) else pure (ForInStep.yield r)) (TP X pins σ Q) X.xe s
noncomputable def Eu:TT:=λ_ H Q=>Q true H
theorem yY {X:Cx}:t9 X [] Eu:=λ_ _ _ H _ I h=>wpAny_tests_nil ⟨H,I,h⟩
theorem yZ {X:Cx}{c:Expr}{t:TT}(h:PT X c t):t9 X [c] t:=λpins s σ H Q I q=>wpAny_tests_one (h pins s σ H Q I q)
section
variable {prog:Program} {w:World} {A:Around} {R:Result->Shared->Prop} {s:Shared}
theorem rS {elt target iter:Expr}{ifs:List Expr}{scope:Scope}{pos:Pos}{it acc:Value}{env:Env}(I:Nat->Shared->Prop)
    (turn:∀n s,I n s->wpAny (model prog w) A (pyNext it) (λr s₁=>match r with
      | none=>R (.ok .next) s₁
      | some v=>wpAny (model prog w) A (letOwnedTupleGo target it v) (λ_ s₁'=>wpAny (model prog w) A (assign target env v) (λ_ s₂ =>
          wpAny (model prog w) A (forIn ifs true λc r=>if r=true then do let ok <-isTrue c env (eval c env);pure (ForInStep.yield ok) else pure (ForInStep.yield r)) (λok s₃ =>
            if ok=true then wpAny (model prog w) A (eval elt env) (λx s₄ =>
              wpAny (model prog w) A (call (.builtin "list.append") [acc,x]) (λ_ s₅=>∃m,m<n/\I m s₅) (λ_ _=>False) s₄) (λ_ _=>False) s₃
            else ∃m,m<n/\I m s₃) (λ_ _=>False) s₂) (λ_ _=>False) s₁') (λ_ _=>False) s₁) (λ_ _=>False) s)
    (n:Nat) (h:I n s) :
    codeAny (model prog w) A (.compLoop (.ListComp elt [⟨target,iter,ifs,0⟩] scope pos) 0 it acc env) R s:=by
  refine codeAny_loop rfl I (λn s hI=>?_) n h;show wpAny _ A ((compTurn (.ListComp elt [⟨target,iter,ifs,0⟩] scope pos) 0 it acc env).onRaise (λx=>do noteFrame x env;theTreesLotGoes x)) _ _ s;refine wpAny_noted ?_;rw[compTurn_list];refine wpAny_mono (E:=λ_ _=>False) ?_ (λ_ _ q=>q) (λ_ _ f=>f.elim);refine wpAny_bind (wpAny_standAt (wpAny_bind (wpAny_mono (turn n s hI) (λr s₁ h₁=>?_) λ_ _ h'=>h')));cases r with
  | none=>exact wpAny_pure h₁
  | some v =>
    refine wpAny_bind (wpAny_mono h₁ (λ_ s₁' h₁'=>?_) λ_ _ h'=>h');refine wpAny_bind (wpAny_mono h₁' (λ_ s₂ h₂=>wpAny_bind (wpAny_mono h₂ (λok s₃ h₃=>?_) λ_ _ h'=>h')) λ_ _ h'=>h');cases ok with
    | false=>exact wpAny_pure ⟨rfl,h₃⟩
    | true =>
      exact wpAny_bind (wpAny_bind (wpAny_mono h₃ (λx s₄ h₄=>wpAny_bind (wpAny_mono h₄ (λ_ s₅ h₅=>wpAny_pure (wpAny_pure ⟨rfl,h₅⟩)) λ_ _ h'=>h')) λ_ _ h'=>h'))
end
noncomputable def Ey (J:It)(D:Addr)(g:TG)(tc:TT)(te:TE)(Q:Hp->Prop)(σ0:St)(H0:Hp):Prop:=
  ∃W:Nat->Nat->List V->St->Hp->Prop,(∃m,W 0 m [] σ0 H0)/\∀i m ys σ H,W i m ys σ H ->
    ((J.stop i H/\Q H)\/(J.go i H/\∃N:List V->St->Hp->Prop,(∀ys' σ' H',N ys' σ' H'->∃m',m'<m/\W (i+1) m' ys' σ' H')/\∀x H',J.xD i H x H'->g x σ H' λσ2 H2=>tc σ2 H2 λb H3 =>
      if b=true then te σ2 H3 λv H4=>H4 D=some (.lst ys)/\ys.length<sizeLine/\N (ys++[v]) σ2 (upd H4 D (.lst (ys++[v])))
      else N ys σ2 H3))
noncomputable def FA (wi:TI)(fr:List (Option Nat))(g:TG)(tc:TT)(te:TE):TE:=λσ H Q=>wi σ H λJ H1=>∀D,H1 D=none->Ey J D g tc te (Q (.ref D)) (mn fr σ) (upd H1 D (.lst []))
theorem xN {X:Cx}{tg iter elt:Expr}{ifs:List Expr}{scope:Scope}{pos:Pos}{g:TG}{tc:TT}{te:TE}{fp:List Addr}{it D:Addr}{tn:Nat->Heap->Prop}{J:It}{Q:Hp->Prop}{σ0:St}{H0:Hp}{s:Shared}{R:Result->Shared->Prop}
    (hxe:X.xe=λ_ _=>False) (hc:X.calm=true) (hpn:X.pn = []) (hex:X.ex=fp) (hg:PG X tg g) (ht:t9 X ifs tc) (he:PE X elt te) (T:Turn X.prog X.w X.K tg J fp it tn)
    (hf:∀b∈fp,b≠X.env.locals/\b∉X.fs/\∀x c,X.env.cells.lookup x=some c->c≠b) (hW:Ey J D g tc te Q σ0 H0) (B:Inv X [] σ0 H0 s) (st:tn 0 s.heap) (fr:∀b∈fp,H0 b=none)
    (fin:∀σ H s',Inv X [] σ H s'->Q H->R (.ok .next) s') :
    codeAny (model X.prog X.w) X.A (.compLoop (.ListComp elt [⟨tg,iter,ifs,0⟩] scope pos) 0 (.ref it) (.ref D) X.env) R s:=by
  obtain ⟨W,⟨m0,w0⟩,turn⟩:=hW;have stat:∀{H':Hp},(∀b∈fp,H' b=none)->∀b∈fp,kU X [] H' b:=λ{H'} hn b hb =>
    ⟨hn b hb,(hf b hb).1,(hf b hb).2.1,.inl (by rw[hex];exact hb),(hf b hb).2.2,λp hp=>by rw[hpn] at hp;exact nomatch hp⟩
  refine rS (λn s'=>∃i ys σ' H',Inv X [] σ' H' s'/\tn i s'.heap/\(∀b∈fp,H' b=none)/\W i n ys σ' H') ?_ m0 ⟨0,[],σ0,H0,B,st,fr,w0⟩;rintro n s3 ⟨i,ys,σ3,H3,I3,st3,fr3,w3⟩;rcases turn i n ys σ3 H3 w3 with ⟨stop,qn⟩ | ⟨go,N,hN,step⟩
  · refine de (T.done X rfl rfl rfl hc i [] s3 σ3 H3 _ I3 (stat fr3) st3 stop) ?_;rintro r s4 ⟨hr,I4⟩;subst hr;exact fin σ3 H3 s4 I4 qn
  · refine de (T.item X rfl rfl rfl hc i [] s3 σ3 H3 _ I3 (stat fr3) st3 go) ?_;rintro r s4 ⟨u,hr,h4⟩;subst hr;refine de h4 ?_;rintro _ s5 ⟨x,H5,I5,r5,y5,st5,fr5⟩;have I5':=I5.pinned (stat fr5) (T.obj _ _ st5);have q1:=hg _ s5 σ3 H5 x u _ I5' r5 (step x H5 y5);rw[hxe] at q1;refine de q1 ?_;rintro _ s6 ⟨σ6,H6,I6,q6⟩;have q2:=ht _ s6 σ6 H6 _ I6 q6;rw[hxe] at q2;refine de q2 ?_;rintro ok s7 ⟨H7,I7,q7⟩;have again:∀{ys':List V} {σ8:St} {H8:Hp} {s8:Shared},Inv X ([]++oB fp s5.heap) σ8 H8 s8->N ys' σ8 H8->∃m,m<n/\∃i ys σ' H',Inv X [] σ' H' s8/\tn i s8.heap/\(∀b∈fp,H' b=none)/\W i m ys σ' H':=λ{ys' σ8 H8 s8} I8 n8=>by
      obtain ⟨m',hm,w8⟩:=hN ys' σ8 H8 n8;refine ⟨m',hm,i+1,ys',σ8,H8,I8.lO,T.keep _ _ _ st5 λb hb o e=>(I8.pin (b,o) (mem_append_right _ (mem_append_right _ (jb hb e)))).1,λb hb=>?_,w8⟩;obtain ⟨o,e,d⟩:=T.obj _ _ st5 b hb;exact (I8.pin (b,o) (mem_append_right _ (mem_append_right _ (jb hb e)))).2.1
    cases ok with
    | false=>exact again I7 q7
    | true =>
      have q3:=he _ s7 σ6 H7 _ I7 q7;rw[hxe] at q3;show wpAny _ _ (eval elt X.env) _ _ s7;refine de q3 ?_;rintro xv s8 ⟨v,H8,I8,r8,hD8,hz8,n8⟩;have q4:=my (X:=X) _ s8 σ6 H8 (.ref D) [v] (.ref D) [xv] (λ_ H9=>N (ys++[v]) σ6 H9) I8 rfl (.cons r8 .nil) ⟨D,ys,v,rfl,rfl,hD8,hz8,n8⟩;rw[hxe] at q4;refine de q4 ?_;rintro _ s9 ⟨_,H9,I9,_,n9⟩;exact again I9 n9
section
variable {X:Cx} {tg iter elt:Expr} {ifs:List Expr} {scope:Scope} {pos:Pos} {wi:TI} {g:TG} {tc:TT} {te:TE}
theorem uZ {pins:List (Addr×Obj)}{σ:St}{H2:Hp}{s2:Shared}{it:Addr}{fp:List Addr}{tn:Nat->Heap->Prop}{J:It}{Q:Addr->Hp->Prop}{N':List Str}{fr:List (Option Nat)}{RR:Value->Addr->Result->Shared->Prop}
    (hc:X.calm=true) (S:lX X.env.scope X.N scope N' fr)
    (hg:∀cl fp C s H,PG (o7 X scope N' cl fp C s H) tg g) (ht:∀cl fp C s H,t9 (o7 X scope N' cl fp C s H) ifs tc) (he:∀cl fp C s H,PE (o7 X scope N' cl fp C s H) elt te)
    (I2:Inv X pins σ H2 s2) (T:Turn X.prog X.w X.K tg J fp it tn) (st2:tn 0 s2.heap) (f2:∀b∈fp,kU X pins H2 b)
    (h:∀D,H2 D=none->Ey J D g tc te (Q D) (mn fr σ) (upd H2 D (.lst [])))
    (fin:∀D C s' m' H',s2.heap.objs.size<=C->C≠D->H' C=none->s'.heap.Ns C m'->(∀h',Heap.SameBut C s'.heap h'->Inv X pins σ H' { s' with heap:=h' })->Q D H'->RR (.ref D) C (.ok .next) s') {E:Value->Shared->Prop} :
    wpAny (model X.prog X.w) X.A (newList []) (λacc s₃=>wpAny (model X.prog X.w) X.A (newFunctionEnv scope X.env.globals (rF X.env scope.names []) [] X.env.qual none .none (some X.env)) (λcenv s₄ =>
      codeAny (model X.prog X.w) X.A (.compStart (.ListComp elt [⟨tg,iter,ifs,0⟩] scope pos) 0 (.ref it) acc { cenv with scope:=relabel scope X.env }) (RR acc cenv.locals) s₄) E s₃) E s2:=by
  refine wpAny_newObj_type (wpAny_newFunctionEnv S.yO (by intro y hy;simp at hy) (λh₁ hns₁ hsb₁=>?_) S.kind);dsimp only at hns₁ hsb₁ ⊢;have hD:H2 s2.heap.objs.size=none:=I2.bK.fresh (Nat.le_refl _);have I3:Inv X pins σ (upd H2 s2.heap.objs.size (.lst [])) { s2 with heap:=s2.heap.push { cls:=.type "list",dict:=none,data:=.seq ([]:List Value).toArray },toks:=s2.toks }:=I2.BR (its:=[]) .nil (Nat.zero_le _);generalize hH2:s2.heap.push { cls:=.type "list",dict:=none,data:=.seq ([]:List Value).toArray }=HH at hns₁ hsb₁ I3 ⊢;have hC:HH.objs.size=s2.heap.objs.size+1:=by rw[<-hH2,Heap.size_push]
  have old:∀b o,HH.get? b=some o->h₁.get? b=some o:=λb o e=>hsb₁.extBut b o (Nat.ne_of_lt (Heap.lt_size e)) (Heap.get?_push_of_some _ e);have old2:∀b o,s2.heap.get? b=some o->HH.get? b=some o:=λb o e=>hH2 ▸ Heap.get?_push_of_some _ e;have ofp:∀b∈fp,∃o,s2.heap.get? b=some o:=λb hb=>by
    obtain ⟨o,e,_⟩:=T.obj _ _ st2 b hb;exact ⟨o,e⟩
  have neD:∀b∈fp,b≠s2.heap.objs.size:=λb hb=>by
    obtain ⟨o,e⟩:=ofp b hb;exact Nat.ne_of_lt (Heap.lt_size e)
  have f3:∀b∈fp,kU X pins (upd H2 s2.heap.objs.size (.lst [])) b:=λb hb=>⟨by rw[aC (neD b hb)];exact (f2 b hb).1,(f2 b hb).2⟩
  have ofp3:∀b∈fp,∃o,HH.get? b=some o:=λb hb=>by
    obtain ⟨o,e⟩:=ofp b hb;exact ⟨o,old2 b o e⟩
  have B:=wu (h₁:=h₁) (tk:=s2.toks+([]:List (Str×Value)).length) I3 S f3 ofp3 hns₁ old;have st1:tn 0 h₁:=T.keep _ _ _ st2 λb hb o e=>old b o (old2 b o e);have loop:codeAny (model X.prog X.w) X.A (.compLoop (.ListComp elt [⟨tg,iter,ifs,0⟩] scope pos) 0 (.ref it) (.ref s2.heap.objs.size) (compEnvC scope (rF X.env scope.names []) HH.objs.size X.env))
      (RR (.ref s2.heap.objs.size) HH.objs.size) { s2 with heap:=h₁,toks:=s2.toks+([]:List (Str×Value)).length }:=by
    refine xN (X:=o7 X scope N' (rF X.env scope.names []) fp HH.objs.size { s2 with heap:=HH,toks:=s2.toks } (upd H2 s2.heap.objs.size (.lst []))) (fp:=fp) rfl hc rfl rfl (hg _ _ _ _ _) (ht _ _ _ _ _) (he _ _ _ _ _) T
      (λb hb=>⟨(B.ok.ED b hb).1,B.ok.ym b hb,(B.ok.ED b hb).2⟩) (h _ hD) B st1 (λb hb=>(f3 b hb).1) λσ4 H4 s4 I4 q4=>?_
    obtain ⟨m4,hn4,_⟩:=I4.loc;refine fin _ HH.objs.size s4 m4 H4 (by rw[hC];exact Nat.le_succ _) (by rw[hC];exact Nat.succ_ne_self _) I4.free hn4 (λh' sb=>?_) q4;have u4:Un (xB X.stack) fp (upd H2 s2.heap.objs.size (.lst [])) H4 HH s4.heap:=I4.base;exact I3.Dh (s':={ s4 with heap:=h' }) I4.os (u4.but sb (Nat.le_refl _)) (I4.bK.but I4.free sb) I4.bare λb hb=>⟨(f2 b hb).2.2.2.1,(f2 b hb).2.1,(f2 b hb).2.2.2.2.1,(f2 b hb).2.2.2.2.2⟩
  exact codeAny_compStart_list loop (T.self _ 0 _ _ _ st1 loop)
theorem D1 (N':List Str)(fr:List (Option Nat))(hc:X.calm=true)(hi:PI X tg iter wi)
    (hg:∀cl fp C s H,PG (o7 X scope N' cl fp C s H) tg g) (ht:∀cl fp C s H,t9 (o7 X scope N' cl fp C s H) ifs tc) (he:∀cl fp C s H,PE (o7 X scope N' cl fp C s H) elt te)
    {sc0:Scope} {N0:List Str} (hsc:autoParam (X.env.scope=sc0) aZa._auto_1) (hN:autoParam (X.N=N0) aZa._auto_1) (bK:autoParam (iY sc0 N0 scope N' fr=true) aZe._auto_1) (hs:autoParam (∀x,foldedSetIterable iter X.env x=pure x) aZc._auto_1) :
    PE X (.ListComp elt [⟨tg,iter,ifs,0⟩] scope pos) (FA wi fr g tc te):=by
  intro pins s σ H Q I h;have S:lX X.env.scope X.N scope N' fr:=by rw[hsc,hN];exact pU bK
  have has:∀y∈scope.names,y.2=.free->∃c,X.env.cells.lookup y.1=some c:=λy hy hk=>I.ok.has y.1 (S.frees y hy hk);rw[eval_ListComp];refine wpAny_comprehension_free (use:=none) rfl hs (nJ has) S.kind S.names (de (hi pins s σ H _ I h) λv s1 h1=>de h1 λitv s2 h2=>?_);obtain ⟨it,fp,tn,J,H2,rfl,I2,T,st2,f2,w2⟩:=h2;refine uZ (Q:=λD=>Q (.ref D)) (RR:=λacc C=>compPost (model X.prog X.w) X.A X.xe none (EP X pins σ Q) acc C) hc S hg ht he I2 T st2 f2 w2 λD C s' m' H' h1 h2 h3 h4 h5 q=>?_;exact ⟨m',h4,λh' sb=>⟨.ref D,H',h5 h' sb,rfl,q⟩⟩
noncomputable def CJ (i:Nat)(t:TE):TS:=λD σ H=>t σ H λv H1=>D.nx (σ.set i (some v)) H1
theorem tD {i:Nat}{y:Str}{py spos:Pos}(hNd:X.N.Nodup)(hy:X.N[i]?=some y)(hly:Loc X.env.scope y)(N':List Str)(fr:List (Option Nat))(hc:X.calm=true)(hi:PI X tg iter wi)
    (hg:∀cl fp C s H,PG (o7 X scope N' cl fp C s H) tg g) (ht:∀cl fp C s H,t9 (o7 X scope N' cl fp C s H) ifs tc) (he:∀cl fp C s H,PE (o7 X scope N' cl fp C s H) elt te)
    {sc0:Scope} {N0:List Str} (hsw:autoParam (swapsWith (.ListComp elt [⟨tg,iter,ifs,0⟩] scope pos) (some (.Name y py)) spos.line X.env=pure true) aZa._auto_1)
    (hsc:autoParam (X.env.scope=sc0) aZa._auto_1) (hN:autoParam (X.N=N0) aZa._auto_1) (bK:autoParam (iY sc0 N0 scope N' fr=true) aZe._auto_1) (hs:autoParam (∀x,foldedSetIterable iter X.env x=pure x) aZc._auto_1)
    (hf:autoParam (X.fn y=true\/X.env.scope.names.lookup y=some .local) aZg._auto_1) :
    PS X (.Assign [.Name y py] (.ListComp elt [⟨tg,iter,ifs,0⟩] scope pos) spos) (CJ i (FA wi fr g tc te)):=by
  intro pins s σ H D I h;have S:lX X.env.scope X.N scope N' fr:=by rw[hsc,hN];exact pU bK
  have has:∀y∈scope.names,y.2=.free->∃c,X.env.cells.lookup y.1=some c:=λy hy hk=>I.ok.has y.1 (S.frees y hy hk);rw[exec_Assign_Name_used _ _ _ _ hsw];refine wpAny_bind (wpAny_standAt (wpAny_bind ?_));show wpAny _ X.A (do let _ <-comprehension (.ListComp elt [⟨tg,iter,ifs,0⟩] scope pos) scope X.env _ (newList []) false (eval iter X.env) (some (assign (.Name y py) X.env))) _ _ s;refine wpAny_bind (wpAny_mono (wpAny_comprehension_free (use:=some (assign (.Name y py) X.env)) (Q:=λ_ s'=>SP X pins D .next s') rfl hs (nJ has) S.kind S.names
    (de (hi pins s σ H _ I h) λv s1 h1=>de h1 λitv s2 h2=>?_)) (λ_ s' hq=>wpAny_pure (wpAny_pure hq)) λ_ _ e=>e)
  obtain ⟨it,fp,tn,J,H2,rfl,I2,T,st2,f2,w2⟩:=h2;refine uZ (Q:=λB H1=>D.nx (σ.set i (some (.ref B))) H1) (RR:=λacc C=>compPost (model X.prog X.w) X.A X.xe (some (assign (.Name y py) X.env)) (λ_ s'=>SP X pins D .next s') acc C) hc S hg ht he I2 T st2 f2 w2 λB C s' m' H' h1 h2 h3 h4 h5 q=>?_;have I5:Inv X pins σ H' { s' with heap:=s'.heap }:=h5 s'.heap (.refl ..);show wpAny _ X.A (assign (.Name y py) X.env (.ref B)) _ _ s';refine wpAny_assign_Name (qk (v:=.ref B) I5 hNd hy hly rfl ?_ hf);rintro s6 I6 ⟨a,sb,ha⟩;have nL:C≠X.env.locals:=Nat.ne_of_gt (Nat.lt_of_lt_of_le I2.lt h1);have nC:∀x c,X.env.cells.lookup x=some c->c≠C:=λx c e=>by
    obtain ⟨v,o,ho,_⟩:=I2.cell x c e;exact Nat.ne_of_lt (Nat.lt_of_lt_of_le (Heap.lt_size ho) h1)
  have nP:∀p∈X.pn++pins,p.1≠C:=λp hp=>by
    have e:=(I2.pin p hp).1;exact Nat.ne_of_lt (Nat.lt_of_lt_of_le (Heap.lt_size e) h1)
  have na:a≠C:=by
    rcases ha with e | e
    · rw[e];exact nL.symm
    · exact nC _ _ e
  refine ⟨m',h4.sameBut sb (Ne.symm na),λh' sb'=>⟨σ.set i (some (.ref B)),H',?_,q⟩⟩;exact I6.turned (t':=s6.toks) (λb o hb e=>(sb'.2 b hb).trans e) h3 nL (.inr (Nat.le_trans I2.sz h1)) nC nP
end
end L2
namespace L2
open PySem PySem.Spec PyProof.Rows
section
variable {X:Cx}
noncomputable def Fu (K:Frag):List V->Hp->VK->Prop:=λxs H Q=>∃(p:Addr) (ns:List Int),xs = [.ref p]/\d6 K H p (ns.map V.int)/\Q (.int ns.sum) H
theorem wD (hc:X.calm=true):hJ X (.builtin "sum") (Fu X.K):=by
  intro pins s σ H xs us Q I r h;obtain ⟨p,ns,rfl,hp,q⟩:=h;obtain ⟨u,rfl,ru⟩:=vals1 r;cases ru;obtain ⟨its,rv,pl,hz⟩:=I.list hp;have hi:IntsAre its ns:=intsAre_of rv;obtain ⟨zs,e⟩:=hi.allInts.items;refine sum_intListG (I.ok.hd hc) (xs:=zs) (e ▸ pl.isList) λh' tk t' hk=>⟨.int ns.sum,H,I.kept hk,⟨t',?_⟩,q⟩
  have e2:=congrArg Array.toList e;have e3:numsOf (intItems zs).toList=ns:=by rw[<-e];exact hi.numsOf
  rw[nums_intItems] at e3;rw[preSum_eq,take_of_length_le (by simp),e3]
noncomputable def Fp (K:Frag):List V->Hp->VK->Prop:=λxs H Q=>∃x n,xs = [x]/\C6 K x H n/\Q (.int n) H
theorem wx:hJ X (.builtin "len") (Fp X.K):=xQ
theorem bV {n:Nat}(h:n<=1000):n<=sizeLine:=Nat.le_of_lt (g8 h)
noncomputable def d5 {α:Type}(xs:List α)(lo hi st:Option Int):List α:=(sliceRange (sliceBounds lo hi st xs.length).1 (sliceBounds lo hi st xs.length).2.1 (sliceBounds lo hi st xs.length).2.2).filterMap (λj=>xs[j]?)
theorem j8 {xs:List V}{its:List Value}(r:Vals xs its):∀js:List Nat,Vals (js.filterMap λj=>xs[j]?) (js.filterMap λj=>its[j]?)
  | []=>.nil
  | j::js=>by
    rw[filterMap_cons,filterMap_cons];cases e:xs[j]? with
    | none=>rw[r.none_of e];exact j8 r js
    | some x =>
      obtain ⟨u,e1,e2⟩:=r.get e;rw[e1];exact .cons e2 (j8 r js)
theorem xu {α β:Type}(f:α->β)(xs:List α)(lo hi st:Option Int):d5 (xs.map f) lo hi st=(d5 xs lo hi st).map f:=by
  unfold d5;rw[length_map];generalize sliceRange _ _ _=js;induction js with
  | nil=>rfl
  | cons j js ih =>
    rw[filterMap_cons,filterMap_cons,getElem?_map];cases xs[j]? with
    | none=>simpa using ih
    | some x=>simpa using ih
theorem xt {xs:List V}{its:List Value}(r:Vals xs its)(lo hi st:Option Int):(d5 xs lo hi st).length<=xs.length:=by
  have h:=slicePick_size_le its.toArray lo hi st;have e:Vals (d5 xs lo hi st) (slicePick its.toArray lo hi st).toList:=by
    unfold d5 slicePick;rw[show its.toArray.size=xs.length from r.length.symm];have:=j8 r (sliceRange (sliceBounds lo hi st xs.length).1 (sliceBounds lo hi st xs.length).2.1 (sliceBounds lo hi st xs.length).2.2);simpa using this
  have e1:=e.length;have e2:=r.length;rw[e1,length_toList];have h3:its.toArray.size=its.length:=size_toArray;lia
noncomputable def FH (K:Frag)(te:TE)(tl th ts:TO):TE:=λσ H Q=>te σ H λx H1=>tl σ H1 λl H2=>th σ H2 λu H3=>ts σ H3 λst H4 =>
  ∃a xs,x=.ref a/\d6 K H4 a xs/\st≠some 0/\∀p,H4 p=none->Q (.ref p) (upd H4 p (.lst (d5 xs l u st)))
theorem xf {e:Expr}{te:TE}{lo hi:Option Expr}{st:Expr}{tl th ts:TO}{p2 pos:Pos}(he:PE X e te)(hl:PO X lo tl)(hu:PO X hi th)(hs:PO X (some st) ts):PE X (.Subscript e (.Slice lo hi (some st) p2) pos) (FH X.K te tl th ts):=by
  intro pins s σ H Q I h;refine Subscript_ (de (he pins s σ H _ I h) ?_);rintro v s1 ⟨x,H1,I1,r1,q1⟩;refine wpAny_Slice (de (hl pins s1 σ H1 _ I1 q1) λvl s2 ⟨l,H2,I2,pl,q2⟩=>de (hu pins s2 σ H2 _ I2 q2) λvu s3 ⟨u,H3,I3,pu,q3⟩=>de (hs pins s3 σ H3 _ I3 q3) ?_);rintro vs s4 ⟨sv,H4,I4,ps,q4⟩;obtain ⟨a,xs,rfl,hx,h0,q⟩:=q4;cases r1;have I5:Inv X pins σ H4 { s4 with heap:=s4.heap.push { cls:=.type "slice",data:=.fields #[vl,vu,vs] } }:=I4.kept (t':=s4.toks) λb ob q=>Heap.get?_push_of_some _ q;obtain ⟨its,r,ht,hz⟩:=I5.list hx;have hlen:=r.length;have hg:wpAny (model X.prog X.w) X.A (getItem (.ref a) (.ref s4.heap.objs.size)) (EP X pins σ Q) X.xe { s4 with heap:=s4.heap.push { cls:=.type "slice",data:=.fields #[vl,vu,vs] } }:=by
    refine wpAny_getItem_list_slice ht.isList (Heap.IsSliceOf.new ..) pl pu ps h0 ?_ (by rw[size_toArray]<;>lia);refine ⟨.ref _,_,I5.laid (t':=s4.toks) (o:=.lst (d5 xs l u sv)) (λb ob q=>Heap.get?_push_of_some _ q) (Nat.le_refl _) ?_,rfl,q _ (I5.bK.fresh (Nat.le_refl _))⟩;refine ⟨Nat.le_trans (xt r l u sv) hz,(slicePick its.toArray l u sv).toList,0,?_,?_⟩
    · unfold d5 slicePick;rw[show its.toArray.size=xs.length from r.length.symm];have:=j8 r (sliceRange (sliceBounds l u sv xs.length).1 (sliceBounds l u sv xs.length).2.1 (sliceBounds l u sv xs.length).2.2);simpa using this
    · rw[Array.toArray_toList];exact Heap.get?_push_size _ rfl
  show wpAny (model X.prog X.w) X.A (subscriptTail e (.Slice lo hi (some st) p2) (.ref a) (.ref s4.heap.objs.size)) (EP X pins σ Q) X.xe { s4 with heap:=s4.heap.push { cls:=.type "slice",data:=.fields #[vl,vu,vs] } };exact tail_any (ops:=[.ref a,.ref s4.heap.objs.size]) ht.isList.typeIs slot_list_getitem.lookup hg (by with_unfolding_all rfl)
inductive CP (K:Frag)(H:Hp):Nat->V->V->Prop where
  | sc {n:Nat} {x:V} (f:Dq x=true):CP K H n x x
  | rf {n:Nat} {a:Addr}:CP K H n (.ref a) (.ref a)
  | tup {n:Nat} {a b:Addr} {xs ys:List V} (h1:kX K H a xs) (h2:kX K H b ys) (hl:xs.length=ys.length) (h:∀(i:Nat) (x y:V),xs[i]?=some x->ys[i]?=some y->CP K H n x y):CP K H (n+1) (.ref a) (.ref b)
  | lst {n:Nat} {a b:Addr} {xs ys:List V} (h1:d6 K H a xs) (h2:d6 K H b ys) (hl:xs.length=ys.length) (h:∀(i:Nat) (x y:V),xs[i]?=some x->ys[i]?=some y->CP K H n x y):CP K H (n+1) (.ref a) (.ref b)
theorem mP:hJ X (.type "range") (λxs H Q=>∃j,xs = [.int j]/\∀p,H p=none->Q (.ref p) (upd H p (.rng 0 j))):=by
  intro pins s σ H xs us Q I r h;obtain ⟨j,rfl,q⟩:=h;obtain ⟨u,rfl,t,rfl⟩:=vals1 r;refine call_range_1 ⟨.ref s.heap.objs.size,_,I.laid (λb ob q=>Heap.get?_push_of_some _ q) (Nat.le_refl _) ?_,rfl,q _ (I.bK.fresh (Nat.le_refl _))⟩;exact ⟨_,_,_,Heap.get?_push_size _ rfl⟩
noncomputable def sE (lo hi:Int):List V:=(List.range (hi - lo).toNat).map λi=>V.int (lo+(i:Nat))
theorem qT (lo hi:Int):(sE lo hi).length=(hi - lo).toNat:=by unfold sE;rw[length_map,length_range]
theorem oU {lo:Int}:∀(n:Nat) (us:List Value) (k:Nat),us.length=n->(∀i (h:i<us.length),∃t,us[i]=Value.int (lo+((k+i:Nat):Int)) t)->Vals ((List.range' k n).map λi=>V.int (lo+(i:Nat))) us
  | 0,[],_,_,_=>.nil
  | n+1,u::us,k,hl,h=>by
    rw[List.range'_succ,map_cons];refine .cons ?_ (oU n us (k+1) (by simpa using hl) λi hi=>?_)
    · obtain ⟨t, e⟩ := h 0 (by simp);exact ⟨t,by simpa using e⟩
    · obtain ⟨t, e⟩ := h (i + 1) (by simpa using hi);refine ⟨t,?_⟩;have e':us[i]=Value.int (lo+((k+(i+1):Nat):Int)) t:=by simpa using e
      rw[e'];congr 2;lia
theorem zw (hc:X.calm=true):hJ X (.type "list") (λxs H Q=>∃p lo hi,xs = [.ref p]/\H p=some (.rng lo hi)/\(-(2 ^ 62)<=lo/\lo<2 ^ 62/\-(2 ^ 62)<=hi/\hi<2 ^ 62)/\(hi - lo).toNat<=sizeLine /\
    ∀l,H l=none->Q (.ref l) (upd H l (.lst (sE lo hi)))):=by
  intro pins s σ H xs us Q I r h;obtain ⟨p,lo,hi,rfl,hp,⟨b1,b2,b3,b4⟩,hz,q⟩:=h;obtain ⟨u,rfl,ru⟩:=vals1 r;cases ru;obtain ⟨t,u,v,hr⟩:=(show d7 X.prog X.w H s.heap p (.rng lo hi) from I.bK p _ hp)
  have hsz:sizeLine=16777216:=sizeLine_eq;refine call_list_range (I.ok.hd hc) hr (small_one b1 b2 b3 b4) (n:=(hi - lo).toNat) (by rw[rangeSize_one];split<;>lia) (by rw[hsz] at hz;exact hz) λh' tk acc' c' hk hS hacc=>?_;obtain ⟨hlen,hit⟩:=hacc;refine ⟨.ref _,_,I.laid hk (Nat.le_refl _) (o:=.lst (sE lo hi)) ⟨by rw[qT];exact hz,acc'.toList,c',?_,by rw[Array.toArray_toList];exact hS⟩,rfl,q _ (I.bK.fresh (Nat.le_refl _))⟩;unfold sE;rw[List.range_eq_range'];refine oU _ _ 0 (by rw[length_toList];exact hlen) λi hi'=>?_;obtain ⟨t,e⟩:=hit i acc'.toList[i] (by
    have:acc'[i]?=acc'.toList[i]?:=by simp
    rw[this,getElem?_eq_getElem hi'])
  refine ⟨t,?_⟩;rw[e,Int.mul_one,Nat.zero_add]
theorem gq {a:Int}(h1 : -(2 ^ 63)<=a)(h2:a<2 ^ 63):Builtin.Range.rangeFitsLong a=true:=by
  unfold Builtin.Range.rangeFitsLong;first
    | (simp;lia)
    | (rw[decide_eq_true_iff];lia)
theorem m6 (r:Addr)(a b:Int)(t u v:Tok)(hc0:(Builtin.Range.rangeFitsLong a && Builtin.Range.rangeFitsLong b && Builtin.Range.rangeFitsLong 1 && Builtin.Range.rangeFitsLong (-1) && Builtin.Range.rangeFitsLong (a - 1) && Builtin.Range.rangeFitsLong (Builtin.Range.rangeSize a b 1))=true) :
    Meets (Builtin.«range.__reversed__» ⟨[.ref r],[]⟩) (λ_ R s=>s.heap.get? r=some { cls:=.type "range",dict:=none,data:=.fields #[.int a t,.int b u,.int 1 v],slots:=#[] } /\
      R (.ok (.ret (Value.ref s.heap.objs.size))) { s with heap:=s.heap.push { cls:=.type "range_iterator",data:=.fields #[rawInt (a+(Builtin.Range.rangeSize a b 1 - 1)*1),rawInt (Builtin.Range.rangeSize a b 1),rawInt (-1)] } }):=
  .of_wp λprog w A R s h=>by
    obtain ⟨hp,g,d,tk,os⟩:=s;obtain ⟨hl,h⟩:=h;unfold Builtin.«range.__reversed__»;refine wpAny_bind (wpAny_of_eq (a:=Value.ref r) rfl ?_);refine wpAny_bind (m:=Builtin.Range.rangeFields (.ref r)) ?_;unfold Builtin.Range.rangeFields;refine wpAny_bind (wpAny_field hl rfl (x:=.int a t) rfl ?_);refine wpAny_bind (wpAny_of_eq (a:=some a) rfl ?_);refine wpAny_bind (wpAny_field hl rfl (x:=.int b u) rfl ?_);refine wpAny_bind (wpAny_of_eq (a:=some b) rfl ?_);refine wpAny_bind (wpAny_field hl rfl (x:=.int 1 v) rfl ?_);refine wpAny_bind (wpAny_of_eq (a:=some (1:Int)) rfl ?_);refine wpAny_pure ?_;dsimp only;rw[hc0];simp only[Bool.not_true,Bool.false_eq_true,if_false,if_true];first
      | exact wpAny_bind (wpAny_newObj_type (wpAny_pure ⟨_,rfl,h⟩))
      | exact wpAny_bind (wpAny_pure (wpAny_bind (wpAny_newObj_type (wpAny_pure ⟨_,rfl,h⟩))))
theorem kd {prog:Program}{w:World}{A:Around}{E:Value->Shared->Prop}{s:Shared}{r:Addr}{lo hi:Int}{t u v:Tok}{Q:Value->Shared->Prop}(hr:IsRange s.heap r lo hi 1 t u v)(h1 : -(2 ^ 62)<=lo)(h2:lo<2 ^ 62)(h3 : -(2 ^ 62)<=hi)(h4:hi<2 ^ 62)
    (h:Q (.ref s.heap.objs.size) { s with heap:=s.heap.push { cls:=.type "range_iterator",data:=.fields #[rawInt (lo+(Builtin.Range.rangeSize lo hi 1 - 1)*1),rawInt (Builtin.Range.rangeSize lo hi 1),rawInt (-1)] } }) :
    wpAny (model prog w) A (call (.builtin "range.__reversed__") [.ref r]) Q E s:=by
  have hT:s.TypeIs (.ref r) "range":=⟨_,hr,rfl⟩
  have hn:Builtin.Range.rangeSize lo hi 1=if lo<hi then hi - lo else 0:=rangeSize_one lo hi
  have small:(Builtin.Range.rangeFitsLong lo && Builtin.Range.rangeFitsLong hi && Builtin.Range.rangeFitsLong 1 && Builtin.Range.rangeFitsLong (-1) && Builtin.Range.rangeFitsLong (lo - 1) && Builtin.Range.rangeFitsLong (Builtin.Range.rangeSize lo hi 1))=true:=by
    rw[gq (a:=lo) (by lia) (by lia),gq (a:=hi) (by lia) (by lia),gq (a:=1) (by lia) (by lia),gq (a:=-1) (by lia) (by lia),gq (a:=lo - 1) (by lia) (by lia),gq (a:=Builtin.Range.rangeSize lo hi 1) (by rw[hn];split<;>lia) (by rw[hn];split<;>lia)];rfl
  refine call_meets F.slot_range_reversed hT F.entry_range_reversed (F.args_range_reversed_1 _) (m6 r lo hi t u v small) ⟨hr,?_⟩;exact h
theorem ke {prog:Program}{w:World}{A:Around}{E:Value->Shared->Prop}{s:Shared}{r:Addr}{lo hi:Int}{t u v:Tok}{Q:Value->Shared->Prop}(hr:IsRange s.heap r lo hi 1 t u v)(h1 : -(2 ^ 62)<=lo)(h2:lo<2 ^ 62)(h3 : -(2 ^ 62)<=hi)(h4:hi<2 ^ 62)
    (h:Q (.ref s.heap.objs.size) { s with heap:=s.heap.push { cls:=.type "range_iterator",data:=.fields #[rawInt (lo+(Builtin.Range.rangeSize lo hi 1 - 1)*1),rawInt (Builtin.Range.rangeSize lo hi 1),rawInt (-1)] } }) :
    wpAny (model prog w) A (call (.type "reversed") [.ref r]) Q E s:=by
  have hT:s.TypeIs (.ref r) "range":=⟨_,hr,rfl⟩
  refine callType_other (U:="range_iterator") (Q₁:=λobj s₁=>obj=.ref s.heap.objs.size/\s₁ = { s with heap:=s.heap.push { cls:=.type "range_iterator",data:=.fields #[rawInt (lo+(Builtin.Range.rangeSize lo hi 1 - 1)*1),rawInt (Builtin.Range.rangeSize lo hi 1),rawInt (-1)] } })
    (by decide +kernel) F.create_reversed ⟨_,_,F.mro_reversed⟩ F.made_reversed (by rw[isSubtype_type];kernel_rfl) (F.typeCall_reversed_1 _) ?_ ?_
  · refine codeAny_of_tree ?_;show wpAny _ A.in1.in1 (do checkBuiltinCall "reversed.__new__" ⟨[.type "reversed",.ref r],[]⟩;again (.builtin "reversed.__new__" ⟨[.type "reversed",.ref r],[]⟩)) _ _ s;refine wpAny_bind (wpAny_of_eq (F.newCall_reversed_1 _) (wpAny_pure ⟨plainId_quiet F.plain_reversed_new _,codeAny_builtin F.entry_reversed_new ?_⟩));rw[Around.under_plainId F.plain_reversed_new _];unfold Builtin.«reversed.__new__»;refine wpAny_bind (wpAny_of_eq (newClass_reversed _) ?_);try dsimp only
    refine wpAny_bind (wpAny_of_eq (a:=()) (by first | rfl | kernel_rfl) ?_);refine wpAny_bind (wpAny_of_eq (a:=()) (by first | rfl | kernel_rfl) ?_);try dsimp only
    refine wpAny_bind (wpAny_specialOf hT F.slot_range_reversed.lookup ?_);try dsimp only
    refine wpAny_bind (wpAny_of_eq (F.slot_range_reversed.bind _) ?_);try dsimp only
    first
    | rw[if_neg (show ¬((Value.builtin "range.__reversed__" == Value.none)=true) from Bool.false_ne_true)]
    | (show wpAny _ _ (if (Value.builtin "range.__reversed__" == Value.none)=true then _ else _) _ _ _;rw[if_neg (show ¬((Value.builtin "range.__reversed__" == Value.none)=true) from Bool.false_ne_true)])
    refine wpAny_bind (wpAny_rule ?_);refine wpAny_bind (m:=runValue (.call (.builtin "range.__reversed__") ⟨[.ref r],[]⟩)) (show wpAny _ _ (call (.builtin "range.__reversed__") [.ref r]) _ _ _ from kd hr h1 h2 h3 h4 ?_);first
    | exact wpAny_pure ⟨rfl,rfl⟩
    | exact wpAny_bind (wpAny_pure (wpAny_pure ⟨rfl,rfl⟩))
  · rintro obj s₁ ⟨rfl,rfl⟩;exact ⟨⟨_,Heap.get?_push_size _ rfl,rfl⟩,h⟩
noncomputable def C5 (a c:Int)(n:Nat):It:=⟨λi _=>i<n,λi H x H'=>H'=H/\x=.int (a+(i:Nat)*c),λi _=>n<=i⟩
theorem oS {P:Program}{w:World}{K:Frag}{tg:Expr}(it:Addr)(a c:Int)(n:Nat):Turn P w K tg (C5 a c n) [it] it (λi h=>IsRangeIter h it (a+(i:Nat)*c) ((n:Int) - (i:Nat)) c) where
  mem:=by simp
  obj:=λi h st b hb=>by
    have e:b=it:=by simpa using hb
    subst e;exact ⟨_,st,λv z=>by
      have z':Data.fields _=Data.cell v:=z;cases z'⟩
  keep:=λi h h' st k=>k it (by simp) _ st
  item:=by
    intro X hP hw hK hc i pins s σ H E I hf st hg;subst hP hw hK;obtain ⟨f0,f1,f2,f3,f4,f5⟩:=hf it (by simp);have W:=Walks.range (prog:=X.prog) (w:=X.w) (I.ok.hd hc) it a c n;refine W.item i s _ _ hg st λv h' tk hv st' kk=>?_;obtain ⟨t,rfl⟩:=hv;have I1:Inv X pins σ H { s with heap:=h',toks:=tk }:=I.turned (λb o hb e=>kk b o (by simpa using hb) e) f0 f1 f3 f4 f5;exact ⟨_,rfl,yv (s:={ s with heap:=h',toks:=tk }) (n:="range_iterator") st' rfl rfl (by decide) ⟨.int (a+(i:Nat)*c),H,I1,⟨t,rfl⟩,⟨rfl,rfl⟩,st',λb hb=>(hf b hb).1⟩⟩
  done:=by
    intro X hP hw hK hc i pins s σ H E I hf st hg;subst hP hw hK;obtain ⟨f0,f1,f2,f3,f4,f5⟩:=hf it (by simp);exact wpAny_pyNext_range_end (I.ok.hd hc) st (by have:n<=i:=hg;lia) λh' eb=>⟨rfl,I.turned (t':=s.toks) (λb o hb e=>eb b o hb e) f0 f1 f3 f4 f5⟩
  self:=λ_ _ _ _ _ st h=>wpAny_pyIter_rangeiter st h
noncomputable def E5 (ta:TA):TI:=λσ H R=>ta σ H λvs H1=>∃p lo hi,vs = [.ref p]/\H1 p=some (.rng lo hi)/\(-(2 ^ 62)<=lo/\lo<2 ^ 62/\-(2 ^ 62)<=hi/\hi<2 ^ 62)/\lo<=hi/\R (C5 (hi - 1) (-1) (hi - lo).toNat) H1
theorem Cn {tg a:Expr}{ta:TA}{p pos:Pos}(hg:Gl X "reversed")(hm:X.mg "reversed" = none)(ha:PA X [a] ta)(hs:autoParam (starEach [a] X.env = [(false,eval a X.env)]) aZa._auto_1):PI X tg (.Call (.Name "reversed" p) [a] [] pos) (E5 ta):=by
  intro pins s σ H R I h;refine Call_ (fh I hg hm boot_reversed (PyProof.Rows.callWith_type1 (de (ha pos pins s σ H _ I h) ?_) hs rfl));rintro us s1 ⟨vs,H1,I1,r1,q1⟩;obtain ⟨b,lo,hi,rfl,hb,⟨b1,b2,b3,b4⟩,hle,q⟩:=q1;obtain ⟨u,rfl,ru⟩:=vals1 r1;cases ru;obtain ⟨t,u,v,hr⟩:=(show d7 X.prog X.w H1 s1.heap b (.rng lo hi) from I1.bK b _ hb)
  have hn:Builtin.Range.rangeSize lo hi 1=((hi - lo).toNat:Int):=by rw[rangeSize_one];split<;>lia
  refine ke hr b1 b2 b3 b4 ?_;rw[hn];have I2:Inv X pins σ H1 { s1 with heap:=s1.heap.push { cls:=.type "range_iterator",data:=.fields #[rawInt (lo+(((hi - lo).toNat:Int) - 1)*1),rawInt ((hi - lo).toNat:Int),rawInt (-1)] } }:=I1.kept (t':=s1.toks) λc o e=>Heap.get?_push_of_some _ e;have e1:lo+(((hi - lo).toNat:Int) - 1)*1=(hi - 1)+((0:Nat):Int)*(-1):=by lia
  have st:IsRangeIter (s1.heap.push { cls:=.type "range_iterator",data:=.fields #[rawInt (lo+(((hi - lo).toNat:Int) - 1)*1),rawInt ((hi - lo).toNat:Int),rawInt (-1)] }) s1.heap.objs.size ((hi - 1)+((0:Nat):Int)*(-1)) (((hi - lo).toNat:Int) - ((0:Nat):Int)) (-1):=by
    rw[<-e1,show (((hi - lo).toNat:Int) - ((0:Nat):Int))=((hi - lo).toNat:Int) by lia];exact Heap.get?_push_size _ rfl
  have T:Turn X.prog X.w X.K tg (C5 (hi - 1) (-1) (hi - lo).toNat) [s1.heap.objs.size] s1.heap.objs.size (λi h=>IsRangeIter h s1.heap.objs.size ((hi - 1)+(i:Nat)*(-1)) (((hi - lo).toNat:Int) - (i:Nat)) (-1)):=oS _ _ _ _;refine T.self _ 0 _ _ _ st ?_;refine ⟨s1.heap.objs.size,[s1.heap.objs.size],_,_,H1,rfl,I2,T,st,λc hc=>?_,q⟩;have e:c=s1.heap.objs.size:=by simpa using hc
  subst e;exact I1.um (Nat.le_refl _) (I1.bK.fresh (Nat.le_refl _))
end
end L2
namespace WS
noncomputable abbrev S3:=Int×Int×Int
noncomputable def mx (i j:Int):Int:=if j>i then j else i
noncomputable def iW (b:S3)(L:Int):Int:=b.2.2*mx 0 (b.2.1 - mx b.1 L)
noncomputable def EB (b:S3)(L:Int):Int:=if b.1<=L/\L<b.2.1 then b.2.2 else 0
noncomputable def above (bs:List S3)(L:Int):Int:=(bs.map λb=>iW b L).sum
noncomputable def jU (bs:List S3)(L:Int):Int:=(bs.map λb=>EB b L).sum
noncomputable def gu (hs:List S3):List S3:=hs.map λx=>(x.2.1,x.1,x.2.2)
noncomputable def eP (g:Int)(cs:List S3):List S3:=cs.map λx=>(x.1+g,x.2.1+g,x.2.2)
theorem rL (b:S3)(L:Int):iW b L=iW b (L+1)+EB b L:=by
  obtain ⟨lo,hi,r⟩:=b;unfold iW EB mx;dsimp only;by_cases h1:lo<=L/\L<hi
  · rw[if_pos h1];have a1:(if L>lo then L else lo)=L:=by split<;>lia
    have a2:(if L+1>lo then L+1 else lo)=L+1:=by split<;>lia
    rw[a1,a2];have a3:(if hi - L>0 then hi - L else 0)=hi - L:=by split<;>lia
    have a4:(if hi - (L+1)>0 then hi - (L+1) else 0)=hi - L - 1:=by split<;>lia
    rw[a3,a4,show hi - L=(hi - L - 1)+1 by lia,Int.mul_add,Int.mul_one];congr 2;lia
  · rw[if_neg h1];have a:(if hi - (if L>lo then L else lo)>0 then hi - (if L>lo then L else lo) else 0)=(if hi - (if L+1>lo then L+1 else lo)>0 then hi - (if L+1>lo then L+1 else lo) else 0):=by
      by_cases c1:L>lo<;>by_cases c2:L+1>lo<;>simp only[c1,c2,if_true,if_false]<;>split<;>split<;>lia
    rw[a,Int.add_zero]
theorem kv (L:Int):∀bs:List S3,above bs L=above bs (L+1)+jU bs L
  | []=>rfl
  | b::bs=>by
    have ih:=kv L bs;unfold above jU at *;rw[map_cons,map_cons,map_cons,sum_cons,sum_cons,sum_cons,ih,rL b L];lia
theorem iE {L:Int}:∀{bs:List S3},(∀b∈bs,b.2.1<=L)->above bs L=0
  | [],_=>rfl
  | b::bs,h=>by
    have ih:=iE (L:=L) (bs:=bs) λx hx=>h x (mem_cons_of_mem _ hx);have hb:=h b mem_cons_self;have e:iW b L=0:=by
      unfold iW mx;have:(if b.2.1 - (if L>b.1 then L else b.1)>0 then b.2.1 - (if L>b.1 then L else b.1) else 0)=0:=by split<;>split at *<;>lia
      rw[this,Int.mul_zero]
    unfold above at *;rw[map_cons,sum_cons,ih,e];rfl
theorem xJ (bs:List S3)(b:S3)(L:Int):jU (bs++[b]) L=jU bs L+EB b L:=by
  unfold jU;rw[map_append,sum_append];simp
noncomputable def fT (g:Int)(hs cs:List S3)(L:Int):Int:=above (eP g cs) L - above (gu hs) L
theorem uv (g:Int)(hs cs:List S3)(L:Int):fT g hs cs L=fT g hs cs (L+1)+jU (eP g cs) L - jU (gu hs) L:=by
  unfold fT;rw[kv L (eP g cs),kv L (gu hs)];lia
structure rH (x:S3):Prop where
  lo:0<=x.2.1
  lt:x.2.1<x.1
  hi:x.1<=200
  r0:1<=x.2.2
  r1:x.2.2<=1000000000
structure lW (x:S3):Prop where
  lo:0<=x.1
  lt:x.1<x.2.1
  hi:x.2.1<=200
  r0:1<=x.2.2
  r1:x.2.2<=1000000000
theorem yz {hs:List S3}(h:∀x∈hs,rH x):∀b∈gu hs,b.2.1<=250:=λb hb=>by
  obtain ⟨x,hx,rfl⟩:=mem_map.mp hb;have:=(h x hx).hi;show x.1<=250;lia
theorem wH {g:Int}{cs:List S3}(hg:g<=50)(h:∀x∈cs,lW x):∀b∈eP g cs,b.2.1<=250:=λb hb=>by
  obtain ⟨x,hx,rfl⟩:=mem_map.mp hb;have:=(h x hx).hi;show x.2.1+g<=250;lia
theorem wR {g:Int}{hs cs:List S3}(hg:g<=50)(h1:∀x∈hs,rH x)(h2:∀x∈cs,lW x):fT g hs cs 250=0:=by
  unfold fT;rw[iE (wH hg h2),iE (yz h1)];rfl
end WS
namespace L2
open PySem PySem.Spec PyProof.Rows
structure Fn (P:Program)(w:World)(K:Frag)(mg:Str->Option Value)(base:Heap)(x:Str)(k:Nat)(ps:List Str)(sp:Sp):Prop where
  ex:∃f fd,bO P w K mg base gX k f fd ps sp/\mg x=some (.ref f)/\keepIn K (.ref f)=true/\Binds K fd ps []
theorem Bg {X:Cx}{x:Str}{k:Nat}{ps:List Str}{sp:Sp}{p pos:Pos}{e:Expr}{es:List Expr}{t:TA}(F:Fn X.prog X.w X.K X.mg X.base x k ps sp)(hr:fX k X.A)(hg:Gl X x)(ha:PA X (e::es) t)
    (hdb:autoParam ((x == ("__debug__" : Str))=false) aZb._auto_1) (he:autoParam (starEach (e::es) X.env=(false,eval e X.env)::starEach es X.env) aZa._auto_1) (hpl:autoParam ((backTo pos (starEach es X.env)).any (·.1)=false) aZa._auto_1) :
    PE X (.Call (.Name x p) (e::es) [] pos) (Bk sp [] E0 t):=by
  obtain ⟨f,fd,G,hm,hk,hb⟩:=F.ex;exact As G hr hg hm hk hb .nil DX ha hdb he hpl
theorem bW {P:Program}{w:World}{K:Frag}{mg:Str->Option Value}{base:Heap}{x qual:Str}{st:Stmt}{f:Addr}{fd:FuncData}{k:Nat}{ps:List Str}{sp:Sp}(F:iT K x qual st f fd)(hm:mg x=some (.ref f))(hb:Binds K fd ps [])(ok:bO P w K mg base gX k f fd ps sp) :
    Fn P w K mg base x k ps sp:=⟨f,fd,ok,hm,F.kp,hb⟩
theorem h8 {X:Cx}:C7 X (AK X.K):=by
  intro pins s σ H x y v u Q I rx ry h;obtain ⟨p,xs,i,z,rfl,rfl,hq,he,q⟩:=h;cases rx;obtain ⟨t,rfl⟩:=ry;obtain ⟨its,r,pl,hz⟩:=I.list hq;obtain ⟨j,h1,h2,h3,h4,h5⟩:=kZ he;obtain ⟨w,ew,rw'⟩:=r.get h2;have hl:=r.length;have hn:=jE;have fin:EP X pins σ Q w s:=⟨z,H,I,rw',q⟩
  by_cases h0:0<=i
  · have hj:i.toNat=j:=by
      rw[seqIndex_of h0 h5] at h1;exact Option.some.inj h1
    exact wpAny_getItem_list pl.isList h0 (by lia) (by rw[hj];simpa using ew) fin
  · have hj:(i+(its.toArray.size:Int)).toNat=j:=by
      rw[seqIndex_neg (by lia) h4] at h1;rw[size_toArray,<-hl];exact Option.some.inj h1
    exact wpAny_getItem_list_neg pl.isList (by lia) (by rw[size_toArray]<;>lia) (by lia) (by rw[hj];simpa using ew) fin
theorem iR {H:Hp}{a:Addr}{o:HO}(h:H a=none):aE H (upd H a o):=λb u e=>by
  rw[aC (aX e h)];exact e
theorem aE.upd {H H':Hp}{a:Addr}{o:HO}(s:aE H H')(h:H a=none):aE H (upd H' a o):=λb u e=>by
  rw[aC (aX e h)];exact s b u e
end L2
namespace WS
open PySem L2
theorem ic {α β:Type}{F:α->β->Prop}:∀{l:List α} {r:List β} {i:Nat} {a:α},Paired F l r->l[i]?=some a->∃b,r[i]?=some b/\F a b
  | _,_,_,_,.nil,e=>by simp at e
  | _,_,0,_,.cons h _,e=>by simp at e;subst e;exact ⟨_,rfl,h⟩
  | _,_,i+1,a,.cons _ t,e=>by
    obtain ⟨b,h1,h2⟩:=ic (i:=i) (a:=a) t (by simpa using e);exact ⟨b,by simpa using h1,h2⟩
theorem take_snoc {α:Type}{l:List α}{i:Nat}{x:α}(e:l[i]?=some x):l.take (i+1)=l.take i++[x]:=by
  rw[List.take_add_one,e];rfl
end WS
namespace L2
open PySem PySem.Spec PyProof.Rows
section
variable {X:Cx}
theorem DZ {x:Str}{i:Int}{pos:Pos}(hg:Gl X x)(h:∃t,X.mg x=some (.int i t))(hd:autoParam ((x == ("__debug__" : Str))=false) aZb._auto_1):PE X (.Name x pos) (tC (.int i)):=by
  obtain ⟨t,e⟩:=h;exact Av hg e ⟨t,rfl⟩ hd
end
end L2
namespace L2
open PySem PySem.Spec PyProof.Rows
section
variable {X:Cx} {pins:List (Addr×Obj)} {σ:St} {H:Hp} {s:Shared} {h':Heap}
theorem Inv.Ex {t':Nat}{wr:List Addr}{T:Addr}{us:List Value}{vs:List V}(I:Inv X pins σ H s)(hf:∀b∈wr,kU X pins H b)(k:∀b o,b∉wr->s.heap.get? b=some o->h'.get? b=some o)(hT:s.heap.objs.size<=T)(ht:h'.IsTuple T us.toArray)(r:Vals vs us)(hz:vs.length<=sizeLine) :
    Inv X pins σ (upd H T (.tup vs)) { s with heap:=h',toks:=t' }:=by
  have hn:H T=none:=I.bK.fresh hT;have nit:∀b u,H b=some u->b∉wr:=λb u e z=>by
    have:=(hf b z).1;rw[this] at e;cases e
  refine I.step (g':=s.gens) (d':=s.drawn) (ch:=wr) (λb hb=>⟨(hf b hb).2.2.2.1,(hf b hb).2.1,(hf b hb).2.2.2.2.1,(hf b hb).2.2.2.2.2⟩) (λb o _ _ hc e _=>k b o hc e) (λb o _ _ hc e _=>⟨o.slots,k b o hc e⟩)
    (λb o hc e n=>?_) (λb o hc e=>⟨o,k b o hc e⟩) (λb xs e=>?_) (λb o u e=>?_) (λb ps e=>⟨#[],?_⟩) (λm hm=>?_) (λb u e=>?_) I.bare
  · rw[aC (Nat.ne_of_lt (Nat.lt_of_lt_of_le (Heap.lt_size e) hT))];exact n
  · rw[aC (aX e hn)];exact e
  · rw[aC (aX e hn)];exact e
  · rw[aC (aX e hn)];simpa using e
  · obtain ⟨o,es,ep,ho,r⟩:=hm;exact ⟨o,es,ep,k _ o (λz=>(hf _ z).2.1 rfl) ho,r⟩
  · by_cases hb:b=T
    · subst hb;rw[bf] at e;cases e;exact ⟨hz,us,r,ht⟩
    · rw[aC hb] at e;refine (I.bK b u e).df (λc v hc q=>k c v ?_ q) (λc q=>by rw[aC (aX q hn)];exact q) λc xs q=>by rw[aC (aX q hn)];exact q
      rcases hc with z | z
      · rw[z];exact nit b u e
      · exact nit c _ z
theorem Inv.AW {t':Nat}{wr:List Addr}(I:Inv X pins σ H s)(hf:∀b∈wr,kU X pins H b)(k:∀b o,b∉wr->s.heap.get? b=some o->h'.get? b=some o):Inv X pins σ H { s with heap:=h',toks:=t' }:=by
  have nit:∀b u,H b=some u->b∉wr:=λb u e z=>by
    have:=(hf b z).1;rw[this] at e;cases e
  refine I.step (g':=s.gens) (d':=s.drawn) (ch:=wr) (λb hb=>⟨(hf b hb).2.2.2.1,(hf b hb).2.1,(hf b hb).2.2.2.2.1,(hf b hb).2.2.2.2.2⟩) (λb o _ _ hc e _=>k b o hc e) (λb o _ _ hc e _=>⟨o.slots,k b o hc e⟩)
    (λb o hc e n=>n) (λb o hc e=>⟨o,k b o hc e⟩) (λb xs e=>e) (λb o u e=>e) (λb ps e=>⟨#[],by rw[e];simp⟩) (λm hm=>?_) (λb u e=>?_) I.bare
  · obtain ⟨o,es,ep,ho,r⟩:=hm;exact ⟨o,es,ep,k _ o (λz=>(hf _ z).2.1 rfl) ho,r⟩
  · refine (I.bK b u e).df (λc v hc q=>k c v ?_ q) (λ_ q=>q) λ_ _ q=>q;rcases hc with z | z
    · rw[z];exact nit b u e
    · exact nit c _ z
end
noncomputable def CQ (Src:Hp->List (List V)->Prop):It:=
  ⟨λi H=>∃rows row,Src H rows/\rows[i]?=some row,λi H x H'=>∀rows,Src H rows->∃row p,rows[i]?=some row/\H p=none/\x=.ref p/\H'=upd H p (.tup row),λi H=>∃rows,Src H rows/\i=rows.length⟩
theorem zf {P:Program}{w:World}{K:Frag}{elts:List Expr}{kx:Nat}{pos:Pos}{e:Addr}{fp wr fpw:List Addr}{Src:Hp->List (List V)->Prop}{core:Nat->Heap->Prop}
    (me:e∈fp) (hwr:∀b∈wr,b∈fp) (src1:∀H r r',Src H r->Src H r'->r=r')
    (obj:∀i h,core i h->∀b∈fp,∃o,h.get? b=some o/\∀v,o.data≠.cell v)
    (keep:∀i h h',core i h->(∀b∈fp,∀o,h.get? b=some o->h'.get? b=some o)->core i h')
    (self:∀(A:Around) (i:Nat) (s:Shared) (Q:Value->Shared->Prop) (E:Value->Shared->Prop),core i s.heap->Q (.ref e) s->wpAny (model P w) A (pyIter (.ref e)) Q E s)
    (W:∀(X:Cx),X.prog=P->X.w=w->X.K=K->X.calm=true->∀(i:Nat) (pins:List (Addr×Obj)) (s:Shared) (σ:St) (H:Hp),Inv X pins σ H s->(∀b∈fp,kU X pins H b)->core i s.heap->∀rows,Src H rows ->
      ∃(n:Nat) (Pt:Nat->Array Value->Prop) (St':Nat->Heap->Prop) (Mid:Nat->Addr->Heap->Prop),WalksT P w X.A e fpw wr n Pt St' Mid/\n=rows.length/\St' i s.heap/\(∀j vals,Pt j vals->∃row us,rows[j]?=some row/\vals=us.toArray/\Vals row us/\row.length<=sizeLine)/\∀j h,St' j h->core j h) :
    Turn P w K (.Tuple elts kx pos) (CQ Src) fp e core where
  mem:=me
  obj:=obj
  keep:=keep
  self:=self
  item:=by
    intro X hP hw hK hc i pins s σ H E I hf st hg;obtain ⟨rows,row,hs,hr⟩:=hg;obtain ⟨n,Pt,St',Mid,V,hn,st',hp,back⟩:=W X hP hw hK hc i pins s σ H I hf st rows hs;have hi:i<n:=by rw[hn];exact (List.getElem?_eq_some_iff.mp hr).1
    refine V.item i s _ E hi st' λT vals h' tk pt hT ht mid kk=>?_;obtain ⟨row',us,hr',rfl,rv,hz⟩:=hp i vals pt;refine ⟨.ref T,rfl,?_⟩;refine V.go elts kx pos i T { s with heap:=h',toks:=tk } _ E mid λh2 st2 k2=>?_;have nT:=V.apart i T h' mid;have ht2:h2.IsTuple T us.toArray:=ht.at λo q=>k2 T o nT q;have I2:Inv X pins σ (upd H T (.tup row')) { s with heap:=h2,toks:=tk }:=I.Ex (λb hb=>hf b (hwr b hb)) (λb o hb q=>k2 b o hb (kk b o hb q)) hT ht2 rv hz;refine ⟨.ref T,_,I2,rfl,λrows2 hs2=>?_,back _ _ st2,λb hb=>?_⟩
    · rw[src1 _ _ _ hs2 hs];exact ⟨row',T,hr',I.bK.fresh hT,rfl,rfl⟩
    · have hbT:b≠T:=by
        rintro rfl;obtain ⟨o,ho,_⟩:=obj _ _ st b hb;exact absurd (Nat.lt_of_lt_of_le (Heap.lt_size ho) hT) (Nat.lt_irrefl _)
      rw[aC hbT];exact (hf b hb).1
  done:=by
    intro X hP hw hK hc i pins s σ H E I hf st hg;obtain ⟨rows,hs,hr⟩:=hg;obtain ⟨n,Pt,St',Mid,V,hn,st',hp,back⟩:=W X hP hw hK hc i pins s σ H I hf st rows hs;rw[hr,<-hn] at st';exact V.done s _ E st' λh' tk kk=>⟨rfl,I.AW (λb hb=>hf b (hwr b hb)) kk⟩
section
variable {X:Cx}
noncomputable def Ec (K:Frag):List V->Hp->VK->Prop:=λxs H Q=>∃(p:Addr) (ns:List Int),xs = [.ref p]/\d6 K H p (ns.map V.int)/\ns≠[]/\∀m:Int,m∈ns->(∀n∈ns,n<=m)->Q (.int m) H
noncomputable def Ed (K:Frag):List V->Hp->VK->Prop:=λxs H Q=>∃(p:Addr) (ns:List Int),xs = [.ref p]/\d6 K H p (ns.map V.int)/\ns≠[]/\∀m:Int,m∈ns->(∀n∈ns,m<=n)->Q (.int m) H
theorem uY {zs:Array (Int×Tok)}{k:Nat}{v:Value}(h:(intItems zs)[k]?=some v):(∃t,v=.int (numAt zs k) t)/\numAt zs k∈zs.toList.map (·.1):=by
  refine ⟨intItems_at h,?_⟩;simp only[intItems,Array.getElem?_map,Option.map_eq_some_iff] at h;obtain ⟨p,hp,rfl⟩:=h;rw[numAt_eq];have hp':zs.toList[k]?=some p:=by rw[<-hp];simp
  rw[getD_eq_getElem?_getD,getElem?_map,hp'];exact mem_map.mpr ⟨p,mem_of_getElem? hp',rfl⟩
theorem kH {zs:Array (Int×Tok)}{n:Int}(h:n∈zs.toList.map (·.1)):∃j,j<=zs.size - 1/\numAt zs j=n:=by
  obtain ⟨j,hj⟩:=List.getElem?_of_mem h;have hl:j<zs.size:=by have:=(List.getElem?_eq_some_iff.mp hj).1;simpa using this
  exact ⟨j,by lia,by rw[numAt_eq,getD_eq_getElem?_getD,hj];rfl⟩
theorem wz (hc:X.calm=true):hJ X (.builtin "max") (Ec X.K):=by
  intro pins s σ H xs us Q I r h;obtain ⟨p,ns,rfl,hp,hne,q⟩:=h;obtain ⟨u,rfl,ru⟩:=vals1 r;cases ru;obtain ⟨its,rv,pl,hz⟩:=I.list hp;have hi:IntsAre its ns:=intsAre_of rv;obtain ⟨zs,e⟩:=hi.allInts.items;have e3:zs.toList.map (·.1)=ns:=by rw[<-nums_intItems,<-e];exact hi.numsOf
  have hsz:0<zs.size:=by
    have:ns.length=zs.size:=by rw[<-e3];simp
    have:ns.length≠0:=λz=>hne (length_eq_zero_iff.mp z);lia
  refine max_intList (I.ok.hd hc) (xs:=zs) (e ▸ pl.isList) hsz λv h' tk hv hk=>?_;obtain ⟨⟨t,rfl⟩,hm⟩:=uY hv;refine ⟨.int _,H,I.kept hk,⟨t,rfl⟩,q _ (e3 ▸ hm) λn hn=>?_⟩;obtain ⟨j,hj,ej⟩:=kH (e3 ▸ hn);rw[<-ej];exact (argBest_gt (numAt zs) (zs.size - 1)).2 j hj
theorem wC (hc:X.calm=true):hJ X (.builtin "min") (Ed X.K):=by
  intro pins s σ H xs us Q I r h;obtain ⟨p,ns,rfl,hp,hne,q⟩:=h;obtain ⟨u,rfl,ru⟩:=vals1 r;cases ru;obtain ⟨its,rv,pl,hz⟩:=I.list hp;have hi:IntsAre its ns:=intsAre_of rv;obtain ⟨zs,e⟩:=hi.allInts.items;have e3:zs.toList.map (·.1)=ns:=by rw[<-nums_intItems,<-e];exact hi.numsOf
  have hsz:0<zs.size:=by
    have:ns.length=zs.size:=by rw[<-e3];simp
    have:ns.length≠0:=λz=>hne (length_eq_zero_iff.mp z);lia
  refine min_intList (I.ok.hd hc) (xs:=zs) (e ▸ pl.isList) hsz λv h' tk hv hk=>?_;obtain ⟨⟨t,rfl⟩,hm⟩:=uY hv;refine ⟨.int _,H,I.kept hk,⟨t,rfl⟩,q _ (e3 ▸ hm) λn hn=>?_⟩;obtain ⟨j,hj,ej⟩:=kH (e3 ▸ hn);rw[<-ej];exact (argBest_lt (numAt zs) (zs.size - 1)).2 j hj
noncomputable def iM (xs:List V):List (List V):=(List.range xs.length).map λi=>[V.int (i:Nat),(xs[i]?).getD .non]
theorem lB {xs:List V}{i:Nat}{x:V}(h:xs[i]?=some x):(iM xs)[i]?=some [.int (i:Nat),x]:=by
  unfold iM;rw[getElem?_map,List.getElem?_range (List.getElem?_eq_some_iff.mp h).1,Option.map_some,h];rfl
theorem lC (xs:List V):(iM xs).length=xs.length:=by unfold iM;simp
noncomputable def wc (a:Addr)(H:Hp)(rows:List (List V)):Prop:=∃xs,H a=some (.lst xs)/\rows=iM xs
theorem xy {P:Program}{w:World}{K:Frag}{elts:List Expr}{kx:Nat}{pos:Pos}(a e it:Addr)(hei:e≠it) :
    Turn P w K (.Tuple elts kx pos) (CQ (wc a)) [e,it] e (λi h=>(∃old,IsEnum h e it i old)/\h.IsListIter it a i):=by
  refine zf (fpw:=[e,it,a]) (wr:=[e,it]) (by simp) (λb hb=>hb) (λH r r' ⟨xs,h1,h2⟩ ⟨ys,h3,h4⟩=>?_) (λi h ⟨⟨old,he⟩,hit⟩ b hb=>?_) (by rintro i h h' ⟨⟨old,he⟩,hit⟩ k;exact ⟨⟨old,k e (by simp) _ he⟩,hit.at λo q=>k it (by simp) o q⟩) (by rintro A i s Q E ⟨⟨old,he⟩,hit⟩ q;exact wpAny_pyIter_enum he q) ?_
  · rw[h1] at h3;cases h3;rw[h2,h4]
  · rcases List.mem_cons.mp hb with rfl | hb
    · exact ⟨_,he,λv z=>by have z':Data.fields _=Data.cell v:=z;cases z'⟩
    · have : b = it := by simpa using hb
      subst this;obtain ⟨o,ho,_,hd⟩:=hit;exact ⟨o,ho,λv z=>by rw[hd] at z;cases z⟩
  · intro X hP hw hK hc i pins s σ H I hf st rows ⟨xs,hx,hr⟩;subst hP hw hK;obtain ⟨z,its,n,rv,hl⟩:=I.bK a _ hx;have hlist:s.heap.IsList a its.toArray:=⟨_,hl,rfl,n,rfl⟩
    have nae:a≠e:=λq=>by have:=(hf e (by simp)).1;rw[<-q,hx] at this;cases this
    have nai:a≠it:=λq=>by have:=(hf it (by simp)).1;rw[<-q,hx] at this;cases this
    refine ⟨its.toArray.size,_,_,_,WalksT.enumerate (I.ok.hd hc) e it a hei nae nai its.toArray,by rw[hr,lC,size_toArray,rv.length],⟨st.1,st.2,hlist⟩,?_,λj h ⟨h1,h2,_⟩=>⟨h1,h2⟩⟩;rintro j vals ⟨t,x,h1,h2⟩;have h1':its[j]?=some x:=by simpa using h1
    have hj:j<xs.length:=by rw[rv.length];exact (List.getElem?_eq_some_iff.mp h1').1
    obtain ⟨u,g1,g2⟩:=rv.get (getElem?_eq_getElem hj);rw[h1'] at g1;cases g1;exact ⟨[.int (j:Nat),xs[j]],[.int j t,x],by rw[hr];exact lB (getElem?_eq_getElem hj),h2,.cons ⟨t,rfl⟩ (.cons g2 .nil),bV (Nat.le_of_ble_eq_true rfl)⟩
noncomputable def Dv (ta:TA):TI:=λσ H R=>ta σ H λvs H1=>∃a xs,vs = [.ref a]/\H1 a=some (.lst xs)/\R (CQ (wc a)) H1
theorem Az {elts:List Expr}{kx:Nat}{tpos:Pos}{l:Expr}{ta:TA}{p pos:Pos}(hg:Gl X "enumerate")(hm:X.mg "enumerate" = none)(ha:PA X [l] ta)(hs:autoParam (starEach [l] X.env = [(false,eval l X.env)]) aZa._auto_1):PI X (.Tuple elts kx tpos) (.Call (.Name "enumerate" p) [l] [] pos) (Dv ta):=by
  intro pins s σ H R I h;refine Call_ (fh I hg hm boot_enumerate (PyProof.Rows.callWith_type1 (de (ha pos pins s σ H _ I h) ?_) hs rfl));rintro us s1 ⟨vs,H1,I1,r1,q1⟩;obtain ⟨a,xs,rfl,hx,q⟩:=q1;obtain ⟨u,rfl,ru⟩:=vals1 r1;cases ru;obtain ⟨z,its,n,rv,hl⟩:=I1.bK a _ hx;refine call_enumerate_list (items:=its.toArray) ⟨_,hl,rfl,n,rfl⟩ λh' he hit hsz hk=>?_;refine wpAny_pyIter_enum he ?_;have I2:Inv X pins σ H1 { s1 with heap:=h' }:=I1.kept (t':=s1.toks) hk;refine ⟨s1.heap.objs.size+1,[s1.heap.objs.size+1,s1.heap.objs.size],_,_,H1,rfl,I2,xy a _ _ (Nat.succ_ne_self _),⟨⟨_,he⟩,hit⟩,λb hb=>?_,q⟩;rcases List.mem_cons.mp hb with rfl | hb
  · exact I1.um (Nat.le_succ _) (I1.bK.fresh (Nat.le_succ _))
  · have e : b = s1.heap.objs.size := by simpa using hb
    subst e;exact I1.um (Nat.le_refl _) (I1.bK.fresh (Nat.le_refl _))
noncomputable def j9 (xs ys:List V):List (List V):=(xs.zip ys).map λp=>[p.1,p.2]
theorem tW {xs ys:List V}{i:Nat}{x y:V}(h:xs[i]?=some x)(h':ys[i]?=some y):(j9 xs ys)[i]?=some [x,y]:=by
  unfold j9;rw[getElem?_map,List.getElem?_zip_eq_some (z:=(x,y)) |>.mpr ⟨h,h'⟩];rfl
theorem tX (xs ys:List V):(j9 xs ys).length=min xs.length ys.length:=by unfold j9;simp
noncomputable def zb (a b:Addr)(H:Hp)(rows:List (List V)):Prop:=∃xs ys,H a=some (.lst xs)/\H b=some (.lst ys)/\rows=j9 xs ys
theorem zh {P:Program}{w:World}{K:Frag}{elts:List Expr}{kx:Nat}{pos:Pos}(a b z TI TO i1 i2:Addr)(D:ZipApart z TI TO i1 i2 a b) :
    Turn P w K (.Tuple elts kx pos) (CQ (zb a b)) [z,TI,TO,i1,i2] z (λi h=>IsZip h z TI TO .none/\IsPair h TI (.ref i1) (.ref i2)/\(∃a b,IsPair h TO a b)/\h.IsListIter i1 a i/\h.IsListIter i2 b i):=by
  refine zf (fpw:=[z,TI,TO,i1,i2,a,b]) (wr:=[z,TO,i1,i2]) (by simp) (λc hc=>by simp at hc ⊢;rcases hc with h | h | h | h<;>simp[h]) (λH r r' ⟨xs,ys,h1,h2,h3⟩ ⟨xs',ys',h1',h2',h3'⟩=>?_) (λi h ⟨h1,h2,⟨_,_,h3⟩,h4,h5⟩ c hc=>?_)
    (by rintro i h h' ⟨h1,h2,⟨u,v,h3⟩,h4,h5⟩ k;exact ⟨k z (by simp) _ h1,k TI (by simp) _ h2,⟨u,v,k TO (by simp) _ h3⟩,h4.at λo q=>k i1 (by simp) o q,h5.at λo q=>k i2 (by simp) o q⟩) (by rintro A i s Q E ⟨h1,_⟩ q;exact wpAny_pyIter_zip h1 q) ?_
  · rw[h1] at h1';rw[h2] at h2';cases h1';cases h2';rw[h3,h3']
  · simp only[List.mem_cons,List.not_mem_nil,or_false] at hc;rcases hc with rfl | rfl | rfl | rfl | rfl
    · exact ⟨_,h1,λv z=>by have z':Data.fields _=Data.cell v:=z;cases z'⟩
    · exact ⟨_,h2,λv z=>by have z':Data.seq _ _=Data.cell v:=z;cases z'⟩
    · exact ⟨_,h3,λv z=>by have z':Data.seq _ _=Data.cell v:=z;cases z'⟩
    · obtain ⟨o,ho,_,hd⟩:=h4;exact ⟨o,ho,λv z=>by rw[hd] at z;cases z⟩
    · obtain ⟨o,ho,_,hd⟩:=h5;exact ⟨o,ho,λv z=>by rw[hd] at z;cases z⟩
  · intro X hP hw hK hc i pins s σ H I hf st rows ⟨xs,ys,hx,hy,hr⟩;subst hP hw hK;obtain ⟨_,its,n,rv,hl⟩:=I.bK a _ hx;obtain ⟨_,its',n',rv',hl'⟩:=I.bK b _ hy;have hl1:s.heap.IsList a its.toArray:=⟨_,hl,rfl,n,rfl⟩
    have hl2:s.heap.IsList b its'.toArray:=⟨_,hl',rfl,n',rfl⟩
    obtain ⟨h1,h2,h3,h4,h5⟩:=st;refine ⟨min its.toArray.size its'.toArray.size,_,_,_,WalksT.zip2 (I.ok.hd hc) z TI TO i1 i2 a b D its.toArray its'.toArray,by rw[hr,tX,size_toArray,size_toArray,rv.length,rv'.length],⟨h1,h2,h3,h4,h5,hl1,hl2⟩,?_,λj h ⟨k1,k2,k3,k4,k5,_⟩=>⟨k1,k2,k3,k4,k5⟩⟩;rintro j vals ⟨x,y,g1,g2,g3⟩;have g1':its[j]?=some x:=by simpa using g1
    have g2':its'[j]?=some y:=by simpa using g2
    have hj:j<xs.length:=by rw[rv.length];exact (List.getElem?_eq_some_iff.mp g1').1
    have hj':j<ys.length:=by rw[rv'.length];exact (List.getElem?_eq_some_iff.mp g2').1
    obtain ⟨u,k1,k2⟩:=rv.get (getElem?_eq_getElem hj);obtain ⟨u',k1',k2'⟩:=rv'.get (getElem?_eq_getElem hj');rw[g1'] at k1;cases k1;rw[g2'] at k1';cases k1';exact ⟨_,[x,y],by rw[hr];exact tW (getElem?_eq_getElem hj) (getElem?_eq_getElem hj'),g3,.cons k2 (.cons k2' .nil),bV (Nat.le_of_ble_eq_true rfl)⟩
noncomputable def E6 (ta:TA):TI:=λσ H R=>ta σ H λvs H1=>∃a b xs ys,vs = [.ref a,.ref b]/\H1 a=some (.lst xs)/\H1 b=some (.lst ys)/\R (CQ (zb a b)) H1
theorem Co {elts:List Expr}{kx:Nat}{tpos:Pos}{l l2:Expr}{ta:TA}{p pos:Pos}(hg:Gl X "zip")(hm:X.mg "zip" = none)(ha:PA X [l,l2] ta)(hs:autoParam (starEach [l,l2] X.env = [(false,eval l X.env),(false,eval l2 X.env)]) aZa._auto_1)(hs2:autoParam (starEach [l2] X.env = [(false,eval l2 X.env)]) aZa._auto_1):PI X (.Tuple elts kx tpos) (.Call (.Name "zip" p) [l,l2] [] pos) (E6 ta):=by
  intro pins s σ H R I h;refine Call_ (fh I hg hm boot_zip (PyProof.Rows.callWith_type1 (de (ha pos pins s σ H _ I h) ?_) (by rw[hs,hs2]) (by rw[hs2];rfl)));rintro us s1 ⟨vs,H1,I1,r1,q1⟩;obtain ⟨a,b,xs,ys,rfl,hx,hy,q⟩:=q1;obtain ⟨u,u',rfl,ru,ru'⟩:=vals2 r1;cases ru;cases ru';obtain ⟨_,its,n,rv,hl⟩:=I1.bK a _ hx;obtain ⟨_,its',n',rv',hl'⟩:=I1.bK b _ hy;refine call_zip_2 (xs:=its.toArray) (ys:=its'.toArray) ⟨_,hl,rfl,n,rfl⟩ ⟨_,hl',rfl,n',rfl⟩ λh' hz hTI hTO hit1 hit2 hsz hk=>?_;refine wpAny_pyIter_zip hz ?_;have I2:Inv X pins σ H1 { s1 with heap:=h' }:=I1.kept (t':=s1.toks) hk;refine ⟨s1.heap.objs.size+4,[s1.heap.objs.size+4,s1.heap.objs.size+2,s1.heap.objs.size+3,s1.heap.objs.size,s1.heap.objs.size+1],_,_,H1,rfl,I2,zh a b _ _ _ _ _ (zipApart_new (Heap.lt_size hl) (Heap.lt_size hl')),⟨hz,hTI,⟨_,_,hTO⟩,hit1,hit2⟩,λc hc=>?_,q⟩;have:s1.heap.objs.size<=c:=by
    simp only[List.mem_cons,List.not_mem_nil,or_false] at hc;rcases hc with rfl | rfl | rfl | rfl | rfl
    · exact Nat.le_add_right _ _
    · exact Nat.le_add_right _ _
    · exact Nat.le_add_right _ _
    · exact Nat.le_refl _
    · exact Nat.le_add_right _ _
  exact I1.um this (I1.bK.fresh this)
section
variable {prog:Program} {w:World} {A:Around} {E:Value->Shared->Prop} {s:Shared}
theorem qd {it t:Addr}{items:Array Value}(hne:t≠it):∀(n i:Nat) (s:Shared) (Q:List Value->Shared->Prop),s.heap.IsListIter it t i->s.heap.IsList t items->i+n<=items.size ->
    (∀h',h'.IsListIter it t (i+n)->Heap.SameBut it s.heap h'->Q ((items.toList.drop i).take n) { s with heap:=h' })->wpAny (model prog w) A (draw (.ref it) n) Q E s
  | 0,i,s,Q,hit,_,_,hQ=>by
    show wpAny _ _ (pure []) Q E s;exact wpAny_pure (by simpa using hQ s.heap hit (Heap.SameBut.refl ..))
  | n+1,i,s,Q,hit,ht,hle,hQ=>by
    have hlt:i<items.size:=by lia
    show wpAny _ _ (pyNext (.ref it) >>= _) Q E s;refine wpAny_bind (wpAny_pyNext_list_item hit ht (x:=items[i]) (by simp[hlt]) λh₁ hit₁ hs₁=>?_);refine wpAny_bind (wpAny_holding (qd hne n (i+1) _ _ hit₁ (ht.extBut hs₁.extBut hne) (by lia) λh₂ hit₂ hs₂=>wpAny_pure ?_));have hd:items.toList.drop i=items[i]::items.toList.drop (i+1):=by simp[drop_eq_getElem_cons,hlt]
    have:=hQ h₂ (by rw[show i+(n+1)=i+1+n by lia];exact hit₂) (hs₁.trans hs₂);rw[hd,List.take_succ_cons] at this;exact this
theorem mL {t:Addr}{items:Array Value}{Q:List Value->Shared->Prop}(hh:A.handled=none)(ht:s.heap.IsList t items)
    (hQ:∀h',Heap.ExtBut s.heap.objs.size s.heap h'->Q items.toList { s with heap:=h' }):wpAny (model prog w) A (unpackItems (.ref t) items.size none) Q E s:=by
  have hlt:t≠s.heap.objs.size:=by obtain ⟨o,ho,_⟩:=ht;exact Nat.ne_of_lt (Heap.lt_size ho)
  unfold unpackItems;refine wpAny_bind ?_;unfold notIterableAtAll;refine wpAny_bind (wpAny_specialOf ht.typeIs slot_list_iter.lookup ?_);refine wpAny_pure ?_;simp only[Bool.false_eq_true,if_false];refine wpAny_bind (wpAny_holding (wpAny_pyIter_list ht ?_));refine wpAny_bind (wpAny_holding (qd hlt items.size 0 _ _ ⟨_,Heap.get?_push_size _ rfl,rfl,rfl⟩ (ht.at λo e=>Heap.get?_push_of_some _ e) (by lia) λh₁ hit₁ hs₁=>?_));have hall:List.take items.size (List.drop 0 items.toList)=items.toList:=by
    rw[List.drop_zero];exact take_of_length_le (by simp)
  rw[hall];rw[if_neg (by simp)];have ht₁:h₁.IsList t items:=(ht.at λo e=>Heap.get?_push_of_some _ e).extBut hs₁.extBut hlt;refine wpAny_bind (wpAny_holding (wpAny_pyNext_list_end hh hit₁ ht₁ (by simp) λh₂ he₂=>?_));simp only[Option.isSome_none,Bool.false_eq_true,if_false];refine wpAny_pure (hQ h₂ λb o hb e=>he₂ b o hb (hs₁.extBut b o hb (Heap.get?_push_of_some _ e)))
theorem kY {env:Env}{elts:List Expr}{x1}{pos:Pos}{t:Addr}{items:Array Value}{Q:Unit->Shared->Prop}(hh:A.handled=none)(ht:s.heap.IsList t items)
    (hn:(assignEach elts env).length=items.size) (hstar:(assignEach elts env).findIdx? (·.1)=none)
    (h:∀h',Heap.ExtBut s.heap.objs.size s.heap h'->wpAny (model prog w) A (assignInOrder ((assignEach elts env).map (·.2)) items.toList) Q E { s with heap:=h' }) :
    wpAny (model prog w) A (assign (.Tuple elts x1 pos) env (.ref t)) Q E s:=by
  rw[assign_Tuple];refine wpAny_bind (wpAny_standAt ?_);unfold unpack;rw[hn,hstar];exact wpAny_bind (wpAny_holding (mL hh ht h))
end
noncomputable def Du (K:Frag)(n:Nat)(t:A0):TG:=λv σ H Q=>∃a xs,v=.ref a/\(kX K H a xs\/d6 K H a xs)/\xs.length=n/\t xs σ H Q
theorem eR {es:List Expr}{k:Nat}{t:A0}{n:Nat}{pos:Pos}(hc:X.calm=true)(h:EA X es t)
    (hn:autoParam ((assignEach es X.env).length=n) aZa._auto_1) (hst:autoParam ((assignEach es X.env).findIdx? (·.1)=none) aZa._auto_1):PG X (.Tuple es k pos) (Du X.K n t):=by
  intro pins s σ H v u Q I r hw;obtain ⟨a,xs,e1,hq,hl,hw⟩:=hw;subst e1;cases r;rcases hq with hq | hq
  · obtain ⟨its,rv,ht,hz⟩:=I.tuple hq;refine assign_Tuple_tuple (I.ok.hd hc) ht (by simp[hn,<-hl,rv.length]) hst λh' hx=>?_;have I1:Inv X pins σ H { s with heap:=h' }:=I.kept (t':=s.toks) λb o e=>hx b o (Nat.ne_of_lt (Heap.lt_size e)) e;exact h pins _ σ H xs _ Q I1 (by simpa using rv) hw
  · obtain ⟨its,rv,ht,hz⟩:=I.list hq;refine kY (I.ok.hd hc) ht.isList (by simp[hn,<-hl,rv.length]) hst λh' hx=>?_;have I1:Inv X pins σ H { s with heap:=h' }:=I.kept (t':=s.toks) λb o e=>hx b o (Nat.ne_of_lt (Heap.lt_size e)) e;exact h pins _ σ H xs _ Q I1 (by simpa using rv) hw
noncomputable def Dz (ta:TA):TI:=λσ H R=>ta σ H λvs H1=>∃i j:Int,vs = [.int i,.int j,.int (-1)]/\(-(2 ^ 62)<=i/\i<2 ^ 62/\-(2 ^ 62)<=j/\j<2 ^ 62)/\R (C5 i (-1) (i - j).toNat) H1
end
end L2
namespace DL
open PySem L2
inductive Ext where
  | any
  | dki (kvs:List (Int×Int×Int×Int))
  | dks (kvs:List (Str×Int))
  | rws (n:Int) (hs cs:List (Int×Int×Int×Int))
  | obj (C:Addr) (g:Int) (hs cs:List (Int×Int×Int×Int)) (n:Int)
inductive D where
  | non | bl (b:Bool) | int (i:Int) | str (x:Str) | tup (xs:List D) | lst (xs:List D) | scr (ns:List Int)
  | dct (kvs:List ((Int×Int)×Int))
  | sen (ks:List (List Int))
  | ext (x:Ext)
noncomputable def E3 (G:Hp)(e:Key×V)(p:Int×Int×Int×Int):Prop:=e.1=Sum.inl p.1/\∃t,e.2=.ref t/\G t=some (.tup [.int p.2.1,.int p.2.2.1,.int p.2.2.2])
noncomputable def Dr (g:Int)(b c:Addr)(n:Int):List (Str×V):=[("gap",.int g),("hots",.ref b),("colds",.ref c),("spent",.int n)]
noncomputable def kf (G H:Hp)(a:Addr)(kvs:List (Int×Int×Int×Int)):Prop:=∃es,H a=some (.dK es)/\Paired (E3 G) es kvs
noncomputable def ER (H:Hp)(v:V)(p:Int×Int×Int×Int):Prop:=∃q t,v=.ref q/\H q=some (.tup [.int p.1,.ref t])/\H t=some (.tup [.int p.2.1,.int p.2.2.1,.int p.2.2.2])
noncomputable abbrev rJ (H:Hp):List V->List (Int×Int×Int×Int)->Prop:=Paired (ER H)
theorem rJ.on {H H2:Hp}{vs:List V}{l:List (Int×Int×Int×Int)}(h:rJ H vs l)(kt:∀t xs,H t=some (.tup xs)->H2 t=some (.tup xs)):rJ H2 vs l:=
  Paired.imp' (by rintro _ _ ⟨q,t,e,h1,h2⟩;exact ⟨q,t,e,kt _ _ h1,kt _ _ h2⟩) h
noncomputable def xG (H:Hp)(y:Addr)(l:List (Int×Int×Int×Int)):Prop:=∃vs,H y=some (.lst vs)/\rJ H vs l
theorem xG.on {H H2:Hp}{y:Addr}{l:List (Int×Int×Int×Int)}(h:xG H y l)(kb:∀o,H y=some o->H2 y=some o)(kt:∀t xs,H t=some (.tup xs)->H2 t=some (.tup xs)):xG H2 y l:=by
  obtain ⟨vs,e,p⟩:=h;exact ⟨vs,kb _ e,rJ.on p kt⟩
noncomputable abbrev Ef (lh lk:Addr)(n:Int):HO:=.dK [(Sum.inr ("hot" : Str),.ref lh),(Sum.inr ("cold" : Str),.ref lk),(Sum.inr ("last" : Str),.int n)]
noncomputable def rG (G H:Hp)(a:Addr):Ext->Prop
  | .any=>True
  | .dki kvs=>kf G H a kvs
  | .dks kvs=>H a=some (.dK (kvs.map λp=>(Sum.inr p.1,V.int p.2)))
  | .rws n hs cs=>∃lh lk,G a=some (Ef lh lk n)/\xG G lh hs/\xG G lk cs
  | .obj C g hs cs n=>∃dx b c,H a=some (.ins C dx (Dr g b c n))/\kf G H b hs/\kf G H c cs
theorem E3.mono {G G':Hp}{e:Key×V}{p:Int×Int×Int×Int}(s:aE G G')(h:E3 G e p):E3 G' e p:=by
  obtain ⟨h1,t,h2,h3⟩:=h;exact ⟨h1,t,h2,s _ _ h3⟩
theorem kf.mono {G G' H H':Hp}{a:Addr}{kvs:List (Int×Int×Int×Int)}(s:aE G G')(k:∀o,H a=some o->H' a=some o)(h:kf G H a kvs):kf G' H' a kvs:=by
  obtain ⟨es,h1,h2⟩:=h;exact ⟨es,k _ h1,Paired.imp' (λ_ _=>E3.mono s) h2⟩
theorem rG.mono {G G':Hp}{a:Addr}{x:Ext}(s:aE G G')(h:rG G G a x):rG G' G' a x:=by
  cases x with
  | any=>trivial
  | dki kvs=>exact kf.mono s (s a) h
  | dks kvs=>exact s _ _ h
  | rws n hs cs =>
    obtain ⟨lh,lk,h1,h2,h3⟩:=h;exact ⟨lh,lk,s _ _ h1,h2.on (λo e=>s _ _ e) λt xs e=>s _ _ e,h3.on (λo e=>s _ _ e) λt xs e=>s _ _ e⟩
  | obj C g hs cs n =>
    obtain ⟨dx,b,c,h1,h2,h3⟩:=h;exact ⟨dx,b,c,s _ _ h1,h2.mono s (s b),h3.mono s (s c)⟩
noncomputable def hO (G H:Hp)(a:Addr):Ext->Prop
  | .dki kvs=>kf G H a kvs
  | .dks kvs=>H a=some (.dK (kvs.map λp=>(Sum.inr p.1,V.int p.2)))
  | _=>False
theorem hO.df {G H G' H':Hp}{a:Addr}{x:Ext}(h:hO G H a x)(s:aE G G')(k:∀o,H a=some o->H' a=some o):hO G' H' a x:=by
  cases x with
  | dki kvs=>exact kf.mono s k h
  | dks kvs=>exact k _ h
  | any=>exact h.elim
  | obj _ _ _ _ _=>exact h.elim
  | rws _ _ _=>exact h.elim
theorem hO.obj {G H:Hp}{a:Addr}{x:Ext}(h:hO G H a x):∃es,H a=some (.dK es):=by
  cases x with
  | dki kvs=>obtain ⟨es,h,_⟩:=h;exact ⟨es,h⟩
  | dks kvs=>exact ⟨_,h⟩
  | any=>exact h.elim
  | obj _ _ _ _ _=>exact h.elim
  | rws _ _ _=>exact h.elim
theorem hO.at {G H G2:Hp}{a:Addr}{x:Ext}(h:hO G H a x)(s:aE G G2)(k:∀o,H a=some o->G2 a=some o):rG G2 G2 a x:=by
  cases x with
  | dki kvs=>exact kf.mono s k h
  | dks kvs=>exact k _ h
  | any=>exact h.elim
  | obj _ _ _ _ _=>exact h.elim
  | rws _ _ _=>exact h.elim
noncomputable def Dk (ks:List (List Int)):List (List Key×V):=ks.map λk=>(k.map Sum.inl,V.bl true)
noncomputable def encD (kvs:List ((Int×Int)×Int)):List (List Key×V):=kvs.map λp=>([Sum.inl p.1.1,Sum.inl p.1.2],V.int p.2)
inductive Rep (K:Frag)(G:Hp):V->D->Prop where
  | non:Rep K G .non .non
  | bl (b:Bool):Rep K G (.bl b) (.bl b)
  | int (i:Int):Rep K G (.int i) (.int i)
  | str (x:Str):Rep K G (.str x) (.str x)
  | tup {a:Addr} {vs:List V} {ds:List D} (h:G a=some (.tup vs)) (l:vs.length=ds.length) (r:∀(i:Nat) (v:V) (d:D),vs[i]?=some v->ds[i]?=some d->Rep K G v d):Rep K G (.ref a) (.tup ds)
  | scr {a:Addr} {ns:List Int} (h:d6 K G a (ns.map V.int)):Rep K G (.ref a) (.scr ns)
  | dct {a:Addr} {kvs:List ((Int×Int)×Int)} (h:Rd G a (.dT (encD kvs))):Rep K G (.ref a) (.dct kvs)
  | sen {a:Addr} {ks:List (List Int)} (h:Rd G a (.dT (Dk ks))):Rep K G (.ref a) (.sen ks)
  | ext {a:Addr} {x:Ext} (h:rG G G a x):Rep K G (.ref a) (.ext x)
  | lst {a:Addr} {vs:List V} {ds:List D} (h:G a=some (.lst vs)) (l:vs.length=ds.length) (r:∀(i:Nat) (v:V) (d:D),vs[i]?=some v->ds[i]?=some d->Rep K G v d):Rep K G (.ref a) (.lst ds)
noncomputable abbrev bw (K:Frag)(G:Hp):List V->List D->Prop:=Paired (Rep K G)
theorem aD {α β:Type}{F:α->β->Prop}:∀{l:List α} {r:List β},l.length=r.length->(∀(i:Nat) (a:α) (b:β),l[i]?=some a->r[i]?=some b->F a b)->Paired F l r
  | [],[],_,_=>.nil
  | a::l,b::r,e,h=>.cons (h 0 a b rfl rfl) (aD (by simpa using e) λi x y h1 h2=>h (i+1) x y (by simpa using h1) (by simpa using h2))
theorem iO {α β:Type}{F:α->β->Prop}:∀{l:List α} {r:List β},Paired F l r->∀(i:Nat) (a:α) (b:β),l[i]?=some a->r[i]?=some b->F a b
  | _,_,.nil,_,_,_,h,_=>by simp at h
  | _,_,.cons h _,0,_,_,h1,h2=>by simp at h1 h2;subst h1;subst h2;exact h
  | _,_,.cons _ t,i+1,a,b,h1,h2=>iO t i a b (by simpa using h1) (by simpa using h2)
theorem bA {α β:Type}{F:α->β->Prop}:∀{l:List α} {r:List β} {i:Nat} {b:β},Paired F l r->r[i]?=some b->∃a,l[i]?=some a/\F a b
  | _,_,_,_,.nil,e=>by simp at e
  | _,_,0,_,.cons h _,e=>by simp at e;subst e;exact ⟨_,rfl,h⟩
  | _,_,i+1,b,.cons _ t,e=>by
    obtain ⟨a,h1,h2⟩:=bA (i:=i) (b:=b) t (by simpa using e);exact ⟨a,by simpa using h1,h2⟩
section
variable {K:Frag} {G G' H H':Hp} {v:V} {d:D} {ds:List D} {vs:List V}
theorem Rep.uN {a:Addr}(h:G a=some (.tup vs))(r:bw K G vs ds):Rep K G (.ref a) (.tup ds):=.tup h (Paired.length r) (iO r)
theorem Rep.DF {a:Addr}(h:G a=some (.lst vs))(r:bw K G vs ds):Rep K G (.ref a) (.lst ds):=.lst h (Paired.length r) (iO r)
theorem Rep.iy (h:Rep K G v (.tup ds)):∃a vs,v=.ref a/\kX K G a vs/\bw K G vs ds:=by
  cases h with | tup h l r=>exact ⟨_,_,rfl,.inl (.inl h),aD l r⟩
theorem Rep.lst_inv (h:Rep K G v (.lst ds)):∃a vs,v=.ref a/\G a=some (.lst vs)/\bw K G vs ds:=by
  cases h with | lst h l r=>exact ⟨_,_,rfl,h,aD l r⟩
theorem Rep.int_inv {i:Int}(h:Rep K G v (.int i)):v=.int i:=by cases h;rfl
theorem Rep.qA {b:Bool}(h:Rep K G v (.bl b)):v=.bl b:=by cases h;rfl
theorem Rep.str_inv {x:Str}(h:Rep K G v (.str x)):v=.str x:=by cases h;rfl
theorem nz {a:Addr}{u:HO}(e:aE G G')(h:Rd G a u):Rd G' a u:=h.elim (λz=>.inl (e _ _ z)) λ⟨o,z⟩=>.inr ⟨o,e _ _ z⟩
theorem aG {a:Addr}{xs:List V}(e:aE G G')(h:kX K G a xs):kX K G' a xs:=by
  rcases h with (h | ⟨o,h⟩) | h
  · exact .inl (.inl (e _ _ h))
  · exact .inl (.inr ⟨o,e _ _ h⟩)
  · exact .inr h
theorem Rep.mono (s:aE G G')(h:Rep K G v d):Rep K G' v d:=by
  induction h with
  | non=>exact .non
  | bl b=>exact .bl b
  | int i=>exact .int i
  | str x=>exact .str x
  | tup h l r ih=>exact .tup (s _ _ h) l ih
  | lst h l r ih=>exact .lst (s _ _ h) l ih
  | scr h=>exact .scr (s.seq h)
  | dct h=>exact .dct (nz s h)
  | sen h=>exact .sen (nz s h)
  | ext h=>exact .ext (h.mono s)
theorem bw.mono (s:aE G G')(h:bw K G vs ds):bw K G' vs ds:=Paired.imp' (λ_ _=>Rep.mono s) h
noncomputable def D.sc:D->Bool
  | .tup _=>false
  | .lst _=>false
  | .scr _=>false
  | .dct _=>false
  | .sen _=>false
  | .ext _=>false
  | _=>true
theorem Rep.sc (h:Rep K G v d)(e:d.sc=true):Rep K G' v d:=by
  cases h with
  | non=>exact .non
  | bl b=>exact .bl b
  | int i=>exact .int i
  | str x=>exact .str x
  | tup h l r=>cases e
  | lst h l r=>cases e
  | scr h=>cases e
  | dct h=>cases e
  | sen h=>cases e
  | ext h=>cases e
end
inductive Ct where
  | tup | lst
  | obj (C:Addr) (g n:Int)
  | wk (g:Int)
  | fnd (x:Str) (p:Int)
inductive B where
  | p (d:D) | o (d:D) | n (t:Ct) (ds:List D)
noncomputable def Ct.own:Ct->Bool
  | .lst=>true
  | .obj _ _ _=>true
  | _=>false
noncomputable def DH (C:Addr)(g n:Int)(hs:List (Int×Int×Int×Int)):D->D
  | .ext (.dki cs)=>.ext (.obj C g hs cs n)
  | _=>.ext .any
noncomputable def Bf (C:Addr)(g n:Int)(b:D):D->D
  | .ext (.dki hs)=>DH C g n hs b
  | _=>.ext .any
noncomputable def Fh (C:Addr)(g n:Int):List D->D
  | [a,b]=>Bf C g n b a
  | _=>.ext .any
noncomputable def Gh (g:Int):List D->D
  | [x,y]=>.tup [.int g,x,y]
  | _=>.ext .any
noncomputable def E2 (x:Str)(p:Int):List D->D
  | [a,b,c]=>.tup [.str x,.tup [a,b],.int p,c]
  | _=>.ext .any
noncomputable def Ct.val:Ct->List D->D
  | .tup=>.tup
  | .lst=>.lst
  | .obj C g n=>Fh C g n
  | .wk g=>Gh g
  | .fnd x p=>E2 x p
noncomputable def Ct.at (t:Ct)(H:Hp)(a:Addr)(as:List Addr):Prop:=match t with
  | .tup=>H a=some (.tup (as.map V.ref))
  | .lst=>H a=some (.lst (as.map V.ref))
  | .obj C g n=>∃dx b c,as = [b,c]/\H a=some (.ins C dx (Dr g b c n))
  | .wk g=>∃b c,as = [b,c]/\H a=some (.tup [.int g,.ref b,.ref c])
  | .fnd x p=>∃b c e t,as = [b,c,e]/\H a=some (.tup [.str x,.ref t,.int p,.ref e])/\H t=some (.tup [.ref b,.ref c])
theorem Ct.qy {t:Ct}{H H':Hp}{a:Addr}{as:List Addr}(s:aE H H')(h:t.at H a as):t.at H' a as:=by
  cases t with
  | tup=>exact s _ _ h
  | lst=>exact s _ _ h
  | obj C g n=>obtain ⟨dx,b,c,e,h⟩:=h;exact ⟨dx,b,c,e,s _ _ h⟩
  | wk g=>obtain ⟨b,c,e,h⟩:=h;exact ⟨b,c,e,s _ _ h⟩
  | fnd x p=>obtain ⟨b,c,e,t,h1,h2,h3⟩:=h;exact ⟨b,c,e,t,h1,s _ _ h2,s _ _ h3⟩
theorem Ct.qz {t:Ct}{H H':Hp}{a:Addr}{as:List Addr}(o:t.own=true)(s:∀o,H a=some o->H' a=some o)(h:t.at H a as):t.at H' a as:=by
  cases t with
  | tup=>cases o
  | lst=>exact s _ h
  | obj C g n=>obtain ⟨dx,b,c,e,h⟩:=h;exact ⟨dx,b,c,e,s _ h⟩
  | wk g=>cases o
  | fnd x p=>cases o
theorem Ct.Bx {t:Ct}{H:Hp}{a:Addr}{as:List Addr}(o:t.own=true)(h:t.at H a as):∃o,H a=some o/\∀xs,o≠.tup xs:=by
  cases t with
  | tup=>cases o
  | lst=>exact ⟨_,h,λ_ z=>nomatch z⟩
  | obj C g n=>obtain ⟨dx,b,c,e,h⟩:=h;exact ⟨_,h,λ_ z=>nomatch z⟩
  | wk g=>cases o
  | fnd x p=>cases o
set_option tactic.hygienic true in
theorem Ct.rep {K:Frag}{t:Ct}{G:Hp}{a:Addr}{as:List Addr}{ds:List D}(h:t.at G a as)(r:bw K G (as.map V.ref) ds):Rep K G (.ref a) (t.val ds):=by
  cases t with
  | tup=>exact Rep.uN h r
  | lst=>exact Rep.DF h r
  | obj C g n =>
    obtain ⟨dx,b,c,rfl,h⟩:=h;cases r with
    | cons r1 r=>cases r with
      | cons r2 r =>
        cases r;rename_i d1 d2;show Rep K G (.ref a) (Bf C g n d2 d1);cases r1 with
        | @ext _ e1 r1=>cases e1 with
          | dki hs=>cases r2 with
            | @ext _ e2 r2=>cases e2 with
              | dki cs=>exact .ext ⟨dx,b,c,h,r1,r2⟩
              | _=>exact .ext trivial
            | _=>exact .ext trivial
          | _=>exact .ext trivial
        | _=>exact .ext trivial
  | wk g =>
    obtain ⟨b,c,rfl,h⟩:=h;cases r with
    | cons r1 r=>cases r with
      | cons r2 r=>cases r;exact Rep.uN h (.cons (.int _) (.cons r1 (.cons r2 .nil)))
  | fnd x p =>
    obtain ⟨b,c,e,t,rfl,h,h'⟩:=h;cases r with
    | cons r1 r=>cases r with
      | cons r2 r=>cases r with
        | cons r3 r=>cases r;exact Rep.uN h (.cons (.str _) (.cons (Rep.uN h' (.cons r1 (.cons r2 .nil))) (.cons (.int _) (.cons r3 .nil))))
noncomputable def B.val:B->D
  | .p d=>d
  | .o d=>d
  | .n t ds=>t.val ds
noncomputable def Ct.On (t:Ct)(F:Prop)(G H:Hp)(a:Addr)(as:List Addr):Prop:=match t.own with
  | true=>F/\G a=none/\a∉as/\t.at H a as
  | false=>t.at G a as
theorem Ct.On.imp {t:Ct}{F F':Prop}{G H G' H':Hp}{a:Addr}{as:List Addr}(h:t.On F G H a as)(s:aE G G')(k:F->G a=none->(∃o,H a=some o/\∀xs,o≠.tup xs)->F'/\G' a=none/\∀o,H a=some o->H' a=some o):t.On F' G' H' a as:=by
  unfold Ct.On at h ⊢;cases e:t.own with
  | true =>
    rw[e] at h;obtain ⟨f,g,n,q⟩:=h;obtain ⟨k1,k2,k3⟩:=k f g (Ct.Bx e q);exact ⟨k1,k2,n,Ct.qz e k3 q⟩
  | false =>
    rw[e] at h;exact Ct.qy s h
noncomputable abbrev aH:=List (Option B)
noncomputable def aI:aH->Nat->Option B
  | [],_=>none
  | b::_,0=>b
  | _::r,n+1=>aI r n
noncomputable def dput:aH->Nat->B->aH
  | [],_,_=>[]
  | _::r,0,b=>some b::r
  | c::r,n+1,b=>c::dput r n b
noncomputable def gj:Option B->Option B
  | none=>none
  | some b=>some (.p b.val)
noncomputable def cM:aH->aH
  | []=>[]
  | c::r=>gj c::cM r
theorem hZ (b:B):∀(ρ:aH) (i:Nat),(dput ρ i b).length=ρ.length
  | [],_=>rfl
  | _::_,0=>rfl
  | _::r,n+1=>by show (dput r n b).length+1=r.length+1;rw[hZ b r n]
theorem vz:∀(ρ:aH),(cM ρ).length=ρ.length
  | []=>rfl
  | _::r=>by show (cM r).length+1=_;rw[vz r];rfl
theorem bP {b:B}:∀{ρ:aH} {i j:Nat} {c:B},aI (dput ρ i b) j=some c->(i=j/\j<ρ.length/\c=b)\/(i≠j/\aI ρ j=some c)
  | [],_,_,_,h=>by cases h
  | _::_,0,0,_,h=>.inl ⟨rfl,Nat.succ_pos _,(Option.some.inj h).symm⟩
  | _::_,0,j+1,_,h=>.inr ⟨Nat.succ_ne_zero j |>.symm,h⟩
  | _::_,i+1,0,_,h=>.inr ⟨Nat.succ_ne_zero i,h⟩
  | _::r,i+1,j+1,_,h=>by
    rcases bP (ρ:=r) (i:=i) (j:=j) h with ⟨h1,h2,h3⟩ | ⟨h1,h2⟩
    · exact .inl ⟨by rw[h1],Nat.succ_lt_succ h2,h3⟩
    · exact .inr ⟨λe=>h1 (Nat.succ.inj e),h2⟩
theorem nO:∀{ρ:aH} {i:Nat} {c:B},aI (cM ρ) i=some c->∃b,aI ρ i=some b/\c=.p b.val
  | [],_,_,h=>by cases h
  | none::_,0,_,h=>by cases h
  | some b::_,0,_,h=>⟨b,rfl,(Option.some.inj h).symm⟩
  | _::r,i+1,_,h=>nO (ρ:=r) h
theorem vm:∀{ρ:aH} {i:Nat} {c:B},aI ρ i=some c->i<ρ.length
  | [],_,_,h=>by cases h
  | _::_,0,_,_=>Nat.succ_pos _
  | _::r,i+1,_,h=>Nat.succ_lt_succ (vm (ρ:=r) h)
noncomputable def bI (K:Frag)(G H:Hp)(a:Addr)(d:D):Prop:=G a=none/\match d with
  | .lst ds=>∃vs,H a=some (.lst vs)/\bw K G vs ds
  | .dct kvs=>H a=some (.dT (encD kvs))
  | .sen ks=>H a=some (.dT (Dk ks))
  | .ext x=>hO G H a x
  | _=>False
noncomputable def CO (H:Hp)(a:Addr):Prop:=∃o,H a=some o/\∀xs,o≠.tup xs
theorem CO.there {H:Hp}{a:Addr}(h:CO H a):H a≠none:=by obtain ⟨o,e,_⟩:=h;rw[e];simp
structure Wd (H0 G0 H G:Hp):Prop where
  hh:aE H0 H
  gg:aE G0 G
  gh:aE G H
  old:∀a,CO H0 a->G a=G0 a
theorem Wd.refl {H G:Hp}(s:aE G H):Wd H G H G:=⟨aE.refl _,aE.refl _,s,λ_ _=>rfl⟩
theorem Wd.trans {H0 G0 H1 G1 H2 G2:Hp}(a:Wd H0 G0 H1 G1)(b:Wd H1 G1 H2 G2):Wd H0 G0 H2 G2:=
  ⟨a.hh.trans b.hh,a.gg.trans b.gg,b.gh,λx h=>by
    have h1:CO H1 x:=by obtain ⟨o,e,n⟩:=h;exact ⟨o,a.hh _ _ e,n⟩
    rw[b.old x h1,a.old x h]⟩
theorem Wd.new {H0 G0 H G:Hp}{p:Addr}{o:HO}(w:Wd H0 G0 H G)(h:H p=none):Wd H0 G0 (upd H p o) (upd G p o):=
  ⟨w.hh.upd (w.hh.free h),w.gg.upd (w.gg.free (w.gh.free h)),λb u e=>by
    by_cases z:b=p
    · subst z;rw[bf] at e ⊢;exact e
    · rw[aC z] at e ⊢;exact w.gh b u e,λa ha=>by
    have z:a≠p:=λe=>ha.there (e ▸ w.hh.free h);rw[aC z,w.old a ha]⟩
theorem Wd.own {H0 G0 H G:Hp}{p:Addr}{o:HO}(w:Wd H0 G0 H G)(h0:H0 p=none)(h:G p=none):Wd H0 G0 (upd H p o) G:=
  ⟨w.hh.upd h0,w.gg,w.gh.upd h,w.old⟩
theorem bI.rep {K:Frag}{G H G2:Hp}{a:Addr}{d:D}(h:bI K G H a d)(s:aE G G2)(e:∀o,H a=some o->G2 a=some o):Rep K G2 (.ref a) d:=by
  obtain ⟨g,k⟩:=h;cases d with
  | lst ds =>
    obtain ⟨vs,e',r⟩:=k;exact Rep.DF (e _ e') (bw.mono s r)
  | dct kvs=>exact .dct (.inl (e _ k))
  | sen kvs=>exact .sen (.inl (e _ k))
  | ext x=>exact .ext (hO.at k s e)
  | non=>exact k.elim
  | bl _=>exact k.elim
  | int _=>exact k.elim
  | str _=>exact k.elim
  | tup _=>exact k.elim
  | scr _=>exact k.elim
noncomputable def gL (K:Frag)(H G' H':Hp)(v:V):B->Prop
  | .p d=>Rep K G' v d
  | .o d=>∃a,v=.ref a/\H a=none/\bI K G' H' a d
  | .n t ds=>∃a as,v=.ref a/\as.Nodup/\Paired (λx d=>H x=none/\bI K G' H' x d) as ds/\t.On (H a=none) G' H' a as
theorem gL.ahead {K:Frag}{H0 H G' H':Hp}{v:V}{b:B}(s:aE H0 H)(h:gL K H G' H' v b):gL K H0 G' H' v b:=by
  cases b with
  | p d=>exact h
  | o d=>obtain ⟨a,e,n,o⟩:=h;exact ⟨a,e,s.free n,o⟩
  | n t ds =>
    obtain ⟨a,as,e,nd,pr,q⟩:=h;exact ⟨a,as,e,nd,Paired.imp' (λ_ _ z=>⟨s.free z.1,z.2⟩) pr,q.imp (aE.refl _) λf g _=>⟨s.free f,g,λ_ z=>z⟩⟩
theorem Wd.all {H G H' G':Hp}(w:Wd H G H' G'):∃G2,Wd H G H' G2/\aE G' G2/\∀a,H a=none->G' a=none->G2 a=H' a:=by
  classical
  have sG:aE G' (λa=>if H a=none/\G' a=none then H' a else G' a):=λa o h=>by
    show (if _ then H' a else G' a)=_;rw[if_neg λq=>by rw[q.2] at h;cases h];exact h
  refine ⟨λa=>if H a=none/\G' a=none then H' a else G' a,⟨w.hh,w.gg.trans sG,λa o h=>?_,λa h=>?_⟩,sG,λa h1 h2=>if_pos ⟨h1,h2⟩⟩
  · have h':(if H a=none/\G' a=none then H' a else G' a)=some o:=h;split at h'
    · exact h'
    · exact w.gh _ _ h'
  · show (if H a=none/\G' a=none then H' a else G' a)=_;rw[if_neg λq=>h.there q.1];exact w.old a h
theorem gL.give {K:Frag}{H G H' G':Hp}{v:V}{b:B}(w:Wd H G H' G')(h:gL K H G' H' v b):∃G2,Wd H G H' G2/\Rep K G2 v b.val:=by
  cases b with
  | p d=>exact ⟨G',w,h⟩
  | n t ds =>
    obtain ⟨a,as,rfl,nd,pr,q⟩:=h;obtain ⟨G2,w2,s2,k2⟩:=w.all;have qa:t.at G2 a as:=by
      unfold Ct.On at q;cases e:t.own with
      | true =>
        rw[e] at q;exact Ct.qz e (λo z=>by rw[k2 _ q.1 q.2.1];exact z) q.2.2.2
      | false =>
        rw[e] at q;exact Ct.qy s2 q
    refine ⟨G2,w2,Ct.rep qa ?_⟩;clear q nd qa;induction pr with
    | nil=>exact .nil
    | cons f _ ih=>exact .cons (f.2.rep s2 λo z=>by rw[k2 _ f.1 f.2.1];exact z) ih
  | o d =>
    obtain ⟨a,rfl,n,k⟩:=h;obtain ⟨G2,w2,s2,k2⟩:=w.all;exact ⟨G2,w2,k.rep s2 λo z=>by rw[k2 _ n k.1];exact z⟩
noncomputable abbrev DT:=aH->(B->Prop)->Prop
noncomputable abbrev jR:=aH->(Bool->Prop)->Prop
noncomputable abbrev fc:=aH->(List D->Prop)->Prop
noncomputable def gk (K:Frag)(G:Hp)(σ:St)(ρ:aH):Prop:=∀i d,aI ρ i=some (.p d)->∃v,σ[i]?=some (some v)/\Rep K G v d
theorem gk.mono {K:Frag}{G G':Hp}{σ:St}{ρ:aH}(s:aE G G')(h:gk K G σ ρ):gk K G' σ ρ:=λi d e=>by
  obtain ⟨v,h1,h2⟩:=h i d e;exact ⟨v,h1,h2.mono s⟩
noncomputable def cE (K:Frag)(t:DT):TE:=λσ H Q=>∃(G:Hp) (ρ:aH) (P:B->Prop),aE G H/\gk K G σ ρ/\t ρ P/\∀b v H' G',P b->Wd H G H' G'->gL K H G' H' v b->Q v H'
noncomputable def cT (K:Frag)(t:jR):TT:=λσ H Q=>∃(G:Hp) (ρ:aH) (P:Bool->Prop),aE G H/\gk K G σ ρ/\t ρ P/\∀b H' G',P b->Wd H G H' G'->Q b H'
noncomputable def cA (K:Frag)(n:Nat)(t:fc):TA:=λσ H Q=>∃(G:Hp) (ρ:aH) (P:List D->Prop),aE G H/\gk K G σ ρ/\t ρ P/\∀ds vs H' G',P ds->ds.length=n->Wd H G H' G'->bw K G' vs ds->Q vs H'
structure DE (X:Cx)(e:Expr)(t:DT):Prop where
  pe:PE X e (cE X.K t)
structure t7 (X:Cx)(e:Expr)(t:jR):Prop where
  pt:PT X e (cT X.K t)
structure DW (X:Cx)(e:Expr)(t:jR):Prop where
  pw:PW X e (cT X.K t)
structure DA (X:Cx)(es:List Expr)(t:fc):Prop where
  pa:PA X es (cA X.K es.length t)
theorem PE.imp {X:Cx}{e:Expr}{t t':TE}(h:PE X e t)(i:∀σ H Q,t' σ H Q->t σ H Q):PE X e t':=λpins s σ H Q I q=>h pins s σ H Q I (i σ H Q q)
theorem PT.imp {X:Cx}{e:Expr}{t t':TT}(h:PT X e t)(i:∀σ H Q,t' σ H Q->t σ H Q):PT X e t':=λpins s σ H Q I q=>h pins s σ H Q I (i σ H Q q)
theorem PW.imp {X:Cx}{e:Expr}{t t':TT}(h:PW X e t)(i:∀σ H Q,t' σ H Q->t σ H Q):PW X e t':=λwh pins s σ H Q I q=>h wh pins s σ H Q I (i σ H Q q)
theorem PA.imp {X:Cx}{es:List Expr}{t t':TA}(h:PA X es t)(i:∀σ H Q,t' σ H Q->t σ H Q):PA X es t':=λpos pins s σ H Q I q=>h pos pins s σ H Q I (i σ H Q q)
theorem PS.imp {X:Cx}{st:Stmt}{t t':TS}(h:PS X st t)(i:∀D σ H,t' D σ H->t D σ H):PS X st t':=λpins s σ H D I q=>h pins s σ H D I (i D σ H q)
theorem qv.imp {X:Cx}{st:List Stmt}{t t':TS}(h:qv X st t)(i:∀D σ H,t' D σ H->t D σ H):qv X st t':=λpins s σ H D I q=>h pins s σ H D I (i D σ H q)
theorem DE.of {X:Cx}{e:Expr}{t:TE}{t':DT}(h:PE X e t)(i:∀σ H Q,cE X.K t' σ H Q->t σ H Q):DE X e t':=⟨PE.imp h i⟩
theorem t7.of {X:Cx}{e:Expr}{t:TT}{t':jR}(h:PT X e t)(i:∀σ H Q,cT X.K t' σ H Q->t σ H Q):t7 X e t':=⟨PT.imp h i⟩
theorem DW.of {X:Cx}{e:Expr}{t:TT}{t':jR}(h:PW X e t)(i:∀σ H Q,cT X.K t' σ H Q->t σ H Q):DW X e t':=⟨PW.imp h i⟩
theorem DA.of {X:Cx}{es:List Expr}{t:TA}{t':fc}(h:PA X es t)(i:∀σ H Q,cA X.K es.length t' σ H Q->t σ H Q):DA X es t':=⟨PA.imp h i⟩
section
variable {X:Cx} {a b e:Expr} {ta tb te:DT} {pos:Pos}
noncomputable def aO (i:Nat):DT:=λρ Q=>match aI ρ i with
  | some (.p d)=>Q (.p d)
  | _=>False
set_option tactic.hygienic true in
theorem dv (i:Nat){x:Str}(hN:autoParam (X.N[i]?=some x) aZa._auto_1)(hv:autoParam (ua X.env.scope x) aZf._auto_1)(hd:autoParam ((x == ("__debug__" : Str))=false) aZb._auto_1)
    (hcd:autoParam ((x == ("__classdict__" : Str))=false) aZb._auto_1):DE X (.Name x pos) (aO i):=
  DE.of (gT hN hv hd hcd)<|by
    rintro σ H Q ⟨G,ρ,P,s,r,h,k⟩;unfold aO at h;split at h
    · rename_i d e;obtain ⟨v,h1,h2⟩:=r _ _ e;exact ⟨v,h1,k _ v H G h (Wd.refl s) h2⟩
    · exact h.elim
noncomputable def dC (d:D):DT:=λ_ Q=>Q (.p d)
noncomputable def Bm (K:Frag)(v:V)(d:D):Prop:=∀G,Rep K G v d
theorem ya {v:V}{d:D}(h:PE X e (tC v))(r:Bm X.K v d):DE X e (dC d):=
  DE.of h (by rintro σ H Q ⟨G,ρ,P,s,_,h,k⟩;exact k _ v H G h (Wd.refl s) (r G))
theorem ae {i:Int}{j}:DE X (.Constant (.int i) j pos) (dC (.int i)):=ya jI λ_=>.int i
theorem iH {b:Bool}{j}:DE X (.Constant (.bool b) j pos) (dC (.bl b)):=ya DY λ_=>.bl b
theorem qK {j}:DE X (.Constant .none j pos) (dC .non):=ya Cj λ_=>.non
theorem ml {x:Str}{j}:DE X (.Constant (.str x) j pos) (dC (.str x)):=ya Cm λ_=>.str x
theorem sD {K:Frag}{H G H1 G1:Hp}{P:B->Prop}{Q:VK}(k:∀b v H' G',P b->Wd H G H' G'->gL K H G' H' v b->Q v H')(w:Wd H G H1 G1):∀b v H' G',P b->Wd H1 G1 H' G'->gL K H1 G' H' v b->Q v H':=
  λb v H' G' p w' r=>k b v H' G' p (w.trans w') (r.ahead w.hh)
noncomputable abbrev D2:=D->D->(B->Prop)->Prop
noncomputable def oY (X:Cx)(f:Value->Value->Sem Value)(r:D2):Prop:=∃rv:R2,jS X f rv /\
  ∀(H G:Hp) (x y:V) (dx dy:D) (P:B->Prop) (Q:VK),aE G H->Rep X.K G x dx->Rep X.K G y dy->r dx dy P->(∀b v H' G',P b->Wd H G H' G'->gL X.K H G' H' v b->Q v H')->rv x y H Q
noncomputable def fL (r:D2)(ta tb:DT):DT:=λρ Q=>ta ρ λx=>tb ρ λy=>r x.val y.val Q
theorem qC {K:Frag}{ta tb:DT}{r:D2}{rv:R2}(hr:∀(H G:Hp) (x y:V) (dx dy:D) (P:B->Prop) (Q:VK),aE G H->Rep K G x dx->Rep K G y dy->r dx dy P->(∀b v H' G',P b->Wd H G H' G'->gL K H G' H' v b->Q v H')->rv x y H Q)
    (σ:St) (H:Hp) (Q:VK):cE K (fL r ta tb) σ H Q->Eo rv (cE K ta) (cE K tb) σ H Q:=by
  rintro ⟨G,ρ,P,s,re,h,k⟩;refine ⟨G,ρ,_,s,re,h,λb v H1 G1 p1 w1 r1=>?_⟩;obtain ⟨G1',w1',r1'⟩:=r1.give w1;refine ⟨G1',ρ,_,w1'.gh,re.mono w1'.gg,p1,λb2 v2 H2 G2 p2 w2 r2=>?_⟩;obtain ⟨G2',w2',r2'⟩:=r2.give w2;exact hr H2 G2' v v2 b.val b2.val P Q w2'.gh (r1'.mono w2'.gg) r2' p2 (sD k (w1'.trans w2'))
theorem ak {op:Operator}{r:D2}(ho:oY X (binaryOp op) r)(ha:DE X a ta)(hb:DE X b tb):DE X (.BinOp a op b pos) (fL r ta tb):=by
  obtain ⟨rv,h1,h2⟩:=ho;exact DE.of (D3 h1 ha.pe hb.pe) (qC h2)
theorem iZ {op:CmpOp}{r:D2}(ho:oY X (compareOp op) r)(ha:DE X a ta)(hb:DE X b tb)(hm:behindInMarks op b=false):DE X (.Compare a [op] [b] pos) (fL r ta tb):=by
  obtain ⟨rv,h1,h2⟩:=ho;exact DE.of (Au h1 ha.pe hb.pe hm) (qC h2)
noncomputable def dI (g:Int->Int->D):D2:=λx y Q=>match x,y with
  | .int i,.int j=>Q (.p (g i j))
  | _,_=>False
noncomputable def kj (C:Int->Int->Prop)(g:Int->Int->D):D2:=λx y Q=>match x,y with
  | .int i,.int j=>C i j/\Q (.p (g i j))
  | _,_=>False
theorem sY {f:Value->Value->Sem Value}{g:Int->Int->D}{gv:Int->Int->V}(h:jS X f (AI gv))(hg:∀i j,Bm X.K (gv i j) (g i j)):oY X f (dI g):=by
  refine ⟨_,h,λH G x y dx dy P Q s rx ry hr k=>?_⟩;unfold dI at hr;split at hr
  · cases rx;cases ry;exact ⟨_,_,rfl,rfl,k _ _ H G hr (Wd.refl s) (hg _ _ _)⟩
  · exact hr.elim
theorem uF {f:Value->Value->Sem Value}{C:Int->Int->Prop}{g:Int->Int->D}{gv:Int->Int->V}(h:jS X f (rI C gv))(hg:∀i j,Bm X.K (gv i j) (g i j)):oY X f (kj C g):=by
  refine ⟨_,h,λH G x y dx dy P Q s rx ry hr k=>?_⟩;unfold kj at hr;split at hr
  · cases rx;cases ry;exact ⟨_,_,rfl,rfl,hr.1,k _ _ H G hr.2 (Wd.refl s) (hg _ _ _)⟩
  · exact hr.elim
theorem fi:oY X (binaryOp .Sub) (dI λi j=>.int (i - j)):=sY Cf λ_ _ _=>.int _
theorem lH:oY X (binaryOp .FloorDiv) (kj C2 λi j=>.int (i / j)):=uF Ap λ_ _ _=>.int _
theorem ba:oY X (binaryOp .Mod) (kj (λ_ j=>0<j) λi j=>.int (i % j)):=uF Ca λ_ _ _=>.int _
theorem h9:oY X (binaryOp .Pow) (kj C3 λi j=>.int (i ^ j.toNat)):=uF Cd λ_ _ _=>.int _
theorem yQ:oY X (compareOp .Lt) (dI λi j=>.bl (decide (i<j))):=sY DU λ_ _ _=>.bl _
theorem DJ:oY X (compareOp .LtE) (dI λi j=>.bl (decide (i<=j))):=sY DQ λ_ _ _=>.bl _
theorem vQ:oY X (compareOp .Gt) (dI λi j=>.bl (decide (j<i))):=sY DP λ_ _ _=>.bl _
theorem vP:oY X (compareOp .GtE) (dI λi j=>.bl (decide (j<=i))):=sY DN λ_ _ _=>.bl _
noncomputable def fF:D2:=λx y Q=>match x,y with
  | .int i,.int j=>Q (.p (.bl (decide (i=j))))
  | .str i,.str j=>Q (.p (.bl (decide (i=j))))
  | .bl i,.bl j=>Q (.p (.bl (decide (i=j))))
  | _,_=>False
noncomputable def fI:D2:=λx y Q=>match x,y with
  | .int i,.int j=>Q (.p (.bl (!decide (i=j))))
  | .str i,.str j=>Q (.p (.bl (!decide (i=j))))
  | .bl i,.bl j=>Q (.p (.bl (!decide (i=j))))
  | _,_=>False
theorem wI {α:Type}[DecidableEq α]{f:α->V}(hf:∀a b,f a=f b->a=b)(i j:α):decide (f i=f j)=decide (i=j):=by
  by_cases h:i=j
  · rw[h,decide_eq_true rfl,decide_eq_true rfl]
  · rw[decide_eq_false h,decide_eq_false λe=>h (hf _ _ e)]
theorem oq:oY X (compareOp .Eq) fF:=by
  refine ⟨_,DM,λH G x y dx dy P Q s rx ry hr k=>?_⟩;unfold fF at hr;split at hr
  · cases rx;cases ry;exact ⟨rfl,by rw[wI (λ_ _ e=>V.int.inj e)];exact k _ _ H G hr (Wd.refl s) (.bl _)⟩
  · cases rx;cases ry;exact ⟨rfl,by rw[wI (λ_ _ e=>V.str.inj e)];exact k _ _ H G hr (Wd.refl s) (.bl _)⟩
  · cases rx;cases ry;exact ⟨rfl,by rw[wI (λ_ _ e=>V.bl.inj e)];exact k _ _ H G hr (Wd.refl s) (.bl _)⟩
  · exact hr.elim
theorem sQ:oY X (compareOp .NotEq) fI:=by
  refine ⟨_,DV,λH G x y dx dy P Q s rx ry hr k=>?_⟩;unfold fI at hr;split at hr
  · cases rx;cases ry;exact ⟨rfl,by rw[wI (λ_ _ e=>V.int.inj e)];exact k _ _ H G hr (Wd.refl s) (.bl _)⟩
  · cases rx;cases ry;exact ⟨rfl,by rw[wI (λ_ _ e=>V.str.inj e)];exact k _ _ H G hr (Wd.refl s) (.bl _)⟩
  · cases rx;cases ry;exact ⟨rfl,by rw[wI (λ_ _ e=>V.bl.inj e)];exact k _ _ H G hr (Wd.refl s) (.bl _)⟩
  · exact hr.elim
noncomputable def fQ:D2:=λx y Q=>match y with
  | .non=>Q (.p (.bl (match x with | .non=>true | _=>false)))
  | _=>False
noncomputable def cq:D2:=λx y Q=>match y with
  | .non=>Q (.p (.bl (match x with | .non=>false | _=>true)))
  | _=>False
theorem BY:oY X (compareOp .Is) fQ:=by
  refine ⟨_,B9,λH G x y dx dy P Q s rx ry hr k=>?_⟩;unfold fQ at hr;split at hr
  · cases ry;refine ⟨rfl,k _ _ H G hr (Wd.refl s) ?_⟩;cases rx<;>exact .bl _
  · exact hr.elim
theorem Al:oY X (compareOp .IsNot) cq:=by
  refine ⟨_,Ar,λH G x y dx dy P Q s rx ry hr k=>?_⟩;unfold cq at hr;split at hr
  · cases ry;refine ⟨rfl,k _ _ H G hr (Wd.refl s) ?_⟩;cases rx<;>exact .bl _
  · exact hr.elim
noncomputable def lu (r:D->(B->Prop)->Prop)(ta:DT):DT:=λρ Q=>ta ρ λx=>r x.val Q
noncomputable def fJ:D->(B->Prop)->Prop:=λx Q=>match x with
  | .int i=>Q (.p (.int (-i)))
  | _=>False
set_option tactic.hygienic true in
theorem mj (ha:DE X a ta):DE X (.UnaryOp .USub a pos) (lu fJ ta):=
  DE.of (D4 CL ha.pe)<|by
    rintro σ H Q ⟨G,ρ,P,s,re,h,k⟩;refine ⟨G,ρ,_,s,re,h,λb v H1 G1 p1 w1 r1=>?_⟩;obtain ⟨G1',w1',r1'⟩:=r1.give w1;unfold fJ at p1;split at p1
    · rename_i i e;rw[e] at r1';cases r1';exact ⟨_,rfl,k _ _ H1 G1' p1 w1' (.int _)⟩
    · exact p1.elim
noncomputable def cU (ta:DT):DT:=λρ Q=>ta ρ λx=>match x.val with
  | .bl c=>Q (.p (.bl (!c)))
  | _=>False
theorem qB {K:Frag}{H G H' G':Hp}{v:V}{b:B}{c:Bool}(w:Wd H G H' G')(r:gL K H G' H' v b)(e:b.val=.bl c):v=.bl c:=by
  obtain ⟨G1,_,r1⟩:=r.give w;rw[e] at r1;exact r1.qA
noncomputable def cH (ta tb:DT):DT:=λρ Q=>ta ρ λx=>match x.val with
  | .bl c=>(c=true->tb ρ Q)/\(c=false->Q (.p (.bl false)))
  | _=>False
noncomputable def gQ (ta tb:DT):DT:=λρ Q=>ta ρ λx=>match x.val with
  | .bl c=>(c=true->Q (.p (.bl true)))/\(c=false->tb ρ Q)
  | _=>False
theorem qL {op}{t:DT}(h:DE X a t):DE X (.BoolOp op [a] pos) t:=⟨Ck h.pe⟩
set_option tactic.hygienic true in
theorem nM {rest:List Expr}(ha:DE X a ta)(hb:DE X (.BoolOp .And (b::rest) pos) tb):DE X (.BoolOp .And (a::b::rest) pos) (cH ta tb):=
  DE.of (Ci ha.pe hb.pe)<|by
    rintro σ H Q ⟨G,ρ,P,s,re,h,k⟩;refine ⟨G,ρ,_,s,re,h,λb v H1 G1 p1 w1 r1=>?_⟩;split at p1
    · rename_i c e;refine ⟨c,qB w1 r1 e,?_⟩;cases c with
      | true=>exact yD ⟨G1,ρ,P,w1.gh,re.mono w1.gg,p1.1 rfl,sD k w1⟩
      | false=>exact yC (k _ _ H1 G1 (p1.2 rfl) w1 (.bl _))
    · exact p1.elim
noncomputable def eE (t:DT):jR:=λρ P=>t ρ λx=>match x.val with
  | .bl c=>P c
  | _=>False
set_option tactic.hygienic true in
theorem bJ {op:CmpOp}{r:D2}(ho:oY X (compareOp op) r)(ha:DE X a ta)(hb:DE X b tb)(hm:behindInMarks op b=false):t7 X (.Compare a [op] [b] pos) (eE (fL r ta tb)):=by
  obtain ⟨rv,h1,h2⟩:=ho;refine t7.of (AF h1 ha.pe hb.pe hm) ?_;rintro σ H Q ⟨G,ρ,P,s,re,h,k⟩;refine qC h2 σ H _ ⟨G,ρ,_,s,re,h,λb v H1 G1 p1 w1 r1=>?_⟩;split at p1
  · rename_i c e;exact ⟨c,qB w1 r1 e,k _ H1 G1 p1 w1⟩
  · exact p1.elim
set_option tactic.hygienic true in
theorem iA (ha:DE X a ta)(he:autoParam (∀whole,isTrue a X.env whole=(do let v <-whole;standAt a.pos;holding [v] (truthy v))) aZc._auto_1):t7 X a (eE ta):=
  t7.of (Cy ha.pe he)<|by
    rintro σ H Q ⟨G,ρ,P,s,re,h,k⟩;refine ⟨G,ρ,_,s,re,h,λb v H1 G1 p1 w1 r1=>?_⟩;split at p1
    · rename_i c e;exact ⟨c,qB w1 r1 e,k _ H1 G1 p1 w1⟩
    · exact p1.elim
noncomputable def fS (t:jR):jR:=λρ P=>t ρ λc=>P (!c)
theorem i7 {t:jR}(ha:t7 X a t):t7 X (.UnaryOp .Not a pos) (fS t):=
  t7.of (Cw ha.pt) (by rintro σ H Q ⟨G,ρ,P,s,re,h,k⟩;exact ⟨G,ρ,_,s,re,h,λb H1 G1 p1 w1=>k _ H1 G1 p1 w1⟩)
noncomputable def fE (t u:jR):jR:=λρ P=>t ρ λc=>(c=true->u ρ P)/\(c=false->P false)
noncomputable def kR (t u:jR):jR:=λρ P=>t ρ λc=>(c=true->P true)/\(c=false->u ρ P)
theorem yw {K:Frag}{H G H1 G1:Hp}{P:Bool->Prop}{Q:Bool->Hp->Prop}(k:∀b H' G',P b->Wd H G H' G'->Q b H')(w:Wd H G H1 G1):∀b H' G',P b->Wd H1 G1 H' G'->Q b H':=
  λb H' G' p w'=>k b H' G' p (w.trans w')
theorem BC {K:Frag}{t u:jR}(σ:St)(H:Hp)(Q:Bool->Hp->Prop):cT K (fE t u) σ H Q->Ei (cT K t) (cT K u) σ H Q:=by
  rintro ⟨G,ρ,P,s,re,h,k⟩;refine ⟨G,ρ,_,s,re,h,λc H1 G1 p1 w1=>?_⟩;cases c with
  | true=>exact yD ⟨G1,ρ,P,w1.gh,re.mono w1.gg,p1.1 rfl,yw (K:=K) k w1⟩
  | false=>exact yC (k _ H1 G1 (p1.2 rfl) w1)
theorem Df {K:Frag}{t u:jR}(σ:St)(H:Hp)(Q:Bool->Hp->Prop):cT K (kR t u) σ H Q->FP (cT K t) (cT K u) σ H Q:=by
  rintro ⟨G,ρ,P,s,re,h,k⟩;refine ⟨G,ρ,_,s,re,h,λc H1 G1 p1 w1=>?_⟩;cases c with
  | true=>exact yD (k _ H1 G1 (p1.1 rfl) w1)
  | false=>exact yC ⟨G1,ρ,P,w1.gh,re.mono w1.gg,p1.2 rfl,yw (K:=K) k w1⟩
end
end DL
namespace DL
open PySem L2
section
variable {X:Cx} {a b c e:Expr} {ta tb tc te:DT} {pos:Pos} {es:List Expr}
noncomputable def gP (t:jR)(ta tb:DT):DT:=λρ Q=>t ρ λc=>(c=true->ta ρ Q)/\(c=false->tb ρ Q)
noncomputable def bF (r r':D2)(ta tb tc:DT):DT:=λρ Q=>ta ρ λx=>tb ρ λy=>r x.val y.val λz=>match z.val with
  | .bl c=>(c=true->tc ρ λw=>r' y.val w.val Q)/\(c=false->Q (.p (.bl false)))
  | _=>False
theorem vt {t:jR}(ha:t7 X a t):DW X (.BoolOp .And [a] pos) t:=⟨AG ha.pt⟩
theorem jC {t:jR}(ha:t7 X a t):DW X (.BoolOp .Or [a] pos) t:=⟨CA ha.pt⟩
theorem yk {t u:jR}{rest:List Expr}(ha:t7 X a t)(hb:DW X (.BoolOp .And (b::rest) pos) u):DW X (.BoolOp .And (a::b::rest) pos) (fE t u):=DW.of (Cz ha.pt hb.pw) BC
theorem jB {t u:jR}{rest:List Expr}(ha:t7 X a t)(hb:DW X (.BoolOp .Or (b::rest) pos) u):DW X (.BoolOp .Or (a::b::rest) pos) (kR t u):=DW.of (D7 ha.pt hb.pw) Df
theorem DW.dt {t:jR}(h:DW X e t):t7 X e t:=⟨PW.pt h.pw⟩
noncomputable def dX:fc:=λ_ P=>P []
noncomputable def aN (te:DT)(t:fc):fc:=λρ P=>te ρ λb=>t ρ λds=>P (b.val::ds)
theorem af:DA X [] dX:=DA.of gS λσ H Q ⟨G,ρ,P,s,re,h,k⟩=>k [] [] H G h rfl (Wd.refl s) .nil
theorem aa {t:fc}(ha:DE X e te)(hr:DA X es t)(hs:autoParam (starEach (e::es) X.env=(false,eval e X.env)::starEach es X.env) aZa._auto_1):DA X (e::es) (aN te t):=
  DA.of (br ha.pe hr.pa hs)<|by
    rintro σ H Q ⟨G,ρ,P,s,re,h,k⟩;refine ⟨G,ρ,_,s,re,h,λb v H1 G1 p1 w1 r1=>?_⟩;obtain ⟨G1',w1',r1'⟩:=r1.give w1;refine ⟨G1',ρ,_,w1'.gh,re.mono w1'.gg,p1,λds vs H2 G2 p2 l2 w2 r2=>?_⟩;exact k _ _ H2 G2 p2 (by show ds.length+1=es.length+1;rw[l2]) (w1'.trans w2) (.cons (r1'.mono w2.gg) r2)
noncomputable def eU (t:fc):DT:=λρ Q=>t ρ λds=>Q (.p (.tup ds))
noncomputable def gc (t:fc):DT:=λρ Q=>t ρ λds=>Q (.o (.lst ds))
theorem e8 {K:Frag}{H G H1 G1:Hp}{vs:List V}{ds:List D}{p:Addr}(w:Wd H G H1 G1)(hp:H1 p=none)(r:bw K G1 vs ds):Wd H G (upd H1 p (.lst vs)) G1/\gL K H G1 (upd H1 p (.lst vs)) (.ref p) (.o (.lst ds)):=
  ⟨w.own (w.hh.free hp) (w.gh.free hp),p,rfl,w.hh.free hp,w.gh.free hp,vs,bf,r⟩
theorem rB {K:Frag}{H G H1 G1:Hp}{vs:List V}{ds:List D}{p:Addr}(w:Wd H G H1 G1)(hp:H1 p=none)(r:bw K G1 vs ds):Wd H G (upd H1 p (.tup vs)) (upd G1 p (.tup vs))/\gL K H (upd G1 p (.tup vs)) (upd H1 p (.tup vs)) (.ref p) (.p (.tup ds)):=
  ⟨w.new hp,Rep.uN bf (bw.mono (iR (w.gh.free hp)) r)⟩
theorem cD {t:fc}{x1}(h:DA X es t)(hn:autoParam (es.length<=1000) aZi._auto_1):DE X (.Tuple es x1 pos) (eU t):=
  DE.of (oA h.pa)<|by
    rintro σ H Q ⟨G,ρ,P,s,re,h,k⟩;refine ⟨G,ρ,_,s,re,h,λds vs H1 G1 p1 l1 w1 r1=>⟨bV (by rw[Paired.length r1,l1];exact hn),λp hp=>?_⟩⟩;obtain ⟨w2,r2⟩:=rB w1 hp r1;exact k _ _ _ _ p1 w2 r2
theorem cW {t:fc}(h:DA X es t)(hn:autoParam (es.length<=1000) aZi._auto_1):DE X (.List es pos) (gc t):=
  DE.of (yU h.pa)<|by
    rintro σ H Q ⟨G,ρ,P,s,re,h,k⟩;refine ⟨G,ρ,_,s,re,h,λds vs H1 G1 p1 l1 w1 r1=>⟨bV (by rw[Paired.length r1,l1];exact hn),λp hp=>?_⟩⟩;obtain ⟨w2,r2⟩:=e8 w1 hp r1;exact k _ _ _ _ p1 w2 r2
noncomputable abbrev DR:=List D->(B->Prop)->Prop
noncomputable def bS (K:Frag)(R:DR):Sp:=λvs H Q _=>∃(ds:List D) (G:Hp) (P:B->Prop),aE G H/\bw K G vs ds/\R ds P/\∀b v H' G',P b->Wd H G H' G'->gL K H G' H' v b->Q v H'
noncomputable abbrev FR (P:Program)(w:World)(K:Frag)(mg:Str->Option Value)(base:Heap)(x:Str)(k:Nat)(ps:List Str)(R:DR):Prop:=Fn P w K mg base x k ps (bS K R)
noncomputable def bU (R:DR)(t:fc):DT:=λρ Q=>t ρ λds=>R ds Q
theorem ay {x:Str}{k:Nat}{ps:List Str}{R:DR}{p:Pos}{t:fc}(F:FR X.prog X.w X.K X.mg X.base x k ps R)(hr:fX k X.A)(hg:Gl X x)(ha:DA X (e::es) t)
    (hdb:autoParam ((x == ("__debug__" : Str))=false) aZb._auto_1) (he:autoParam (starEach (e::es) X.env=(false,eval e X.env)::starEach es X.env) aZa._auto_1) (hpl:autoParam ((backTo pos (starEach es X.env)).any (·.1)=false) aZa._auto_1) :
    DE X (.Call (.Name x p) (e::es) [] pos) (bU R t):=
  DE.of (Bg F hr hg ha.pa hdb he hpl)<|by
    rintro σ H Q ⟨G,ρ,P,s,re,h,k⟩;refine ⟨G,ρ,_,s,re,h,λds vs H1 G1 p1 l1 w1 r1=>?_⟩;show bS X.K R (vs++[]) H1 Q E0;rw[append_nil];exact ⟨ds,G1,P,w1.gh,r1,p1,sD k w1⟩
noncomputable def CallD (X:Cx)(f:Value)(r:DR):Prop:=∃rv,hJ X f rv/\∀(H G:Hp) (vs:List V) (ds:List D) (P:B->Prop) (Q:VK),aE G H->bw X.K G vs ds->r ds P->(∀b v H' G',P b->Wd H G H' G'->gL X.K H G' H' v b->Q v H')->rv vs H Q
noncomputable def ki (r:DR)(t:fc):DT:=λρ Q=>t ρ λds=>r ds Q
theorem A2 {K:Frag}{n:Nat}{t:fc}{r:DR}{rv:List V->Hp->VK->Prop}(hr:∀(H G:Hp) (vs:List V) (ds:List D) (P:B->Prop) (Q:VK),aE G H->bw K G vs ds->r ds P->(∀b v H' G',P b->Wd H G H' G'->gL K H G' H' v b->Q v H')->rv vs H Q)
    (σ:St) (H:Hp) (Q:VK):cE K (ki r t) σ H Q->EJ rv (cA K n t) σ H Q:=by
  rintro ⟨G,ρ,P,s,re,h,k⟩;exact ⟨G,ρ,_,s,re,h,λds vs H1 G1 p1 l1 w1 r1=>hr H1 G1 vs ds P Q w1.gh r1 p1 (sD k w1)⟩
theorem ax {id:String}{x:Str}{p:Pos}{t:fc}{r:DR}(hc:CallD X (.builtin id) r)(hg:Gl X x)(hm:X.mg x=none)(hv:bootBuiltins x=some (.builtin id))(ha:DA X (e::es) t)(hn:autoParam (x≠"__name__") aZb._auto_1)(hdb:autoParam ((x == ("__debug__" : Str))=false) aZb._auto_1)
    (he:autoParam (starEach (e::es) X.env=(false,eval e X.env)::starEach es X.env) aZa._auto_1) (hpl:autoParam ((backTo pos (starEach es X.env)).any (·.1)=false) aZa._auto_1):DE X (.Call (.Name x p) (e::es) [] pos) (ki r t):=by
  obtain ⟨rv,h1,h2⟩:=hc;exact DE.of (td h1 hg hm hv ha.pa hn hdb he hpl) (A2 h2)
theorem cV {T:String}{x:Str}{p:Pos}{t:fc}{r:DR}(hc:CallD X (.type T) r)(hg:Gl X x)(hm:X.mg x=none)(hv:bootBuiltins x=some (.type T))(ha:DA X (e::es) t)(hn:autoParam (x≠"__name__") aZb._auto_1)(hdb:autoParam ((x == ("__debug__" : Str))=false) aZb._auto_1)
    (he:autoParam (starEach (e::es) X.env=(false,eval e X.env)::starEach es X.env) aZa._auto_1) (hpl:autoParam ((backTo pos (starEach es X.env)).any (·.1)=false) aZa._auto_1):DE X (.Call (.Name x p) (e::es) [] pos) (ki r t):=by
  obtain ⟨rv,h1,h2⟩:=hc;exact DE.of (mF h1 hg hm hv ha.pa hn hdb he hpl) (A2 h2)
theorem gK {K:Frag}{G:Hp}{vs:List V}{d:D}(h:bw K G vs [d]):∃v,vs = [v]/\Rep K G v d:=by
  cases h with | cons h t=>cases t;exact ⟨_,rfl,h⟩
theorem tG {K:Frag}{G:Hp}{vs:List V}{d d':D}(h:bw K G vs [d,d']):∃v v',vs = [v,v']/\Rep K G v d/\Rep K G v' d':=by
  cases h with | cons h t=>obtain ⟨v',rfl,h'⟩:=gK t;exact ⟨_,_,rfl,h,h'⟩
theorem iQ {K:Frag}{G:Hp}:∀{ns:List Int} {vs:List V},bw K G vs (ns.map D.int)->vs=ns.map V.int
  | [],_,h=>by cases h;rfl
  | n::ns,_,h=>by cases h with | cons h t=>rw[h.int_inv,iQ t];rfl
theorem g6 {K:Frag}{G:Hp}:∀(ns:List Int),bw K G (ns.map V.int) (ns.map D.int)
  | []=>.nil
  | n::ns=>.cons (.int n) (g6 ns)
noncomputable def fH:DR:=λds P=>match ds with
  | [.lst xs]=>P (.p (.int xs.length))
  | [.tup xs]=>P (.p (.int xs.length))
  | [.scr ns]=>P (.p (.int ns.length))
  | [.str x]=>x.length<=sizeLine/\P (.p (.int x.length))
  | _=>False
set_option tactic.hygienic true in
theorem eQ:CallD X (.builtin "len") fH:=by
  refine ⟨_,wx,λH G vs ds P Q s r h k=>?_⟩;unfold fH at h;split at h
  · obtain ⟨v,rfl,rv⟩:=gK r;obtain ⟨a,us,rfl,e,rr⟩:=rv.lst_inv;exact ⟨_,us.length,rfl,.inl ⟨us,d6.of (s _ _ e),rfl⟩,by rw[Paired.length rr];exact k _ _ H G h (Wd.refl s) (.int _)⟩
  · obtain ⟨v,rfl,rv⟩:=gK r;obtain ⟨a,us,rfl,e,rr⟩:=rv.iy;exact ⟨_,us.length,rfl,.inr ⟨us,aG s e,rfl⟩,by rw[Paired.length rr];exact k _ _ H G h (Wd.refl s) (.int _)⟩
  · rename_i ns;obtain ⟨v,rfl,rv⟩:=gK r;cases rv with
    | scr e=>exact ⟨_,ns.length,rfl,.inl ⟨_,s.seq e,by simp⟩,k _ _ H G h (Wd.refl s) (.int _)⟩
  · rename_i x;obtain ⟨v,rfl,rv⟩:=gK r;cases rv;exact ⟨_,x.length,rfl,⟨h.1,rfl⟩,k _ _ H G h.2 (Wd.refl s) (.int _)⟩
  · exact h.elim
noncomputable def BF:DR:=λds P=>match ds with
  | [.lst xs]=>∃ns:List Int,xs=ns.map D.int/\P (.p (.int ns.sum))
  | _=>False
theorem gN (hc:X.calm=true):CallD X (.builtin "sum") BF:=by
  refine ⟨_,wD hc,λH G vs ds P Q s r h k=>?_⟩;unfold BF at h;split at h
  · obtain ⟨ns,rfl,h⟩:=h;obtain ⟨v,rfl,rv⟩:=gK r;obtain ⟨a,us,rfl,e,rr⟩:=rv.lst_inv;rw[iQ rr] at e;exact ⟨a,ns,rfl,d6.of (s _ _ e),k _ _ H G h (Wd.refl s) (.int _)⟩
  · exact h.elim
noncomputable def kC (g:Int->Int->Int):DR:=λds P=>match ds with
  | [.int i,.int j]=>P (.p (.int (g i j)))
  | _=>False
theorem A3 {f:Value}{g:Int->Int->Int}(h:hJ X f (λxs H Q=>∃i j,xs = [.int i,.int j]/\Q (.int (g i j)) H)):CallD X f (kC g):=by
  refine ⟨_,h,λH G vs ds P Q s r h k=>?_⟩;unfold kC at h;split at h
  · obtain ⟨v,v',rfl,r1,r2⟩:=tG r;cases r1;cases r2;exact ⟨_,_,rfl,k _ _ H G h (Wd.refl s) (.int _)⟩
  · exact h.elim
theorem u0 (hc:X.calm=true):CallD X (.builtin "max") (kC λi j=>if j>i then j else i):=A3 (wy hc)
theorem zJ (hc:X.calm=true):CallD X (.builtin "min") (kC λi j=>if j<i then j else i):=A3 (wA hc)
noncomputable def gO:DR:=λds P=>match ds with
  | [.int i]=>P (.p (.int (if i<0 then -i else i)))
  | _=>False
noncomputable def gm:DR:=λds P=>match ds with
  | [.int i]=>P (.p (.int i))
  | [.bl c]=>P (.p (.int (if c then 1 else 0)))
  | _=>False
noncomputable def cb:DR:=λds P=>match ds with
  | [.lst xs]=>P (.o (.lst xs))
  | [.tup xs]=>P (.o (.lst xs))
  | [.scr ns]=>P (.o (.lst (ns.map D.int)))
  | _=>False
set_option tactic.hygienic true in
theorem fN:CallD X (.type "list") cb:=by
  refine ⟨_,qE,λH G vs ds P Q s r h k=>?_⟩;unfold cb at h;split at h
  · obtain ⟨v,rfl,rv⟩:=gK r;obtain ⟨a,us,rfl,e,rr⟩:=rv.lst_inv;refine ⟨a,us,rfl,.inl (d6.of (s _ _ e)),λl hl=>?_⟩;obtain ⟨w2,r2⟩:=e8 (Wd.refl s) hl rr;exact k _ _ _ _ h w2 r2
  · obtain ⟨v,rfl,rv⟩:=gK r;obtain ⟨a,us,rfl,e,rr⟩:=rv.iy;refine ⟨a,us,rfl,.inr (aG s e),λl hl=>?_⟩;obtain ⟨w2,r2⟩:=e8 (Wd.refl s) hl rr;exact k _ _ _ _ h w2 r2
  · rename_i ns;obtain ⟨v,rfl,rv⟩:=gK r;cases rv with
    | scr e =>
      refine ⟨_,_,rfl,.inl (s.seq e),λl hl=>?_⟩;obtain ⟨w2,r2⟩:=e8 (Wd.refl s) hl (g6 (K:=X.K) ns);exact k _ _ _ _ h w2 r2
  · exact h.elim
noncomputable def Gf:D->String
  | .non=>"NoneType"
  | .bl _=>"bool"
  | .int _=>"int"
  | .str _=>"str"
  | .tup _=>"tuple"
  | .lst _=>"list"
  | .scr _=>"list"
  | .dct _=>"dict"
  | .sen _=>"dict"
  | .ext _=>"dict"
noncomputable def zY (T:String)(d:D):Bool:=match T with
  | "int"=>(match d with | .int _=>true | .bl _=>true | _=>false)
  | "bool"=>(match d with | .bl _=>true | _=>false)
  | "str"=>(match d with | .str _=>true | _=>false)
  | "tuple"=>(match d with | .tup _=>true | _=>false)
  | "list"=>(match d with | .lst _=>true | .scr _=>true | _=>false)
  | _=>false
noncomputable def iq:D2:=λx y Q=>match x,y with
  | .lst xs,.int i=>∃d,fm xs i=some d/\Q (.p d)
  | .tup xs,.int i=>∃d,fm xs i=some d/\Q (.p d)
  | .scr ns,.int i=>∃n,fm ns i=some n/\Q (.p (.int n))
  | .str z,.int i=>∃c,z.length<=sizeLine/\fm z.cps.toList i=some c/\Q (.p (.str ⟨#[c]⟩))
  | _,_=>False
theorem qx {K:Frag}{G:Hp}{vs:List V}{ds:List D}{i:Int}{d:D}(r:bw K G vs ds)(h:fm ds i=some d):∃v,fm vs i=some v/\Rep K G v d:=by
  unfold fm at *;rw[Paired.length r];cases e:qf ds.length i with
  | none=>rw[e] at h;cases h
  | some j =>
    rw[e] at h;exact bA r h
theorem zF {α β:Type}(f:α->β){xs:List α}{i:Int}{x:α}(h:fm xs i=some x):fm (xs.map f) i=some (f x):=by
  unfold fm at *;rw[length_map];cases e:qf xs.length i with
  | none=>rw[e] at h;cases h
  | some j =>
    rw[e] at h;have h':xs[j]?=some x:=h;show (xs.map f)[j]?=_;rw[getElem?_map,h'];rfl
theorem ai (ha:DE X a ta)(hb:DE X b tb)(hs:autoParam (ni b) aZj._auto_1):DE X (.Subscript a b pos) (fL iq ta tb):=
  DE.of (oz yE ha.pe hb.pe hs) (qC λH G x y dx dy P Q s rx ry h k=>by
    unfold iq at h;split at h
    · cases ry;obtain ⟨d,h1,h2⟩:=h;obtain ⟨a,us,rfl,e,rr⟩:=rx.lst_inv;obtain ⟨v,h3,h4⟩:=qx rr h1;exact .inl ⟨a,us,_,v,rfl,rfl,d6.of (s _ _ e),h3,k _ _ H G h2 (Wd.refl s) h4⟩
    · cases ry;obtain ⟨d,h1,h2⟩:=h;obtain ⟨a,us,rfl,e,rr⟩:=rx.iy;obtain ⟨v,h3,h4⟩:=qx rr h1;exact .inr (.inl ⟨a,us,_,v,rfl,rfl,aG s e,h3,k _ _ H G h2 (Wd.refl s) h4⟩)
    · cases ry;obtain ⟨n,h1,h2⟩:=h;cases rx with
      | scr e=>exact .inl ⟨_,_,_,.int n,rfl,rfl,s.seq e,zF _ h1,k _ _ H G h2 (Wd.refl s) (.int _)⟩
    · cases rx;cases ry;obtain ⟨c,h0,h1,h2⟩:=h;exact .inr (.inr ⟨_,_,c,rfl,rfl,h0,h1,k _ _ H G h2 (Wd.refl s) (.str _)⟩)
    · exact h.elim)
noncomputable abbrev xF:=aH->(Option Int->Prop)->Prop
noncomputable def cO (K:Frag)(t:xF):TO:=λσ H Q=>∃(G:Hp) (ρ:aH) (P:Option Int->Prop),aE G H/\gk K G σ ρ/\t ρ P/\∀o H' G',P o->Wd H G H' G'->Q o H'
structure DO (X:Cx)(e:Option Expr)(t:xF):Prop where
  po:PO X e (cO X.K t)
noncomputable def aQ:xF:=λ_ P=>P none
noncomputable def cL (t:DT):xF:=λρ P=>t ρ λb=>match b.val with
  | .int i=>P (some i)
  | _=>False
theorem d8 {K:Frag}{H G H' G':Hp}{v:V}{b:B}{c:Int}(w:Wd H G H' G')(r:gL K H G' H' v b)(e:b.val=.int c):v=.int c:=by
  obtain ⟨G1,_,r1⟩:=r.give w;rw[e] at r1;exact r1.int_inv
theorem PO.imp {e:Option Expr}{t t':TO}(h:PO X e t)(i:∀σ H Q,t' σ H Q->t σ H Q):PO X e t':=λpins s σ H Q I q=>h pins s σ H Q I (i σ H Q q)
theorem DO.of {e:Option Expr}{t:TO}{t':xF}(h:PO X e t)(i:∀σ H Q,cO X.K t' σ H Q->t σ H Q):DO X e t':=⟨PO.imp h i⟩
theorem nr:DO X none aQ:=DO.of AB λσ H Q ⟨G,ρ,P,s,re,h,k⟩=>k _ H G h (Wd.refl s)
set_option tactic.hygienic true in
theorem bh (he:DE X e te):DO X (some e) (cL te):=DO.of (AD he.pe)<|by
  rintro σ H Q ⟨G,ρ,P,s,re,h,k⟩;refine ⟨G,ρ,_,s,re,h,λb v H1 G1 p1 w1 r1=>?_⟩;split at p1
  · rename_i i e;exact ⟨i,d8 w1 r1 e,k _ H1 G1 p1 w1⟩
  · exact p1.elim
noncomputable def gY {α:Type}(xs:List α)(lo hi:Option Int):List α:=(xs.drop (HT.fv xs.length 0 lo)).take (HT.fv xs.length xs.length hi - HT.fv xs.length 0 lo)
theorem jG {α β:Type}{F:α->β->Prop}:∀{l:List α} {r:List β} (n:Nat),Paired F l r->Paired F (l.drop n) (r.drop n)
  | _,_,0,h=>h
  | _,_,n+1,.nil=>by rw[List.drop_nil,List.drop_nil];exact .nil
  | _,_,n+1,.cons _ t=>jG n t
theorem jH {α β:Type}{F:α->β->Prop}:∀{l:List α} {r:List β} (n:Nat),Paired F l r->Paired F (l.take n) (r.take n)
  | _,_,0,h=>by rw[List.take_zero,List.take_zero];exact .nil
  | _,_,n+1,.nil=>by rw[List.take_nil,List.take_nil];exact .nil
  | _,_,n+1,.cons h t=>.cons h (jH n t)
theorem tH {K:Frag}{G:Hp}{vs:List V}{ds:List D}(r:bw K G vs ds)(lo hi:Option Int):bw K G (pd vs lo hi) (gY ds lo hi):=by
  unfold pd gY;rw[Paired.length r];exact jH _ (jG _ r)
noncomputable def mi (te:DT)(tl th:xF):DT:=λρ Q=>te ρ λb=>tl ρ λlo=>th ρ λhi=>match b.val with
  | .lst xs=>Q (.o (.lst (gY xs lo hi)))
  | .scr ns=>Q (.o (.lst ((gY ns lo hi).map D.int)))
  | .tup xs=>¬(HT.fv xs.length 0 lo=0/\HT.fv xs.length xs.length hi=xs.length)/\Q (.p (.tup (gY xs lo hi)))
  | _=>False
theorem xR {α:Type}(f:α->V)(xs:List α)(lo hi:Option Int):pd (xs.map f) lo hi=(gY xs lo hi).map f:=by
  unfold pd gY;rw[length_map,map_take,map_drop]
set_option tactic.hygienic true in
theorem lA {lo hi:Option Expr}{tl th:xF}{p2:Pos}(he:DE X e te)(hl:DO X lo tl)(hu:DO X hi th):DE X (.Subscript e (.Slice lo hi none p2) pos) (mi te tl th):=
  DE.of (yV (AN.or CH) he.pe hl.po hu.po)<|by
    rintro σ H Q ⟨G,ρ,P,s,re,h,k⟩;refine ⟨G,ρ,_,s,re,h,λb v H1 G1 p1 w1 r1=>?_⟩;obtain ⟨G1',w1',r1'⟩:=r1.give w1;refine ⟨G1',ρ,_,w1'.gh,re.mono w1'.gg,p1,λl H2 G2 p2 w2=>?_⟩;have w12:=w1'.trans w2;refine ⟨G2,ρ,_,w2.gh,re.mono w12.gg,p2,λu H3 G3 p3 w3=>?_⟩;have w13:=w12.trans w3;have r3:=r1'.mono (w2.trans w3).gg;split at p3
    · rename_i xs e;rw[e] at r3;obtain ⟨a,us,rfl,e,rr⟩:=r3.lst_inv;refine .inl ⟨a,us,rfl,d6.of (w3.gh _ _ e),λp hp=>?_⟩;obtain ⟨w4,r4⟩:=e8 w13 hp (tH rr l u);exact k _ _ _ _ p3 w4 r4
    · rename_i ns e;rw[e] at r3;cases r3 with
      | scr e =>
        refine .inl ⟨_,_,rfl,w3.gh.seq e,λp hp=>?_⟩;rw[xR];obtain ⟨w4,r4⟩:=e8 w13 hp (g6 (K:=X.K) (gY ns l u));exact k _ _ _ _ p3 w4 r4
    · rename_i xs e;rw[e] at r3;obtain ⟨a,us,rfl,e,rr⟩:=r3.iy;refine .inr ⟨a,us,rfl,aG w3.gh e,by rw[Paired.length rr];exact p3.1,λp hp=>?_⟩;obtain ⟨w4,r4⟩:=rB w13 hp (tH rr l u);exact k _ _ _ _ p3.2 w4 r4
    · exact p3.elim
theorem mJ {K:Frag}{G:Hp}{vs:List V}{ds:List D}(r:bw K G vs ds):∀js:List Nat,bw K G (js.filterMap λj=>vs[j]?) (js.filterMap λj=>ds[j]?)
  | []=>.nil
  | j::js=>by
    rw[filterMap_cons,filterMap_cons];cases e:ds[j]? with
    | none =>
      have:vs[j]?=none:=by
        rw[List.getElem?_eq_none_iff] at e ⊢;rw[Paired.length r];exact e
      rw[this];exact mJ r js
    | some d =>
      obtain ⟨v,h1,h2⟩:=bA r e;rw[h1];exact .cons h2 (mJ r js)
theorem xl {K:Frag}{G:Hp}{vs:List V}{ds:List D}(r:bw K G vs ds)(lo hi st:Option Int):bw K G (d5 vs lo hi st) (d5 ds lo hi st):=by
  unfold d5;rw[Paired.length r];exact mJ r _
noncomputable def gn (te:DT)(tl th ts:xF):DT:=λρ Q=>te ρ λb=>tl ρ λlo=>th ρ λhi=>ts ρ λst=>st≠some 0/\match b.val with
  | .lst xs=>Q (.o (.lst (d5 xs lo hi st)))
  | .scr ns=>Q (.o (.lst ((d5 ns lo hi st).map D.int)))
  | _=>False
set_option tactic.hygienic true in
theorem gp {lo hi:Option Expr}{st:Expr}{tl th ts:xF}{p2:Pos}(he:DE X e te)(hl:DO X lo tl)(hu:DO X hi th)(hs:DO X (some st) ts):DE X (.Subscript e (.Slice lo hi (some st) p2) pos) (gn te tl th ts):=
  DE.of (xf he.pe hl.po hu.po hs.po)<|by
    rintro σ H Q ⟨G,ρ,P,s,re,h,k⟩;refine ⟨G,ρ,_,s,re,h,λb v H1 G1 p1 w1 r1=>?_⟩;obtain ⟨G1',w1',r1'⟩:=r1.give w1;refine ⟨G1',ρ,_,w1'.gh,re.mono w1'.gg,p1,λl H2 G2 p2 w2=>?_⟩;have w12:=w1'.trans w2;refine ⟨G2,ρ,_,w2.gh,re.mono w12.gg,p2,λu H3 G3 p3 w3=>?_⟩;have w13:=w12.trans w3;refine ⟨G3,ρ,_,w3.gh,re.mono w13.gg,p3,λst H4 G4 p4 w4=>?_⟩;have w14:=w13.trans w4;have r3:=r1'.mono ((w2.trans w3).trans w4).gg;obtain ⟨h0,p4⟩:=p4;split at p4
    · rename_i xs e;rw[e] at r3;obtain ⟨a,us,rfl,e,rr⟩:=r3.lst_inv;refine ⟨a,us,rfl,d6.of (w4.gh _ _ e),h0,λp hp=>?_⟩;obtain ⟨w5,r5⟩:=e8 w14 hp (xl rr l u st);exact k _ _ _ _ p4 w5 r5
    · rename_i ns e;rw[e] at r3;cases r3 with
      | scr e =>
        refine ⟨_,_,rfl,w4.gh.seq e,h0,λp hp=>?_⟩;rw[xu];obtain ⟨w5,r5⟩:=e8 w14 hp (g6 (K:=X.K) (d5 ns l u st));exact k _ _ _ _ p4 w5 r5
    · exact p4.elim
noncomputable def fg:D2:=λx y Q=>match x,y with
  | .int i,.int j=>Q (.p (.int (i+j)))
  | .lst xs,.lst ys=>xs.length+ys.length<=sizeLine/\Q (.o (.lst (xs++ys)))
  | .str x,.str y=>x.length+y.length<=sizeLine/\Q (.p (.str (x++y)))
  | .tup xs,.tup ys=>xs≠[]/\ys≠[]/\xs.length+ys.length<=sizeLine/\Q (.p (.tup (xs++ys)))
  | _,_=>False
theorem er {α β:Type}{F:α->β->Prop}:∀{l l':List α} {r r':List β},Paired F l r->Paired F l' r'->Paired F (l++l') (r++r')
  | _,_,_,_,.nil,h=>h
  | _,_,_,_,.cons h t,h'=>.cons h (er t h')
theorem az:oY X (binaryOp .Add) fg:=by
  refine ⟨_,B6.or (B7.or (uE.or Ao)),λH G x y dx dy P Q s rx ry h k=>?_⟩;unfold fg at h;split at h
  · cases rx;cases ry;exact .inl ⟨_,_,rfl,rfl,k _ _ H G h (Wd.refl s) (.int _)⟩
  · obtain ⟨a,us,rfl,e,rr⟩:=rx.lst_inv;obtain ⟨a',us',rfl,e',rr'⟩:=ry.lst_inv;refine .inr (.inl ⟨a,a',us,us',rfl,rfl,s _ _ e,s _ _ e',by rw[Paired.length rr,Paired.length rr'];exact h.1,λp hp=>?_⟩);obtain ⟨w2,r2⟩:=e8 (Wd.refl s) hp (er rr rr');exact k _ _ _ _ h.2 w2 r2
  · cases rx;cases ry;exact .inr (.inr (.inl ⟨_,_,rfl,rfl,h.1,k _ _ H G h.2 (Wd.refl s) (.str _)⟩))
  · obtain ⟨h1,h2,h3,h4⟩:=h;obtain ⟨a,us,rfl,e,rr⟩:=rx.iy;obtain ⟨a',us',rfl,e',rr'⟩:=ry.iy;refine .inr (.inr (.inr ⟨a,a',us,us',rfl,rfl,aG s e,aG s e',λz=>?_,by rw[Paired.length rr,Paired.length rr'];exact h3,λz=>?_,λ_ p hp=>?_⟩))
    · subst z;cases rr;exact h1 rfl
    · subst z;cases rr';exact (h2 rfl).elim
    · obtain ⟨w2,r2⟩:=rB (Wd.refl s) hp (er rr rr');exact k _ _ _ _ h4 w2 r2
  · exact h.elim
noncomputable def fR:D2:=λx y Q=>match x,y with
  | .int i,.int j=>t8 i j/\Q (.p (.int (i*j)))
  | .lst xs,.int k=>(-(2 ^ 63)<=k/\k<2 ^ 63)/\xs.length*k.toNat<=sizeLine/\Q (.o (.lst (List.replicate k.toNat xs).flatten))
  | _,_=>False
theorem tI {K:Frag}{G:Hp}{vs:List V}{ds:List D}(r:bw K G vs ds):∀n:Nat,bw K G (List.replicate n vs).flatten (List.replicate n ds).flatten
  | 0=>.nil
  | n+1=>by
    rw[List.replicate_succ,List.replicate_succ,List.flatten_cons,List.flatten_cons];exact er r (tI r n)
theorem dc:oY X (binaryOp .Mult) fR:=by
  refine ⟨_,Cb.or Ce,λH G x y dx dy P Q s rx ry h k=>?_⟩;unfold fR at h;split at h
  · cases rx;cases ry;exact .inl ⟨_,_,rfl,rfl,h.1,k _ _ H G h.2 (Wd.refl s) (.int _)⟩
  · cases ry;obtain ⟨a,us,rfl,e,rr⟩:=rx.lst_inv;obtain ⟨⟨h1,h2⟩,h3,h4⟩:=h;refine .inr ⟨a,_,us,rfl,rfl,s _ _ e,h1,h2,by rw[Paired.length rr];exact h3,λp hp=>?_⟩;obtain ⟨w2,r2⟩:=e8 (Wd.refl s) hp (tI rr _);exact k _ _ _ _ h4 w2 r2
  · exact h.elim
end
end DL
namespace DL
open PySem L2
mutual
noncomputable def cm:D->D->Bool
  | .non,.non=>true
  | .bl a,.bl b=>a == b
  | .bl a,.int b=>(if a then 1 else 0) == b
  | .int a,.bl b=>a == (if b then 1 else 0)
  | .int a,.int b=>a == b
  | .str a,.str b=>a == b
  | .tup xs,.tup ys=>lJ xs ys
  | .lst xs,.lst ys=>lJ xs ys
  | _,_=>false
noncomputable def lJ:List D->List D->Bool
  | [],[]=>true
  | x::xs,y::ys=>cm x y && lJ xs ys
  | _,_=>false
end
mutual
noncomputable def dep:D->Nat
  | .tup xs=>iI xs+1
  | .lst xs=>iI xs+1
  | _=>0
noncomputable def iI:List D->Nat
  | []=>0
  | x::xs=>max (dep x) (iI xs)
end
mutual
noncomputable def bt:D->Bool
  | .tup xs=>jw xs
  | .lst xs=>jw xs
  | .scr _=>false
  | .dct _=>false
  | .sen _=>false
  | .ext _=>false
  | _=>true
noncomputable def jw:List D->Bool
  | []=>true
  | x::xs=>bt x && jw xs
end
theorem j5 (xs:List D):bt (.tup xs)=jw xs:=by rw[bt]
theorem jc (xs:List D):bt (.lst xs)=jw xs:=by rw[bt]
theorem j4 (i:Int):bt (.int i)=true:=by unfold bt;rfl
theorem Ak (x:Str):bt (.str x)=true:=by unfold bt;rfl
theorem dN:jw []=true:=by rw[jw]
theorem dU (x:D)(xs:List D):jw (x::xs)=(bt x && jw xs):=by rw[jw]
theorem jY (xs:List D):dep (.tup xs)=iI xs+1:=by rw[dep]
theorem jX (xs:List D):dep (.lst xs)=iI xs+1:=by rw[dep]
theorem jW (i:Int):dep (.int i)=0:=by unfold dep;rfl
theorem zO (x:Str):dep (.str x)=0:=by unfold dep;rfl
theorem ed:iI []=0:=by rw[iI]
theorem dR (x:D)(xs:List D):iI (x::xs)=max (dep x) (iI xs):=by rw[iI]
theorem jz:∀{xs:List D} {i:Nat} {x:D},xs[i]?=some x->dep x<=iI xs
  | [],_,_,h=>by simp at h
  | y::xs,0,x,h=>by simp at h;subst h;unfold iI;exact Nat.le_max_left _ _
  | y::xs,i+1,x,h=>by
    have:=jz (xs:=xs) (i:=i) (x:=x) (by simpa using h);unfold iI;exact Nat.le_trans this (Nat.le_max_right _ _)
theorem c0:∀{xs:List D} {i:Nat} {x:D},jw xs=true->xs[i]?=some x->bt x=true
  | [],_,_,_,h=>by simp at h
  | y::xs,0,x,n,h=>by simp at h;subst h;unfold jw at n;exact (Bool.and_eq_true _ _ ▸ n).1
  | y::xs,i+1,x,n,h=>by
    unfold jw at n;exact c0 (xs:=xs) (i:=i) (x:=x) (Bool.and_eq_true _ _ ▸ n).2 (by simpa using h)
theorem all_succ (n:Nat)(f:Nat->Bool):(List.range (n+1)).all f=(f 0 && (List.range n).all λi=>f (i+1)):=by
  rw[List.range_succ_eq_map,List.all_cons,List.all_map];rfl
theorem tf:∀(xs ys:List D),lJ xs ys=((List.range (min xs.length ys.length)).all (λi=>match xs[i]?,ys[i]? with | some x,some y=>cm x y | _,_=>true) && xs.length == ys.length)
  | [],[]=>by unfold lJ;rfl
  | [],y::ys=>by unfold lJ;simp
  | x::xs,[]=>by unfold lJ;simp
  | x::xs,y::ys=>by
    unfold lJ;rw[tf xs ys];have:min (x::xs).length (y::ys).length=min xs.length ys.length+1:=by simp only[length_cons];lia
    rw[this,all_succ];simp only[List.getElem?_cons_zero,List.getElem?_cons_succ,length_cons,Bool.and_assoc];congr 2;simp
noncomputable def kl (xs ys:List D)(i:Nat):Bool:=match xs[i]?,ys[i]? with | some x,some y=>cm x y | _,_=>true
section
variable {X:Cx} {pins:List (Addr×Obj)} {σ:St} {H G:Hp} {s:Shared}
theorem items_eqAt {A:Around}{us us':List Value}{vs vs':List V}{ds ds':List D}(r1:Vals vs us)(r2:Vals vs' us')(k1:bw X.K G vs ds)(k2:bw X.K G vs' ds')
    (ih:∀(i:Nat) (d d':D) (x y:V) (u v:Value),ds[i]?=some d->ds'[i]?=some d'->Rep X.K G x d->Rep X.K G y d'->RelV x u->RelV y v->SeqAt.EqAt A s u v (cm d d')) :
    ∀j (h1:j<us.toArray.size) (h2:j<us'.toArray.size),SeqAt.EqAt A s us.toArray[j] us'.toArray[j] (kl ds ds' j):=λj q1 q2=>by
  have q1':j<us.length:=by simpa using q1
  have q2':j<us'.length:=by simpa using q2
  have l1:=r1.length;have l2:=r2.length;have e1:vs[j]?=some vs[j]:=getElem?_eq_getElem (by lia);have e2:vs'[j]?=some vs'[j]:=getElem?_eq_getElem (by lia);obtain ⟨u1,g1,s1⟩:=r1.get e1;obtain ⟨u2,g2,s2⟩:=r2.get e2;obtain ⟨d1,f1,t1⟩:=WS.ic k1 e1;obtain ⟨d2,f2,t2⟩:=WS.ic k2 e2;have z1:us.toArray[j]=u1:=by rw[getElem?_eq_getElem q1'] at g1;simpa using Option.some.inj g1
  have z2:us'.toArray[j]=u2:=by rw[getElem?_eq_getElem q2'] at g2;simpa using Option.some.inj g2
  rw[z1,z2];unfold kl;rw[f1,f2];exact ih j d1 d2 _ _ _ _ f1 f2 t1 t2 s1 s2
theorem lK (xs ys:List D):lJ xs ys=((List.range (min xs.length ys.length)).all (kl xs ys) && xs.length == ys.length):=tf xs ys
theorem tq {xs ys:List D}(h:xs.length=ys.length):lJ xs ys=(List.range xs.length).all (kl xs ys):=by
  rw[lK,h];simp
theorem tj {xs ys:List D}(h:xs.length≠ys.length):lJ xs ys=false:=by
  rw[lK];have:(xs.length == ys.length)=false:=by simpa using h
  rw[this,Bool.and_false]
theorem sz {vs:List V}{us:List Value}{ds:List D}(r:Vals vs us)(k:bw X.K G vs ds):us.toArray.size=ds.length:=by
  rw[size_toArray,<-r.length,Paired.length k]
mutual
theorem gJ:∀d:D,bt d=true->cm d d=true
  | .non,_=>by unfold cm;rfl
  | .bl a,_=>by unfold cm;simp
  | .int a,_=>by unfold cm;simp
  | .str a,_=>by unfold cm;simp
  | .tup xs,h=>by unfold cm;unfold bt at h;exact ig xs h
  | .lst xs,h=>by unfold cm;unfold bt at h;exact ig xs h
  | .scr _,h=>by unfold bt at h;cases h
  | .dct _,h=>by unfold bt at h;cases h
  | .sen _,h=>by unfold bt at h;cases h
  | .ext _,h=>by unfold bt at h;cases h
theorem ig:∀ds:List D,jw ds=true->lJ ds ds=true
  | [],_=>by unfold lJ;rfl
  | d::ds,h=>by
    unfold jw at h;have h':=Bool.and_eq_true _ _ ▸ h;unfold lJ;rw[gJ d h'.1,ig ds h'.2];rfl
end
theorem vX (I:Inv X pins σ H s)(sG:aE G H){x:V}{d:D}(h:Rep X.K G x d):bt d=true->∀{d':D},Rep X.K G x d'->bt d'=true->d=d':=by
  induction h with
  | non=>intro _ d' h _;cases h;rfl
  | bl b=>intro _ d' h _;cases h;rfl
  | int i=>intro _ d' h _;cases h;rfl
  | str z=>intro _ d' h _;cases h;rfl
  | scr _=>intro n;unfold bt at n;cases n
  | dct _=>intro n;unfold bt at n;cases n
  | sen _=>intro n;unfold bt at n;cases n
  | ext _=>intro n;unfold bt at n;cases n
  | @tup a vs ds h l r ih =>
    intro n d' h' n';unfold bt at n;cases h' with
    | scr _=>unfold bt at n';cases n'
    | dct _=>unfold bt at n';cases n'
    | sen _=>unfold bt at n';cases n'
    | ext _=>unfold bt at n';cases n'
    | lst h2 l2 r2 =>
      obtain ⟨_,_,t1,_⟩:=I.tuple (aG sG (.inl (.inl h)));obtain ⟨_,_,t2,_⟩:=I.list (d6.of (sG _ _ h2));exact absurd rfl (SeqAt.ne_of_list_tuple t2.isList t1)
    | @tup _ _ ds2 h2 l2 r2 =>
      unfold bt at n';have e:=I.xx (aG sG (.inl (.inl h))) (aG sG (.inl (.inl h2)));subst e;congr 1;refine List.ext_getElem? λi=>?_;by_cases hi:i<vs.length
      · rw [getElem?_eq_getElem (show i < _ by lia), getElem?_eq_getElem (show i < _ by lia)];have e1:=getElem?_eq_getElem (l:=ds) (show i<_ by lia);have e2:=getElem?_eq_getElem (l:=ds2) (show i<_ by lia);exact congrArg some (ih i _ _ (getElem?_eq_getElem hi) e1 (c0 n e1) (r2 i _ _ (getElem?_eq_getElem hi) e2) (c0 n' e2))
      · rw[List.getElem?_eq_none (by lia),List.getElem?_eq_none (by lia)]
  | @lst a vs ds h l r ih =>
    intro n d' h' n';unfold bt at n;cases h' with
    | scr _=>unfold bt at n';cases n'
    | dct _=>unfold bt at n';cases n'
    | sen _=>unfold bt at n';cases n'
    | ext _=>unfold bt at n';cases n'
    | tup h2 l2 r2 =>
      obtain ⟨_,_,t1,_⟩:=I.tuple (aG sG (.inl (.inl h2)));obtain ⟨_,_,t2,_⟩:=I.list (d6.of (sG _ _ h));exact absurd rfl (SeqAt.ne_of_list_tuple t2.isList t1)
    | @lst _ _ ds2 h2 l2 r2 =>
      unfold bt at n';rw[h] at h2;cases h2;congr 1;refine List.ext_getElem? λi=>?_;by_cases hi:i<vs.length
      · rw [getElem?_eq_getElem (show i < _ by lia), getElem?_eq_getElem (show i < _ by lia)];have e1:=getElem?_eq_getElem (l:=ds) (show i<_ by lia);have e2:=getElem?_eq_getElem (l:=ds2) (show i<_ by lia);exact congrArg some (ih i _ _ (getElem?_eq_getElem hi) e1 (c0 n e1) (r2 i _ _ (getElem?_eq_getElem hi) e2) (c0 n' e2))
      · rw[List.getElem?_eq_none (by lia),List.getElem?_eq_none (by lia)]
theorem yl (I:Inv X pins σ H s)(sG:aE G H):∀(n:Nat) (dx dy:D),dep dx<=n->bt dx=true->bt dy=true->∀{x y:V} {u v:Value} {A:Around},Rep X.K G x dx->Rep X.K G y dy->RelV x u->RelV y v->A.units+n<cLine->SeqAt.EqAt A s u v (cm dx dy):=by
  intro n;induction n with
  | zero =>
    intro dx dy hd n1 n2 x y u v A rx ry ru rv hu;have hu0:A.units<cLine:=hu;cases rx with
    | scr _=>unfold bt at n1;cases n1
    | dct _=>unfold bt at n1;cases n1
    | sen _=>unfold bt at n1;cases n1
    | ext _=>unfold bt at n1;cases n1
    | tup h l r=>unfold dep at hd;lia
    | lst h l r=>unfold dep at hd;lia
    | non =>
      cases ru;cases ry with
      | scr _=>unfold bt at n2;cases n2
      | dct _=>unfold bt at n2;cases n2
      | sen _=>unfold bt at n2;cases n2
      | ext _=>unfold bt at n2;cases n2
      | non=>cases rv;unfold cm;exact SeqAt.EqAt.same _
      | bl b=>cases rv;unfold cm;exact SeqAt.EqAt.none_bool b
      | int i=>obtain ⟨t,rfl⟩:=rv;unfold cm;exact SeqAt.EqAt.none_int i t
      | str z=>obtain ⟨t,rfl⟩:=rv;unfold cm;exact SeqAt.EqAt.none_str z t
      | tup h l r=>cases rv;obtain ⟨is,r1,t1,z1⟩:=I.tuple (aG sG (.inl (.inl h)));unfold cm;exact SeqAt.EqAt.none_tuple t1 hu0
      | lst h l r=>cases rv;obtain ⟨is,r1,t1,z1⟩:=I.list (d6.of (sG _ _ h));unfold cm;exact SeqAt.EqAt.none_list t1.isList hu0
    | bl a =>
      cases ru;cases ry with
      | scr _=>unfold bt at n2;cases n2
      | dct _=>unfold bt at n2;cases n2
      | sen _=>unfold bt at n2;cases n2
      | ext _=>unfold bt at n2;cases n2
      | non=>cases rv;unfold cm;exact SeqAt.EqAt.bool_none a
      | bl b=>cases rv;unfold cm;exact SeqAt.EqAt.bool_bool a b
      | int i=>obtain ⟨t,rfl⟩:=rv;unfold cm;exact SeqAt.EqAt.bool_int a i t
      | str z=>obtain ⟨t,rfl⟩:=rv;unfold cm;exact SeqAt.EqAt.bool_str a z t
      | tup h l r=>cases rv;obtain ⟨is,r1,t1,z1⟩:=I.tuple (aG sG (.inl (.inl h)));unfold cm;exact SeqAt.EqAt.bool_tuple a t1 hu0
      | lst h l r=>cases rv;obtain ⟨is,r1,t1,z1⟩:=I.list (d6.of (sG _ _ h));unfold cm;exact SeqAt.EqAt.bool_list a t1.isList hu0
    | int a =>
      obtain ⟨tt,rfl⟩:=ru;cases ry with
      | scr _=>unfold bt at n2;cases n2
      | dct _=>unfold bt at n2;cases n2
      | sen _=>unfold bt at n2;cases n2
      | ext _=>unfold bt at n2;cases n2
      | non=>cases rv;unfold cm;exact SeqAt.EqAt.int_none a tt
      | bl b=>cases rv;unfold cm;exact SeqAt.EqAt.int_bool a tt b
      | int i=>obtain ⟨t,rfl⟩:=rv;unfold cm;exact SeqAt.EqAt.int_int a tt i t
      | str z=>obtain ⟨t,rfl⟩:=rv;unfold cm;exact SeqAt.EqAt.int_str a tt z t
      | tup h l r=>cases rv;obtain ⟨is,r1,t1,z1⟩:=I.tuple (aG sG (.inl (.inl h)));unfold cm;exact SeqAt.EqAt.int_tuple a tt t1 hu0
      | lst h l r=>cases rv;obtain ⟨is,r1,t1,z1⟩:=I.list (d6.of (sG _ _ h));unfold cm;exact SeqAt.EqAt.int_list a tt t1.isList hu0
    | str a =>
      obtain ⟨tt,rfl⟩:=ru;cases ry with
      | scr _=>unfold bt at n2;cases n2
      | dct _=>unfold bt at n2;cases n2
      | sen _=>unfold bt at n2;cases n2
      | ext _=>unfold bt at n2;cases n2
      | non=>cases rv;unfold cm;exact SeqAt.EqAt.str_none a tt
      | bl b=>cases rv;unfold cm;exact SeqAt.EqAt.str_bool a tt b
      | int i=>obtain ⟨t,rfl⟩:=rv;unfold cm;exact SeqAt.EqAt.str_int a tt i t
      | str z=>obtain ⟨t,rfl⟩:=rv;unfold cm;exact SeqAt.EqAt.str_str a tt z t
      | tup h l r=>cases rv;obtain ⟨is,r1,t1,z1⟩:=I.tuple (aG sG (.inl (.inl h)));unfold cm;exact SeqAt.EqAt.str_tuple a tt t1 hu0
      | lst h l r=>cases rv;obtain ⟨is,r1,t1,z1⟩:=I.list (d6.of (sG _ _ h));unfold cm;exact SeqAt.EqAt.str_list a tt t1.isList hu0
  | succ n ihn =>
    intro dx dy hd n1 n2 x y u v A rx ry ru rv hu;have hu0:A.units<cLine:=by lia
    by_cases hs:dep dx=0
    · exact ihn dx dy (by lia) n1 n2 rx ry ru rv (by lia)
    cases rx with
    | scr _=>unfold bt at n1;cases n1
    | dct _=>unfold bt at n1;cases n1
    | sen _=>unfold bt at n1;cases n1
    | ext _=>unfold bt at n1;cases n1
    | non=>unfold dep at hs;exact absurd rfl hs
    | bl _=>unfold dep at hs;exact absurd rfl hs
    | int _=>unfold dep at hs;exact absurd rfl hs
    | str _=>unfold dep at hs;exact absurd rfl hs
    | @tup a vs ds h l r =>
      cases ru;obtain ⟨is,r1,t1,z1⟩:=I.tuple (aG sG (.inl (.inl h)));cases ry with
      | scr _=>unfold bt at n2;cases n2
      | dct _=>unfold bt at n2;cases n2
      | sen _=>unfold bt at n2;cases n2
      | ext _=>unfold bt at n2;cases n2
      | non=>cases rv;unfold cm;exact SeqAt.EqAt.tuple_none t1 hu0
      | bl b=>cases rv;unfold cm;exact SeqAt.EqAt.tuple_bool b t1 hu0
      | int i=>obtain ⟨t,rfl⟩:=rv;unfold cm;exact SeqAt.EqAt.tuple_int i t t1 hu0
      | str z=>obtain ⟨t,rfl⟩:=rv;unfold cm;exact SeqAt.EqAt.tuple_str z t t1 hu0
      | lst h2 l2 rr2=>cases rv;obtain ⟨is2,r2,t2,z2⟩:=I.list (d6.of (sG _ _ h2));unfold cm;exact SeqAt.EqAt.tuple_list t1 t2.isList hu0
      | @tup a' vs' ds' h2 l2 rr2 =>
        cases rv;obtain ⟨is2,r2,t2,z2⟩:=I.tuple (aG sG (.inl (.inl h2)));unfold cm;unfold dep at hd;unfold bt at n1 n2;have key:=SeqAt.RcAt.tuples (A:=A) (s:=s) (e:=kl ds ds') t1 t2 hu0 (items_eqAt (X:=X) (G:=G) r1 r2 (aD l r) (aD l2 rr2) λi d d' x y u v e1 e2 k1 k2 w1 w2 =>
          ihn d d' (by have:=jz e1;lia) (c0 n1 e1) (c0 n2 e2) k1 k2 w1 w2 (by show A.units+1+n<cLine;lia))
        rw[sz r1 (aD l r),sz r2 (aD l2 rr2),<-lK] at key;by_cases hab:a=a'
        · subst hab;have e:ds=ds':=by
            have:=vX I sG (.tup h l r) (by unfold bt;exact n1) (.tup h2 l2 rr2) (by unfold bt;exact n2);injection this
          subst e;rw[ig ds n1];exact SeqAt.EqAt.same _
        · exact SeqAt.EqAt.of_refs hab key
    | @lst a vs ds h l r =>
      cases ru;obtain ⟨is,r1,t1,z1⟩:=I.list (d6.of (sG _ _ h));cases ry with
      | scr _=>unfold bt at n2;cases n2
      | dct _=>unfold bt at n2;cases n2
      | sen _=>unfold bt at n2;cases n2
      | ext _=>unfold bt at n2;cases n2
      | non=>cases rv;unfold cm;exact SeqAt.EqAt.list_none t1.isList hu0
      | bl b=>cases rv;unfold cm;exact SeqAt.EqAt.list_bool b t1.isList hu0
      | int i=>obtain ⟨t,rfl⟩:=rv;unfold cm;exact SeqAt.EqAt.list_int i t t1.isList hu0
      | str z=>obtain ⟨t,rfl⟩:=rv;unfold cm;exact SeqAt.EqAt.list_str z t t1.isList hu0
      | tup h2 l2 rr2=>cases rv;obtain ⟨is2,r2,t2,z2⟩:=I.tuple (aG sG (.inl (.inl h2)));unfold cm;exact SeqAt.EqAt.list_tuple t1.isList t2 hu0
      | @lst a' vs' ds' h2 l2 rr2 =>
        cases rv;obtain ⟨is2,r2,t2,z2⟩:=I.list (d6.of (sG _ _ h2));unfold cm;unfold dep at hd;unfold bt at n1 n2;by_cases hab:a=a'
        · subst hab;have e:ds=ds':=by
            have:=vX I sG (.lst h l r) (by unfold bt;exact n1) (.lst h2 l2 rr2) (by unfold bt;exact n2);injection this
          subst e;rw[ig ds n1];exact SeqAt.EqAt.same _
        · refine SeqAt.EqAt.of_refs hab ?_;by_cases hlen:ds.length=ds'.length
          · have key:=SeqAt.RcAt.lists (A:=A) (s:=s) (e:=kl ds ds') t1.isList t2.isList (by rw[sz r1 (aD l r),sz r2 (aD l2 rr2)];exact hlen) hu0 (items_eqAt (X:=X) (G:=G) r1 r2 (aD l r) (aD l2 rr2) λi d d' x y u v e1 e2 k1 k2 w1 w2 =>
              ihn d d' (by have:=jz e1;lia) (c0 n1 e1) (c0 n2 e2) k1 k2 w1 w2 (by show A.units+1+n<cLine;lia))
            rw[sz r1 (aD l r),<-tq hlen] at key;exact key
          · rw[tj hlen];exact SeqAt.RcAt.lists_lengths t1.isList t2.isList (by rw[sz r1 (aD l r),sz r2 (aD l2 rr2)];simpa using hlen) hu0
theorem y7 (I:Inv X pins σ H s)(sG:aE G H){dx dy:D}{x y:V}{u v:Value}{A:Around}(n1:bt dx=true)(n2:bt dy=true)(rx:Rep X.K G x dx)(ry:Rep X.K G y dy)(ru:RelV x u)(rv:RelV y v)(hu:A.units+dep dx<cLine) :
    SeqAt.RcAt A s u v (cm dx dy)/\SeqAt.RcNeAt A s u v (!(cm dx dy)):=by
  have hu0:A.units<cLine:=by lia
  cases rx with
  | scr _=>unfold bt at n1;cases n1
  | dct _=>unfold bt at n1;cases n1
  | sen _=>unfold bt at n1;cases n1
  | ext _=>unfold bt at n1;cases n1
  | non =>
    cases ru;cases ry with
    | scr _=>unfold bt at n2;cases n2
    | dct _=>unfold bt at n2;cases n2
    | sen _=>unfold bt at n2;cases n2
    | ext _=>unfold bt at n2;cases n2
    | non=>cases rv;unfold cm;exact ⟨SeqAt.RcAt.none_none,SeqAt.RcNeAt.none_none⟩
    | bl b=>cases rv;unfold cm;exact ⟨SeqAt.RcAt.none_bool b,SeqAt.RcNeAt.none_bool b⟩
    | int i=>obtain ⟨t,rfl⟩:=rv;unfold cm;exact ⟨SeqAt.RcAt.none_int i t,SeqAt.RcNeAt.none_int i t⟩
    | str z=>obtain ⟨t,rfl⟩:=rv;unfold cm;exact ⟨SeqAt.RcAt.none_str z t,SeqAt.RcNeAt.none_str z t⟩
    | tup h l r=>cases rv;obtain ⟨is,r1,t1,z1⟩:=I.tuple (aG sG (.inl (.inl h)));unfold cm;exact ⟨SeqAt.RcAt.none_tuple t1 hu0,SeqAt.RcNeAt.none_tuple t1 hu0⟩
    | lst h l r=>cases rv;obtain ⟨is,r1,t1,z1⟩:=I.list (d6.of (sG _ _ h));unfold cm;exact ⟨SeqAt.RcAt.none_list t1.isList hu0,SeqAt.RcNeAt.none_list t1.isList hu0⟩
  | bl a =>
    cases ru;cases ry with
    | scr _=>unfold bt at n2;cases n2
    | dct _=>unfold bt at n2;cases n2
    | sen _=>unfold bt at n2;cases n2
    | ext _=>unfold bt at n2;cases n2
    | non=>cases rv;unfold cm;exact ⟨SeqAt.RcAt.bool_none a,SeqAt.RcNeAt.bool_none a⟩
    | bl b=>cases rv;unfold cm;exact ⟨SeqAt.RcAt.bool_bool a b,SeqAt.RcNeAt.bool_bool a b⟩
    | int i=>obtain ⟨t,rfl⟩:=rv;unfold cm;exact ⟨SeqAt.RcAt.bool_int a i t,SeqAt.RcNeAt.bool_int a i t⟩
    | str z=>obtain ⟨t,rfl⟩:=rv;unfold cm;exact ⟨SeqAt.RcAt.bool_str a z t,SeqAt.RcNeAt.bool_str a z t⟩
    | tup h l r=>cases rv;obtain ⟨is,r1,t1,z1⟩:=I.tuple (aG sG (.inl (.inl h)));unfold cm;exact ⟨SeqAt.RcAt.bool_tuple a t1 hu0,SeqAt.RcNeAt.bool_tuple a t1 hu0⟩
    | lst h l r=>cases rv;obtain ⟨is,r1,t1,z1⟩:=I.list (d6.of (sG _ _ h));unfold cm;exact ⟨SeqAt.RcAt.bool_list a t1.isList hu0,SeqAt.RcNeAt.bool_list a t1.isList hu0⟩
  | int a =>
    obtain ⟨tt,rfl⟩:=ru;cases ry with
    | scr _=>unfold bt at n2;cases n2
    | dct _=>unfold bt at n2;cases n2
    | sen _=>unfold bt at n2;cases n2
    | ext _=>unfold bt at n2;cases n2
    | non=>cases rv;unfold cm;exact ⟨SeqAt.RcAt.int_none a tt,SeqAt.RcNeAt.int_none a tt⟩
    | bl b=>cases rv;unfold cm;exact ⟨SeqAt.RcAt.int_bool a tt b,SeqAt.RcNeAt.int_bool a tt b⟩
    | int i=>obtain ⟨t,rfl⟩:=rv;unfold cm;exact ⟨SeqAt.RcAt.int_int a tt i t,SeqAt.RcNeAt.int_int a tt i t⟩
    | str z=>obtain ⟨t,rfl⟩:=rv;unfold cm;exact ⟨SeqAt.RcAt.int_str a tt z t,SeqAt.RcNeAt.int_str a tt z t⟩
    | tup h l r=>cases rv;obtain ⟨is,r1,t1,z1⟩:=I.tuple (aG sG (.inl (.inl h)));unfold cm;exact ⟨SeqAt.RcAt.int_tuple a tt t1 hu0,SeqAt.RcNeAt.int_tuple a tt t1 hu0⟩
    | lst h l r=>cases rv;obtain ⟨is,r1,t1,z1⟩:=I.list (d6.of (sG _ _ h));unfold cm;exact ⟨SeqAt.RcAt.int_list a tt t1.isList hu0,SeqAt.RcNeAt.int_list a tt t1.isList hu0⟩
  | str a =>
    obtain ⟨tt,rfl⟩:=ru;cases ry with
    | scr _=>unfold bt at n2;cases n2
    | dct _=>unfold bt at n2;cases n2
    | sen _=>unfold bt at n2;cases n2
    | ext _=>unfold bt at n2;cases n2
    | non=>cases rv;unfold cm;exact ⟨SeqAt.RcAt.str_none a tt,SeqAt.RcNeAt.str_none a tt⟩
    | bl b=>cases rv;unfold cm;exact ⟨SeqAt.RcAt.str_bool a tt b,SeqAt.RcNeAt.str_bool a tt b⟩
    | int i=>obtain ⟨t,rfl⟩:=rv;unfold cm;exact ⟨SeqAt.RcAt.str_int a tt i t,SeqAt.RcNeAt.str_int a tt i t⟩
    | str z=>obtain ⟨t,rfl⟩:=rv;unfold cm;exact ⟨SeqAt.RcAt.str_str a tt z t,SeqAt.RcNeAt.str_str a tt z t⟩
    | tup h l r=>cases rv;obtain ⟨is,r1,t1,z1⟩:=I.tuple (aG sG (.inl (.inl h)));unfold cm;exact ⟨SeqAt.RcAt.str_tuple a tt t1 hu0,SeqAt.RcNeAt.str_tuple a tt t1 hu0⟩
    | lst h l r=>cases rv;obtain ⟨is,r1,t1,z1⟩:=I.list (d6.of (sG _ _ h));unfold cm;exact ⟨SeqAt.RcAt.str_list a tt t1.isList hu0,SeqAt.RcNeAt.str_list a tt t1.isList hu0⟩
  | @tup a vs ds h l r =>
    cases ru;obtain ⟨is,r1,t1,z1⟩:=I.tuple (aG sG (.inl (.inl h)));cases ry with
    | scr _=>unfold bt at n2;cases n2
    | dct _=>unfold bt at n2;cases n2
    | sen _=>unfold bt at n2;cases n2
    | ext _=>unfold bt at n2;cases n2
    | non=>cases rv;unfold cm;exact ⟨SeqAt.RcAt.tuple_none t1 hu0,SeqAt.RcNeAt.tuple_none t1 hu0⟩
    | bl b=>cases rv;unfold cm;exact ⟨SeqAt.RcAt.tuple_bool b t1 hu0,SeqAt.RcNeAt.tuple_bool b t1 hu0⟩
    | int i=>obtain ⟨t,rfl⟩:=rv;unfold cm;exact ⟨SeqAt.RcAt.tuple_int i t t1 hu0,SeqAt.RcNeAt.tuple_int i t t1 hu0⟩
    | str z=>obtain ⟨t,rfl⟩:=rv;unfold cm;exact ⟨SeqAt.RcAt.tuple_str z t t1 hu0,SeqAt.RcNeAt.tuple_str z t t1 hu0⟩
    | lst h2 l2 rr2=>cases rv;obtain ⟨is2,r2,t2,z2⟩:=I.list (d6.of (sG _ _ h2));unfold cm;exact ⟨SeqAt.RcAt.tuple_list t1 t2.isList hu0,SeqAt.RcNeAt.tuple_list t1 t2.isList hu0⟩
    | @tup a' vs' ds' h2 l2 rr2 =>
      cases rv;obtain ⟨is2,r2,t2,z2⟩:=I.tuple (aG sG (.inl (.inl h2)));unfold cm;unfold dep at hu;unfold bt at n1 n2;have it:=items_eqAt (A:=A.in1) (s:=s) (X:=X) (G:=G) r1 r2 (aD l r) (aD l2 rr2) λi d d' x y u v e1 e2 k1 k2 w1 w2 =>
        yl I sG (iI ds) d d' (jz e1) (c0 n1 e1) (c0 n2 e2) k1 k2 w1 w2 (by show A.units+1+iI ds<cLine;lia)
      have key:=SeqAt.RcAt.tuples (A:=A) (s:=s) (e:=kl ds ds') t1 t2 hu0 it;have key':=SeqAt.RcNeAt.tuples (A:=A) (s:=s) (e:=kl ds ds') t1 t2 hu0 it;rw[sz r1 (aD l r),sz r2 (aD l2 rr2),<-lK] at key key';exact ⟨key,key'⟩
  | @lst a vs ds h l r =>
    cases ru;obtain ⟨is,r1,t1,z1⟩:=I.list (d6.of (sG _ _ h));cases ry with
    | scr _=>unfold bt at n2;cases n2
    | dct _=>unfold bt at n2;cases n2
    | sen _=>unfold bt at n2;cases n2
    | ext _=>unfold bt at n2;cases n2
    | non=>cases rv;unfold cm;exact ⟨SeqAt.RcAt.list_none t1.isList hu0,SeqAt.RcNeAt.list_none t1.isList hu0⟩
    | bl b=>cases rv;unfold cm;exact ⟨SeqAt.RcAt.list_bool b t1.isList hu0,SeqAt.RcNeAt.list_bool b t1.isList hu0⟩
    | int i=>obtain ⟨t,rfl⟩:=rv;unfold cm;exact ⟨SeqAt.RcAt.list_int i t t1.isList hu0,SeqAt.RcNeAt.list_int i t t1.isList hu0⟩
    | str z=>obtain ⟨t,rfl⟩:=rv;unfold cm;exact ⟨SeqAt.RcAt.list_str z t t1.isList hu0,SeqAt.RcNeAt.list_str z t t1.isList hu0⟩
    | tup h2 l2 rr2=>cases rv;obtain ⟨is2,r2,t2,z2⟩:=I.tuple (aG sG (.inl (.inl h2)));unfold cm;exact ⟨SeqAt.RcAt.list_tuple t1.isList t2 hu0,SeqAt.RcNeAt.list_tuple t1.isList t2 hu0⟩
    | @lst a' vs' ds' h2 l2 rr2 =>
      cases rv;obtain ⟨is2,r2,t2,z2⟩:=I.list (d6.of (sG _ _ h2));unfold cm;unfold dep at hu;unfold bt at n1 n2;by_cases hlen:ds.length=ds'.length
      · have it:=items_eqAt (A:=A.in1) (s:=s) (X:=X) (G:=G) r1 r2 (aD l r) (aD l2 rr2) λi d d' x y u v e1 e2 k1 k2 w1 w2 =>
          yl I sG (iI ds) d d' (jz e1) (c0 n1 e1) (c0 n2 e2) k1 k2 w1 w2 (by show A.units+1+iI ds<cLine;lia)
        have e0:is.toArray.size=is2.toArray.size:=by rw[sz r1 (aD l r),sz r2 (aD l2 rr2)];exact hlen
        have key:=SeqAt.RcAt.lists (A:=A) (s:=s) (e:=kl ds ds') t1.isList t2.isList e0 hu0 it;have key':=SeqAt.RcNeAt.lists (A:=A) (s:=s) (e:=kl ds ds') t1.isList t2.isList e0 hu0 it;rw[sz r1 (aD l r),<-tq hlen] at key key';exact ⟨key,key'⟩
      · rw[tj hlen];have e0:(is.toArray.size != is2.toArray.size)=true:=by rw[sz r1 (aD l r),sz r2 (aD l2 rr2)];simpa using hlen
        exact ⟨SeqAt.RcAt.lists_lengths t1.isList t2.isList e0 hu0,SeqAt.RcNeAt.lists_lengths t1.isList t2.isList e0 hu0⟩
noncomputable def D9 (K:Frag)(u:Nat)(neg:Bool):R2:=λx y H Q=>∃G dx dy,aE G H/\Rep K G x dx/\Rep K G y dy/\bt dx=true/\bt dy=true/\u+dep dx<cLine/\Q (.bl (if neg then !(cm dx dy) else cm dx dy)) H
theorem B8:jS X (compareOp .Eq) (D9 X.K X.A.units false):=by
  intro pins s σ H x y v u Q I rx ry h;obtain ⟨G,dx,dy,sG,r1,r2,n1,n2,hu,q⟩:=h;exact (y7 I sG n1 n2 r1 r2 rx ry hu).1 _ _ _ _ ⟨.bl _,H,I,rfl,q⟩
theorem Cc:jS X (compareOp .NotEq) (D9 X.K X.A.units true):=by
  intro pins s σ H x y v u Q I rx ry h;obtain ⟨G,dx,dy,sG,r1,r2,n1,n2,hu,q⟩:=h;exact (y7 I sG n1 n2 r1 r2 rx ry hu).2 _ _ _ _ ⟨.bl _,H,I,rfl,q⟩
noncomputable def Dj:D2:=λx y Q=>(bt x=true/\bt y=true/\dep x<=60)/\Q (.p (.bl (cm x y)))
noncomputable def EC:D2:=λx y Q=>(bt x=true/\bt y=true/\dep x<=60)/\Q (.p (.bl (!(cm x y))))
theorem qY {k:Nat}(hr:fX k X.A):oY X (compareOp .Eq) Dj:=
  ⟨_,B8,by rintro H G x y dx dy P Q s rx ry ⟨⟨h1,h2,h3⟩,h4⟩ c;exact ⟨G,dx,dy,s,rx,ry,h1,h2,by have:=hr.units;lia,c _ _ H G h4 (Wd.refl s) (.bl _)⟩⟩
theorem uz {k:Nat}(hr:fX k X.A):oY X (compareOp .NotEq) EC:=
  ⟨_,Cc,by rintro H G x y dx dy P Q s rx ry ⟨⟨h1,h2,h3⟩,h4⟩ c;exact ⟨G,dx,dy,s,rx,ry,h1,h2,by have:=hr.units;lia,c _ _ H G h4 (Wd.refl s) (.bl _)⟩⟩
end
end DL
namespace DL
open PySem L2
section
variable {X:Cx} {a b c e:Expr} {ta tb tc te:DT} {pos:Pos} {es:List Expr}
noncomputable def D.told:D->Bool
  | .ext _=>false
  | _=>true
theorem Ae {K:Frag}{T:String}(h:T = "int" \/ T = "bool" \/ T = "str" \/ T = "tuple" \/ T = "list")(d:D):kitOne K (.type (Gf d)) (.type T)=some (zY T d):=by
  rcases h with rfl | rfl | rfl | rfl | rfl<;>cases d<;>rfl
theorem qD:hJ X (.builtin "isinstance") (λxs H Q=>∃G x d T,xs = [x,.ty T]/\aE G H/\Rep X.K G x d/\d.told=true/\(T = "int" \/ T = "bool" \/ T = "str" \/ T = "tuple" \/ T = "list")/\Q (.bl (zY T d)) H):=by
  intro pins s σ H xs us Q I r h;obtain ⟨G,x,d,T,rfl,sG,rx,hd,hT,q⟩:=h;obtain ⟨u,w',rfl,ru,rw'⟩:=vals2 r;cases (show w'=Value.type T from rw');have e:=Ae (K:=X.K) hT d;have fin:∀tk,EP X pins σ Q (.bool (zY T d)) { s with toks:=tk }:=λtk=>⟨.bl _,H,I.tok tk,rfl,q⟩
  cases rx with
  | non=>exact j0 I ru .non e fin
  | bl b=>exact j0 I ru (.bl b) e fin
  | int i=>exact j0 I ru (.int i) e fin
  | str z=>exact j0 I ru (.str z) e fin
  | @tup a vs ds h l r =>
    cases ru;obtain ⟨is,r1,⟨o,h1,h2,_⟩,z1⟩:=I.tuple (aG sG (.inl (.inl h)));exact kia_one kitx_tuple I.oZ ⟨o,h1,h2⟩ e (λz=>nomatch z) fin
  | @lst a vs ds h l r =>
    cases ru;obtain ⟨is,r1,t1,z1⟩:=I.list (d6.of (sG _ _ h));obtain ⟨o,h1,h2,_⟩:=t1.isList;exact kia_one kitx_list I.oZ ⟨o,h1,h2⟩ e (λz=>nomatch z) fin
  | @dct a kvs h =>
    cases ru;obtain ⟨_,_,_,_,o,_,_,h1,h2,_⟩:=Rd.ok (nz sG h) I.bK;exact kia_one kitx_dict I.oZ ⟨o,h1,h2.1⟩ e (λz=>nomatch z) fin
  | @sen a kvs h =>
    cases ru;obtain ⟨_,_,_,_,o,_,_,h1,h2,_⟩:=Rd.ok (nz sG h) I.bK;exact kia_one kitx_dict I.oZ ⟨o,h1,h2.1⟩ e (λz=>nomatch z) fin
  | ext h=>cases hd
  | @scr a ns h =>
    cases ru;obtain ⟨is,r1,t1,z1⟩:=I.list (sG.seq h);obtain ⟨o,h1,h2,_⟩:=t1.isList;exact kia_one kitx_list I.oZ ⟨o,h1,h2⟩ e (λz=>nomatch z) fin
noncomputable def zZ (T:String)(d:D)(Q:B->Prop):Prop:=match d with
  | .ext _=>False
  | d=>Q (.p (.bl (zY T d)))
noncomputable def fG (T:String)(te:DT):DT:=λρ Q=>te ρ λb=>zZ T b.val Q
theorem Aa {T:String}{d:D}{Q:B->Prop}(h:zZ T d Q):d.told=true/\Q (.p (.bl (zY T d))):=by
  cases d with
  | ext _=>exact h.elim
  | _=>exact ⟨rfl,h⟩
theorem nN {T:String}{p:Pos}{e2:Expr}(hT:T = "int" \/ T = "bool" \/ T = "str" \/ T = "tuple" \/ T = "list")(hg:Gl X "isinstance")(hm:X.mg "isinstance" = none)(he:DE X e te)(h2:PE X e2 (tC (.ty T)))
    (hs:autoParam (starEach (e::[e2]) X.env=(false,eval e X.env)::starEach [e2] X.env) aZa._auto_1) (hs2:autoParam (starEach (e2::[]) X.env=(false,eval e2 X.env)::starEach [] X.env) aZa._auto_1) (hpl:autoParam ((backTo pos (starEach [e2] X.env)).any (·.1)=false) aZa._auto_1):DE X (.Call (.Name "isinstance" p) [e,e2] [] pos) (fG T te):=
  DE.of (td qD hg hm boot_isinstance (br he.pe (br h2 gS hs2) hs) (he:=hs) (hpl:=hpl))<|by
    rintro σ H Q ⟨G,ρ,P,s,re,h,k⟩;refine ⟨G,ρ,_,s,re,h,λb v H1 G1 p1 w1 r1=>?_⟩;obtain ⟨G1',w1',r1'⟩:=r1.give w1;obtain ⟨p0,p1⟩:=Aa p1;exact ⟨G1',v,b.val,T,rfl,w1'.gh,r1',p0,hT,k _ _ H1 G1' p1 w1' (.bl _)⟩
end
inductive Tg where
  | n (i:Nat) | t (is:List Nat)
noncomputable def kF:List Nat->A0
  | []=>Dt
  | i::is=>A8 (vB i) (kF is)
noncomputable def Tg.v (K:Frag):Tg->TG
  | .n i=>vB i
  | .t is=>Du K is.length (kF is)
noncomputable def putN:List Nat->List D->aH->(aH->Prop)->Prop
  | [],[],ρ,P=>P ρ
  | i::is,d::ds,ρ,P=>putN is ds (dput ρ i (.p d)) P
  | _,_,_,_=>False
noncomputable def Tg.d:Tg->D->aH->(aH->Prop)->Prop
  | .n i,d,ρ,P=>P (dput ρ i (.p d))
  | .t is,.tup ds,ρ,P=>putN is ds ρ P
  | .t is,.lst ds,ρ,P=>putN is ds ρ P
  | .t _,_,_,_=>False
noncomputable def Tg.is:Tg->List Nat
  | .n i=>[i]
  | .t is=>is
noncomputable def qt (K:Frag)(H0 G H:Hp)(w:Addr->Nat)(i:Nat)(a:Addr)(t:Ct)(dss:List D):Prop:=∃as:List Addr,as.Nodup/\Paired (λx ds=>H0 x=none/\w x=i/\bI K G H x ds) as dss/\t.On (H0 a=none/\w a=i) G H a as
structure o6 (K:Frag)(H0 G H:Hp)(w:Addr->Nat)(σ:St)(ρ:aH):Prop where
  len:σ.length=ρ.length
  p:∀i d,aI ρ i=some (.p d)->∃v,σ[i]?=some (some v)/\Rep K G v d
  o:∀i d,aI ρ i=some (.o d)->∃a,σ[i]?=some (some (.ref a))/\H0 a=none/\w a=i/\bI K G H a d
  n:∀i t dss,aI ρ i=some (.n t dss)->∃a,σ[i]?=some (some (.ref a))/\qt K H0 G H w i a t dss
noncomputable def bC (K:Frag)(H0 G H:Hp)(σ:St)(ρ:aH):Prop:=∃w,o6 K H0 G H w σ ρ
section
variable {K:Frag} {H0 G H:Hp} {σ:St} {ρ:aH}
theorem bC.len (h:bC K H0 G H σ ρ):σ.length=ρ.length:=by obtain ⟨w,h⟩:=h;exact h.len
theorem bC.p (h:bC K H0 G H σ ρ):∀i d,aI ρ i=some (.p d)->∃v,σ[i]?=some (some v)/\Rep K G v d:=by obtain ⟨w,h⟩:=h;exact h.p
theorem bC.o (h:bC K H0 G H σ ρ):∀i d,aI ρ i=some (.o d)->∃a,σ[i]?=some (some (.ref a))/\H0 a=none/\bI K G H a d:=by
  obtain ⟨w,h⟩:=h;intro i d e;obtain ⟨a,h1,h2,_,h3⟩:=h.o i d e;exact ⟨a,h1,h2,h3⟩
theorem bC.only (l:σ.length=ρ.length)(hp:gk K G σ ρ)(h:∀i b,aI ρ i=some b->∃d,b=.p d):bC K H0 G H σ ρ:=by
  refine ⟨λ_=>0,l,hp,λi d e=>?_,λi t dss e=>?_⟩
  · obtain ⟨_,q⟩:=h i _ e;cases q
  · obtain ⟨_,q⟩:=h i _ e;cases q
end
theorem bI.df {K:Frag}{G H G' H':Hp}{a:Addr}{d:D}(h:bI K G H a d)(hg:aE G G')(hn:G' a=none)(hh:∀o,H a=some o->H' a=some o):bI K G' H' a d:=by
  obtain ⟨h1,h2⟩:=h;refine ⟨hn,?_⟩;cases d with
  | lst ds=>obtain ⟨vs,e,r⟩:=h2;exact ⟨vs,hh _ e,bw.mono hg r⟩
  | non=>exact h2
  | bl _=>exact h2
  | int _=>exact h2
  | str _=>exact h2
  | tup _=>exact h2
  | scr _=>exact h2
  | dct kvs=>exact hh _ h2
  | sen kvs=>exact hh _ h2
  | ext x=>exact hO.df h2 hg hh
theorem bI.chg {K:Frag}{G H:Hp}{a:Addr}{d:D}(h:bI K G H a d):CO H a:=by
  obtain ⟨h1,h2⟩:=h;cases d with
  | lst ds=>obtain ⟨vs,e,r⟩:=h2;exact ⟨_,e,λ_ z=>nomatch z⟩
  | non=>exact h2.elim
  | bl _=>exact h2.elim
  | int _=>exact h2.elim
  | str _=>exact h2.elim
  | tup _=>exact h2.elim
  | scr _=>exact h2.elim
  | dct kvs=>exact ⟨_,h2,λ_ z=>nomatch z⟩
  | sen kvs=>exact ⟨_,h2,λ_ z=>nomatch z⟩
  | ext x=>obtain ⟨es,e⟩:=hO.obj h2;exact ⟨_,e,λ_ z=>nomatch z⟩
theorem bI.there {K:Frag}{G H:Hp}{a:Addr}{d:D}(h:bI K G H a d):H a≠none:=h.chg.there
theorem mT {α β:Type}{F F':α->β->Prop}{l:List α}{r:List β}(k:∀x d,x∈l->F x d->F' x d)(h:Paired F l r):Paired F' l r:=by
  induction h with
  | nil=>exact .nil
  | cons f _ ih=>exact .cons (k _ _ mem_cons_self f) (ih λx d m=>k x d (mem_cons_of_mem _ m))
theorem sZ {α β:Type}{F:α->β->Prop}{l:List α}{r:List β}(h:Paired F l r):∀x∈l,∃d,F x d:=by
  induction h with
  | nil=>intro x m;cases m
  | cons f _ ih =>
    intro x m;rcases List.mem_cons.mp m with rfl | m
    · exact ⟨_,f⟩
    · exact ih x m
theorem qt.df {K:Frag}{H0 G H G' H':Hp}{w w':Addr->Nat}{i:Nat}{a:Addr}{t:Ct}{dss:List D}(h:qt K H0 G H w i a t dss)(hg:aE G G')(hn:∀x,H0 x=.none->w x=i->G x=.none->CO H x->G' x=.none/\w' x=i/\∀o,H x=some o->H' x=some o):qt K H0 G' H' w' i a t dss:=by
  obtain ⟨as,nd,pr,e⟩:=h;have pr':=mT (F':=λx ds=>H0 x=none/\w' x=i/\bI K G' H' x ds) ( by
    rintro x d m ⟨h1,h2,h3⟩;obtain ⟨k1,k2,k3⟩:=hn x h1 h2 h3.1 h3.chg;exact ⟨h1,k2,h3.df hg k1 k3⟩) pr
  exact ⟨as,nd,pr',e.imp hg λf g c=>by
    obtain ⟨k1,k2,k3⟩:=hn a f.1 f.2 g c;exact ⟨⟨f.1,k2⟩,k1,k3⟩⟩
theorem o6.on {K:Frag}{H0 G H G' H':Hp}{o:Addr->Nat}{σ:St}{ρ:aH}(h:o6 K H0 G H o σ ρ)(w:Wd H G H' G'):o6 K H0 G' H' o σ ρ:=
  ⟨h.len,λi d e=>by obtain ⟨v,h1,h2⟩:=h.p i d e;exact ⟨v,h1,h2.mono w.gg⟩,λi d e=>by
    obtain ⟨a,h1,h2,h2',h3⟩:=h.o i d e;exact ⟨a,h1,h2,h2',h3.df w.gg (by rw[w.old a h3.chg];exact h3.1) λo q=>w.hh _ _ q⟩,λi t dss e=>by
    obtain ⟨a,h1,h2⟩:=h.n i t dss e;exact ⟨a,h1,h2.df w.gg λx k1 k2 k3 k4=>⟨by rw[w.old x k4];exact k3,k2,λo q=>w.hh _ _ q⟩⟩⟩
theorem bC.on {K:Frag}{H0 G H G' H':Hp}{σ:St}{ρ:aH}(h:bC K H0 G H σ ρ)(w:Wd H G H' G'):bC K H0 G' H' σ ρ:=by
  obtain ⟨o,h⟩:=h;exact ⟨o,h.on w⟩
theorem dB {σ:St}{i j:Nat}{v:V}(h:i≠j):(σ.set i (some v))[j]?=σ[j]?:=by rw[List.getElem?_set_ne h]
theorem lM {σ:St}{i:Nat}{v:V}(h:i<σ.length):(σ.set i (some v))[i]?=some (some v):=by rw[List.getElem?_set_self h]
theorem bC.y4 {K:Frag}{H0 G H:Hp}{σ:St}{ρ:aH}{v:V}{d:D}(h:bC K H0 G H σ ρ)(i:Nat)(r:Rep K G v d):bC K H0 G H (σ.set i (some v)) (dput ρ i (.p d)):=by
  obtain ⟨o,h⟩:=h;refine ⟨o,by rw[length_set,hZ];exact h.len,λj d' e=>?_,λj d' e=>?_,λj t dss e=>?_⟩
  · rcases bP e with ⟨rfl,hl,e⟩ | ⟨hne,e⟩
    · cases e;exact ⟨v,lM (by rw[h.len];exact hl),r⟩
    · obtain ⟨w,h1,h2⟩:=h.p j d' e;exact ⟨w,by rw[dB hne];exact h1,h2⟩
  · rcases bP e with ⟨rfl,hl,e⟩ | ⟨hne,e⟩
    · cases e
    · obtain ⟨a,h1,h2⟩:=h.o j d' e;exact ⟨a,by rw[dB hne];exact h1,h2⟩
  · rcases bP e with ⟨rfl,hl,e⟩ | ⟨hne,e⟩
    · cases e
    · obtain ⟨a,h1,h2⟩:=h.n j t dss e;exact ⟨a,by rw[dB hne];exact h1,h2⟩
theorem o6.C9 {K:Frag}{H0 G H:Hp}{o:Addr->Nat}{σ:St}{ρ:aH}(h:o6 K H0 G H o σ ρ){o':Addr->Nat}(q:∀x,H x≠.none->o' x=o x):o6 K H0 G H o' σ ρ:=
  ⟨h.len,h.p,λj d e=>by
    obtain ⟨a,h1,h2,h3,h4⟩:=h.o j d e;exact ⟨a,h1,h2,by rw[q a h4.there];exact h3,h4⟩,λj t dss e=>by
    obtain ⟨a,h1,h2⟩:=h.n j t dss e;exact ⟨a,h1,h2.df (aE.refl _) λx k1 k2 k3 k4=>⟨k3,by rw[q x k4.there];exact k2,λo q=>q⟩⟩⟩
theorem bC.Fm {K:Frag}{H0 G H G' H':Hp}{σ:St}{ρ:aH}{a:Addr}{d:D}(h:bC K H0 G H σ ρ)(w:Wd H G H' G')(i:Nat)(h0:H0 a=none)(hn:H a=none)(r:bI K G' H' a d):bC K H0 G' H' (σ.set i (some (.ref a))) (dput ρ i (.o d)):=by
  obtain ⟨o,h⟩:=h;have h2:=(h.C9 (o':=λx=>if x=a then i else o x) λx q=>if_neg λe:x=a=>q (e ▸ hn)).on w;refine ⟨λx=>if x=a then i else o x,by rw[length_set,hZ];exact h.len,λj d' e=>?_,λj d' e=>?_,λj t dss e=>?_⟩
  · rcases bP e with ⟨rfl,hl,e⟩ | ⟨hne,e⟩
    · cases e
    · obtain ⟨w,h1,h2⟩:=h2.p j d' e;exact ⟨w,by rw[dB hne];exact h1,h2⟩
  · rcases bP e with ⟨rfl,hl,e⟩ | ⟨hne,e⟩
    · cases e;exact ⟨a,lM (by rw[h.len];exact hl),h0,if_pos rfl,r⟩
    · obtain ⟨b,h1,h2⟩:=h2.o j d' e;exact ⟨b,by rw[dB hne];exact h1,h2⟩
  · rcases bP e with ⟨rfl,hl,e⟩ | ⟨hne,e⟩
    · cases e
    · obtain ⟨b,h1,h2⟩:=h2.n j t dss e;exact ⟨b,by rw[dB hne];exact h1,h2⟩
theorem bC.D6 {K:Frag}{H0 G H G' H':Hp}{σ:St}{ρ:aH}{a:Addr}{as:List Addr}{ds:List D}{t:Ct}(h:bC K H0 G H σ ρ)(w:Wd H G H' G')(hh:aE H0 H)(i:Nat)(nd:as.Nodup)(pr:Paired (λx d=>H x=none/\bI K G' H' x d) as ds)(q:t.On (H a=none) G' H' a as):bC K H0 G' H' (σ.set i (some (.ref a))) (dput ρ i (.n t ds)):=by
  obtain ⟨o,h⟩:=h;have h2:=(h.C9 (o':=λx=>if (t.own=true/\x=a)\/x∈as then i else o x) λx z=>if_neg λm=>by
    rcases m with ⟨to,rfl⟩ | m
    · unfold Ct.On at q;rw[to] at q;exact z q.1
    · obtain ⟨_,k,_⟩:=sZ pr x m;exact z k).on w
  refine ⟨λx=>if (t.own=true/\x=a)\/x∈as then i else o x,by rw[length_set,hZ];exact h.len,λj d' e=>?_,λj d' e=>?_,λj t dss e=>?_⟩
  · rcases bP e with ⟨rfl,hl,e⟩ | ⟨hne,e⟩
    · cases e
    · obtain ⟨w,h1,h2⟩:=h2.p j d' e;exact ⟨w,by rw[dB hne];exact h1,h2⟩
  · rcases bP e with ⟨rfl,hl,e⟩ | ⟨hne,e⟩
    · cases e
    · obtain ⟨b,h1,h2⟩:=h2.o j d' e;exact ⟨b,by rw[dB hne];exact h1,h2⟩
  · rcases bP e with ⟨rfl,hl,e⟩ | ⟨hne,e⟩
    · cases e;refine ⟨a,lM (by rw[h.len];exact hl),as,nd,mT (λx d m z=>⟨hh.free z.1,if_pos (.inr m),z.2⟩) pr,?_⟩;unfold Ct.On at q ⊢;cases to:t.own with
      | true =>
        rw[to] at q;exact ⟨⟨hh.free q.1,if_pos (.inl ⟨rfl,rfl⟩)⟩,q.2⟩
      | false =>
        rw[to] at q;exact q
    · obtain ⟨b,h1,h2⟩:=h2.n j t dss e;exact ⟨b,by rw[dB hne];exact h1,h2⟩
theorem rj {K:Frag}{H0 G H:Hp}:∀{is:List Nat} {ds:List D} {vs:List V} {σ:St} {ρ:aH} {P:aH->Prop} {Q:St->Hp->Prop},bC K H0 G H σ ρ->bw K G vs ds->putN is ds ρ P->(∀σ' ρ',bC K H0 G H σ' ρ'->P ρ'->Q σ' H)->kF is vs σ H Q
  | [],[],_,σ,ρ,P,Q,h,r,p,k=>by cases r;exact ⟨rfl,k _ _ h p⟩
  | i::is,d::ds,_,σ,ρ,P,Q,h,r,p,k=>by
    cases r with
    | cons r rr=>exact ⟨_,_,rfl,rj (h.y4 i r) rr p k⟩
  | [],_::_,_,_,_,_,_,_,_,p,_=>p.elim
  | _::_,[],_,_,_,_,_,_,_,p,_=>p.elim
theorem oE:∀{is:List Nat} {ds:List D} {ρ:aH} {P:aH->Prop},putN is ds ρ P->is.length=ds.length
  | [],[],_,_,_=>rfl
  | _::is,_::ds,ρ,P,p=>by rw[length_cons,length_cons,oE (is:=is) p]
  | [],_::_,_,_,p=>p.elim
  | _::_,[],_,_,p=>p.elim
theorem Tg.ok {K:Frag}{H0 G H:Hp}{g:Tg}{d:D}{v:V}{σ:St}{ρ:aH}{P:aH->Prop}{Q:St->Hp->Prop}(s:aE G H)(h:bC K H0 G H σ ρ)(r:Rep K G v d)(p:g.d d ρ P)(k:∀σ' ρ',bC K H0 G H σ' ρ'->P ρ'->Q σ' H):g.v K v σ H Q:=by
  cases g with
  | n i=>exact k _ _ (h.y4 i r) p
  | t is =>
    cases d with
    | tup ds =>
      obtain ⟨a,vs,rfl,e,rr⟩:=r.iy;exact ⟨a,vs,rfl,.inl (aG s e),by rw[Paired.length rr];exact (oE p).symm,rj h rr p k⟩
    | lst ds =>
      obtain ⟨a,vs,rfl,e,rr⟩:=r.lst_inv;exact ⟨a,vs,rfl,.inr (d6.of (s _ _ e)),by rw[Paired.length rr];exact (oE p).symm,rj h rr p k⟩
    | non=>exact p.elim
    | bl _=>exact p.elim
    | int _=>exact p.elim
    | str _=>exact p.elim
    | scr _=>exact p.elim
    | dct _=>exact p.elim
    | sen _=>exact p.elim
    | ext _=>exact p.elim
structure AZ (K:Frag)(G0:Hp)(J:It)(xs:List D):Prop where
  go:∀i d H G,xs[i]?=some d->aE G0 G->aE G H->J.go i H
  xD:∀i d H G x H',xs[i]?=some d->aE G0 G->aE G H->J.xD i H x H'->∃G',Wd H G H' G'/\Rep K G' x d
  stop:∀i H G,i=xs.length->aE G0 G->aE G H->J.stop i H
noncomputable def cI (K:Frag)(t:fc):TI:=λσ H R=>∃(G:Hp) (ρ:aH) (P:List D->Prop),aE G H/\gk K G σ ρ/\t ρ P/\∀xs J H' G',P xs->Wd H G H' G'->AZ K G' J xs->R J H'
structure DI (X:Cx)(tg e:Expr)(t:fc):Prop where
  pi:PI X tg e (cI X.K t)
theorem PI.imp {X:Cx}{tg e:Expr}{t t':TI}(h:PI X tg e t)(i:∀σ H Q,t' σ H Q->t σ H Q):PI X tg e t':=λpins s σ H Q I q=>h pins s σ H Q I (i σ H Q q)
theorem DI.of {X:Cx}{tg e:Expr}{t:TI}{t':fc}(h:PI X tg e t)(i:∀σ H Q,cI X.K t' σ H Q->t σ H Q):DI X tg e t':=⟨PI.imp h i⟩
section
variable {X:Cx} {tg e:Expr} {te:DT} {pos:Pos}
theorem sF {K:Frag}{G:Hp}{a:Addr}{vs:List V}{ds:List D}(h:d6 K G a vs)(r:bw K G vs ds):AZ K G (EM K a) ds where
  go:=λi d H G' e s1 s2=>by
    obtain ⟨v,h1,h2⟩:=bA r e;exact ⟨vs,v,(s1.trans s2).seq h,h1⟩
  xD:= by
    rintro i d H G' x H' e s1 s2 ⟨eH,y⟩;obtain ⟨v,h1,h2⟩:=bA r e;have:=y vs ((s1.trans s2).seq h);rw[h1] at this;cases this;subst eH;exact ⟨G',Wd.refl s2,h2.mono s1⟩
  stop:=λi H G' hi s1 s2=>⟨vs,(s1.trans s2).seq h,by rw[Paired.length r,hi];exact Nat.le_refl _⟩
noncomputable def bG (te:DT):fc:=λρ P=>te ρ λb=>match b.val with
  | .lst xs=>P xs
  | .scr ns=>P (ns.map D.int)
  | _=>False
set_option tactic.hygienic true in
theorem dY (he:DE X e te):DI X tg e (bG te):=DI.of (vS he.pe)<|by
  rintro σ H R ⟨G,ρ,P,s,re,h,k⟩;refine ⟨G,ρ,_,s,re,h,λb v H1 G1 p1 w1 r1=>?_⟩;obtain ⟨G1',w1',r1'⟩:=r1.give w1;split at p1
  · rename_i xs e;rw[e] at r1';obtain ⟨a,us,rfl,e,rr⟩:=r1'.lst_inv;exact ⟨a,rfl,⟨us,d6.of (w1'.gh _ _ e)⟩,k _ _ H1 G1' p1 w1' (sF (d6.of e) rr)⟩
  · rename_i ns e;rw[e] at r1';cases r1' with
    | scr e=>exact ⟨_,rfl,⟨_,w1'.gh.seq e⟩,k _ _ H1 G1' p1 w1' (sF e (g6 ns))⟩
  · exact p1.elim
noncomputable def dJ (te:DT):fc:=λρ P=>te ρ λb=>match b.val with
  | .tup xs=>P xs
  | _=>False
noncomputable def ik (lo:Int)(n:Nat):List D:=(List.range n).map λi=>D.int (lo+(i:Nat))
theorem bH {lo:Int}{n i:Nat}{d:D}(h:(ik lo n)[i]?=some d):i<n/\d=.int (lo+(i:Nat)):=by
  unfold ik at h;rw[getElem?_map] at h;by_cases hi:i<n
  · rw[List.getElem?_range hi] at h;exact ⟨hi,(Option.some.inj h).symm⟩
  · rw [List.getElem?_eq_none (by simpa using hi)] at h;cases h
theorem bZ (lo:Int)(n:Nat):(ik lo n).length=n:=by unfold ik;simp
theorem vI {K:Frag}{G:Hp}{lo:Int}{n:Nat}:AZ K G (C4 lo n) (ik lo n) where
  go:=λi d H G' e s1 s2=>(bH e).1
  xD:= by
    rintro i d H G' x H' e s1 s2 ⟨eH,y⟩;obtain ⟨h1,rfl⟩:=bH e;subst eH;subst y;exact ⟨G',Wd.refl s2,.int _⟩
  stop:=λi H G' hi s1 s2=>by rw[bZ] at hi;rw[hi];exact Nat.le_refl n
noncomputable def bD (t:fc):fc:=λρ P=>t ρ λds=>match ds with
  | [.int j]=>(-(2 ^ 62)<=j/\j<2 ^ 62)/\P (ik 0 j.toNat)
  | _=>False
noncomputable def bE (t:fc):fc:=λρ P=>t ρ λds=>match ds with
  | [.int i,.int j]=>(-(2 ^ 62)<=i/\i<2 ^ 62/\-(2 ^ 62)<=j/\j<2 ^ 62)/\P (ik i (j - i).toNat)
  | _=>False
end
noncomputable def iD (fr:List (Option Nat))(ρ:aH):aH:=fr.map λo=>match o with
  | none=>none
  | some j=>aI ρ j
theorem qO:∀(ρ:aH) (i:Nat),aI ρ i=(ρ[i]?).getD none
  | [],_=>by simp[aI]
  | _::_,0=>by simp[aI]
  | _::r,i+1=>by simp[aI,qO r i]
theorem vw {fr:List (Option Nat)}{ρ:aH}{i:Nat}{b:B}(h:aI (iD fr ρ) i=some b):∃j,fr[i]?=some (some j)/\aI ρ j=some b:=by
  rw[qO] at h;unfold iD at h;rw[getElem?_map] at h;cases e:fr[i]? with
  | none=>rw[e] at h;cases h
  | some o =>
    rw[e] at h;cases o with
    | none=>cases h
    | some j=>exact ⟨j,rfl,h⟩
theorem zS {fr:List (Option Nat)}{σ:St}{i j:Nat}{v:V}(h1:fr[i]?=some (some j))(h2:σ[j]?=some (some v)):(mn fr σ)[i]?=some (some v):=by
  unfold mn;rw[getElem?_map,h1];show some ((σ[j]?).getD none)=_;rw[h2];rfl
noncomputable def bj (ρ:aH):aH:=ρ.map λo=>match o with
  | some (.p d)=>some (.p d)
  | _=>none
theorem mE {ρ:aH}{i:Nat}{b:B}(h:aI (bj ρ) i=some b):∃d,b=.p d/\aI ρ i=some (.p d):=by
  rw[qO] at h ⊢;unfold bj at h;rw[getElem?_map] at h;cases e:ρ[i]? with
  | none=>rw[e] at h;cases h
  | some o =>
    rw[e] at h;cases o with
    | none=>cases h
    | some b' =>
      cases b' with
      | p d=>exact ⟨d,(Option.some.inj h).symm,rfl⟩
      | o d=>cases h
      | n _ _=>cases h
noncomputable def CW (xs:List D)(g:Tg)(tc:jR)(te:DT)(ρ:aH)(Q:B->Prop):Prop:=xs.length<=sizeLine/\∃F:D->Option D->Prop,
  (∀x∈xs,g.d x ρ λρ'=>tc ρ' λc=>(c=true->te ρ' λb=>F x (some b.val))/\(c=false->F x none))/\∀os,Paired F xs os->Q (.o (.lst (os.filterMap id)))
noncomputable def kD (ti:fc)(fr:List (Option Nat))(g:Tg)(tc:jR)(te:DT):DT:=λρ Q=>ti ρ λxs=>CW xs g tc te (bj (iD fr ρ)) Q
noncomputable def aU:jR:=λ_ P=>P true
theorem iP {α β:Type}{F:α->β->Prop}{xs:List α}{os:List β}{i:Nat}{x:α}{o:β}(h:Paired F (xs.take i) os)(e:xs[i]?=some x)(f:F x o):Paired F (xs.take (i+1)) (os++[o]):=by
  rw[WS.take_snoc e];exact Paired.snoc h f
noncomputable def zd (fr:List (Option Nat))(g:Tg):Bool:=g.is.all λi=>match fr[i]? with
  | some none=>true
  | _=>false
theorem qg {K:Frag}{G H:Hp}{ρ0:aH}:∀{is:List Nat} {vs:List V} {σ:St} {Q:St->Hp->Prop},(∀i∈is,aI ρ0 i=none)->gk K G σ ρ0->σ.length=ρ0.length->kF is vs σ H Q->kF is vs σ H λσ' H'=>Q σ' H'/\H'=H/\gk K G σ' ρ0/\σ'.length=ρ0.length
  | [],_,σ,Q,_,h,l,⟨e,q⟩=>⟨e,q,rfl,h,l⟩
  | i::is,_,σ,Q,hn,h,l,⟨v,r,e,q⟩=>by
    refine ⟨v,r,e,qg (is:=is) (λj hj=>hn j (mem_cons_of_mem _ hj)) (λj d hd=>?_) (by rw[length_set];exact l) q⟩;have hne:i≠j:=by
      rintro rfl;rw[hn i mem_cons_self] at hd;cases hd
    obtain ⟨w,h1,h2⟩:=h j d hd;exact ⟨w,by rw[dB hne];exact h1,h2⟩
theorem AU {K:Frag}{G H:Hp}{ρ0:aH}{g:Tg}{v:V}{σ:St}{Q:St->Hp->Prop}(hn:∀i∈g.is,aI ρ0 i=none)(h:gk K G σ ρ0)(l:σ.length=ρ0.length)(q:g.v K v σ H Q):g.v K v σ H λσ' H'=>Q σ' H'/\H'=H/\gk K G σ' ρ0/\σ'.length=ρ0.length:=by
  cases g with
  | n i =>
    refine ⟨q,rfl,λj d hd=>?_,by rw[length_set];exact l⟩;have hne:i≠j:=by
      rintro rfl;rw[hn i (mem_singleton.mpr rfl)] at hd;cases hd
    obtain ⟨w,h1,h2⟩:=h j d hd;exact ⟨w,by rw[dB hne];exact h1,h2⟩
  | t is =>
    obtain ⟨a,xs,e,h1,h2,q⟩:=q;exact ⟨a,xs,e,h1,h2,qg hn h l q⟩
structure xE (X:Cx)(ifs:List Expr)(t:jR):Prop where
  pf:t9 X ifs (cT X.K t)
theorem bQ {X:Cx}:xE X [] aU:=⟨by rintro pins s σ H Q I ⟨G,ρ,P,sg,re,h,k⟩;exact yY pins s σ H Q I (k true H G h (Wd.refl sg))⟩
theorem nR {X:Cx}{c:Expr}{t:jR}(h:t7 X c t):xE X [c] t:=⟨yZ h.pt⟩
theorem Ah {K:Frag}{fr:List (Option Nat)}{g:Tg}{tc:jR}{te:DT}(ht:zd fr g=true){σ:St}{H G:Hp}{Q:VK}{ρ:aH}{P:B->Prop}(re:gk K G σ ρ)(k:∀b v H' G',P b->Wd H G H' G'->gL K H G' H' v b->Q v H'){xs:List DL.D}{J:It}{H1 G1:Hp}(p1:CW xs g tc te (bj (iD fr ρ)) P)(w1:Wd H G H1 G1)(it:AZ K G1 J xs)(D:Addr)(hD:H1 D=none) :
    Ey J D (g.v K) (cT K tc) (cE K te) (Q (.ref D)) (mn fr σ) (upd H1 D (.lst [])):=by
  obtain ⟨hz,F,hF,hP⟩:=p1;have hn:∀i∈g.is,aI (bj (iD fr ρ)) i=none:=λi hi=>by
    cases e:aI (bj (iD fr ρ)) i with
    | none=>rfl
    | some b =>
      obtain ⟨d,rfl,e'⟩:=mE e;obtain ⟨j,h1,_⟩:=vw e';have:=List.all_eq_true.mp ht i hi;rw[h1] at this;cases this
  have len0:(bj (iD fr ρ)).length=fr.length:=by unfold bj iD;simp
  have fn0:(mn fr σ).length=fr.length:=by unfold mn;simp
  have rep0:gk K G1 (mn fr σ) (bj (iD fr ρ)):=λi d e=>by
    obtain ⟨d',e1,e2⟩:=mE e;cases e1;obtain ⟨j,h1,h2⟩:=vw e2;obtain ⟨v,h3,h4⟩:=re j d h2;exact ⟨v,zS h1 h3,h4.mono w1.gg⟩
  have gD:G1 D=none:=w1.gh.free hD;refine ⟨λi m ys σ' H'=>m=xs.length - i/\i<=xs.length/\∃G' os,Wd H1 G1 H' G'/\G' D=none/\H' D=some (.lst ys)/\ys.length<=i/\Paired F (xs.take i) os/\bw K G' ys (os.filterMap id)/\gk K G' σ' (bj (iD fr ρ))/\σ'.length=(bj (iD fr ρ)).length,⟨xs.length,by simp,Nat.zero_le _,G1,[],(Wd.refl w1.gh).own hD gD,gD,bf,Nat.le_refl _,by rw[List.take_zero];exact .nil,.nil,rep0,by rw[fn0,len0]⟩,?_⟩;rintro i m ys σ' H' ⟨rfl,hi,G',os,w',gD',hD',hy,hos,hr,re',ln'⟩;by_cases hlt:i<xs.length
  · have hx:xs[i]?=some xs[i]:=getElem?_eq_getElem hlt;refine .inr ⟨it.go i _ H' G' hx w'.gg w'.gh,λys' σ2 H2=>∃G2 os',Wd H1 G1 H2 G2/\G2 D=none/\H2 D=some (.lst ys')/\ys'.length<=i+1/\Paired F (xs.take (i+1)) os'/\bw K G2 ys' (os'.filterMap id)/\gk K G2 σ2 (bj (iD fr ρ))/\σ2.length=(bj (iD fr ρ)).length,by rintro ys' σ2 H2 ⟨G2,os',z⟩;exact ⟨xs.length - (i+1),by lia,rfl,hlt,G2,os',z⟩,λx H2 y=>?_⟩;obtain ⟨G2,w2,r2⟩:=it.xD i _ H' G' x H2 hx w'.gg w'.gh y;have e2:bC K H2 G2 H2 σ' (bj (iD fr ρ)):=bC.only ln' (re'.mono w2.gg) λj b e=>by
        obtain ⟨d',e1,_⟩:=mE e;exact ⟨d',e1⟩
    have re2:gk K G2 σ' (bj (iD fr ρ)):=e2.p;have w12:=w'.trans w2;have hD2:H2 D=some (.lst ys):=w2.hh _ _ hD';have gD2:G2 D=none:=by rw[w2.old D ⟨_,hD',λ_ z=>nomatch z⟩];exact gD'
    refine (?_:g.v K x σ' H2 _);refine tgv_mono (AU hn re2 ln' (Tg.ok w2.gh e2 r2 (hF _ (List.getElem_mem hlt)) (Q:=λσ3 H3=>H3=H2/\∃ρ3,bC K H2 G2 H2 σ3 ρ3/\tc ρ3 λc=>(c=true->te ρ3 λb=>F xs[i] (some b.val))/\(c=false->F xs[i] none)) λσ3 ρ3 e3 p3=>⟨rfl,ρ3,e3,p3⟩)) ?_;rintro σ3 H3 ⟨⟨rfl,ρ3,e3,p3⟩,_,re3,ln3⟩;refine ⟨G2,ρ3,_,w2.gh,e3.p,p3,λc H4 G4 p4 w4=>?_⟩;have hD4:H4 D=some (.lst ys):=w4.hh _ _ hD2;have gD4:G4 D=none:=by rw[w4.old D ⟨_,hD2,λ_ z=>nomatch z⟩];exact gD2
    cases c with
    | true =>
      refine yD ⟨G4,ρ3,_,w4.gh,gk.mono w4.gg e3.p,p4.1 rfl,λb v H5 G5 p5 w5 r5=>?_⟩;obtain ⟨G5',w5',r5'⟩:=r5.give w5;have hD5:H5 D=some (.lst ys):=w5.hh _ _ hD4;have gD5:G5' D=none:=by rw[w5'.old D ⟨_,hD4,λ_ z=>nomatch z⟩];exact gD4
      have w15:=(w12.trans w4).trans w5';refine ⟨hD5,by have:sizeLine=16777216:=sizeLine_eq;lia,G5',os++[some b.val],w15.own hD gD5,gD5,bf,by rw[length_append,List.length_singleton];lia,iP hos hx p5,?_,gk.mono (w4.trans w5').gg re3,ln3⟩;rw[List.filterMap_append];exact er (bw.mono ((w2.trans w4).trans w5').gg hr) (.cons r5' .nil)
    | false =>
      refine yC ⟨G4,os++[none],w12.trans w4,gD4,hD4,by lia,iP hos hx (p4.2 rfl),?_,gk.mono w4.gg re3,ln3⟩;rw[List.filterMap_append,show List.filterMap id [(none:Option DL.D)] = [] from rfl,append_nil];exact bw.mono (w2.trans w4).gg hr
  · have e : i = xs.length := by lia
    subst e;refine .inl ⟨it.stop _ H' G' rfl w'.gg w'.gh,?_⟩;rw[List.take_length] at hos;exact k _ _ H' G' (hP os hos) (w1.trans w') ⟨D,rfl,w1.hh.free hD,gD',ys,hD',hr⟩
where
  tgv_mono {K:Frag} {g:Tg} {v:V} {σ:St} {H:Hp} {Q Q':St->Hp->Prop} (h:g.v K v σ H Q) (i:∀σ' H',Q σ' H'->Q' σ' H'):g.v K v σ H Q':=by
    cases g with
    | n j=>exact i _ _ h
    | t is =>
      obtain ⟨a,xs,e,h1,h2,q⟩:=h;exact ⟨a,xs,e,h1,h2,names_mono q i⟩
  names_mono {Q Q':St->Hp->Prop}:∀{is:List Nat} {vs:List V} {σ:St} {H:Hp},kF is vs σ H Q->(∀σ' H',Q σ' H'->Q' σ' H')->kF is vs σ H Q'
    | [],_,_,_,⟨e,q⟩,i=>⟨e,i _ _ q⟩
    | _::is,_,_,_,⟨v,r,e,q⟩,i=>⟨v,r,e,names_mono (is:=is) q i⟩
theorem qV {K:Frag}{ti:fc}{fr:List (Option Nat)}{g:Tg}{tc:jR}{te:DT}(ht:zd fr g=true)(σ:St)(H:Hp)(Q:VK):cE K (kD ti fr g tc te) σ H Q->FA (cI K ti) fr (g.v K) (cT K tc) (cE K te) σ H Q:=by
  rintro ⟨G,ρ,P,s,re,h,k⟩;exact ⟨G,ρ,_,s,re,h,λxs J H1 G1 p1 w1 it D hD=>Ah ht re k p1 w1 it D hD⟩
section
variable {X:Cx} {tg iter elt:Expr} {ifs:List Expr} {scope:Scope} {pos:Pos} {ti:fc} {g:Tg} {tc:jR} {te:DT}
theorem ju (N':List Str)(fr:List (Option Nat))(hc:X.calm=true)(hi:DI X tg iter ti)
    (hg:∀cl fp C s H,PG (o7 X scope N' cl fp C s H) tg (g.v X.K)) (ht:∀cl fp C s H,xE (o7 X scope N' cl fp C s H) ifs tc) (he:∀cl fp C s H,DE (o7 X scope N' cl fp C s H) elt te)
    {sc0:Scope} {N0:List Str} (htg:autoParam (zd fr g=true) aZb._auto_1) (hsc:autoParam (X.env.scope=sc0) aZa._auto_1) (hN:autoParam (X.N=N0) aZa._auto_1) (bK:autoParam (iY sc0 N0 scope N' fr=true) aZe._auto_1) (hs:autoParam (∀x,foldedSetIterable iter X.env x=pure x) aZc._auto_1) :
    DE X (.ListComp elt [⟨tg,iter,ifs,0⟩] scope pos) (kD ti fr g tc te):=
  DE.of (D1 (tc:=cT X.K tc) (te:=cE X.K te) N' fr hc hi.pi hg (λcl fp C s H=>(ht cl fp C s H).pf) (λcl fp C s H=>(he cl fp C s H).pe) hsc hN bK hs) (qV htg)
end
end DL
namespace DL
open PySem L2
structure kT where
  nx:aH->Prop
  rt:B->Prop
  bk:aH->Prop:=λ_=>False
  ct:aH->Prop:=λ_=>False
noncomputable abbrev ir:=kT->aH->Prop
structure qp (K:Frag)(H0 G0:Hp)(E:kT)(Dn:Ends):Prop where
  nx:∀σ H G ρ,Wd H0 G0 H G->bC K H0 G H σ ρ->E.nx ρ->Dn.nx σ H
  bk:∀σ H G ρ,Wd H0 G0 H G->bC K H0 G H σ ρ->E.bk ρ->Dn.bk σ H
  ct:∀σ H G ρ,Wd H0 G0 H G->bC K H0 G H σ ρ->E.ct ρ->Dn.ct σ H
  rt:∀b v H G,Wd H0 G0 H G->gL K H0 G H v b->E.rt b->Dn.rt v H
noncomputable def cS (K:Frag)(H0 G0:Hp)(t:ir):TS:=λDn σ H=>∃(E:kT) (G:Hp) (ρ:aH),qp K H0 G0 E Dn/\Wd H0 G0 H G/\bC K H0 G H σ ρ/\t E ρ
structure DS (X:Cx)(st:Stmt)(t:ir):Prop where
  ps:∀H0 G0,PS X st (cS X.K H0 G0 t)
structure t6 (X:Cx)(st:List Stmt)(t:ir):Prop where
  Cv:∀H0 G0,qv X st (cS X.K H0 G0 t)
section
variable {K:Frag} {H0 G0 G H H':Hp} {σ:St} {ρ:aH}
theorem bC.freeze (e:bC K H0 G H σ ρ)(w:Wd H0 G0 H G):∃G1,Wd H0 G0 H G1/\aE G G1/\bC K H0 G1 H σ (cM ρ):=by
  classical
  obtain ⟨o,e⟩:=e;have to:∀a,H0 a=none->G a=none->(if H0 a=none/\G a=none then H a else G a)=H a:=λa h1 h2=>if_pos ⟨h1,h2⟩;have sG:aE G (λa=>if H0 a=none/\G a=none then H a else G a):=λa o h=>by
    show (if _ then H a else G a)=_;rw[if_neg λq=>by rw[q.2] at h;cases h];exact h
  refine ⟨λa=>if H0 a=none/\G a=none then H a else G a,⟨w.hh,w.gg.trans sG,λa o h=>?_,λa h=>?_⟩,sG,?_⟩
  · have h':(if H0 a=none/\G a=none then H a else G a)=some o:=h;split at h'
    · exact h'
    · exact w.gh _ _ h'
  · show (if H0 a=none/\G a=none then H a else G a)=_;rw[if_neg λq=>h.there q.1];exact w.old a h
  · have own:∀a d,H0 a=none->bI K G H a d->Rep K (λa=>if H0 a=none/\G a=none then H a else G a) (.ref a) d:=λa d h0 h=>h.rep sG λo z=>by
      show (if H0 a=none/\G a=none then H a else G a)=_;rw[to a h0 h.1];exact z
    refine bC.only (by rw[vz];exact e.len) (λi d h=>?_) λi b h=>?_
    · obtain ⟨b,h1,h2⟩:=nO h;cases h2;cases b with
      | p d =>
        obtain ⟨v,h3,h4⟩:=e.p i d h1;exact ⟨v,h3,h4.mono sG⟩
      | o d =>
        obtain ⟨a,h3,h4,h4',h5⟩:=e.o i d h1;exact ⟨.ref a,h3,own a d h4 h5⟩
      | n t dss =>
        obtain ⟨a,h3,as,nd,pr,q⟩:=e.n i t dss h1;have rs:bw K (λa=>if H0 a=none/\G a=none then H a else G a) (as.map V.ref) dss:=by
          clear q h1 h nd;induction pr with
          | nil=>exact .nil
          | cons f _ ih=>exact .cons (own _ _ f.1 f.2.2) ih
        refine ⟨.ref a,h3,?_⟩;refine Ct.rep ?_ rs;unfold Ct.On at q;cases te:t.own with
        | true =>
          rw[te] at q;exact Ct.qz te (λo z=>by
            show (if H0 a=none/\G a=none then H a else G a)=_;rw[to a q.1.1 q.2.1];exact z) q.2.2.2
        | false =>
          rw[te] at q;exact Ct.qy sG q
    · obtain ⟨b',h1,h2⟩:=nO h;exact ⟨_,h2⟩
theorem o6.back {o:Addr->Nat}(e:o6 K H0 G H o σ ρ)(hh:aE H H'):o6 K H0 G H' o σ ρ:=
  ⟨e.len,e.p,λi d h=>by
    obtain ⟨a,h1,h2,h2',h3⟩:=e.o i d h;exact ⟨a,h1,h2,h2',h3.df (aE.refl _) h3.1 λo q=>hh _ _ q⟩,λi t dss h=>by
    obtain ⟨a,h1,h2⟩:=e.n i t dss h;exact ⟨a,h1,h2.df (aE.refl _) λx k1 k2 k3 k4=>⟨k3,k2,λo q=>hh _ _ q⟩⟩⟩
theorem bC.back (e:bC K H0 G H σ ρ)(hh:aE H H'):bC K H0 G H' σ ρ:=by
  obtain ⟨o,e⟩:=e;exact ⟨o,e.back hh⟩
theorem Wd.back {G1 G1':Hp}(w:Wd H0 G0 H G)(w1:Wd H G1 H' G1'):Wd H0 G0 H' G:=⟨w.hh.trans w1.hh,w.gg,w.gh.trans w1.hh,w.old⟩
end
section
variable {X:Cx} {st:Stmt} {rest:List Stmt} {t u:ir} {a b c e:Expr} {ta tb te:DT} {pos:Pos}
noncomputable def cK:ir:=λE ρ=>E.nx ρ
noncomputable def gi (t u:ir):ir:=λE ρ=>t { E with nx:=u E } ρ
theorem bL:t6 X [] cK:=t6.mk λH0 G0=>qv.imp AE λDn σ H ⟨E,G,ρ,eo,w,en,h⟩=>eo.nx σ H G ρ w en h
theorem ah (h1:DS X st t)(h2:t6 X rest u):t6 X (st::rest) (gi t u):=t6.mk λH0 G0=>qv.imp (y3 (h1.ps H0 G0) (h2.Cv H0 G0)) λDn σ H ⟨E,G,ρ,eo,w,en,h⟩ =>
  ⟨{ E with nx:=u E },G,ρ,⟨λσ' H' G' ρ' w' en' h'=>⟨E,G',ρ',eo,w',en',h'⟩,eo.bk,eo.ct,eo.rt⟩,w,en,h⟩
theorem aj (h1:DS X st t):t6 X [st] t:=t6.mk λH0 G0=>vU (h1.ps H0 G0)
noncomputable def dE (te:DT):ir:=λE ρ=>te (cM ρ) λ_=>E.nx ρ
noncomputable def gf (te:DT):ir:=λE ρ=>te (cM ρ) E.rt
theorem aL (he:DE X e te):DS X (.Return (some e) pos) (gf te):=DS.mk λH0 G0=>PS.imp (oD he.pe)<|by
  rintro Dn σ H ⟨E,G,ρ,eo,w,en,h⟩;obtain ⟨G1,w1,sg,e1⟩:=en.freeze w;exact ⟨G1,cM ρ,_,w1.gh,e1.p,h,λb v H' G' p' w' r'=>eo.rt b v H' G' (w1.trans w') (r'.ahead w.hh) p'⟩
noncomputable def dG:ir:=λE _=>E.rt (.p .non)
noncomputable def cu (i:Nat):ir:=λE ρ=>match aI ρ i with
  | some (.o d)=>E.rt (.o d)
  | _=>False
set_option tactic.hygienic true in
theorem vo (i:Nat){x:Str}{px:Pos}(hN:autoParam (X.N[i]?=some x) aZa._auto_1)(hv:autoParam (ua X.env.scope x) aZf._auto_1)(hd:autoParam ((x == ("__debug__" : Str))=false) aZb._auto_1)
    (hcd:autoParam ((x == ("__classdict__" : Str))=false) aZb._auto_1):DS X (.Return (some (.Name x px)) pos) (cu i):=DS.mk λH0 G0=>PS.imp (oD (gT hN hv hd hcd))<|by
  rintro Dn σ H ⟨E,G,ρ,eo,w,en,h⟩;unfold cu at h;split at h
  · rename_i d e;obtain ⟨a,h1,h2,h3⟩:=en.o i d e;exact ⟨.ref a,h1,eo.rt (.o d) _ H G w ⟨a,rfl,h2,h3⟩ h⟩
  · exact h.elim
noncomputable def gb (tc:jR)(t u:ir):ir:=λE ρ=>tc (cM ρ) λc=>(c=true->t E ρ)/\(c=false->u E ρ)
theorem fq {x y:List Stmt}{tc:jR}(hc:t7 X c tc)(ha:t6 X x t)(hb:t6 X y u):DS X (.If c x y pos) (gb tc t u):=DS.mk λH0 G0=>PS.imp (D5 hc.pt (ha.Cv H0 G0) (hb.Cv H0 G0))<|by
  rintro Dn σ H ⟨E,G,ρ,eo,w,en,h⟩;obtain ⟨G1,w1,sg,e1⟩:=en.freeze w;refine ⟨G1,cM ρ,_,w1.gh,e1.p,h,λc H' G' p' w'=>?_⟩;cases c with
  | true=>exact yD ⟨E,G,ρ,eo,w.back w',en.back w'.hh,p'.1 rfl⟩
  | false=>exact yC ⟨E,G,ρ,eo,w.back w',en.back w'.hh,p'.2 rfl⟩
noncomputable def fK (i:Nat)(te:DT):ir:=λE ρ=>te ρ λb=>E.nx (dput ρ i b)
noncomputable def cx (i:Nat)(te:DT):ir:=λE ρ=>te (cM ρ) λb=>b.val.sc=true/\E.nx (dput ρ i (.p b.val))
noncomputable def dH (i:Nat)(te:DT):ir:=λE ρ=>te (cM ρ) λb=>E.nx (dput (cM ρ) i b)
theorem oJ {K:Frag}{H0 G0 H G H' G':Hp}{σ:St}{ρ:aH}{E:kT}{Dn:Ends}(i:Nat)(eo:qp K H0 G0 E Dn)(w:Wd H0 G0 H G)(en:bC K H0 G H σ ρ){b:B}{v:V}(p:E.nx (dput ρ i b))(w':Wd H G H' G')(r:gL K H G' H' v b):Dn.nx (σ.set i (some v)) H':=by
  cases b with
  | p d=>exact eo.nx _ H' G' _ (w.trans w') ((en.on w').y4 i r) p
  | o d =>
    obtain ⟨a,rfl,hn,o⟩:=r;exact eo.nx _ H' G' _ (w.trans w') (en.Fm w' i (w.hh.free hn) hn o) p
  | n t ds =>
    obtain ⟨a,as,rfl,nd,pr,q⟩:=r;exact eo.nx _ H' G' _ (w.trans w') (en.D6 w' w.hh i nd pr q) p
theorem sA {K:Frag}{H0 G0:Hp}{i:Nat}(Dn:Ends)(σ:St)(H:Hp):cS K H0 G0 (fK i te) Dn σ H->cE K te σ H λv H1=>Dn.nx (σ.set i (some v)) H1:=by
  rintro ⟨E,G,ρ,eo,w,en,h⟩;exact ⟨G,ρ,_,w.gh,en.p,h,λb v H' G' p' w' r'=>oJ i eo w en p' w' r'⟩
theorem wM {K:Frag}{H0 G0:Hp}{i:Nat}(Dn:Ends)(σ:St)(H:Hp):cS K H0 G0 (cx i te) Dn σ H->cE K te σ H λv H1=>Dn.nx (σ.set i (some v)) H1:=by
  rintro ⟨E,G,ρ,eo,w,en,h⟩;obtain ⟨G1,w1,sg,e1⟩:=en.freeze w;refine ⟨G1,cM ρ,_,w1.gh,e1.p,h,λb v H' G' p' w' r'=>?_⟩;obtain ⟨G2,w2,r2⟩:=r'.give w';exact eo.nx _ H' G _ (w.back w') ((en.back w'.hh).y4 i (r2.sc p'.1)) p'.2
noncomputable def cg (i:Nat)(te:DT):ir:=λE ρ=>te ρ λb=>E.nx (dput ρ i (.p b.val))
noncomputable def bM (i:Nat)(te:DT):ir:=λE ρ=>te (cM ρ) λb=>E.nx (dput (cM ρ) i (.p b.val))
theorem qe {K:Frag}{H0 G0:Hp}{i:Nat}(Dn:Ends)(σ:St)(H:Hp):cS K H0 G0 (cg i te) Dn σ H->cE K te σ H λv H1=>Dn.nx (σ.set i (some v)) H1:=by
  rintro ⟨E,G,ρ,eo,w,en,h⟩;refine ⟨G,ρ,_,w.gh,en.p,h,λb v H' G' p' w' r'=>?_⟩;obtain ⟨G2,w2,r2⟩:=r'.give w';exact oJ i eo w en (b:=.p b.val) p' w2 r2
section
variable {i:Nat} {x:Str} {px:Pos}
theorem gR (hN:X.N.Nodup)(hi:X.N[i]?=some x)(hx:Loc X.env.scope x)(he:DE X e te)(hs:autoParam (swapsWith e (some (.Name x px)) pos.line X.env=pure false) aZa._auto_1)(hf:autoParam (X.fn x=true\/X.env.scope.names.lookup x=some .local) aZd._auto_1) :
    DS X (.Assign [.Name x px] e pos) (fK i te):=DS.mk λH0 G0=>PS.imp (rh hN hi hx he.pe hs hf) sA
theorem aw (hN:X.N.Nodup)(hi:X.N[i]?=some x)(hx:Loc X.env.scope x)(he:DE X e te)(hs:autoParam (swapsWith e (some (.Name x px)) pos.line X.env=pure false) aZa._auto_1)(hf:autoParam (X.fn x=true\/X.env.scope.names.lookup x=some .local) aZd._auto_1) :
    DS X (.Assign [.Name x px] e pos) (cg i te):=DS.mk λH0 G0=>PS.imp (rh hN hi hx he.pe hs hf) qe
theorem vp (hN:X.N.Nodup)(hi:X.N[i]?=some x)(hx:Loc X.env.scope x)(he:DE X e te)(hs:autoParam (swapsWith e (some (.Name x px)) pos.line X.env=pure false) aZa._auto_1)(hf:autoParam (X.fn x=true\/X.env.scope.names.lookup x=some .local) aZd._auto_1) :
    DS X (.Assign [.Name x px] e pos) (cx i te):=DS.mk λH0 G0=>PS.imp (rh hN hi hx he.pe hs hf) wM
variable {tg iter elt:Expr} {ifs:List Expr} {scope:Scope} {spos:Pos} {ti:fc} {g:Tg} {tc:jR}
theorem sy (hNd:X.N.Nodup)(hy:X.N[i]?=some x)(hly:Loc X.env.scope x)(N':List Str)(fr:List (Option Nat))(hc:X.calm=true)(hi:DI X tg iter ti)
    (hg:∀cl fp C s H,PG (o7 X scope N' cl fp C s H) tg (g.v X.K)) (ht:∀cl fp C s H,xE (o7 X scope N' cl fp C s H) ifs tc) (he:∀cl fp C s H,DE (o7 X scope N' cl fp C s H) elt te)
    {sc0:Scope} {N0:List Str} (htg:autoParam (zd fr g=true) aZb._auto_1) (hsw:autoParam (swapsWith (.ListComp elt [⟨tg,iter,ifs,0⟩] scope pos) (some (.Name x px)) spos.line X.env=pure true) aZa._auto_1)
    (hsc:autoParam (X.env.scope=sc0) aZa._auto_1) (hN:autoParam (X.N=N0) aZa._auto_1) (bK:autoParam (iY sc0 N0 scope N' fr=true) aZe._auto_1) (hs:autoParam (∀x,foldedSetIterable iter X.env x=pure x) aZc._auto_1)
    (hf:autoParam (X.fn x=true\/X.env.scope.names.lookup x=some .local) aZg._auto_1) :
    DS X (.Assign [.Name x px] (.ListComp elt [⟨tg,iter,ifs,0⟩] scope pos) spos) (fK i (kD ti fr g tc te)):=DS.mk λH0 G0 =>
  PS.imp (tD (tc:=cT X.K tc) (te:=cE X.K te) hNd hy hly N' fr hc hi.pi hg (λcl fp C s H=>(ht cl fp C s H).pf) (λcl fp C s H=>(he cl fp C s H).pe) hsw hsc hN bK hs hf) λDn σ H h=>qV htg σ H _ (sA Dn σ H h)
theorem iL (hNd:X.N.Nodup)(hy:X.N[i]?=some x)(hly:Loc X.env.scope x)(N':List Str)(fr:List (Option Nat))(hc:X.calm=true)(hi:DI X tg iter ti)
    (hg:∀cl fp C s H,PG (o7 X scope N' cl fp C s H) tg (g.v X.K)) (ht:∀cl fp C s H,xE (o7 X scope N' cl fp C s H) ifs tc) (he:∀cl fp C s H,DE (o7 X scope N' cl fp C s H) elt te)
    {sc0:Scope} {N0:List Str} (htg:autoParam (zd fr g=true) aZb._auto_1) (hsw:autoParam (swapsWith (.ListComp elt [⟨tg,iter,ifs,0⟩] scope pos) (some (.Name x px)) spos.line X.env=pure true) aZa._auto_1)
    (hsc:autoParam (X.env.scope=sc0) aZa._auto_1) (hN:autoParam (X.N=N0) aZa._auto_1) (bK:autoParam (iY sc0 N0 scope N' fr=true) aZe._auto_1) (hs:autoParam (∀x,foldedSetIterable iter X.env x=pure x) aZc._auto_1)
    (hf:autoParam (X.fn x=true\/X.env.scope.names.lookup x=some .local) aZg._auto_1) :
    DS X (.Assign [.Name x px] (.ListComp elt [⟨tg,iter,ifs,0⟩] scope pos) spos) (cg i (kD ti fr g tc te)):=DS.mk λH0 G0 =>
  PS.imp (tD (tc:=cT X.K tc) (te:=cE X.K te) hNd hy hly N' fr hc hi.pi hg (λcl fp C s H=>(ht cl fp C s H).pf) (λcl fp C s H=>(he cl fp C s H).pe) hsw hsc hN bK hs hf) λDn σ H h=>qV htg σ H _ (qe Dn σ H h)
noncomputable def fP (i:Nat)(te:DT)(f:Int->Int->Int):ir:=λE ρ=>match aI ρ i with
  | some (.p (.int m))=>te (cM ρ) λb=>match b.val with
    | .int n=>E.nx (dput ρ i (.p (.int (f m n))))
    | _=>False
  | _=>False
set_option tactic.hygienic true in
theorem BI {op:Operator}{f:Int->Int->Int}(hN:X.N.Nodup)(hi:X.N[i]?=some x)(hx:Loc X.env.scope x)(he:DE X e te)(ho:Bp X op (CV f))(hf:autoParam (X.fn x=true\/X.env.scope.names.lookup x=some .local) aZd._auto_1) :
    DS X (.AugAssign (.Name x px) op e pos) (fP i te f):=DS.mk λH0 G0=>PS.imp (Cu hN hi hx he.pe ho hf)<|by
  rintro Dn σ H ⟨E,G,ρ,eo,w,en,h⟩;unfold fP at h;split at h
  · rename_i m q;obtain ⟨G1,w1,sg,e1⟩:=en.freeze w;obtain ⟨v,h1,h2⟩:=en.p i _ q;cases h2;refine ⟨_,h1,G1,cM ρ,_,w1.gh,e1.p,h,λb v H' G' p' w' r'=>?_⟩;split at p'
    · rename_i n e;exact ⟨m,n,rfl,d8 w' r' e,eo.nx _ H' G _ (w.back w') ((en.back w'.hh).y4 i (.int _)) p'⟩
    · exact p'.elim
  · exact h.elim
end
noncomputable def fY (te:DT)(g:Tg):ir:=λE ρ=>te ρ λb=>g.d b.val ρ E.nx
theorem BH {tg:Expr}{g:Tg}(he:DE X e te)(hg:PG X tg (g.v X.K))(hs:autoParam (swapsWithSole [tg] e pos.line X.env=pure false) aZa._auto_1)(hw:autoParam (swappedStores [tg] e X.env=pure none) aZa._auto_1)
    (h1:autoParam ((assignEach [tg] X.env).map (·.2) = [assign tg X.env]) aZa._auto_1):DS X (.Assign [tg] e pos) (fY te g):=DS.mk λH0 G0=>PS.imp (Cs he.pe hg hs hw h1)<|by
  rintro Dn σ H ⟨E,G,ρ,eo,w,en,h⟩;refine ⟨G,ρ,_,w.gh,en.p,h,λb v H' G' p' w' r'=>?_⟩;obtain ⟨G2,w2,r2⟩:=r'.give w';exact Tg.ok w2.gh (en.on w2) r2 p' λσ' ρ' e' q=>eo.nx σ' H' G2 ρ' (w.trans w2) e' q
theorem bC.CF {K:Frag}{H0 G H:Hp}{σ:St}{ρ:aH}{i:Nat}{a:Addr}{ds ds':List D}{vs:List V}(e:bC K H0 G H σ ρ)(h1:aI ρ i=some (.o (.lst ds)))(h2:σ[i]?=some (some (.ref a)))(r:bw K G vs ds'):bC K H0 G (upd H a (.lst vs)) σ (dput ρ i (.o (.lst ds'))):=by
  obtain ⟨o,e⟩:=e;have hlt:=vm h1;obtain ⟨a',h3,h4,h4',h5⟩:=e.o i _ h1;rw[h2] at h3;cases h3;refine ⟨o,by rw[hZ];exact e.len,λj d q=>?_,λj d q=>?_,λj t dss q=>?_⟩
  · rcases bP q with ⟨rfl,_,q⟩ | ⟨hne,q⟩
    · cases q
    · exact e.p j d q
  · rcases bP q with ⟨rfl,_,q⟩ | ⟨hne,q⟩
    · cases q;exact ⟨a,h2,h4,h4',h5.1,vs,bf,r⟩
    · obtain ⟨b,k1,k2,k2',k3⟩:=e.o j d q;refine ⟨b,k1,k2,k2',k3.df (aE.refl _) k3.1 λo z=>?_⟩;have:b≠a:=by
        rintro rfl;exact hne (h4'.symm.trans k2')
      rw[aC this];exact z
  · rcases bP q with ⟨rfl,_,q⟩ | ⟨hne,q⟩
    · cases q
    · obtain ⟨b,k1,k2⟩:=e.n j t dss q;refine ⟨b,k1,k2.df (aE.refl _) λx z1 z2 z3 z4=>⟨z3,z2,λo z=>?_⟩⟩;have:x≠a:=by
        rintro rfl;exact hne (h4'.symm.trans z2)
      rw[aC this];exact z
noncomputable def fO (i:Nat)(te:DT):ir:=λE ρ=>match aI ρ i with
  | some (.o (.lst ds))=>te ρ λb=>ds.length<sizeLine/\E.nx (dput ρ i (.o (.lst (ds++[b.val]))))
  | _=>False
noncomputable def dD (i:Nat)(te:DT):ir:=λE ρ=>match aI ρ i with
  | some (.o (.lst ds))=>te (cM ρ) λb=>b.val.sc=true/\ds.length<sizeLine/\E.nx (dput ρ i (.o (.lst (ds++[b.val]))))
  | _=>False
theorem zE {K:Frag}{H0 G0 G H:Hp}{σ:St}{ρ:aH}{i:Nat}{a:Addr}{ds:List D}{vs:List V}{v:V}{d:D}{E:kT}{Dn:Ends}(eo:qp K H0 G0 E Dn)(w:Wd H0 G0 H G)(e:bC K H0 G H σ ρ)(h1:aI ρ i=some (.o (.lst ds)))(h2:σ[i]?=some (some (.ref a)))(h3:H a=some (.lst vs))(r:bw K G vs ds)(rv:Rep K G v d)(hz:ds.length<sizeLine)(p:E.nx (dput ρ i (.o (.lst (ds++[d]))))) :
    vV (.ref a) [v] H λ_ H3=>Dn.nx σ H3:=by
  obtain ⟨a',k1,k2,k3⟩:=e.o i _ h1;rw[h2] at k1;cases k1;exact ⟨a,vs,v,rfl,rfl,h3,by rw[Paired.length r];exact hz,eo.nx σ _ G _ (w.own k2 k3.1) (e.CF h1 h2 (er r (.cons rv .nil))) p⟩
section
variable {i:Nat} {x:Str} {px apos cpos spos:Pos}
set_option tactic.hygienic true in
theorem nV (hN:X.N[i]?=some x)(hv:ua X.env.scope x)(he:DE X e te)(hd:autoParam ((x == ("__debug__" : Str))=false) aZb._auto_1)(hcd:autoParam ((x == ("__classdict__" : Str))=false) aZb._auto_1)
    (hbase:autoParam (attributeBase (.Name x px) "append" X.env (eval (.Name x px) X.env)=eval (.Name x px) X.env) aZa._auto_1)
    (hfew:autoParam (((backTo cpos (starEach (e::[]) X.env)).all (λx=>!x.1) && (backToKw cpos (keywordEach [] X.env)).all (λx=>x.1.isSome)
      && decide ((e::[]).length+([]:List Keyword).length+(if ([]:List Keyword).isEmpty then 0 else 1)<30))=true) aZa._auto_1)
    (hline:autoParam ((apos.endLine == cpos.line)=true) aZa._auto_1) (hs:autoParam (starEach (e::[]) X.env=(false,eval e X.env)::starEach [] X.env) aZa._auto_1) (hplain:autoParam ((backTo cpos (starEach [] X.env)).any (·.1)=false) aZa._auto_1)
    (hsw:autoParam (swapsWith (.Call (.Attribute (.Name x px) "append" apos) [e] [] cpos) none spos.line X.env=pure false) aZa._auto_1) :
    DS X (.Expr (.Call (.Attribute (.Name x px) "append" apos) [e] [] cpos) spos) (fO i te):=DS.mk λH0 G0 =>
  PS.imp (rg (yT PySem.F.plainAttrs_list PySem.F.slot_list_append PySem.F.type_list_append my (gT hN hv hd hcd) (br he.pe gS hs) hbase hfew hline hs hplain) hsw)<|by
    rintro Dn σ H ⟨E,G,ρ,eo,w,en,h⟩;unfold fO at h;split at h
    · rename_i ds q;obtain ⟨a,h1,h2,h3,vs,h4,h5⟩:=en.o i _ q;refine ⟨_,h1,.inl ⟨rfl,_,d6.of h4⟩,G,ρ,_,w.gh,en.p,h,λb v H' G' p' w' r'=>?_⟩;obtain ⟨G2,w2,r2⟩:=r'.give w';exact zE eo (w.trans w2) (en.on w2) q h1 (w2.hh _ _ h4) (bw.mono w2.gg h5) r2 p'.1 p'.2
    · exact h.elim
noncomputable def bN (i:Nat)(tk te:DT):ir:=λE ρ=>te ρ λb=>match aI ρ i with
  | some (.o (.lst ds))=>tk (cM ρ) λk=>match k.val with
    | .int z=>∃j,qf ds.length z=some j/\E.nx (dput ρ i (.o (.lst (ds.set j b.val))))
    | _=>False
  | _=>False
noncomputable def bg (i:Nat)(tk te:DT):ir:=λE ρ=>te (cM ρ) λb=>b.val.sc=true/\match aI ρ i with
  | some (.o (.lst ds))=>tk (cM ρ) λk=>match k.val with
    | .int z=>∃j,qf ds.length z=some j/\E.nx (dput ρ i (.o (.lst (ds.set j b.val))))
    | _=>False
  | _=>False
theorem kK {α β:Type}{F:α->β->Prop}{v:α}{d:β}(h:F v d):∀{l:List α} {r:List β} (j:Nat),Paired F l r->Paired F (l.set j v) (r.set j d)
  | _,_,_,.nil=>.nil
  | _,_,0,.cons _ t=>.cons h t
  | _,_,j+1,.cons k t=>.cons k (kK h j t)
noncomputable def bx (i:Nat)(tk te:DT)(f:Int->Int->Int):ir:=λE ρ=>match aI ρ i with
  | some (.o (.lst ds))=>tk (cM ρ) λk=>match k.val with
    | .int z=>∃j m,qf ds.length z=some j/\ds[j]?=some (.int m)/\te (cM ρ) λb=>match b.val with
      | .int n=>E.nx (dput ρ i (.o (.lst (ds.set j (.int (f m n))))))
      | _=>False
    | _=>False
  | _=>False
set_option tactic.hygienic true in
theorem iK {k:Expr}{tk:DT}{tpos:Pos}{op:Operator}{f:Int->Int->Int}(ho:Bp X op (CV f))(h:PS X (.AugAssign (.Subscript (.Name x px) k tpos) op e pos) (Bj (AS i) (cE X.K tk) (cE X.K te) (AK X.K) (CV f) Bh)) :
    DS X (.AugAssign (.Subscript (.Name x px) k tpos) op e pos) (bx i tk te f):=DS.mk λH0 G0 =>
  PS.imp h<|by
    rintro Dn σ H ⟨E,G,ρ,eo,w,en,h⟩;unfold bx at h;split at h
    · rename_i ds q;obtain ⟨a,h1,h2,h3,vs,h4,h5⟩:=en.o i _ q;obtain ⟨G1,w1,sg,e1⟩:=en.freeze w;refine ⟨_,h1,G1,cM ρ,_,w1.gh,e1.p,h,λb v H' G' p' w' r'=>?_⟩;split at p'
      · rename_i z ez;obtain ⟨j,m,hj,hm,p'⟩:=p';obtain ⟨v1,g1,g2⟩:=bA h5 hm;cases g2;have hat:fm vs z=some (.int m):=by
          unfold fm;rw[Paired.length h5,hj];exact g1
        refine ⟨a,vs,z,_,rfl,d8 w' r' ez,d6.of (w'.hh _ _ h4),hat,?_⟩;have w1':=w1.trans w';refine ⟨G',cM ρ,_,w'.gh,gk.mono w'.gg e1.p,p',λb2 v2 H2 G2 p2 w2 r2'=>?_⟩;split at p2
        · rename_i n en2;have w12:=w'.trans w2;refine ⟨m,n,rfl,d8 w2 r2' en2,a,vs,z,j,rfl,d8 w' r' ez,w12.hh _ _ h4,by rw[Paired.length h5];exact hj,?_⟩;exact eo.nx σ _ G _ ((w.back w12).own h2 h3) ((en.back w12.hh).CF q h1 (kK (.int _) j h5)) p2
        · exact p2.elim
      · exact p'.elim
    · exact h.elim
end
noncomputable def yq (g:Tg)(tb:ir)(E:kT)(xs:List D)(ρ:aH):Prop:=∃I:Nat->aH->Prop,I 0 ρ /\
  (∀i d ρ,xs[i]?=some d->I i ρ->g.d d ρ λρ'=>tb { E with nx:=I (i+1),ct:=I (i+1),bk:=E.nx } ρ')/\∀ρ,I xs.length ρ->E.nx ρ
noncomputable def fZ (ti:fc)(g:Tg)(tb:ir):ir:=λE ρ=>ti ρ λxs=>yq g tb E xs ρ
noncomputable def dF (ti:fc)(g:Tg)(tb:ir):ir:=λE ρ=>ti (cM ρ) λxs=>yq g tb E xs (cM ρ)
theorem Wd.base {H0 G0 H9 G9 H G:Hp}(w9:Wd H0 G0 H9 G9)(w:Wd H0 G9 H G):Wd H0 G0 H G:=⟨w.hh,w9.gg.trans w.gg,w.gh,λa h=>by rw[w.old a h,w9.old a h]⟩
noncomputable def cX (K:Frag)(t:ir):TS:=λDn σ H=>∃H0 G0,cS K H0 G0 t Dn σ H
theorem t6.x {sts:List Stmt}(h:t6 X sts t):qv X sts (cX X.K t):=λpins s σ H D I ⟨H0,G0,q⟩=>h.Cv H0 G0 pins s σ H D I q
theorem sC {K:Frag}{H0 G0 G H:Hp}{σ:St}{ρ:aH}{g:Tg}{tb:ir}{J:It}{xs:List D}{E:kT}{Dn:Ends}(eo:qp K H0 G0 E Dn)(w:Wd H0 G0 H G)(en:bC K H0 G H σ ρ)(it:AZ K G J xs)(h:yq g tb E xs ρ) :
    ∃W:Nat->Nat->St->Hp->Prop,(∃m,W 0 m σ H)/\∀i m σ H,W i m σ H ->
      (J.stop i H/\Dn.nx σ H)\/(J.go i H/\∃N:St->Hp->Prop,(∀σ' H',N σ' H'->∃m',m'<m/\W (i+1) m' σ' H')/\∀x H',J.xD i H x H'->g.v K x σ H' λσ2 H2=>cX K tb { Dn with nx:=N,ct:=N,bk:=Dn.nx } σ2 H2):=by
  obtain ⟨I,i0,is,ie⟩:=h;have w0:Wd H0 G H G:=⟨w.hh,aE.refl _,w.gh,λ_ _=>rfl⟩
  refine ⟨λi m σ H=>m=xs.length - i/\i<=xs.length/\∃G' ρ',Wd H0 G H G'/\bC K H0 G' H σ ρ'/\I i ρ',⟨xs.length,by simp,Nat.zero_le _,G,ρ,w0,en,i0⟩,?_⟩;rintro i m σ H ⟨rfl,hi,G',ρ',w',en',p⟩;by_cases hlt:i<xs.length
  · have hx:xs[i]?=some xs[i]:=getElem?_eq_getElem hlt;refine .inr ⟨it.go i _ H G' hx w'.gg w'.gh,λσ2 H2=>∃G2 ρ2,Wd H0 G H2 G2/\bC K H0 G2 H2 σ2 ρ2/\I (i+1) ρ2,by rintro σ2 H2 ⟨G2,ρ2,z⟩;exact ⟨xs.length - (i+1),by lia,rfl,hlt,G2,ρ2,z⟩,λx H2 y=>?_⟩;obtain ⟨G2,w2,r2⟩:=it.xD i _ H G' x H2 hx w'.gg w'.gh y;refine Tg.ok w2.gh (en'.on w2) r2 (is i _ ρ' hx p) λσ3 ρ3 e3 p3=>?_;exact ⟨H0,G,{ E with nx:=I (i+1),ct:=I (i+1),bk:=E.nx },G2,ρ3,⟨λσ4 H4 G4 ρ4 w4 e4 p4=>⟨G4,ρ4,w4,e4,p4⟩,λσ4 H4 G4 ρ4 w4 e4 p4=>eo.nx σ4 H4 G4 ρ4 (w.base w4) e4 p4,λσ4 H4 G4 ρ4 w4 e4 p4=>⟨G4,ρ4,w4,e4,p4⟩,λb v H4 G4 w4 r4 p4=>eo.rt b v H4 G4 (w.base w4) r4 p4⟩,w'.trans w2,e3,p3⟩
  · have e : i = xs.length := by lia
    subst e;exact .inl ⟨it.stop _ H G' rfl w'.gg w'.gh,eo.nx σ H G' ρ' (w.base w') en' (ie ρ' p)⟩
section
variable {tg iter:Expr} {body:List Stmt} {ti:fc} {g:Tg} {tb:ir}
theorem nW (hp:PassesOwn (model X.prog X.w) X.A X.env X.xe)(hc:X.calm=true)(hi:DI X tg iter ti)(hg:PG X tg (g.v X.K))(hb:t6 X body tb)(hs:autoParam (∀x,foldedSetIterable iter X.env x=pure x) aZc._auto_1):DS X (.For tg iter body [] pos) (fZ ti g tb):=DS.mk λH0 G0 =>
  PS.imp (uJ hp hc hi.pi hg hb.x hs) (by rintro Dn σ H ⟨E,G,ρ,eo,w,en,h⟩;exact ⟨G,ρ,_,w.gh,en.p,h,λxs J H' G' p' w' it=>sC eo (w.trans w') (en.on w') it p'⟩)
noncomputable def FL (K:Frag)(t:fc):TI:=λσ H R=>∃(G:Hp) (ρ:aH) (P:List D->Prop),aE G H/\gk K G σ ρ/\t ρ P/\∀xs J H' G',P xs->Wd H G H' G'->(∀G,AZ K G J xs)->R J H'
structure wo (X:Cx)(tg e:Expr)(t:fc):Prop where
  pi:PI X tg e (FL X.K t)
theorem wo.of {e:Expr}{t:TI}{t':fc}(h:PI X tg e t)(i:∀σ H Q,FL X.K t' σ H Q->t σ H Q):wo X tg e t':=⟨PI.imp h i⟩
theorem wo.di {e:Expr}{t:fc}(h:wo X tg e t):DI X tg e t:=DI.of h.pi λσ H R ⟨G,ρ,P,s,re,h,k⟩=>⟨G,ρ,P,s,re,h,λxs J H' G' p' w' it=>k xs J H' G' p' w' (it G')⟩
theorem eV {a:Expr}{t:fc}{p:Pos}(hg:Gl X "range")(hm:X.mg "range" = none)(ha:DA X [a] t)(hs:autoParam (starEach [a] X.env = [(false,eval a X.env)]) aZa._auto_1):wo X tg (.Call (.Name "range" p) [a] [] pos) (bD t):=
  wo.of (xg hg hm ha.pa hs)<|by
    rintro σ H R ⟨G,ρ,P,s,re,h,k⟩;refine ⟨G,ρ,_,s,re,h,λds vs H1 G1 p1 l1 w1 r1=>?_⟩;split at p1
    · obtain ⟨v,rfl,rv⟩:=gK r1;cases rv;exact ⟨_,rfl,p1.1.1,p1.1.2,k _ _ H1 G1 p1.2 w1 λ_=>vI⟩
    · exact p1.elim
theorem su {a b:Expr}{t:fc}{p:Pos}(hg:Gl X "range")(hm:X.mg "range" = none)(ha:DA X [a,b] t)(hs:autoParam (starEach [a,b] X.env = [(false,eval a X.env),(false,eval b X.env)]) aZa._auto_1)(hs2:autoParam (starEach [b] X.env = [(false,eval b X.env)]) aZa._auto_1) :
    wo X tg (.Call (.Name "range" p) [a,b] [] pos) (bE t):=
  wo.of (xh hg hm ha.pa hs hs2)<|by
    rintro σ H R ⟨G,ρ,P,s,re,h,k⟩;refine ⟨G,ρ,_,s,re,h,λds vs H1 G1 p1 l1 w1 r1=>?_⟩;split at p1
    · obtain ⟨v,v',rfl,rv,rv'⟩:=tG r1;cases rv;cases rv';exact ⟨_,_,rfl,p1.1,k _ _ H1 G1 p1.2 w1 λ_=>vI⟩
    · exact p1.elim
noncomputable def cJ (ti:fc)(g:Tg)(tb:ir):ir:=λE ρ=>ti (cM ρ) λxs=>yq g tb E xs ρ
theorem dZ (hp:PassesOwn (model X.prog X.w) X.A X.env X.xe)(hc:X.calm=true)(hi:wo X tg iter ti)(hg:PG X tg (g.v X.K))(hb:t6 X body tb)(hs:autoParam (∀x,foldedSetIterable iter X.env x=pure x) aZc._auto_1):DS X (.For tg iter body [] pos) (cJ ti g tb):=DS.mk λH0 G0 =>
  PS.imp (uJ hp hc hi.pi hg hb.x hs)<|by
    rintro Dn σ H ⟨E,G,ρ,eo,w,en,h⟩;obtain ⟨G1,w1,sg,e1⟩:=en.freeze w;exact ⟨G1,cM ρ,_,w1.gh,e1.p,h,λxs J H' G' p' w' it=>sC eo (w.back w') (en.back w'.hh) (it G) p'⟩
end
end
noncomputable def aM:Nat->List D->aH
  | 0,ds=>ds.map λd=>some (.p d)
  | n+1,[]=>none::aM n []
  | n+1,d::ds=>some (.p d)::aM n ds
theorem g9 {K:Frag}{G:Hp}:∀(n:Nat) {vs:List V} {ds:List D},bw K G vs ds->gk K G (vs.map some++List.replicate (n - vs.length) none) (aM n ds)/\(vs.map some++List.replicate (n - vs.length) (none:Option V)).length=(aM n ds).length/\∀i d,aI (aM n ds) i≠some (.o d)
  | 0,_,_,.nil=>⟨λi d h=>(nomatch (show (none:Option B)=some (.p d) from h)),rfl,λi d h=>(nomatch (show (none:Option B)=some (.o d) from h))⟩
  | 0,_,_,.cons (a:=v) (b:=d) (l₁:=vs) (l₂:=ds) r rr=>by
    obtain ⟨h1,h2,h3⟩:=g9 (K:=K) (G:=G) 0 rr;have e0:aM 0 (d::ds)=some (.p d)::aM 0 ds:=rfl;have e1:(v::vs).map some++List.replicate (0 - (v::vs).length) (none:Option V)=some v::(vs.map some++List.replicate (0 - vs.length) none):=by simp
    rw[e0,e1];refine ⟨λi d' h=>?_,by rw[length_cons,length_cons,h2],λi d' h=>?_⟩
    · cases i with
      | zero=>cases h;exact ⟨v,rfl,r⟩
      | succ i=>exact h1 i d' h
    · cases i with
      | zero=>cases h
      | succ i=>exact h3 i d' h
  | n+1,_,_,.nil=>by
    obtain ⟨h1,h2,h3⟩:=g9 (K:=K) (G:=G) n (vs:=[]) (ds:=[]) .nil;have e1:([]:List V).map some++List.replicate (n+1 - ([]:List V).length) (none:Option V)=none::(([]:List V).map some++List.replicate (n - ([]:List V).length) none):=by simp[List.replicate_succ]
    rw[e1];refine ⟨λi d' h=>?_,by show _=(none::aM n []).length;rw[length_cons,length_cons,h2],λi d' h=>?_⟩
    · cases i with
      | zero=>cases h
      | succ i=>exact h1 i d' h
    · cases i with
      | zero=>cases h
      | succ i=>exact h3 i d' h
  | n+1,_,_,.cons (a:=v) (b:=d) (l₁:=vs) (l₂:=ds) r rr=>by
    obtain ⟨h1,h2,h3⟩:=g9 (K:=K) (G:=G) n rr;have e1:(v::vs).map some++List.replicate (n+1 - (v::vs).length) (none:Option V)=some v::(vs.map some++List.replicate (n - vs.length) none):=by simp
    rw[e1];refine ⟨λi d' h=>?_,by show _=(some (B.p d)::aM n ds).length;rw[length_cons,length_cons,h2],λi d' h=>?_⟩
    · cases i with
      | zero=>cases h;exact ⟨v,rfl,r⟩
      | succ i=>exact h1 i d' h
    · cases i with
      | zero=>cases h
      | succ i=>exact h3 i d' h
theorem iS:∀(n:Nat) (ds:List D) (i:Nat) (b:B),aI (aM n ds) i=some b->∃d,b=.p d
  | 0,[],_,_,h=>by cases h
  | 0,d::ds,0,_,h=>by cases h;exact ⟨_,rfl⟩
  | 0,d::ds,i+1,b,h=>iS 0 ds i b h
  | n+1,[],0,_,h=>by cases h
  | n+1,[],i+1,b,h=>iS n [] i b h
  | n+1,d::ds,0,_,h=>by cases h;exact ⟨_,rfl⟩
  | n+1,d::ds,i+1,b,h=>iS n ds i b h
section
variable {P:Program} {w:World} {K:Frag} {mg:Str->Option Value} {base:Heap}
theorem lU {x qual:Str}{st:Stmt}{f:Addr}{fd:FuncData}{N ps:List Str}{k:Nat}{R:DR}(F:iT K x qual st f fd)(S:aF N ps (ag st))(len:∀ds Q,R ds Q->ds.length=ps.length)
    (hbody:∀(cdv:Value) (A:Around) (outer:List Env) (s:Shared) (H:Hp) (E:XK),fX k (A.deeper (PyProof.Rows.envOfC qual (ag st) s.heap.objs.size f cdv)) ->
      ∃t,t6 (qH gX P w K mg base N qual (ag st) f cdv A outer s H E).Be (av st) t/\∀ds Q,R ds Q->t { nx:=λ_=>Q (.p .non),rt:=Q } (aM N.length ds)):bO P w K mg base gX (k+1) f fd ps (bS K R):=by
  refine F.ok S (by rintro vs H Q E ⟨ds,G,P,s,r,h,_⟩;rw[Paired.length r];exact len ds P h) ?_;rintro cdv A outer s H vs Q E hr ⟨ds,G,P,sg,r,h,k⟩;obtain ⟨t,h1,h2⟩:=hbody cdv A outer s H E hr;obtain ⟨e1,e2,e3⟩:=g9 (K:=K) N.length r;refine ⟨_,h1.Cv H G,_,G,_,?_,Wd.refl sg,bC.only e2 e1 (iS _ _),h2 ds P h⟩;exact ⟨λσ H' G' ρ w' _ p=>k _ _ H' G' p w' (show Rep K G' V.non D.non from .non),λσ H' G' ρ w' _ p=>p.elim,λσ H' G' ρ w' _ p=>p.elim,λb v H' G' w' r' p=>k b v H' G' p w' r'⟩
end
end DL
namespace DL
open PySem L2
section
variable {X:Cx} {tg e:Expr} {te:DT} {pos:Pos} {es:List Expr}
theorem sq {x:Str}{i:Int}(hg:Gl X x)(h:∃t,X.mg x=some (.int i t))(hd:autoParam ((x == ("__debug__" : Str))=false) aZb._auto_1):DE X (.Name x pos) (dC (.int i)):=ya (DZ hg h hd) λ_=>.int i
noncomputable def A4:DR:=λds P=>match ds with
  | [.lst xs]=>∃ns:List Int,xs=ns.map D.int/\ns≠[]/\∀m,m∈ns->(∀n∈ns,n<=m)->P (.p (.int m))
  | _=>False
noncomputable def A5:DR:=λds P=>match ds with
  | [.lst xs]=>∃ns:List Int,xs=ns.map D.int/\ns≠[]/\∀m,m∈ns->(∀n∈ns,m<=n)->P (.p (.int m))
  | _=>False
theorem zI (hc:X.calm=true):CallD X (.builtin "max") A4:=by
  refine ⟨_,wz hc,λH G vs ds P Q s r h k=>?_⟩;unfold A4 at h;split at h
  · obtain ⟨ns,rfl,hn,h⟩:=h;obtain ⟨v,rfl,rv⟩:=gK r;obtain ⟨a,us,rfl,e,rr⟩:=rv.lst_inv;rw[iQ rr] at e;exact ⟨a,ns,rfl,d6.of (s _ _ e),hn,λm h1 h2=>k _ _ H G (h m h1 h2) (Wd.refl s) (.int _)⟩
  · exact h.elim
theorem u5 (hc:X.calm=true):CallD X (.builtin "min") A5:=by
  refine ⟨_,wC hc,λH G vs ds P Q s r h k=>?_⟩;unfold A5 at h;split at h
  · obtain ⟨ns,rfl,hn,h⟩:=h;obtain ⟨v,rfl,rv⟩:=gK r;obtain ⟨a,us,rfl,e,rr⟩:=rv.lst_inv;rw[iQ rr] at e;exact ⟨a,ns,rfl,d6.of (s _ _ e),hn,λm h1 h2=>k _ _ H G (h m h1 h2) (Wd.refl s) (.int _)⟩
  · exact h.elim
theorem A9 {K:Frag}{G:Hp}{Src:Hp->List (List V)->Prop}{rows:List (List V)}{xs:List D}(hs:∀H,aE G H->Src H rows)(r:Paired (λrow d=>∃ds,d=D.tup ds/\bw K G row ds) rows xs):AZ K G (CQ Src) xs where
  go:=λi d H G' e s1 s2=>by
    obtain ⟨row,h1,h2⟩:=bA r e;exact ⟨rows,row,hs H (s1.trans s2),h1⟩
  xD:=λi d H G' x H' e s1 s2 y=>by
    obtain ⟨row,h1,ds,rfl,h2⟩:=bA r e;obtain ⟨row',p,h3,h4,rfl,rfl⟩:=y rows (hs H (s1.trans s2));rw[h1] at h3;cases h3;exact ⟨_,(Wd.refl s2).new h4,Rep.uN bf (bw.mono (iR (s2.free h4)) (bw.mono s1 h2))⟩
  stop:=λi H G' hi s1 s2=>⟨rows,hs H (s1.trans s2),by rw[Paired.length r,hi]⟩
noncomputable def cY:Nat->List D->List D
  | _,[]=>[]
  | k,x::xs=>.tup [.int (k:Nat),x]::cY (k+1) xs
theorem i9:∀(k:Nat) (xs:List D),(cY k xs).length=xs.length
  | _,[]=>rfl
  | k,x::xs=>by show (cY (k+1) xs).length+1=_;rw[i9];rfl
theorem i8:∀{k:Nat} {xs:List D} {i:Nat} {d:D},(cY k xs)[i]?=some d->∃x,xs[i]?=some x/\d=.tup [.int ((k+i:Nat):Int),x]
  | _,[],_,_,h=>by simp[cY] at h
  | k,x::xs,0,d,h=>⟨x,rfl,by simpa [cY] using h.symm⟩
  | k,x::xs,i+1,d,h=>by
    have h':(cY (k+1) xs)[i]?=some d:=by simpa [cY] using h
    obtain ⟨y,h1,h2⟩:=i8 h';exact ⟨y,by simpa using h1,by rw[h2];congr 3;lia⟩
noncomputable def ao (t:fc):fc:=λρ P=>t ρ λds=>match ds with
  | [.lst xs]=>P (cY 0 xs)
  | _=>False
theorem xn {K:Frag}{G:Hp}{vs:List V}{ds:List D}(r:bw K G vs ds):Paired (λrow d=>∃ds,d=D.tup ds/\bw K G row ds) (iM vs) (cY 0 ds):=by
  refine aD (by rw[lC,i9,Paired.length r]) λi row d h1 h2=>?_;obtain ⟨x,h3,rfl⟩:=i8 h2;obtain ⟨v,h4,h5⟩:=bA r h3;rw[lB h4] at h1;cases h1;exact ⟨_,rfl,.cons (by rw[Nat.zero_add];exact .int _) (.cons h5 .nil)⟩
theorem qP {elts:List Expr}{kx:Nat}{tpos:Pos}{l:Expr}{t:fc}{p:Pos}(hg:Gl X "enumerate")(hm:X.mg "enumerate" = none)(ha:DA X [l] t)(hs:autoParam (starEach [l] X.env = [(false,eval l X.env)]) aZa._auto_1):DI X (.Tuple elts kx tpos) (.Call (.Name "enumerate" p) [l] [] pos) (ao t):=
  DI.of (Az hg hm ha.pa hs)<|by
    rintro σ H R ⟨G,ρ,P,s,re,h,k⟩;refine ⟨G,ρ,_,s,re,h,λds vs H1 G1 p1 l1 w1 r1=>?_⟩;split at p1
    · obtain ⟨v,rfl,rv⟩:=gK r1;obtain ⟨a,us,rfl,e,rr⟩:=rv.lst_inv;exact ⟨a,us,rfl,w1.gh _ _ e,k _ _ H1 G1 p1 w1 (A9 (λH s=>⟨us,s _ _ e,rfl⟩) (xn rr))⟩
    · exact p1.elim
noncomputable def tU (xs ys:List D):List D:=(xs.zip ys).map λp=>.tup [p.1,p.2]
noncomputable def aS (t:fc):fc:=λρ P=>t ρ λds=>match ds with
  | [.lst xs,.lst ys]=>P (tU xs ys)
  | _=>False
theorem tJ {K:Frag}{G:Hp}:∀{vs us:List V} {ds es:List D},bw K G vs ds->bw K G us es->Paired (λrow d=>∃ds,d=D.tup ds/\bw K G row ds) (j9 vs us) (tU ds es)
  | _,_,_,_,.nil,_=>.nil
  | _,_,_,_,.cons _ _,.nil=>.nil
  | _,_,_,_,.cons h t,.cons h' t'=>.cons ⟨_,rfl,.cons h (.cons h' .nil)⟩ (tJ t t')
theorem jA {elts:List Expr}{kx:Nat}{tpos:Pos}{l l2:Expr}{t:fc}{p:Pos}(hg:Gl X "zip")(hm:X.mg "zip" = none)(ha:DA X [l,l2] t)(hs:autoParam (starEach [l,l2] X.env = [(false,eval l X.env),(false,eval l2 X.env)]) aZa._auto_1)(hs2:autoParam (starEach [l2] X.env = [(false,eval l2 X.env)]) aZa._auto_1):DI X (.Tuple elts kx tpos) (.Call (.Name "zip" p) [l,l2] [] pos) (aS t):=
  DI.of (Co hg hm ha.pa hs hs2)<|by
    rintro σ H R ⟨G,ρ,P,s,re,h,k⟩;refine ⟨G,ρ,_,s,re,h,λds vs H1 G1 p1 l1 w1 r1=>?_⟩;split at p1
    · obtain ⟨v,v',rfl,rv,rv'⟩:=tG r1;obtain ⟨a,us,rfl,e,rr⟩:=rv.lst_inv;obtain ⟨a',us',rfl,e',rr'⟩:=rv'.lst_inv;exact ⟨a,a',us,us',rfl,w1.gh _ _ e,w1.gh _ _ e',k _ _ H1 G1 p1 w1 (A9 (λH s=>⟨us,us',s _ _ e,s _ _ e',rfl⟩) (tJ rr rr'))⟩
    · exact p1.elim
theorem kJ {α β:Type}{F:α->β->Prop}:∀{l:List α} {r:List β},Paired F l r->Paired F l.reverse r.reverse
  | _,_,.nil=>.nil
  | _,_,.cons h t=>by rw[List.reverse_cons,List.reverse_cons];exact Paired.snoc (kJ t) h
noncomputable def ar (t:fc):fc:=λρ P=>t ρ λds=>match ds with
  | [.lst xs]=>P xs.reverse
  | _=>False
noncomputable def kE (a:Int)(n:Nat):List D:=(List.range n).map λi=>D.int (a+(i:Nat)*(-1))
theorem hX {a:Int}{n i:Nat}{d:D}(h:(kE a n)[i]?=some d):i<n/\d=.int (a+(i:Nat)*(-1)):=by
  unfold kE at h;rw[getElem?_map] at h;by_cases hi:i<n
  · rw[List.getElem?_range hi] at h;exact ⟨hi,(Option.some.inj h).symm⟩
  · rw [List.getElem?_eq_none (by simpa using hi)] at h;cases h
theorem i5 (a:Int)(n:Nat):(kE a n).length=n:=by unfold kE;simp
theorem vH {K:Frag}{G:Hp}{a:Int}{n:Nat}:AZ K G (C5 a (-1) n) (kE a n) where
  go:=λi d H G' e s1 s2=>(hX e).1
  xD:= by
    rintro i d H G' x H' e s1 s2 ⟨eH,y⟩;obtain ⟨h1,rfl⟩:=hX e;subst eH;subst y;exact ⟨G',Wd.refl s2,.int _⟩
  stop:=λi H G' hi s1 s2=>by rw[i5] at hi;rw[hi];exact Nat.le_refl n
noncomputable def aR (t:fc):fc:=λρ P=>t ρ λds=>match ds with
  | [.int j]=>(0<=j/\j<2 ^ 62)/\P (kE (j - 1) j.toNat)
  | _=>False
set_option tactic.hygienic true in
theorem wJ {a:Expr}{t:fc}{p p' pos':Pos}(hg:Gl X "range")(hm:X.mg "range" = none)(hg2:Gl X "reversed")(hm2:X.mg "reversed" = none)(ha:DA X [a] t)
    (he:autoParam (starEach (a::[]) X.env=(false,eval a X.env)::starEach [] X.env) aZa._auto_1) (hpl:autoParam ((backTo pos' (starEach [] X.env)).any (·.1)=false) aZa._auto_1)
    (hs:autoParam (starEach [Expr.Call (.Name "range" p') [a] [] pos'] X.env = [(false,eval (Expr.Call (.Name "range" p') [a] [] pos') X.env)]) aZa._auto_1) :
    wo X tg (.Call (.Name "reversed" p) [.Call (.Name "range" p') [a] [] pos'] [] pos) (aR t):=
  wo.of (Cn hg2 hm2 (br (mF mP hg hm PyProof.Rows.boot_range ha.pa (he:=he) (hpl:=hpl)) gS (by rw[hs];rfl)) hs)<|by
    rintro σ H R ⟨G,ρ,P,s,re,h,k⟩;refine ⟨G,ρ,_,s,re,h,λds vs H1 G1 p1 l1 w1 r1=>?_⟩;split at p1
    · rename_i j;obtain ⟨v,rfl,rv⟩:=gK r1;cases rv;refine ⟨j,rfl,λp hp=>⟨p,0,j,rfl,bf,⟨by decide,by decide,by have:=p1.1.1;lia,p1.1.2⟩,p1.1.1,?_⟩⟩;rw[show j - 0=j by lia];exact k _ _ _ G1 p1.2 (w1.own (w1.hh.free hp) (w1.gh.free hp)) λ_=>vH
    · exact p1.elim
end
end DL
namespace DL
open PySem L2
noncomputable def Eh (K:Frag):Sp:=λvs H Q _=>∃(a:Addr) (ns:List Int),vs = [.ref a]/\d6 K H a (ns.map V.int)/\ns.length<=63/\∀H',Q (.bl true) H'
noncomputable def Bi:DR:=λds P=>∃ns:List Int,ds = [.scr ns]/\ns.length<=63/\P (.p (.bl true))
theorem mG {P P':aH->Prop}(i:∀ρ,P ρ->P' ρ):∀{is:List Nat} {ds:List D} {ρ:aH},putN is ds ρ P->putN is ds ρ P'
  | [],[],ρ,h=>i ρ h
  | _::is,_::ds,_,h=>mG i (is:=is) (ds:=ds) h
  | [],_::_,_,h=>h.elim
  | _::_,[],_,h=>h.elim
theorem ze {g:Tg}{d:D}{ρ:aH}{P P':aH->Prop}(h:g.d d ρ P)(i:∀ρ,P ρ->P' ρ):g.d d ρ P':=by
  cases g with
  | n j=>exact i _ h
  | t is =>
    cases d with
    | tup ds=>exact mG i h
    | non=>exact h
    | bl _=>exact h
    | int _=>exact h
    | str _=>exact h
    | lst ds=>exact mG i h
    | scr _=>exact h
    | dct _=>exact h
    | sen _=>exact h
    | ext _=>exact h
theorem ox {α β:Type}{f:α->β}:∀{xs:List α} {os:List β},Paired (λx o=>o=f x) xs os->os=xs.map f
  | _,_,.nil=>rfl
  | _,_,.cons h t=>by rw[h,ox t];rfl
theorem lD {α β:Type}(f:α->Option β):∀xs:List α,(xs.map f).filterMap id=xs.filterMap f
  | []=>rfl
  | x::xs=>by
    rw[map_cons,filterMap_cons,filterMap_cons,lD f xs];rfl
theorem filterMap_some {α β:Type}(f:α->β):∀xs:List α,xs.filterMap (λx=>some (f x))=xs.map f
  | []=>rfl
  | x::xs=>by rw[filterMap_cons,filterMap_some f xs];rfl
theorem yH {xs:List D}{g:Tg}{tc:jR}{te:DT}{ρ:aH}{Q:B->Prop}(f:D->Option D)(hz:xs.length<=1000000)(h:∀x∈xs,g.d x ρ λρ'=>tc ρ' λc=>(c=true->te ρ' λb=>some b.val=f x)/\(c=false->none=f x))(q:Q (.o (.lst (xs.filterMap f)))) :
    CW xs g tc te ρ Q:=by
  refine ⟨by have:sizeLine=16777216:=sizeLine_eq;lia,λx o=>o=f x,h,λos ho=>?_⟩;rw[ox ho,lD];exact q
theorem oe {xs:List D}{g:Tg}{te:DT}{ρ:aH}{Q:B->Prop}(f:D->D)(hz:xs.length<=1000000)(h:∀x∈xs,g.d x ρ λρ'=>te ρ' λb=>some b.val=some (f x))(q:Q (.o (.lst (xs.map f)))) :
    CW xs g aU te ρ Q:=
  yH (λx=>some (f x)) hz (λx hx=>ze (h x hx) λρ' z=>⟨λ_=>z,λe=>nomatch e⟩) (by rw[filterMap_some];exact q)
theorem bR {g:Tg}{tb:ir}{E:kT}{xs:List D}{ρ:aH}(I:Nat->aH->Prop)(h0:I 0 ρ)(hs:∀i x ρ,xs[i]?=some x->I i ρ->g.d x ρ λρ'=>tb { E with nx:=I (i+1),ct:=I (i+1),bk:=E.nx } ρ')(hd:∀ρ,I xs.length ρ->E.nx ρ):yq g tb E xs ρ:=⟨I,h0,hs,hd⟩
theorem nX (n:Nat)(f:Nat->D):cY 0 ((List.range n).map f)=(List.range n).map λi=>D.tup [.int (i:Nat),f i]:=by
  refine List.ext_getElem? λi=>?_;have hl:(cY 0 ((List.range n).map f)).length=n:=by rw[i9];simp
  by_cases h:i<n
  · have e := getElem?_eq_getElem (show i < (cY 0 ((List.range n).map f)).length by lia);obtain ⟨y,h1,h2⟩:=i8 e;rw[getElem?_map,List.getElem?_range h] at h1;cases h1;rw[e,h2,getElem?_map,List.getElem?_range h,Nat.zero_add];rfl
  · rw[List.getElem?_eq_none (by lia),List.getElem?_eq_none (by simpa using h)]
theorem eY {ns:List Int}{P:B->Prop}(h:P (.p (.int ns.sum))):BF [.lst (ns.map D.int)] P:=⟨ns,rfl,h⟩
theorem uy {lo:Int}{n:Nat}{x:D}(h:x∈ik lo n):∃i:Nat,i<n/\x=.int (lo+(i:Nat)):=by
  unfold ik at h;obtain ⟨i,hi,e⟩:=mem_map.mp h;exact ⟨i,mem_range.mp hi,e.symm⟩
end DL
namespace Tim
open PySem PyProof.Rows
theorem CB {α:Type}{R:α->α->Prop}:∀{l:List α},l.length<2->l.Pairwise R
  | [],_=>.nil
  | [_],_=>List.pairwise_singleton _ _
section
variable {prog:Program} {w:World} {A:Around} {E:Value->Shared->Prop} {s:Shared}
end
end Tim
namespace Tim
open PySem PyProof.Rows
structure Ord (Dm:Keyed->Prop)(R:Keyed->Keyed->Bool):Prop where
  tr:∀x y z,Dm x->Dm y->Dm z->R y x=false->R z y=false->R z x=false
  Gk:∀x y,Dm x->Dm y->R x y=true->R y x=false
noncomputable def zu (R:Keyed->Keyed->Bool)(l:List Keyed):Prop:=l.Pairwise λx y=>R y x=false
structure MI (R:Keyed->Keyed->Bool)(la lb:List Keyed)(out:List Keyed)(ia ib:Nat):Prop where
  perm:out.Perm (la.take ia++lb.take ib)
  FO:zu R out
  Gm:∀x∈out,∀y∈la.drop ia++lb.drop ib,R y x=false
section
variable {R:Keyed->Keyed->Bool} {la lb out:List Keyed} {ia ib:Nat}
end
noncomputable def Good (R:Keyed->Keyed->Bool)(a b out:Array Keyed):Prop:=out.toList.Perm (a.toList++b.toList)/\zu R out.toList
section
variable {R:Keyed->Keyed->Bool} {a b out:Array Keyed} {ia ib:Nat}
end
end Tim
namespace Tim
open PySem PyProof.Rows
section
variable {Ask:Keyed->Keyed->Prop} {Dm:Keyed->Prop} {R:Keyed->Keyed->Bool}
structure Pre (Ask:Keyed->Keyed->Prop)(Dm:Keyed->Prop)(R:Keyed->Keyed->Bool)(a b:Array Keyed):Prop where
  o:Ord Dm R
  da:∀x∈a.toList,Dm x
  db:∀x∈b.toList,Dm x
  sa:zu R a.toList
  sb:zu R b.toList
  fst:∀x∈a.toList,∀y,b[0]?=some y->R y x=true
  lst:∀y∈b.toList,∀z,a[a.size - 1]?=some z->R y z=true
  ask:∀x∈a.toList,∀y∈b.toList,Ask y x
  na:0<a.size
  nb:0<b.size
variable {a b out:Array Keyed} {ia ib:Nat} {x y:Keyed}
end
section
variable {prog:Program} {w:World} {A:Around} {E:Value->Shared->Prop} {s:Shared}
theorem tT {arr:Array Keyed}{i:Nat}{p:Keyed}{st:SortSt}{Q:Keyed->SortSt->Prop}(h:arr[i]?=some p)(hq:Q p st):wpS (model prog w) A E s (elem' arr i) Q st:=by
  rw[elem'_eq,h];exact wpS_pure hq
noncomputable def xH (prog:Program)(w:World)(A:Around)(E:Value->Shared->Prop)(s:Shared)(Dm:Keyed->Prop)(R:Keyed->Keyed->Bool)(κ:SortKind)(Ask:Keyed->Keyed->Prop):Prop:=
  ∀(x y:Keyed) (st:SortSt) (Q:Option Bool->SortSt->Prop),Dm x->Dm y->Ask x y->kindOf st=κ->Q (some (R x y)) st->wpS (model prog w) A E s (lt' x y) Q st
variable {Ask:Keyed->Keyed->Prop} {Dm:Keyed->Prop} {R:Keyed->Keyed->Bool} {κ:SortKind}
end
end Tim
namespace Tim
open PySem PyProof.Rows
section
variable {prog:Program} {w:World} {A:Around} {E:Value->Shared->Prop} {s:Shared}
variable {Ask:Keyed->Keyed->Prop} {Dm:Keyed->Prop} {R:Keyed->Keyed->Bool} {κ:SortKind}
noncomputable abbrev FV:=Option (Array Keyed)×Array Keyed×Nat×Nat×Nat×Nat×Nat
section
variable {a b out:Array Keyed} {ia ib g k k1 bc ac n0:Nat} {st:SortSt} {Q:ForInStep FV->SortSt->Prop}
end
section
variable {a b:Array Keyed} {st:SortSt}
end
end
end Tim
namespace Tim
open PySem PyProof.Rows
section
variable {Ask:Keyed->Keyed->Prop} {Dm:Keyed->Prop} {R:Keyed->Keyed->Bool}
variable {a b out:Array Keyed} {na nb:Nat} {x y:Keyed}
end
end Tim
namespace Tim
open PySem PyProof.Rows
section
variable {prog:Program} {w:World} {A:Around} {E:Value->Shared->Prop} {s:Shared}
variable {Ask:Keyed->Keyed->Prop} {Dm:Keyed->Prop} {R:Keyed->Keyed->Bool} {κ:SortKind}
noncomputable abbrev FT:=Option (Array Keyed)×Nat×Nat×Array Keyed×Nat×Nat×Nat
section
variable {a b out:Array Keyed} {na nb g k k1 bc ac n0:Nat} {st:SortSt} {Q:ForInStep FT->SortSt->Prop}
end
section
variable {a b:Array Keyed} {st:SortSt}
end
end
end Tim
namespace Tim
open PySem PyProof.Rows
section
variable {Ask:Keyed->Keyed->Prop} {Dm:Keyed->Prop} {R:Keyed->Keyed->Bool}
noncomputable def seg (l:List Keyed)(s n:Nat):List Keyed:=(l.drop s).take n
theorem seg_at {l:List Keyed}{s n i:Nat}(h:i<n):(seg l s n)[i]?=l[s+i]?:=by
  unfold seg;rw[List.getElem?_take_of_lt h,List.getElem?_drop]
theorem mU {l:List Keyed}{s n i:Nat}{x:Keyed}(h:(seg l s n)[i]?=some x):i<n/\l[s+i]?=some x:=by
  have:i<n:=by
    have:=(List.getElem?_eq_some_iff.mp h).1;unfold seg at this;rw[length_take] at this;lia
  exact ⟨this,by rw[<-seg_at this];exact h⟩
variable {prog:Program} {w:World} {A:Around} {E:Value->Shared->Prop} {s:Shared} {κ:SortKind}
end
end Tim
namespace Tim
open PySem PyProof.Rows
section
variable {prog:Program} {w:World} {A:Around} {E:Value->Shared->Prop} {s:Shared}
variable {Ask:Keyed->Keyed->Prop} {Dm:Keyed->Prop} {rk:Keyed->Int} {κ:SortKind}
noncomputable def kc (rk:Keyed->Int):Keyed->Keyed->Bool:=λx y=>decide (rk x<rk y)
noncomputable def Kr (rk:Keyed->Int)(xs:Array Keyed)(i:Nat):Int:=match xs[i]? with
  | some p=>rk p
  | none=>0
theorem gI {xs ys:Array Keyed}{i j:Nat}(h:xs[i]?=ys[j]?):Kr rk xs i=Kr rk ys j:=by unfold Kr;rw[h]
theorem iU {xs:Array Keyed}{i:Nat}{x:Keyed}(h:xs[i]?=some x):Kr rk xs i=rk x:=by unfold Kr;rw[h]
set_option tactic.hygienic true in
theorem dQ {xs:Array Keyed}{i j:Nat}(hj:j<=xs.size)(k:Nat):Kr rk (mirror xs i j ((j - i) / 2)) k=if i<=k/\k<j then Kr rk xs (i+j - 1 - k) else Kr rk xs k:=by
  have e:=getElem?_mirror_all (i:=i) hj k;split
  · rename_i c;rw[if_pos c] at e;exact gI e
  · rename_i c;rw[if_neg c] at e;exact gI e
structure Bs (κ:SortKind)(xs:Array Keyed)(p:Array (Nat×Nat×Nat))(lo:Nat)(st:SortSt):Prop where
  perm:(arrOf st).Perm xs
  kind:kindOf st=κ
  failed:failedOf st=none
  pend:pendingOf st=p
  low:∀i,i<lo->(arrOf st)[i]?=xs[i]?
variable {xs:Array Keyed} {p:Array (Nat×Nat×Nat)} {lo:Nat}
theorem Bs.size {st:SortSt}(B:Bs κ xs p lo st):(arrOf st).size=xs.size:=B.perm.size_eq
theorem Bs.mirror {st:SortSt}(B:Bs κ xs p lo st){i j:Nat}(h:lo<=i)(hj:j<=xs.size):Bs κ xs p lo (setArr st (mirror (arrOf st) i j ((j - i) / 2))):=
  ⟨(mirror_perm _ _ _ _).trans B.perm,B.kind,B.failed,B.pend,λk hk=>by
    show (PyProof.Rows.mirror (arrOf st) i j ((j - i) / 2))[k]?=_;rw[getElem?_mirror_all (by rw[B.size];exact hj),if_neg (by lia)];exact B.low k hk⟩
theorem Bs.bubble {st:SortSt}(B:Bs κ xs p lo st){k d:Nat}(hk:k<xs.size)(h:lo+d<=k):Bs κ xs p lo (setArr st (bubble (arrOf st) k d)):=
  ⟨(bubble_perm _ _ _).trans B.perm,B.kind,B.failed,B.pend,λi hi=>by
    show (PyProof.Rows.bubble (arrOf st) k d)[i]?=_;rw[getElem?_bubble (by rw[B.size];exact hk) d (by lia),if_neg (by lia),if_neg (by lia)];exact B.low i hi⟩
theorem Bs.lt (L:xH prog w A E s Dm (kc rk) κ λ_ _=>True)(D:∀x∈xs.toList,Dm x){st:SortSt}(B:Bs κ xs p lo st){i j:Nat}(hi:i<xs.size)(hj:j<xs.size){Q:Option Bool->SortSt->Prop}(h:Q (some (decide (Kr rk (arrOf st) i<Kr rk (arrOf st) j))) st):wpS (model prog w) A E s (ltAt' i j) Q st:=by
  have at_:∀k,k<xs.size->∃x,(arrOf st)[k]?=some x/\Dm x:=λk hk=>by
    have hk':k<(arrOf st).size:=by rw[B.size];exact hk
    exact ⟨(arrOf st)[k],Array.getElem?_eq_getElem hk',D _ ((Array.perm_iff_toList_perm.mp B.perm).mem_iff.mp (by simp))⟩
  obtain ⟨x,hx,dx⟩:=at_ i hi;obtain ⟨y,hy,dy⟩:=at_ j hj;rw[ltAt'_eq];refine wpS_bind (wpS_get ?_);refine wpS_bind (tT hx (wpS_bind (tT hy (L x y st _ dx dy trivial B.kind ?_))));rw[iU hx,iU hy] at h;exact h
noncomputable def Up (rk:Keyed->Int)(lo:Nat)(xs:Array Keyed)(n:Nat):Prop:=∀i j,i<=j->j<n->Kr rk xs (lo+i)<=Kr rk xs (lo+j)
noncomputable def Dn (rk:Keyed->Int)(lo:Nat)(xs:Array Keyed)(n:Nat):Prop:=∀i j,i<=j->j<n->Kr rk xs (lo+j)<=Kr rk xs (lo+i)
theorem Up.step {ys:Array Keyed}{n:Nat}(h:Up rk lo ys n)(h1:1<=n)(hl:¬Kr rk ys (lo+n)<Kr rk ys (lo+n - 1)):Up rk lo ys (n+1):=λi j hij hj=>by
  by_cases c:j<n
  · exact h i j hij c
  · have e : j = n := by lia
    subst e;by_cases c2:i=j
    · subst c2;exact Int.le_refl _
    · have := h i (j - 1) (by lia) (by lia);rw[show lo+(j - 1)=lo+j - 1 by lia] at this;lia
theorem Dn.rev {ys:Array Keyed}{n:Nat}(h:Dn rk lo ys n)(hn:lo+n<=ys.size):Up rk lo (mirror ys lo (lo+n) ((lo+n - lo) / 2)) n:=λi j hij hj=>by
  rw[dQ hn,dQ hn,if_pos (by lia),if_pos (by lia)];have:=h (n - 1 - j) (n - 1 - i) (by lia) (by lia);rw[show lo+(n - 1 - j)=lo+(lo+n) - 1 - (lo+j) by lia,show lo+(n - 1 - i)=lo+(lo+n) - 1 - (lo+i) by lia] at this;exact this
theorem Up.one {ys:Array Keyed}:Up rk lo ys 1:=λi j hij hj=>by
  have e1:i=0:=by lia
  have e2:j=0:=by lia
  subst e1 e2;exact Int.le_refl _
theorem Dn.one {ys:Array Keyed}:Dn rk lo ys 1:=λi j hij hj=>by
  have e1:i=0:=by lia
  have e2:j=0:=by lia
  subst e1 e2;exact Int.le_refl _
noncomputable def jx (rk ix:Keyed->Int)(N:Int):Keyed->Int:=λx=>rk x*N+ix x
variable {ix:Keyed->Int} {N:Int}
theorem zr (xs:Array Keyed)(k:Nat):Kr (jx rk ix N) xs k=Kr rk xs k*N+Kr ix xs k:=by
  unfold Kr jx;cases xs[k]? with
  | some p=>rfl
  | none=>simp
theorem jZ {a b i j:Int}(h:a<b)(hi:i<N)(hj:0<=j)(hN:0<=N):a*N+i<b*N+j:=by
  have:(a+1)*N<=b*N:=Int.mul_le_mul_of_nonneg_right (by lia) hN;rw[Int.add_mul,Int.one_mul] at this;lia
noncomputable def qr (ix:Keyed->Int)(lo:Nat)(xs:Array Keyed)(n:Nat):Prop:=∀i,i<n->(lo:Int)<=Kr ix xs (lo+i)/\Kr ix xs (lo+i)<(lo:Int)+n
noncomputable def zt (ix:Keyed->Int)(N:Int)(xs:Array Keyed)(k:Nat):Prop:=∀j,k<=j->j<xs.size->Kr ix xs j=j/\(j:Int)<N
noncomputable def Kept (xs ys:Array Keyed)(k:Nat):Prop:=∀j,k<=j->ys[j]?=xs[j]?
theorem qr.EF {ys:Array Keyed}{n a b:Nat}(h:qr ix lo ys n)(ha:lo<=a)(hb:b<=lo+n)(hz:b<=ys.size):qr ix lo (mirror ys a b ((b - a) / 2)) n:=λi hi=>by
  rw[dQ hz];split
  · have := h (a + b - 1 - (lo + i) - lo) (by lia);rw[show lo+(a+b - 1 - (lo+i) - lo)=a+b - 1 - (lo+i) by lia] at this;exact this
  · exact h i hi
theorem Kept.EF {xs ys:Array Keyed}{k a b:Nat}(h:Kept xs ys k)(hb:b<=k)(hz:b<=ys.size):Kept xs (mirror ys a b ((b - a) / 2)) k:=λj hj=>by
  rw[getElem?_mirror_all hz,if_neg (by lia)];exact h j hj
structure Ds (rk ix:Keyed->Int)(N:Int)(lo:Nat)(xs ys:Array Keyed)(t x:Nat):Prop where
  tx:t<x
  pre:Dn (jx rk ix N) lo ys t
  low:∀i,i<t->Kr rk ys (lo+t)<Kr rk ys (lo+i)
  eq:∀i,t<=i->i<x->Kr rk ys (lo+i)=Kr rk ys (lo+t)
  CZ:Kept xs ys (lo+t)
  E7:qr ix lo ys t
theorem Ds.flush {ys:Array Keyed}{t x:Nat}(h:Ds rk ix N lo xs ys t x)(o:zt ix N xs lo)(hz:lo+x<=ys.size)(he:ys.size=xs.size) :
    Dn (jx rk ix N) lo (mirror ys (lo+t) (lo+x) ((lo+x - (lo+t)) / 2)) x/\qr ix lo (mirror ys (lo+t) (lo+x) ((lo+x - (lo+t)) / 2)) x/\Kept xs (mirror ys (lo+t) (lo+x) ((lo+x - (lo+t)) / 2)) (lo+x)/\∀i,i<x->Kr rk ys (lo+t)<=Kr rk (mirror ys (lo+t) (lo+x) ((lo+x - (lo+t)) / 2)) (lo+i):=by
  have htx:=h.tx;have io:∀i,t<=i->i<x->Kr ix ys (lo+i)=(lo:Int)+i/\(lo:Int)+i<N:=λi h1 h2=>by
    have:=o (lo+i) (by lia) (by lia);rw[gI (h.CZ (lo+i) (by lia))];constructor
    · rw[this.1];lia
    · have:=this.2;lia
  have hN:0<=N:=by have:=(io t (Nat.le_refl _) htx).2;lia
  have inx:qr ix lo ys x:=λi hi=>by
    by_cases c:i<t
    · have:=h.E7 i c;lia
    · have:=(io i (by lia) hi).1;lia
  have up:∀i,i<x->Kr rk ys (lo+t)<=Kr rk ys (lo+i):=λi hi=>by
    by_cases c:i<t
    · exact Int.le_of_lt (h.low i c)
    · rw[h.eq i (by lia) hi];exact Int.le_refl _
  refine ⟨λi j hij hj=>?_,inx.EF (by lia) (Nat.le_refl _) hz,λj hj=>?_,λi hi=>?_⟩
  · rw[zr,zr,dQ hz,dQ hz,dQ hz,dQ hz];by_cases cj:j<t
    · rw [if_neg (by lia), if_neg (by lia), if_neg (by lia), if_neg (by lia), <- zr, <- zr];exact h.pre i j hij cj
    · rw [if_pos (by lia), if_pos (by lia)];have ej:lo+t+(lo+x) - 1 - (lo+j)=lo+(t+x - 1 - j):=by lia
      rw[ej,h.eq (t+x - 1 - j) (by lia) (by lia),(io (t+x - 1 - j) (by lia) (by lia)).1];by_cases ci:i<t
      · rw [if_neg (by lia), if_neg (by lia)];have:=h.E7 i ci;exact Int.le_of_lt (jZ (h.low i ci) (io (t+x - 1 - j) (by lia) (by lia)).2 (by lia) hN)
      · rw [if_pos (by lia), if_pos (by lia)];have ei:lo+t+(lo+x) - 1 - (lo+i)=lo+(t+x - 1 - i):=by lia
        rw[ei,h.eq (t+x - 1 - i) (by lia) (by lia),(io (t+x - 1 - i) (by lia) (by lia)).1];lia
  · rw [getElem?_mirror_all hz, if_neg (by lia)];exact h.CZ j (by lia)
  · rw[dQ hz];split
    · have := up (lo + t + (lo + x) - 1 - (lo + i) - lo) (by lia);rw[show lo+(lo+t+(lo+x) - 1 - (lo+i) - lo)=lo+t+(lo+x) - 1 - (lo+i) by lia] at this;exact this
    · exact up i hi
theorem Ds.next {ys:Array Keyed}{x:Nat}(d:Dn (jx rk ix N) lo ys x)(n:qr ix lo ys x)(k:Kept xs ys (lo+x))(l:∀i,i<x->Kr rk ys (lo+x)<Kr rk ys (lo+i)):Ds rk ix N lo xs ys x (x+1):=
  ⟨by lia,d,l,λi h1 h2=>by rw[show i=x by lia],k,n⟩
theorem Up.E1 {n:Nat}(h:Up rk lo xs n)(o:zt ix N xs lo)(hz:lo+n<=xs.size):Up (jx rk ix N) lo xs n:=λi j hij hj=>by
  have h1:=h i j hij hj;have oi:=o (lo+i) (by lia) (by lia);have oj:=o (lo+j) (by lia) (by lia);rw[zr,zr];by_cases c:Kr rk xs (lo+i)<Kr rk xs (lo+j)
  · exact Int.le_of_lt (jZ c (by rw[oi.1];exact oi.2) (by rw[oj.1];lia) (by lia))
  · rw [show Kr rk xs (lo + i) = Kr rk xs (lo + j) by lia, oi.1, oj.1];lia
theorem qr.CZ {n:Nat}(o:zt ix N xs lo)(hz:lo+n<=xs.size):qr ix lo xs n:=λi hi=>by
  have:=(o (lo+i) (by lia) (by lia)).1;lia
theorem Up.grow {ys:Array Keyed}{n:Nat}(h:Up (jx rk ix N) lo ys n)(h1:1<=n)(hi:qr ix lo ys n)(hk:Kept xs ys (lo+n))(o:zt ix N xs lo)(hz:lo+n<xs.size)(hl:¬Kr rk ys (lo+n)<Kr rk ys (lo+n - 1)):Up (jx rk ix N) lo ys (n+1)/\qr ix lo ys (n+1)/\Kept xs ys (lo+(n+1)):=by
  have on:=o (lo+n) (by lia) hz;rw[<-gI (hk (lo+n) (Nat.le_refl _))] at on;have il:=hi (n - 1) (by lia);rw[show lo+(n - 1)=lo+n - 1 by lia] at il;refine ⟨h.step h1 λz=>?_,λi hi'=>?_,λj hj=>hk j (by lia)⟩
  · rw[zr,zr] at z;by_cases c:Kr rk ys (lo+n - 1)<Kr rk ys (lo+n)
    · have := jZ (N := N) c (i := Kr ix ys (lo + n - 1)) (j := Kr ix ys (lo + n)) (by lia) (by lia) (by lia);lia
    · rw [show Kr rk ys (lo + n) = Kr rk ys (lo + n - 1) by lia] at z;lia
  · by_cases c:i<n
    · have:=hi i c;lia
    · rw[show i=n by lia,on.1];lia
theorem om (ys:Array Keyed)(a:Nat):mirror ys a (a+1) ((a+1 - a) / 2)=ys:=by
  rw[show (a+1 - a) / 2=0 by lia];rfl
set_option tactic.hygienic true in
theorem qG (L:xH prog w A E s Dm (kc rk) κ λ_ _=>True)(D:∀x∈xs.toList,Dm x){st:SortSt}(B:Bs κ xs p lo st)(hx0:arrOf st=xs)(o:zt ix N xs lo){nrem:Nat}(h1:1<=nrem)(h2:lo+nrem<=xs.size){Q:Option Nat->SortSt->Prop}
    (h:∀m st',Bs κ xs p lo st'->1<=m->m<=nrem->Up (jx rk ix N) lo (arrOf st') m->qr ix lo (arrOf st') m->Kept xs (arrOf st') (lo+m)->Q (some m) st'):wpS (model prog w) A E s (countRun' lo nrem) Q st:=by
  rw[countRun'_eq];refine wpS_bind (wpS_mono (wpS_forRange (I:=λx c st'=>st'=st/\c=(none,x)/\Up rk lo (arrOf st) x)
    (Q:=λc st'=>st'=st/\∃n,c=(none,n)/\1<=n/\n<=nrem/\Up rk lo (arrOf st) n/\(n=nrem\/Kr rk (arrOf st) (lo+n)<Kr rk (arrOf st) (lo+n - 1))) ?s1 ?f1 ⟨rfl,rfl,.one⟩) ?post)
  case f1 =>
    rintro c st' ⟨rfl,rfl,hu⟩;rw[show max 1 nrem=nrem by lia] at hu ⊢;exact ⟨rfl,nrem,rfl,h1,Nat.le_refl _,hu,.inl rfl⟩
  case s1 =>
    rintro x c st' hx1 hx2 ⟨rfl,rfl,hu⟩;dsimp (config:={ zeta:=false }) only;refine wpS_bind (B.lt L D (by lia) (by lia) ?_);dsimp (config:={ zeta:=false }) only;split
    · rename_i c;exact wpS_pure ⟨rfl,x,rfl,hx1,by lia,hu,.inr (of_decide_eq_true c)⟩
    · rename_i c;exact wpS_pure ⟨rfl,rfl,hu.step hx1 λz=>c (decide_eq_true z)⟩
  case post =>
    rintro c st' ⟨rfl,n,rfl,n1,n2,hu,hor⟩;dsimp only;have asc:Q (some n) st':=h n _ B n1 n2 (by rw[hx0] at hu ⊢;exact hu.E1 o (by lia)) (by rw[hx0];exact .CZ o (by lia)) (by rw[hx0];exact λ_ _=>rfl);by_cases c1:(n == nrem)=true
    · rw[if_pos c1];exact wpS_pure asc
    rw[if_neg c1];rw[beq_iff_eq] at c1;have hlt:=hor.resolve_left c1;have hsz:=B.size;refine (λ(tail:∀st1,Bs κ xs p lo st1->Ds rk ix N lo xs (arrOf st1) n (n+1)->wpS (model prog w) A E s ?X Q st1)=>?main) ?tl
    case main =>
     by_cases c2:n>1
     case pos =>
      rw[if_pos c2];refine wpS_bind (B.lt L D (by lia) (by lia) ?_);dsimp only;by_cases c3:Kr rk (arrOf st') lo<Kr rk (arrOf st') (lo+n - 1)
      · rw[if_pos (decide_eq_true c3)];exact wpS_pure asc
      rw[if_neg (λz=>c3 (of_decide_eq_true z))];refine wpS_bind (wpS_reverse ?_);have heq:∀i,i<n->Kr rk (arrOf st') (lo+i)=Kr rk (arrOf st') (lo+0):=λi hi=>by
        have a1:=hu 0 i (by lia) hi;have a2:=hu i (n - 1) (by lia) (by lia);rw[show lo+(n - 1)=lo+n - 1 by lia] at a2;rw[Nat.add_zero] at a1 ⊢;lia
      have d0:Ds rk ix N lo xs (arrOf st') 0 n:=⟨by lia,λi j _ hj=>by lia,λi hi=>by lia,λi _ hi=>heq i hi,by rw[hx0];exact λ_ _=>rfl,λi hi=>by lia⟩
      have fl:=d0.flush o (by lia) hsz;rw[Nat.add_zero] at fl;have B1:=B.mirror (i:=lo) (j:=lo+n) (Nat.le_refl _) (by lia);refine tail _ B1 (Ds.next fl.1 fl.2.1 fl.2.2.1 λi hi=>?_);have e1:Kr rk (mirror (arrOf st') lo (lo+n) ((lo+n - lo) / 2)) (lo+n)=Kr rk (arrOf st') (lo+n):=by rw[dQ (by lia),if_neg (by lia)]
      have e2:=fl.2.2.2 i hi;have e3:=heq (n - 1) (by lia);rw[show lo+(n - 1)=lo+n - 1 by lia,Nat.add_zero] at e3;show Kr rk (mirror (arrOf st') lo (lo+n) ((lo+n - lo) / 2)) (lo+n)<Kr rk (mirror (arrOf st') lo (lo+n) ((lo+n - lo) / 2)) (lo+i);lia
     case neg =>
      rw[if_neg c2];have e:n=1:=by lia
      subst e;exact tail _ B (Ds.next .one (by rw[hx0];exact .CZ o (by lia)) (by rw[hx0];exact λ_ _=>rfl) λi hi=>by
        rw[show i=0 by lia];exact hlt)
    case tl =>
      intro st1 B1 d1;refine wpS_bind (wpS_lift (wpAny_rule ⟨rfl,?_⟩));refine wpS_bind (wpS_mono (wpS_forRange (I:=λx c st2=>∃neq,c=(none,x,neq)/\Bs κ xs p lo st2/\neq+1<=x/\Ds rk ix N lo xs (arrOf st2) (x - (neq+1)) x)
        (Q:=λc st2=>∃m neq,c=(none,m,neq)/\Bs κ xs p lo st2/\n+1<=m/\m<=nrem/\neq+1<=m/\Ds rk ix N lo xs (arrOf st2) (m - (neq+1)) m) ?s2 ?f2 ⟨0,rfl,B1,by lia,d1⟩) ?post2)
      case f2 =>
        rintro c st2 ⟨neq,rfl,B2,q1,d2⟩;rw[show max (n+1) nrem=nrem by lia] at d2 q1 ⊢;exact ⟨nrem,neq,rfl,B2,by lia,Nat.le_refl _,q1,d2⟩
      case s2 =>
        rintro x c st2 hx1 hx2 ⟨neq,rfl,B2,q1,d2⟩;have hs2:=B2.size;dsimp only;refine wpS_bind (B2.lt L D (by lia) (by lia) ?_);dsimp only;have el:=d2.eq (x - 1) (by lia) (by lia);rw[show lo+(x - 1)=lo+x - 1 by lia] at el;by_cases c4:Kr rk (arrOf st2) (lo+x)<Kr rk (arrOf st2) (lo+x - 1)
        · rw[if_pos (decide_eq_true c4)];have fl:=d2.flush o (by lia) hs2;have key:Ds rk ix N lo xs (mirror (arrOf st2) (lo+(x - (neq+1))) (lo+x) ((lo+x - (lo+(x - (neq+1)))) / 2)) x (x+1):=Ds.next fl.1 fl.2.1 fl.2.2.1 λi hi=>by
            have e2:=fl.2.2.2 i hi;rw[dQ (by lia),if_neg (by lia)];lia
          by_cases c5:neq>0
          · rw[if_pos c5];refine wpS_bind (wpS_reverse (wpS_pure ⟨0,rfl,B2.mirror (by lia) (by lia),by lia,?_⟩));rw[show lo+(x - (neq+1))=lo+x - (neq+1) by lia] at key;exact key
          · rw[if_neg c5];refine wpS_pure ⟨0,rfl,B2,by lia,?_⟩;rw[show neq=0 by lia,show lo+x=lo+(x - (0+1))+1 by lia,om] at key;exact key
        · rw[if_neg (λz=>c4 (of_decide_eq_true z))];refine wpS_bind (B2.lt L D (by lia) (by lia) ?_);dsimp only;by_cases c5:Kr rk (arrOf st2) (lo+x - 1)<Kr rk (arrOf st2) (lo+x)
          · rw[if_pos (decide_eq_true c5)];exact wpS_pure ⟨x,neq,rfl,B2,by lia,by lia,q1,d2⟩
          · rw[if_neg (λz=>c5 (of_decide_eq_true z))];refine wpS_pure ⟨neq+1,rfl,B2,by lia,?_⟩;rw[show x+1 - (neq+1+1)=x - (neq+1) by lia];refine ⟨by lia,d2.pre,d2.low,λi i1 i2=>?_,d2.CZ,d2.E7⟩;by_cases c6:i=x
            · rw[c6];lia
            · exact d2.eq i i1 (by lia)
      case post2 =>
        rintro c st2 ⟨m,neq,rfl,B2,m1,m2,q1,d2⟩;dsimp only;have hs2:=B2.size;refine (λ(tail:∀st3,Bs κ xs p lo st3->Dn (jx rk ix N) lo (arrOf st3) m->qr ix lo (arrOf st3) m->Kept xs (arrOf st3) (lo+m)->wpS (model prog w) A E s ?X2 Q st3)=>?main) ?tl
        case main =>
         have fl:=d2.flush o (by lia) hs2;by_cases c4:neq>0
         case pos =>
          rw[if_pos c4];refine wpS_bind (wpS_reverse ?_);have B3:=B2.mirror (i:=lo+m - (neq+1)) (j:=lo+m) (by lia) (by lia);rw[show lo+(m - (neq+1))=lo+m - (neq+1) by lia] at fl;exact tail _ B3 fl.1 fl.2.1 fl.2.2.1
         case neg =>
          rw[if_neg c4];rw[show neq=0 by lia,show lo+m=lo+(m - (0+1))+1 by lia,om,show lo+(m - (0+1))+1=lo+m by lia] at fl;exact tail _ B2 fl.1 fl.2.1 fl.2.2.1
        case tl =>
          intro st3 B3 d3 i3 k3;have hs3:=B3.size;refine wpS_bind (wpS_reverse ?_);have B4:=B3.mirror (i:=lo) (j:=lo+m) (Nat.le_refl _) (by lia);have u4:=d3.rev (by lia);have i4:=i3.EF (a:=lo) (b:=lo+m) (Nat.le_refl _) (Nat.le_refl _) (by lia);have k4:=k3.EF (a:=lo) (b:=lo+m) (Nat.le_refl _) (by lia);generalize hst4:setArr st3 (mirror (arrOf st3) lo (lo+m) ((lo+m - lo) / 2))=st4 at B4 ⊢;have ea:arrOf st4=mirror (arrOf st3) lo (lo+m) ((lo+m - lo) / 2):=by rw[<-hst4]
          rw[<-ea] at u4 i4 k4;refine wpS_bind (wpS_mono (wpS_forRange (I:=λx c st'=>st'=st4/\c=(none,x)/\Up (jx rk ix N) lo (arrOf st4) x/\qr ix lo (arrOf st4) x/\Kept xs (arrOf st4) (lo+x))
            (Q:=λc st'=>st'=st4/\∃n,c=(none,n)/\1<=n/\n<=nrem/\Up (jx rk ix N) lo (arrOf st4) n/\qr ix lo (arrOf st4) n/\Kept xs (arrOf st4) (lo+n)) ?s3 ?f3 ⟨rfl,rfl,u4,i4,k4⟩) ?post3)
          case f3 =>
            rintro c st' ⟨rfl,rfl,hu⟩;rw[show max m nrem=nrem by lia] at hu ⊢;exact ⟨rfl,nrem,rfl,h1,Nat.le_refl _,hu⟩
          case s3 =>
            rintro x c st' hx1 hx2 ⟨rfl,rfl,hu,hi,hkp⟩;dsimp only;refine wpS_bind (B4.lt L D (by lia) (by lia) ?_);dsimp only;split
            · exact wpS_pure ⟨rfl,x,rfl,by lia,by lia,hu,hi,hkp⟩
            · rename_i c;exact wpS_pure ⟨rfl,rfl,hu.grow (by lia) hi hkp o (by lia) λz=>c (decide_eq_true z)⟩
          case post3 =>
            rintro c st' ⟨rfl,n',rfl,z1,z2,hu,hi,hkp⟩;dsimp only;exact wpS_pure (h n' _ B4 z1 z2 hu hi hkp)
theorem lY {xs:Array Keyed}{src d:Nat}(hs:src<xs.size)(hd:d<=src)(k:Nat):Kr rk (bubble xs src d) k=if k=src - d then Kr rk xs src else if src - d<k/\k<=src then Kr rk xs (k - 1) else Kr rk xs k:=by
  have e:=getElem?_bubble hs d hd k;by_cases h1:k=src - d
  · rw[if_pos h1] at e ⊢;exact gI e
  · rw[if_neg h1] at e ⊢;by_cases h2:src - d<k/\k<=src
    · rw[if_pos h2] at e ⊢;exact gI e
    · rw[if_neg h2] at e ⊢;exact gI e
theorem nH (L:xH prog w A E s Dm (kc rk) κ λ_ _=>True)(D:∀x∈xs.toList,Dm x){st:SortSt}(B:Bs κ xs p lo st)(o:zt ix N xs lo){n ok:Nat}(h2:lo+n<=xs.size)(hu:Up (jx rk ix N) lo (arrOf st) ok)(hi0:qr ix lo (arrOf st) ok)(hk0:Kept xs (arrOf st) (lo+ok))(h1:1<=ok)(bK:ok<=n){Q:Bool->SortSt->Prop}
    (h:∀st',Bs κ xs p lo st'->Up (jx rk ix N) lo (arrOf st') n->qr ix lo (arrOf st') n->Kept xs (arrOf st') (lo+n)->Q true st'):wpS (model prog w) A E s (binarySort' lo n ok) Q st:=by
  rw[binarySort'_eq];refine wpS_bind (wpS_mono (wpS_forRange (I:=λk c st'=>c=(none,())/\Bs κ xs p lo st'/\Up (jx rk ix N) lo (arrOf st') k/\qr ix lo (arrOf st') k/\Kept xs (arrOf st') (lo+k))
    (Q:=λc st'=>c=(none,())/\Bs κ xs p lo st'/\Up (jx rk ix N) lo (arrOf st') n/\qr ix lo (arrOf st') n/\Kept xs (arrOf st') (lo+n)) ?step ?fin ⟨rfl,B,by rw[show max ok 1=ok by lia];exact ⟨hu,hi0,hk0⟩⟩) ?post)
  case post =>
    rintro c st' ⟨rfl,B',hs'⟩;exact wpS_pure (h st' B' hs'.1 hs'.2.1 hs'.2.2)
  case fin =>
    rintro c st' ⟨hc,B',hs'⟩;rw[show max (max ok 1) n=n by lia] at hs';exact ⟨hc,B',hs'⟩
  case step =>
    rintro k c st' hk1 hk2 ⟨rfl,B',hs',hin,hkp⟩;have hsz:=B'.size;have pv:=o (lo+k) (by lia) (by lia);rw[<-gI (hkp (lo+k) (Nat.le_refl _))] at pv;have cv:∀i,i<k->(Kr rk (arrOf st') (lo+k)<Kr rk (arrOf st') (lo+i)↔Kr (jx rk ix N) (arrOf st') (lo+k)<Kr (jx rk ix N) (arrOf st') (lo+i)):=λi hi=>by
      have ii:=hin i hi;rw[zr,zr];refine ⟨λz=>jZ z (by lia) (by lia) (by lia),λz=>?_⟩;by_cases c:Kr rk (arrOf st') (lo+i)<Kr rk (arrOf st') (lo+k)
      · have := jZ (N := N) c (i := Kr ix (arrOf st') (lo + i)) (j := Kr ix (arrOf st') (lo + k)) (by lia) (by lia) (by lia);lia
      · by_cases c':Kr rk (arrOf st') (lo+k)=Kr rk (arrOf st') (lo+i)
        · rw[c'] at z;lia
        · lia
    dsimp only;refine wpS_bind (wpS_mono (wpS_forRange (I:=λx c st2=>st2=st'/\∃l r,c=(none,l,r)/\l<=r/\r<=k/\r - l<=k - x/\(∀i,i<l->Kr (jx rk ix N) (arrOf st') (lo+i)<=Kr (jx rk ix N) (arrOf st') (lo+k))/\∀i,r<=i->i<k->Kr (jx rk ix N) (arrOf st') (lo+k)<Kr (jx rk ix N) (arrOf st') (lo+i))
      (Q:=λc st2=>st2=st'/\∃l r,c=(none,l,r)/\l<=k/\(∀i,i<l->Kr (jx rk ix N) (arrOf st') (lo+i)<=Kr (jx rk ix N) (arrOf st') (lo+k))/\∀i,l<=i->i<k->Kr (jx rk ix N) (arrOf st') (lo+k)<Kr (jx rk ix N) (arrOf st') (lo+i)) ?istep ?ifin ⟨rfl,0,k,rfl,by lia,by lia,by lia,λi hi=>by lia,λi h1 h2=>by lia⟩) ?ipost)
    case ifin =>
      rintro c st2 ⟨rfl,l,r,rfl,a1,a2,a3,a4,a5⟩;have:l=r:=by lia
      subst this;exact ⟨rfl,l,l,rfl,a2,a4,a5⟩
    case istep =>
      rintro x c st2 _ hx ⟨rfl,l,r,rfl,a1,a2,a3,a4,a5⟩;dsimp only;by_cases c1:l>=r
      · rw[if_pos c1];have:l=r:=by lia
        subst this;exact wpS_pure ⟨rfl,l,l,rfl,a2,a4,a5⟩
      rw[if_neg c1];refine wpS_bind (B'.lt L D (by lia) (by lia) ?_);dsimp only;by_cases c2:Kr rk (arrOf st2) (lo+k)<Kr rk (arrOf st2) (lo+(l+r) / 2)
      · rw[if_pos (decide_eq_true c2)];have c2:=(cv _ (by lia)).mp c2;refine wpS_pure ⟨rfl,l,_,rfl,by lia,by lia,by lia,a4,λi b1 b2=>?_⟩;have:=hs' ((l+r) / 2) i b1 b2;lia
      · rw[if_neg (λz=>c2 (of_decide_eq_true z))];have c2:¬_:=λz=>c2 ((cv _ (by lia)).mpr z);refine wpS_pure ⟨rfl,_,r,rfl,by lia,by lia,by lia,λi b1=>?_,a5⟩;have:=hs' i ((l+r) / 2) (by lia) (by lia);lia
    case ipost =>
      rintro c st2 ⟨rfl,l,r,rfl,a1,a4,a5⟩;dsimp only;rw[moveDown'_eq];refine wpS_bind (wpS_modify (wpS_pure ⟨rfl,B'.bubble (by lia) (by lia),?_,λi hi=>?_,λj hj=>?_⟩));rotate_left
      · show (lo:Int)<=Kr ix (bubble (arrOf st2) (lo+k) (lo+k - (lo+l))) _/\Kr ix (bubble (arrOf st2) (lo+k) (lo+k - (lo+l))) _<_;rw[lY (by lia) (by lia)];split
        · rw[pv.1];lia
        split
        · have := hin (i - 1) (by lia);rw[show lo+(i - 1)=lo+i - 1 by lia] at this;lia
        · have := hin i (by lia);lia
      · show (bubble (arrOf st2) (lo+k) (lo+k - (lo+l)))[j]?=_;rw[getElem?_bubble (by lia) _ (by lia),if_neg (by lia),if_neg (by lia)];exact hkp j (by lia)
      intro i j hij hj;show Kr (jx rk ix N) (bubble (arrOf st2) (lo+k) (lo+k - (lo+l))) _<=Kr (jx rk ix N) (bubble (arrOf st2) (lo+k) (lo+k - (lo+l))) _;rw[lY (by lia) (by lia),lY (by lia) (by lia),show lo+k - (lo+k - (lo+l))=lo+l by lia];have back:∀q,lo+l<lo+q->Kr (jx rk ix N) (arrOf st2) (lo+q - 1)=Kr (jx rk ix N) (arrOf st2) (lo+(q - 1)):=λq hq=>by congr 1;lia
      by_cases i1:lo+i=lo+l
      · rw[if_pos i1];by_cases j1:lo+j=lo+l
        · rw[if_pos j1];exact Int.le_refl _
        rw[if_neg j1,if_pos (by lia),back j (by lia)];exact Int.le_of_lt (a5 _ (by lia) (by lia))
      rw[if_neg i1];by_cases i2:lo+l<lo+i/\lo+i<=lo+k
      · rw [if_pos i2, if_neg (by lia), if_pos (by lia), back i (by lia), back j (by lia)];exact hs' _ _ (by lia) (by lia)
      rw[if_neg i2];by_cases j1:lo+j=lo+l
      · rw[if_pos j1];exact a4 _ (by lia)
      rw[if_neg j1];by_cases j2:lo+l<lo+j/\lo+j<=lo+k
      · rw [if_pos j2, back j (by lia)];exact hs' _ _ (by lia) (by lia)
      · rw[if_neg j2];exact hs' _ _ (by lia) (by lia)
end
end Tim
namespace Tim
open PySem PyProof.Rows
section
variable {R:Keyed->Keyed->Bool} {ix:Keyed->Int}
noncomputable def FU (ix:Keyed->Int)(l:List Keyed)(s n:Nat):Prop:=∀x∈seg l s n,(s:Int)<=ix x/\ix x<(s:Int)+n
inductive Runs (R:Keyed->Keyed->Bool)(ix:Keyed->Int)(l:List Keyed):Nat->List (Nat×Nat×Nat)->Nat->Prop where
  | nil (s:Nat):Runs R ix l s [] s
  | cons {s n pw e:Nat} {rest:List (Nat×Nat×Nat)}:1<=n->zu R (seg l s n)->FU ix l s n->Runs R ix l (s+n) rest e->Runs R ix l s ((s,n,pw)::rest) e
end
section
variable {prog:Program} {w:World} {A:Around} {E:Value->Shared->Prop} {s:Shared}
variable {Dm:Keyed->Prop} {rk ix:Keyed->Int} {N:Int} {κ:SortKind}
structure Gj (κ:SortKind)(rk ix:Keyed->Int)(N:Int)(xs:Array Keyed)(lo:Nat)(st:SortSt):Prop where
  perm:(arrOf st).Perm xs
  kind:kindOf st=κ
  failed:failedOf st=none
  runs:Runs (kc (jx rk ix N)) ix (arrOf st).toList 0 (pendingOf st).toList lo
variable {xs:Array Keyed} {lo:Nat}
theorem Up.FO {ys:Array Keyed}{n:Nat}(h:Up rk lo ys n):zu (kc rk) (seg ys.toList lo n):=by
  refine pairwise_iff_getElem.mpr λi j h1 h2 hij=>?_;have e1:=mU (getElem?_eq_getElem h1);have e2:=mU (getElem?_eq_getElem h2);have:=h i j (Nat.le_of_lt hij) e2.1;rw[iU (by rw[<-Array.getElem?_toList];exact e1.2),iU (by rw[<-Array.getElem?_toList];exact e2.2)] at this;unfold kc;simp only[decide_eq_false_iff_not,Int.not_lt];exact this
theorem DB {xs:Array Keyed}(nd:xs.toList.Nodup):∃ix:Keyed->Int,zt ix xs.size xs 0:=by
  classical
  refine ⟨λp=>if h:∃j:Nat,xs[j]?=some p then ((Classical.choose h:Nat):Int) else 0,λj _ hj=>⟨?_,by lia⟩⟩;have e:=Array.getElem?_eq_getElem hj;rw[iU e];have hx:∃k:Nat,xs[k]?=some xs[j]:=⟨j,e⟩
  rw[dif_pos hx];have e2:=Classical.choose_spec hx;rw[<-Array.getElem?_toList] at e e2;have:=(List.getElem?_inj (by rw[length_toList];exact hj) nd).mp (e.trans e2.symm);lia
end
end Tim
namespace L2
open PySem PySem.Spec PyProof.Rows
section
variable {prog:Program} {w:World} {A:Around} {E:Value->Shared->Prop} {s:Shared}
theorem yA {R:Result->Shared->Prop}{r S:Addr}{lo hi:Int}{t u v:Tok}{n:Nat}(hh:A.handled=none)(hr:IsRange s.heap r lo hi 1 t u v)
    (hsm:Builtin.Range.small lo hi 1=true) (hn:Builtin.Range.rangeSize lo hi 1=n) (hle:n<=2 ^ 24) (hS:s.heap.get? S=some { cls:=.type "list",data:=.seq #[] 0 })
    (h:∀h' tk acc c,(∀b o,b≠S->s.heap.get? b=some o->h'.get? b=some o)->h'.get? S=some { cls:=.type "list",dict:=none,data:=.seq acc c,slots:=#[] }->ItemsOf (λi v=>∃t,v=.int (lo+i*1) t) acc n->R (.ok (.ret (.ref S))) { s with heap:=h',toks:=tk }) :
    codeAny (model prog w) A (.builtin "list.__iadd__" ⟨[.ref S,.ref r],[]⟩) R s:=by
  refine codeAny_builtin entry_list_iadd' ?_;rw[Around.under_plainId PySem.F.plain_list_iadd _];exact wpAny_extend_range hh hr hsm hn hle S (.ref S) 0 hS h
theorem rR {r:Addr}{lo hi:Int}{t u v:Tok}{n:Nat}{Q:List Value->Shared->Prop}(hh:A.handled=none)(hr:IsRange s.heap r lo hi 1 t u v)
    (hsm:Builtin.Range.small lo hi 1=true) (hn:Builtin.Range.rangeSize lo hi 1=n) (hle:n<=2 ^ 24)
    (h:∀h' tk acc,(∀b o,s.heap.get? b=some o->h'.get? b=some o)->s.heap.objs.size<=h'.objs.size->ItemsOf (λi v=>∃t,v=.int (lo+i*1) t) acc n->Q acc.toList { s with heap:=h',toks:=tk }) :
    wpAny (model prog w) A (collect (.ref r)) Q E s:=by
  unfold collect;refine wpAny_bind (wpAny_runValue (codeAny_builtin entry_proto_collect' ?_));show wpAny _ _ (newList [] >>= λl=>again (.builtin "list.__iadd__" ⟨[l,.ref r],[]⟩)) _ _ s;have hg0:(s.heap.push (seqObj "list" #[] 0)).get? s.heap.objs.size=some { cls:=.type "list",data:=.seq #[] 0 }:=Heap.get?_push_size _ rfl;have hr0:IsRange (s.heap.push (seqObj "list" #[] 0)) r lo hi 1 t u v:=Heap.get?_push_of_some _ hr;refine wpAny_bind (wpAny_newList (wpAny_pure ⟨Code.quiet_builtin _ (by decide +kernel),yA (s:={ s with heap:=s.heap.push (seqObj "list" #[] 0) }) hh hr0 hsm hn hle hg0 λh' tk acc c hk hS hacc=>?_⟩));refine wpAny_bind (wpAny_load hS ?_);have hlt:=Heap.lt_size hS;exact wpAny_pure (h h' tk acc (λb o e=>hk b o (Nat.ne_of_lt (Heap.lt_size e)) (Heap.get?_push_of_some _ e)) (Nat.le_of_lt hlt) hacc)
variable {h₀:Heap} {L:Addr} {m:Str->Option Value} {news:List (Addr×Obj)} {b:Bool}
end
end L2
set_option maxHeartbeats 4000000
namespace Tim
open PySem PySem.W PySem.Calls PyProof.Rows
section
variable {prog:Program} {w:World} {A:Around} {E:Value->Shared->Prop} {s:Shared} {Dm:Keyed->Prop} {rk:Keyed->Int} {κ:SortKind} {xs:Array Keyed}
theorem yn {ix:Keyed->Int}{ys:Array Keyed}(o:zt ix xs.size xs 0)(a1:ys.Perm xs)(a3:zu (kc (jx rk ix xs.size)) ys.toList):zu (kc rk) ys.toList/\ys.toList.Pairwise (λx y=>rk x=rk y->ix x<=ix y):=by
  have bd:∀x∈ys.toList,0<=ix x/\ix x<xs.size:=λx hx=>by
    obtain ⟨i,hi,e⟩:=List.mem_iff_getElem.mp ((Array.perm_iff_toList_perm.mp a1).mem_iff.mp hx);rw[length_toList] at hi;have:=o i (Nat.zero_le _) hi;rw[iU (x:=x) (by rw[<-Array.getElem?_toList,List.getElem?_eq_some_iff];exact ⟨by rw[length_toList];exact hi,e⟩)] at this;lia
  refine ⟨List.Pairwise.imp_of_mem (λ{x y} hx hy z=>?_) a3,List.Pairwise.imp_of_mem (λ{x y} hx hy z e=>?_) a3⟩
  · unfold kc jx at z;unfold kc;rw[decide_eq_false_iff_not] at z ⊢;exact λc=>z (jZ c (bd y hy).2 (bd x hx).1 (by lia))
  · unfold kc jx at z;rw[decide_eq_false_iff_not,e] at z;lia
structure Fi (xs:Array Keyed)(rk ix:Keyed->Int)(st:SortSt):Prop where
  perm:(arrOf st).Perm xs
  failed:failedOf st=none
  pend:(pendingOf st).size<=1
  up:Up (jx rk ix xs.size) 0 (arrOf st) xs.size
theorem Bs.fin {ix:Keyed->Int}{st:SortSt}(B:Bs κ xs #[] 0 st)(u:Up (jx rk ix xs.size) 0 (arrOf st) xs.size)(q:Nat×Nat×Nat):Fi xs rk ix (setPending st ((pendingOf st).push q)):=by
  refine ⟨B.perm,B.failed,?_,u⟩;show ((pendingOf st).push q).size<=1;rw[B.pend];exact Nat.le_refl 1
theorem xq (L0:xH prog w A E s Dm (kc rk) κ λ_ _=>True)(D0:∀x∈xs.toList,Dm x)(nd:xs.toList.Nodup){st:SortSt}(ha:arrOf st=xs)(hk:kindOf st=κ)(hf:failedOf st=none)(hp:pendingOf st = #[])(h2:2<=xs.size)(h64:xs.size<64){Q:Unit->SortSt->Prop}
    (h:∀(st':SortSt) (ix:Keyed->Int),zt ix xs.size xs 0->(arrOf st').Perm xs->failedOf st'=none->zu (kc rk) (arrOf st').toList->(arrOf st').toList.Pairwise (λx y=>rk x=rk y->ix x<=ix y)->Q () st'):wpS (model prog w) A E s sortRuns' Q st:=by
  obtain ⟨ix,o⟩:=DB nd;have B0:Bs κ xs #[] 0 st:=⟨by rw[ha],hk,hf,hp,λ_ _=>by rw[ha]⟩
  rw[sortRuns'_eq];refine wpS_bind (wpS_get ?_);dsimp only;rw[ha];have hmr:minRun' xs.size xs.size 0=xs.size:=by
    obtain ⟨f,hf⟩ : ∃f,xs.size=f+1:=⟨xs.size - 1,by lia⟩
    have:minRun' (f+1) xs.size 0=xs.size:=by rw[minRun'_succ,if_pos h64];rfl
    rwa [<-hf] at this
  rw[hmr];refine wpS_bind (wpS_mono (wpS_forRange (I:=λx c st'=>(x=0/\c=(none,0)/\st'=st)\/(1<=x/\c=(none,xs.size)/\Fi xs rk ix st')) (Q:=λc st'=>c=(none,xs.size)/\Fi xs rk ix st') ?step ?fin (.inl ⟨rfl,rfl,rfl⟩)) ?post)
  case fin =>
    rintro c st' (⟨hx,_,_⟩ | ⟨_,hc,hD⟩)
    · lia
    · exact ⟨hc,hD⟩
  case step =>
    rintro x c st' _ hx (⟨rfl,rfl,rfl⟩ | ⟨hx1,rfl,hD⟩)
    · dsimp only;rw[if_neg (by lia)];refine wpS_bind (qG L0 D0 B0 ha o (by lia) (by lia) λm st2 B1 m1 m2 u1 i1 k1=>?_);dsimp only;have e0:xs.size - 0=xs.size:=rfl;have e1:min (xs.size - 0) xs.size=xs.size:=by lia
      by_cases c2:m<xs.size
      · rw[if_pos c2];refine wpS_bind (wpS_lift (wpAny_rule ⟨rfl,?_⟩));rw[e1];refine wpS_bind (nH L0 D0 B1 o (by lia) u1 i1 k1 m1 (by lia) λst3 B3 u3 i3 k3=>?_);simp only[Bool.not_true,Bool.false_eq_true,if_false];refine wpS_bind (wpS_get ?_);have hb:(pendingOf st3).back?=none:=by rw[B3.pend];rfl
        rw[hb];dsimp only;exact wpS_bind (wpS_modify (wpS_pure (.inr ⟨by lia,by rw[Nat.zero_add],B3.fin u3 _⟩)))
      · rw[if_neg c2];have hm:m=xs.size:=by lia
        subst hm;refine wpS_bind (wpS_get ?_);have hb:(pendingOf st2).back?=none:=by rw[B1.pend];rfl
        rw[hb];dsimp only;exact wpS_bind (wpS_modify (wpS_pure (.inr ⟨by lia,by rw[Nat.zero_add],B1.fin u1 _⟩)))
    · dsimp only;rw[if_pos (Nat.le_refl _)];exact wpS_pure ⟨rfl,hD⟩
  case post =>
    rintro c st' ⟨rfl,hD⟩;dsimp only;refine wpS_bind (wpS_mono (wpS_forRange (I:=λ_ c st''=>st''=st'/\c=(none,())) (Q:=λc st''=>st''=st'/\c=(none,())) ?_ (λ_ _ hh=>hh) ⟨rfl,rfl⟩) ?_)
    · rintro x c st'' _ _ ⟨rfl,rfl⟩;refine wpS_bind (wpS_get ?_);rw[if_pos hD.pend];exact wpS_pure ⟨rfl,rfl⟩
    · rintro c st'' ⟨rfl,rfl⟩;have hs:=hD.up.FO;have e:seg (arrOf st'').toList 0 xs.size=(arrOf st'').toList:=by
        unfold seg;rw[List.drop_zero,take_of_length_le (by rw[length_toList,hD.perm.size_eq];exact Nat.le_refl _)]
      rw[e] at hs;obtain ⟨z1,z2⟩:=yn o hD.perm hs;exact wpS_pure (h _ ix o hD.perm hD.failed z1 z2)
noncomputable def yB (p:Keyed):Prop:=∃n t,p.1=Value.int n t
theorem Aj:xH prog w A E s yB (kc λp=>numOf p.1) oneType' λ_ _=>True:=by
  intro x y st Q hx hy _ hk h;obtain ⟨x1,x2⟩:=x;obtain ⟨y1,y2⟩:=y;obtain ⟨n,t,hx⟩:=hx;obtain ⟨m,u,hy⟩:=hy;dsimp only at hx hy;subst hx hy;rw[lt'_eq];refine wpS_bind (wpS_get ?_);rw[hk,keyLt'_oneType];refine wpS_bind (wpS_lift (wpAny_attempt (oneLt_int ⟨rfl,?_⟩)));exact wpS_pure h
theorem xr {xs:Array Keyed}(h:zu (kc λp=>numOf p.1) xs.toList):SortedTo xs xs.size:=λi j hij hj=>by
  by_cases e:i=j
  · subst e;exact Int.le_refl _
  · have hi : i < xs.size := by lia
    have:=pairwise_iff_getElem.mp h i j (by rw[length_toList];exact hi) (by rw[length_toList];exact hj) (by lia);unfold kc at this;rw[K_eq hi,K_eq hj];simp only[decide_eq_false_iff_not,Int.not_lt,Array.getElem_toList] at this;exact this
variable {a kS:Addr} {vs:List Value} {kz:List Int} {keys:Array Value} {e e1:Nat} {P:PySem.Fin->Shared->Prop}
noncomputable def CS (kz:List Int)(vs out:List Value):Prop:=out.Pairwise λu v=>∀(i j:Nat) (k:Int),vs[i]?=some u->vs[j]?=some v->kz[i]?=some k->kz[j]?=some k->i<=j
noncomputable def wq (kz:List Int)(vs out:List Value):Prop:=KskOut false kz vs out/\CS kz vs out
noncomputable def Rest (h h':Heap)(a kS:Addr):Prop:=∀c o,c≠a->c≠kS->h.get? c=some o->h'.get? c=some o
theorem sJ {st:SortSt}(nk:s.heap.get? kS=some (seqObj "list" keys e))(na:s.heap.get? a=some (seqObj "list" #[] e1))(hka:kS≠a)
    (hk:IntsAre keys.toList kz) (hlen:kz.length=vs.length) (hz:vs.length<=sizeLine) (hp:(arrOf st).Perm (keys.zip vs.toArray)) (hs:SortedTo (arrOf st) (arrOf st).size) (hfl:failedOf st=none) (hst:CS kz vs ((arrOf st).map (·.2)).toList)
    (h:∀h' tk out c,Rest s.heap h' a kS->h'.get? a=some (seqObj "list" out c)->wq kz vs out.toList->P (.done (.ret .none)) { s with heap:=h',toks:=tk }) :
    wpAny (model prog w) A (ksk_tail a false e1 (.ref kS) st) P E s:=by
  have hsz:keys.size=vs.length:=by
    have h1:=hk.length;rw[length_toList] at h1;lia
  have hsz2:(arrOf st).size=vs.length:=by rw[hp.size_eq,Array.size_zip,hsz,size_toArray,Nat.min_self]
  have hout:((arrOf st).map (·.2)).size=vs.length:=by rw[Array.size_map];exact hsz2
  have s1:=Heap.SameBut.update s.heap kS (Obj.mapSeq λ_=>(#[]:Array Value));have na1:(s.heap.update kS (Obj.mapSeq λ_=>(#[]:Array Value))).get? a=some (seqObj "list" #[] e1):=(s1.2 a hka.symm).trans na;have s2:=Heap.SameBut.update (s.heap.update kS (Obj.mapSeq λ_=>(#[]:Array Value))) a (Obj.mapSeq λ_=>(arrOf st).map (·.2));obtain ⟨c2,hc2⟩ : ∃c2,((s.heap.update kS (Obj.mapSeq λ_=>(#[]:Array Value))).update a (Obj.mapSeq λ_=>(arrOf st).map (·.2))).get? a=some (seqObj "list" ((arrOf st).map (·.2)) c2):=⟨_,get?_update_seq na1 λ_=>(arrOf st).map (·.2)⟩
  unfold ksk_tail;dsimp only;refine wpAny_bind (listUpdate_at nk rfl ?_ (by rw[hsz];exact hz) (Nat.zero_le _));refine wpAny_bind (wpAny_letGo (wpAny_bind (seqEpoch_at na1 rfl ?_)));refine wpAny_bind (listUpdate_at na1 rfl ?_ (Nat.zero_le _) (Nat.le_succ_of_le (Nat.le_trans (Nat.le_of_eq hout) hz)));rw[hfl];simp only[bne_self_eq_false,Bool.false_eq_true,if_false];exact wpAny_pure (h _ _ _ c2 (λc o h1 h2 ec=>(s2.2 c h1).trans ((s1.2 c h2).trans ec)) hc2 ⟨ksk_out (b:=false) hk hp hs,hst⟩)
theorem CI {xs:Array Keyed}{ix:Keyed->Int}(nd:vs.Nodup)(hk:IntsAre keys.toList kz)(hlen:kz.length=vs.length)(hsz:keys.size=vs.length)(o:zt ix (keys.zip vs.toArray).size (keys.zip vs.toArray) 0)(hp:xs.Perm (keys.zip vs.toArray))(hs:xs.toList.Pairwise (λx y=>numOf x.1=numOf y.1->ix x<=ix y)):CS kz vs (xs.map (·.2)).toList:=by
  unfold CS;rw[Array.toList_map,pairwise_map];have hz:(keys.zip vs.toArray).size=vs.length:=by rw[Array.size_zip,hsz,size_toArray,Nat.min_self]
  have at_:∀x∈xs.toList,∀(i:Nat) (k:Int),vs[i]?=some x.2->kz[i]?=some k->numOf x.1=k/\ix x=(i:Int):=λx hx i k h1 h2=>by
    have hm:=(Array.perm_iff_toList_perm.mp hp).mem_iff.mp hx;rw[ksk_zip] at hm;obtain ⟨m,hm,e⟩:=List.mem_iff_getElem.mp hm;rw[List.length_zip] at hm;rw[List.getElem_zip] at e;have hv:vs[m]?=some x.2:=by rw[<-e];exact getElem?_eq_getElem (by lia)
    have em:m=i:=(List.getElem?_inj (by lia) nd).mp (hv.trans h1.symm);subst em;have hi:m<vs.length:=by lia
    constructor
    · have:=hk.nums;have h3:(keys.toList.map numOf)[m]?=some k:=by rw[this];exact h2
      rw[getElem?_map,getElem?_eq_getElem (by lia)] at h3;have h4:=Option.some.inj h3;rw[<-e];exact h4
    · have := (o m (Nat.zero_le _) (by rw [hz];lia)).1;rw[iU (x:=x) ?_] at this
      · exact this
      rw[<-Array.getElem?_toList,ksk_zip,<-e,<-List.getElem_zip (h:=by rw[List.length_zip];lia)];exact getElem?_eq_getElem _
  refine List.Pairwise.imp_of_mem (λ{x y} hx hy z i j k h1 h2 h3 h4=>?_) hs;obtain ⟨a1,a2⟩:=at_ x hx i k h1 h3;obtain ⟨b1,b2⟩:=at_ y hy j k h2 h4;have:=z (a1.trans b1.symm);lia
theorem xa {vs us:List Value}(h:vs.Nodup):(us.zip vs).Nodup:=by
  induction us generalizing vs with
  | nil=>exact List.nodup_nil
  | cons u us ih =>
    cases vs with
    | nil=>exact List.nodup_nil
    | cons v vs =>
      obtain ⟨h1,h2⟩:=nodup_cons.mp h;rw[List.zip_cons_cons];exact nodup_cons.mpr ⟨λz=>h1 (List.of_mem_zip z).2,ih h2⟩
theorem Ai (nd:vs.Nodup)(nk:s.heap.get? kS=some (seqObj "list" keys e))(na:s.heap.get? a=some (seqObj "list" #[] e1))(hka:kS≠a)(hk:IntsAre keys.toList kz)(hlen:kz.length=vs.length)(hz:vs.length<64)
    (h:∀h' tk out c,Rest s.heap h' a kS->h'.get? a=some (seqObj "list" out c)->wq kz vs out.toList->P (.done (.ret .none)) { s with heap:=h',toks:=tk }) :
    wpAny (model prog w) A (ksk_end a false vs.toArray e1 (.ref kS) keys) P E s:=by
  have hz':vs.length<=sizeLine:=by rw[sizeLine_eq];lia
  have hsz:keys.size=vs.length:=by
    have h1:=hk.length;rw[length_toList] at h1;lia
  have hzs:(keys.zip vs.toArray).size=vs.length:=by rw[Array.size_zip,hsz,size_toArray,Nat.min_self]
  unfold ksk_end;dsimp only;show wpAny (model prog w) A (do
      let kind <-if vs.toArray.size<2 then pure general' else keyKind' keys
      let ((),s) <-(if vs.toArray.size<2 then pure () else sortRuns').run (SortSt.mk' kind (keys.zip vs.toArray) #[] 7 none)
      ksk_tail a false e1 (.ref kS) s) P E s
  by_cases h2:vs.toArray.size<2
  · rw[if_pos h2,if_pos h2];rw[size_toArray] at h2;refine wpAny_bind (wpAny_pure ?_);dsimp only;rw[StateT.run_pure];refine wpAny_bind (wpAny_pure ?_);dsimp only;refine sJ (st:=SortSt.mk' general' (keys.zip vs.toArray) #[] 7 none) nk na hka hk hlen hz' (Array.Perm.refl _) ?_ rfl (CB ?_) h
    · intro i j hij hj;have hj2:j<(keys.zip vs.toArray).size:=hj;rw[hzs] at hj2;have:i=j:=by lia
      subst this;exact Int.le_refl _
    · rw[length_toList,Array.size_map];show (keys.zip vs.toArray).size<2;rw[hzs];exact h2
  · rw[if_neg h2,if_neg h2];rw[size_toArray] at h2;rw[ksk_kind hk (by rw[hsz];lia)];refine wpAny_bind (wpAny_pure ?_);refine wpAny_bind (wpAny_mono (xq (xs:=keys.zip vs.toArray) Aj (λp hp=>ksk_intKeys hk p hp) (by rw[ksk_zip];exact xa nd) (st:=SortSt.mk' oneType' (keys.zip vs.toArray) #[] 7 none)
      (Q:=λ_ st'=>(arrOf st').Perm (keys.zip vs.toArray)/\failedOf st'=none/\SortedTo (arrOf st') (arrOf st').size/\CS kz vs ((arrOf st').map (·.2)).toList) rfl rfl rfl rfl (by rw[hzs];lia) (by rw[hzs];exact hz) λst' ix o a1 a2 a3 a4=>⟨a1,a2,xr a3,CI nd hk hlen hsz o a1 a4⟩) ?_ λ_ _ z=>z)
    rintro ⟨⟨⟩,st'⟩ s' ⟨rfl,hp,hf,hs,hst⟩;dsimp only at hp hf hs hst ⊢;exact sJ nk na hka hk hlen hz' hp hs hf hst h
noncomputable def Keeps (h h':Heap):Prop:=∀c o,h.get? c=some o->h'.get? c=some o
theorem yK {f:Value}{h₀:Heap}(nd:vs.Nodup)(K0:Keeps h₀ s.heap)(fa:h₀.get? a=none)(fk:h₀.get? kS=none)(nk:s.heap.get? kS=some (seqObj "list" #[] 0))(na:s.heap.get? a=some (seqObj "list" #[] e1))(hka:kS≠a)(hlen:kz.length=vs.length)(hz:vs.length<64)
    (turn:∀(i:Nat) (v:Value) (k:Int),vs[i]?=some v->kz[i]?=some k->∀(h:Heap) (tk:Nat),Keeps h₀ h->∀Q:Value->Shared->Prop,(∀h' tk' t',Keeps h h'->Q (.int k t') { s with heap:=h',toks:=tk' }) ->
      wpAny (model prog w) A (call f [v]) Q (λ_ _=>False) { s with heap:=h,toks:=tk })
    (h:∀h' tk out c,Keeps h₀ h'->h'.get? a=some (seqObj "list" out c)->wq kz vs out.toList->P (.done (.ret .none)) { s with heap:=h',toks:=tk }) :
    wpAny (model prog w) A (ksk_rest a f false vs.toArray e1 (.ref kS)) P E s:=by
  have hz':vs.length<=sizeLine:=by rw[sizeLine_eq];lia
  unfold ksk_rest;refine wpAny_bind (wpAny_rule ?_);rw[List.forIn_toArray];refine wpAny_bind (ksk_fold (λi s'=>∃h' tk kA e,s' = { s with heap:=h',toks:=tk }/\Keeps h₀ h'/\h'.get? kS=some (seqObj "list" kA e)/\h'.get? a=some (seqObj "list" #[] e1)/\IntsAre kA.toList (kz.take i)) vs 0 s
    ⟨s.heap,s.toks,#[],0,rfl,K0,nk,na,by simpa using IntsAre.nil⟩ ?step ?done)
  case step =>
    rintro j x s' hx ⟨h',tk,kA,e,rfl,K',nk',na',hk⟩;simp only[Nat.zero_add] at hk ⊢;have hj:j<vs.length:=(List.getElem?_eq_some_iff.mp hx).1;obtain ⟨k,hkj⟩ : ∃k,kz[j]?=some k:=⟨_,getElem?_eq_getElem (by lia)⟩
    have hzz:kA.size<=j:=by
      have h1:=hk.length;rw[length_toList,length_take] at h1;lia
    refine wpAny_bind (wpAny_attempt (wpAny_mono (turn j x k hx hkj h' tk K' _ λg tk2 t2 kg=>?_) (λv s'' he=>he) λ_ _ hF=>hF.elim));dsimp only;have nk2:=kg _ _ nk';have na2:=kg _ _ na';have s1:=Heap.SameBut.update g kS (Obj.mapSeq (·.push (.int k t2)));obtain ⟨c2,hc2⟩ : ∃c2,(g.update kS (Obj.mapSeq (·.push (.int k t2)))).get? kS=some (seqObj "list" (kA.push (.int k t2)) c2):=⟨_,get?_update_seq nk2 (·.push (.int k t2))⟩
    have ek:kz.take (j+1)=kz.take j++[k]:=by rw[List.take_add_one,hkj];simp
    have ea:(kA.push (Value.int k t2)).toList=kA.toList++[Value.int k t2]:=by simp
    refine wpAny_bind (listUpdate_at nk2 rfl ?_ (by lia) (Nat.le_trans (Nat.le_of_eq (Array.size_push ..)) (by lia)));refine wpAny_pure ⟨rfl,_,_,kA.push (.int k t2),c2,rfl,λc o ec=>?_,hc2,(s1.2 a hka.symm).trans na2,by rw[ea,ek];exact ksk_snoc hk⟩;have hc:c≠kS:=λz=>by rw[z,fk] at ec;cases ec
    exact (s1.2 c hc).trans (kg _ _ (K' _ _ ec))
  case done =>
    rintro s' ⟨h',tk,kA,e,rfl,K',nk',na',hk⟩;have hk':IntsAre kA.toList kz:=by
      have e3:kz.take (0+vs.length)=kz:=take_of_length_le (by lia);rw[e3] at hk;exact hk
    refine wpAny_bind (listItems_at nk' rfl ?_);refine Ai (s:={ s with heap:=h',toks:=tk }) nd nk' na' hka hk' hlen hz λh3 tk3 out c R3 n3 k3=>h h3 tk3 out c (λc o ec=>R3 c o (λz=>by rw[z,fa] at ec;cases ec) (λz=>by rw[z,fk] at ec;cases ec) (K' _ _ ec)) n3 k3
theorem yL {f:Value}{n:Nat}{h₀:Heap}(nd:vs.Nodup)(K0:Keeps h₀ s.heap)(fa:h₀.get? a=none)(hle:h₀.objs.size<=s.heap.objs.size)(ho:s.heap.get? a=some (seqObj "list" vs.toArray n))(hlen:kz.length=vs.length)(hz:vs.length<64)
    (turn:∀(i:Nat) (v:Value) (k:Int),vs[i]?=some v->kz[i]?=some k->∀(h:Heap) (tk:Nat),Keeps h₀ h->∀Q:Value->Shared->Prop,(∀h' tk' t',Keeps h h'->Q (.int k t') { s with heap:=h',toks:=tk' }) ->
      wpAny (model prog w) A (call f [v]) Q (λ_ _=>False) { s with heap:=h,toks:=tk })
    (h:∀h' tk out c,Keeps h₀ h'->h'.get? a=some (seqObj "list" out c)->wq kz vs out.toList->P (.done (.ret .none)) { s with heap:=h',toks:=tk }) :
    wpAny (model prog w) A (ksk_tree a f false) P E s:=by
  have hz':vs.length<=sizeLine:=by rw[sizeLine_eq];lia
  have ha:a<s.heap.objs.size:=Heap.lt_size ho;have s1:=Heap.SameBut.update s.heap a (Obj.mapSeq λ_=>(#[]:Array Value));obtain ⟨e1,ho1⟩ : ∃e1,(s.heap.update a (Obj.mapSeq λ_=>(#[]:Array Value))).get? a=some (seqObj "list" #[] e1):=⟨_,get?_update_seq ho λ_=>#[]⟩
  have hkS:((s.heap.update a (Obj.mapSeq λ_=>(#[]:Array Value))).push (seqObj "tuple" vs.toArray 0)).objs.size=s.heap.objs.size+1:=by rw[size_push',Heap.size_update]
  unfold ksk_tree;refine wpAny_bind (listItems_at ho rfl ?_);refine wpAny_bind (listUpdate_at ho rfl ?_ (by rw[size_toArray];exact hz') (Nat.zero_le _));refine wpAny_bind (seqEpoch_at ho1 rfl ?_);refine wpAny_bind (wpAny_newTuple ?_ (by simpa using hz'));refine wpAny_bind (wpAny_newList ?_ (Nat.zero_le _));refine wpAny_holding ?_;refine yK (s:={ s with heap:=((s.heap.update a (Obj.mapSeq λ_=>(#[]:Array Value))).push (seqObj "tuple" vs.toArray 0)).push (seqObj "list" #[] 0) }) (kS:=((s.heap.update a (Obj.mapSeq λ_=>(#[]:Array Value))).push (seqObj "tuple" vs.toArray 0)).objs.size) nd
    (λc o ec=>Heap.get?_push_of_some _ (Heap.get?_push_of_some _ ((s1.2 c λz=>by rw[z,fa] at ec;cases ec).trans (K0 _ _ ec)))) fa (Heap.get?_none_of_le (by rw[hkS];lia)) (Heap.get?_push_size _ rfl) (Heap.get?_push_of_some _ (Heap.get?_push_of_some _ ho1)) (by rw[hkS];exact Nat.ne_of_gt (Nat.lt_succ_of_lt ha)) hlen hz turn h
end
end Tim
namespace L2
open PySem PySem.Spec PyProof.Rows Tim
variable {prog:Program} {w:World} {A:Around} {E:Value->Shared->Prop} {s:Shared}
theorem xm {lo:Int}{vs:Array Value}{n:Nat}(hit:ItemsOf (λi v=>∃t,v=Value.int (lo+i*1) t) vs n):vs.toList.Nodup:=by
  rw[List.nodup_iff_pairwise_ne,pairwise_iff_getElem];intro i j hi hj hij z;have ei:vs[i]?=some vs.toList[i]:=by rw[<-Array.getElem?_toList];exact getElem?_eq_getElem hi
  have ej:vs[j]?=some vs.toList[j]:=by rw[<-Array.getElem?_toList];exact getElem?_eq_getElem hj
  obtain ⟨t1,e1⟩:=hit.2 i _ ei;obtain ⟨t2,e2⟩:=hit.2 j _ ej;rw[e1,e2] at z;injection z with z1 z2
  lia
theorem tP {r:Addr}{lo hi:Int}{t u v:Tok}{n:Nat}{Q:Value->Shared->Prop}{kz:List Int}{f:Value}{kw:List (Str×Value)}
    (hh:A.handled=none) (hr:IsRange s.heap r lo hi 1 t u v) (hsm:Builtin.Range.small lo hi 1=true) (hn:Builtin.Range.rangeSize lo hi 1=n) (hlen:kz.length=n) (h64:n<64)
    (ok1:argsOk "sorted" ⟨[.ref r],kw⟩) (ok2:∀x,argsOk "list.sort" ⟨[.ref x],kw⟩) (tr:∀x,Builtin.«list.sort» ⟨[.ref x],kw⟩=ksk_tree x f false)
    (turn:∀(i:Nat) (tt:Tok) (k:Int),kz[i]?=some k->∀(h:Heap) (tk:Nat),Keeps s.heap h->∀Q:Value->Shared->Prop,(∀h' tk' t',Keeps h h'->Q (.int k t') { s with heap:=h',toks:=tk' }) ->
      wpAny (model prog w) A.in1.in1 (call f [.int (lo+(i:Int)*1) tt]) Q (λ_ _=>False) { s with heap:=h,toks:=tk })
    (h:∀D h' tk out c vs,Keeps s.heap h'->s.heap.objs.size<=D->h'.get? D=some (seqObj "list" out c)->ItemsOf (λi v=>∃t,v=.int (lo+i*1) t) vs n->wq kz vs.toList out.toList->Q (.ref D) { s with heap:=h',toks:=tk }) :
    wpAny (model prog w) A (call (.builtin "sorted") [.ref r] kw) Q E s:=by
  refine call_function_entry_kw kind_sorted plain_sorted entry_sorted ok1 ?_;unfold Builtin.«sorted»;refine wpAny_bind (m:=checkCount "sorted" 1 1 _) (wpAny_pure ?_);refine wpAny_bind (rR (A:=A.in1) hh hr hsm hn (by lia) λg tk acc keep hge hit=>?_);have hsz:=hit.1;have hll:acc.toList.length=n:=by rw[length_toList];exact hsz
  refine wpAny_bind (wpAny_newList ?_ (by rw[length_toList,sizeLine_eq];lia));have keep2:∀b o,s.heap.get? b=some o->(g.push (seqObj "list" acc.toList.toArray 0)).get? b=some o:=λb o q=>Heap.get?_push_of_some _ (keep b o q);have hD:(g.push (seqObj "list" acc.toList.toArray 0)).get? g.objs.size=some (seqObj "list" acc.toList.toArray 0):=Heap.get?_push_size _ rfl;refine wpAny_bind (wpAny_holding (wpAny_call_entry_kw slot_list_sort ⟨_,hD,rfl⟩ entry_list_sort ?body (ok2 _)))
  case body =>
    show wpAny (model prog w) A.in1.in1 (Builtin.«list.sort» ⟨[.ref g.objs.size],kw⟩) _ _ _;rw[tr g.objs.size];refine yL (kz:=kz) (vs:=acc.toList) (h₀:=s.heap) (s:={ s with heap:=g.push (seqObj "list" acc.toList.toArray 0),toks:=tk }) (xm hit) keep2 (Heap.get?_none_of_le hge)
      (by show s.heap.objs.size<=(g.push _).objs.size;rw[size_push'];lia) hD (by lia) (by lia) (λi x k hx hk h2 tk2 K2 Q2 hq=>?_) λh2 tk2 out c K2 n2 ko=>⟨_,rfl,?_⟩
    · have hx':acc[i]?=some x:=by
        have e:acc[i]?=acc.toList[i]?:=by simp
        rw[e];exact hx
      obtain ⟨tt,et⟩:=hit.2 i x hx';rw[et];exact turn i tt k hk h2 tk2 K2 Q2 hq
    · exact wpAny_pure ⟨_,rfl,h _ h2 tk2 out c acc K2 hge n2 hit ko⟩
end L2
namespace L2
open PySem PySem.Spec PyProof.Rows PySem.W
noncomputable def TabAt (H:Hp)(P:Addr)(q:Str):Prop:=∃qs t,H P=some (.tbl qs)/\qs[0]?=some (.str q t)
theorem TabAt.un {fs ex:List Addr}{H H':Hp}{h h':Heap}{P:Addr}{q:Str}(u:Un fs ex H H' h h')(x:TabAt H P q):TabAt H' P q:=by
  obtain ⟨qs,t,e,e2⟩:=x;obtain ⟨more,e3⟩:=u.oR P qs e;refine ⟨_,t,e3,?_⟩;have hl:0<qs.size:=by
    rcases Nat.eq_zero_or_pos qs.size with z | z
    · rw[Array.getElem?_eq_none (by lia)] at e2;cases e2
    · exact z
  rw[Array.getElem?_append_left hl];exact e2
theorem mV {a b:Int}{t u:Tok}{c:Value}:∀{l:List Value},TriplesOk l->TriplesOk (l++[.int a t,.int b u,c])
  | [],_=>trivial
  | .int _ _::.int _ _::_::rest,h=>mV (l:=rest) h
set_option tactic.hygienic true in
theorem pP {p:Pos}{a b:Int}{t u:Tok}{c cv:Value}:∀{l:List Value},TriplesOk l->codeAmong p (l++[.int a t,.int b u,c])=some cv->codeAmong p l=some cv\/cv=c
  | [],_,h=>by
    simp only[List.nil_append,codeAmong] at h;split at h
    · exact .inr (Option.some.inj h).symm
    · cases h
  | .int x _::.int y _::d::rest,ht,h=>by
    simp only[List.cons_append,codeAmong] at h ⊢;split at h
    · rename_i hc;rw[if_pos hc];exact .inl h
    · rename_i hc;rw[if_neg hc];exact pP (l:=rest) ht h
noncomputable def bp (mg:Str->Option Value)(h:Heap):Prop:=∃bm ob,mg "__builtins__" = some (.ref bm)/\bm≠builtinsNs/\h.get? bm=some ob/\ob.cls=.type "module"/\ob.dict=some builtinsNs/\ob.data=.plain
section
variable {X:Cx} {pins:List (Addr×Obj)} {σ:St} {H:Hp} {s:Shared} {P c:Addr} {E:Value->Shared->Prop} {Q:Value->Shared->Prop}
theorem yG {params:Arguments}{body:Expr}{scope:Scope}{pos:Pos}{clos:List (Str×Addr)}(I:Inv X pins σ H s)(hcode:X.env.code=.ref c)(C:CodeHd X.base c P)(B:bp X.mg X.base)
    (hT:TabAt X.H₀ P (X.env.qual++"<lambda>")) (hcl:closureFor scope X.env=pure clos) (hdef:defaultsOf params X.env=([],[]))
    (h:∀f c' ctv pm h' tk H',Inv X pins σ H' { s with heap:=h',toks:=tk }->(H'=H\/(H c'=none/\H'=upd H c' (.own P)))->h'.get? f=some (kla_obj "<lambda>" (X.env.qual++"<lambda>") params body scope clos pm c' ctv)->H' f=none->s.heap.objs.size<=f ->
      h'.CodeRec (.ref c') (X.env.qual++"<lambda>")->Q (.ref f) { s with heap:=h',toks:=tk }) :
    wpAny (model X.prog X.w) X.A (eval (.Lambda params body scope pos) X.env) Q E s:=by
  obtain ⟨qs,t,hP,hq0⟩:=hT.un I.base;obtain ⟨tb,htb,htr,hcs⟩:=I.bK P _ hP;have hg:=I.mod.glob.keeps I.bk;have hgP:mainGlobals≠P:=λz=>by
    obtain ⟨o,es,ep,e,hd,_⟩:=hg;rw[z,htb] at e;cases e;cases hd
  obtain ⟨bm,ob,b1,b2,b3,b4,b5,b6⟩:=B;have b3':=I.bk _ _ b3;have hbP:bm≠P:=λz=>by rw[z,htb] at b3';cases b3';cases b4
  have hbG:bm≠mainGlobals:=λz=>by
    obtain ⟨o,es,ep,e,hd,_⟩:=hg;rw[z,e] at b3';cases b3';rw[hd] at b6;cases b6
  have hB:s.heap.BuiltinsAt X.mg P:=⟨bm,ob,b1,b2,hbG,hbP,b3',b4,b5,b6⟩
  refine kla_eval hdef ?_;cases hf:codeAmong pos tb.toList with
  | none =>
    refine kla_makeFunction hcl I.ok.glob hg hcode (C.keeps I.bk) htb htr hf hgP hB λc' ctv h' tk hx hge hlt hrec htb'=>?_;have hn:H c'=none:=I.bK.fresh hge;have hPc:P≠c':=aX hP hn;have keep:∀b o,b≠P->s.heap.get? b=some o->(h'.push (kla_obj "<lambda>" (X.env.qual++"<lambda>") params body scope clos ((X.mg "__name__").getD .none) c' ctv)).get? b=some o:=λb o hb e=>Heap.get?_push_of_some _ (hx b o hb e);have neP:∀b,H b=none->b≠P:=λb e z=>by rw[z,hP] at e;cases e
    have hrec':=hrec.push (kla_obj "<lambda>" (X.env.qual++"<lambda>") params body scope clos ((X.mg "__name__").getD .none) c' ctv);have htb2:=Heap.get?_push_of_some (kla_obj "<lambda>" (X.env.qual++"<lambda>") params body scope clos ((X.mg "__name__").getD .none) c' ctv) htb';have hown:upd H c' (.own P) P=some (.tbl qs):=by rw[aC hPc];exact hP
    have nc:∀b u,H b=some u->upd H c' (.own P) b=some u:=λb u e=>by rw[aC (aX e hn)];exact e
    have bK:lR X.prog X.w (upd H c' (.own P)) (h'.push (kla_obj "<lambda>" (X.env.qual++"<lambda>") params body scope clos ((X.mg "__name__").getD .none) c' ctv)):=λb u e=>by
      by_cases hb:b=c'
      · subst hb;rw[bf] at e;cases e;obtain ⟨c2,o2,vs2,t2,e2,g2,_⟩:=hrec';cases e2;exact ⟨_,g2⟩
      · rw[aC hb] at e;by_cases hbP':b=P
        · subst hbP';rw[hP] at e;cases e;have el:(tb++#[rawInt pos.line,rawInt pos.col,Value.ref c']).toList=tb.toList++[rawInt pos.line,rawInt pos.col,Value.ref c']:=by simp
          refine ⟨_,htb2,by rw[el];exact mV htr,λp cv z=>?_⟩;rw[el] at z;rcases pP htr z with z | z
          · obtain ⟨d,q,u,r1,r2,r3,r4⟩:=hcs p cv z;refine ⟨d,q,u,r1,r2,nc _ _ r3,?_⟩;obtain ⟨d2,o2,vs2,t2,e2,g2,r5⟩:=r4;cases e2;exact ⟨d,o2,vs2,t2,rfl,keep _ _ (Bd r3 hP (by intro z;cases z)) g2,r5⟩
          · exact ⟨c',_,t,z,hq0,bf,hrec'⟩
        · refine (I.bK b u e).df (λd v hd g=>keep d v ?_ g) (λd q=>nc _ _ q) λd xs q=>nc _ _ q;rcases hd with rfl | hd
          · exact hbP'
          · exact Bd hd hP (by intro z;cases z)
    have hfn:H h'.objs.size=none:=I.bK.fresh (Nat.le_trans hge (Nat.le_of_lt hlt));refine h h'.objs.size c' ctv _ _ tk (upd H c' (.own P)) (I.un (t':=tk) ⟨λb o e n _ _=>keep b o (neP b n) e,λb o e n _ _=>⟨o.slots,keep b o (neP b n) e⟩,λb o e n _=>?_,λb o e _=>?_,λb xs e=>nc _ _ e,λb o u e=>nc _ _ e,λb ps e=>⟨#[],by rw[nc _ _ e];simp⟩⟩ bK) (.inr ⟨hn,rfl⟩)
      (Heap.get?_push_size _ rfl) ?_ (Nat.le_trans hge (Nat.le_of_lt hlt)) hrec'
    · rw[aC (Nat.ne_of_lt (Nat.lt_of_lt_of_le (Heap.lt_size e) hge))];exact n
    · by_cases hb:b=P
      · subst hb;exact ⟨_,htb2⟩
      · exact ⟨_,keep b o hb e⟩
    · rw[aC (Nat.ne_of_gt hlt)];exact hfn
  | some cv =>
    obtain ⟨c',q,u,rfl,r2,r3,r4⟩:=hcs pos cv hf;rw[hq0] at r2;cases r2;refine kla_makeFunctionHit hcl I.ok.glob hg hcode (C.keeps I.bk) htb htr hf hB λctv h' tk hk hsz=>?_;have keep:∀b o,s.heap.get? b=some o->(h'.push (kla_obj "<lambda>" (X.env.qual++"<lambda>") params body scope clos ((X.mg "__name__").getD .none) c' ctv)).get? b=some o:=λb o e=>Heap.get?_push_of_some _ (hk b o e);exact h h'.objs.size c' ctv _ _ tk H (I.kept keep) (.inl rfl) (Heap.get?_push_size _ rfl) (I.bK.fresh hsz) hsz (r4.keeps keep)
end
end L2
namespace L2
open PySem PySem.Spec PyProof.Rows PySem.W
section
variable {X:Cx} {pins:List (Addr×Obj)} {σ:St} {H:Hp} {s:Shared} {A:Around} {E:Value->Shared->Prop} {Q:Value->Shared->Prop}
theorem yF {f c' cc la ta:Addr}{nm q x y:Str}{params:Arguments}{scope:Scope}{pm ctv:Value}{xs ys:List V}{i:Nat}{j k:Int}{tt:Tok}{kk:Nat}{p1 p2 p3 p4 p5:Pos}
    (I:Inv X pins σ H s) (ho:s.heap.get? f=some (kla_obj nm q params (.Subscript (.Subscript (.Name y p1) (.Name x p2) p3) (.Constant (.int j) kk p4) p5) scope [(y,cc)] pm c' ctv)) (hcd:s.heap.CodeRec (.ref c') q)
    (hcc:s.heap.IsCell cc (some (.ref la))) (hs:d6 X.K H la xs) (hx:xs[i]?=some (.ref ta)) (ht:kX X.K H ta ys) (hy:fm ys j=some (.int k))
    (hbind:∀v,bindArgs (kla_fn nm q params (.Subscript (.Subscript (.Name y p1) (.Name x p2) p3) (.Constant (.int j) kk p4) p5) scope [(y,cc)] pm (.ref c') ctv) ⟨[v],[]⟩=pure [(x,v)])
    (hk:scope.kind=.function) (hco:scope.isCoroutine=false) (hgen:scope.isGenerator=false) (hcell:∀z∈scope.names,z.2≠.cell) (hlx:scope.names.lookup x=some .local) (hly:scope.names.lookup y=some .free)
    (hdx:(x == ("__debug__" : Str))=false) (hdy:(y == ("__debug__" : Str))=false) (hcy:(y == ("__classdict__" : Str))=false) (room:A.depth<recursionLimit)
    (h:∀h' tk t',(∀b o,s.heap.get? b=some o->h'.get? b=some o)->Q (.int k t') { s with heap:=h',toks:=tk }) :
    wpAny (model X.prog X.w) A (call (.ref f) [.int (i:Int) tt]) Q E s:=by
  obtain ⟨its,r,pl,hz⟩:=I.list hs;obtain ⟨us,r',pt,hz'⟩:=I.tuple ht;obtain ⟨w,ew,rw'⟩:=r.get hx;cases rw';obtain ⟨j',g1,g2,g3,g4,g5⟩:=kZ hy;obtain ⟨w2,ew2,rw2⟩:=r'.get g2;obtain ⟨t2,rfl⟩:=rw2;have hl':=r'.length;have hn:=jE;have hi:i<xs.length:=(List.getElem?_eq_some_iff.mp hx).1;refine wpAny_call (kla_callFunE room ho rfl hco hgen rfl hcd ?_);rw[hbind];refine wpAny_pure (wpAny_newFunctionEnv hcell (λz hz=>by cases mem_singleton.mp hz;exact hlx) (λh₁ hns hsb=>⟨I.nolimit.fresh _ hsb,?_⟩) hk);have keep:∀b o,s.heap.get? b=some o->h₁.get? b=some o:=λb o e=>hsb.extBut b o (Nat.ne_of_lt (Heap.lt_size e)) (Heap.get?_push_of_some _ e);refine kla_codeExpr ?_;have hc1:h₁.IsCell cc (some (.ref la)):=by obtain ⟨o,e,d⟩:=hcc;exact ⟨o,keep _ _ e,d⟩
  refine Subscript_ (Subscript_ (wpAny_Name (wpAny_loadName_free (c:=cc) (v:=.ref la) hk hly (by simp[newEnv,List.lookup]) hc1 ?_ hcy) hdy));refine wpAny_Name (wpAny_loadName_local (v:=.int (i:Int) tt) hk hlx hns (by simp[List.lookup]) ?_) hdx;have pl1:h₁.IsList la its.toArray:=by
    obtain ⟨o,e,d⟩:=pl.isList;exact ⟨o,keep _ _ e,d⟩
  refine item_listR (x:=.ref ta) pl1 (Int.natCast_nonneg i) (by lia) (by simpa using ew) ?_ (by with_unfolding_all rfl);refine wpAny_Constant_int ?_;have pt1:IsTup h₁ ta us.toArray:=by
    obtain ⟨o,e,d⟩:=pt;exact ⟨o,keep _ _ e,d⟩
  refine subscriptTail_builtinR (x:=.int k t2) pt1.typeIs slot_tuple_getitem.lookup
    (getItem_tuple (j:=j') pt1 (by lia) (by lia) (by rw[size_toArray,<-hl'];exact g1) (by simpa using ew2) ⟨rfl,?_⟩) (by with_unfolding_all rfl)
  exact h _ _ _ keep
end
end L2
namespace L2
open PySem PySem.Spec PyProof.Rows PySem.W
noncomputable def KeyOrd (ks:List Int)(ms:List Int):Prop:=ms.Pairwise λa b=>ks.getD a.toNat 0<=ks.getD b.toNat 0/\(ks.getD a.toNat 0=ks.getD b.toNat 0->a<=b)
theorem qU:∀{out:List Value} {ns:List Int},(∀v∈out,∃n t,v=Value.int n t)->ns=out.map numOf->IntsAre out ns:=by
  intro out ns h e;subst e;exact intsAre_map _ λv hv=>by obtain ⟨n,t,rfl⟩:=h v hv;exact ⟨n,t,rfl⟩
theorem Cg {ks:List Int}{n:Nat}{vs:List Value}{out:List Value}(hl:ks.length=n)(hv:∀(m:Nat) (h:m<n),∃t,vs[m]?=some (Value.int (m:Int) t))(hvl:vs.length=n)(ko:Tim.wq ks vs out) :
    ∃ms:List Int,IntsAre out ms/\ms.Perm ((List.range n).map Int.ofNat)/\KeyOrd ks ms:=by
  obtain ⟨⟨ps,hp,rfl,hs⟩,stb⟩:=ko;have each:∀p∈ks.zip vs,∃(m:Nat) (t:Tok),m<n/\p.2=.int (m:Int) t/\ks.getD m 0=p.1/\vs[m]?=some p.2/\ks[m]?=some p.1:=by
    intro p hp';obtain ⟨m,hm⟩:=mem_iff_getElem?.mp hp';rw[List.getElem?_zip_eq_some] at hm;have hm1:m<n:=by have:=(List.getElem?_eq_some_iff.mp hm.1).1;lia
    obtain ⟨t,e⟩:=hv m hm1;have hm':=hm;rw[e] at hm;refine ⟨m,t,hm1,(Option.some.inj hm.2).symm,?_,hm'.2,hm'.1⟩;rw[getD_eq_getElem?_getD,hm.1];rfl
  have num:(ks.zip vs).map (λp=>numOf p.2)=(List.range n).map Int.ofNat:=by
    apply List.ext_getElem?;intro m;rw[getElem?_map,getElem?_map];by_cases hm:m<n
    · obtain ⟨t,e⟩:=hv m hm;rw[List.getElem?_range hm];have e1:ks[m]?=some ks[m]:=getElem?_eq_getElem (by lia);rw[List.getElem?_zip_eq_some (z:=(ks[m],Value.int (m:Int) t)) |>.mpr ⟨e1,e⟩];rfl
    · rw [List.getElem?_eq_none (by rw [List.length_zip];lia), List.getElem?_eq_none (by rw [length_range];lia)];rfl
  refine ⟨(ps.map Prod.snd).map numOf,qU (λv hv'=>?_) rfl,?_,?_⟩
  · obtain ⟨p,hp',rfl⟩:=mem_map.mp hv';obtain ⟨m,t,_,e,_⟩:=each p (hp.mem_iff.mp hp');exact ⟨_,t,e⟩
  · rw[map_map,<-num];exact hp.map _
  · unfold KeyOrd;rw[pairwise_map,pairwise_map];unfold Tim.CS at stb;rw[pairwise_map] at stb;refine (hs.and stb).imp_of_mem λ{p r} hp' hr' hle=>?_;obtain ⟨m,t,_,e,g,v1,k1⟩:=each p (hp.mem_iff.mp hp');obtain ⟨m',t',_,e',g',v2,k2⟩:=each r (hp.mem_iff.mp hr');rw[e,e'];have hle':p.1<=r.1:=by simpa using hle.1
    show ks.getD ((m:Int)).toNat 0<=ks.getD ((m':Int)).toNat 0/\(ks.getD ((m:Int)).toNat 0=ks.getD ((m':Int)).toNat 0->(m:Int)<=(m':Int))
    rw[Int.toNat_natCast,Int.toNat_natCast,g,g'];refine ⟨hle',λz=>?_⟩;have:=hle.2 m m' p.1 v1 v2 k1 (by rw[z];exact k2);lia
theorem KeyOrd.uniq {ks ms ms':List Int}{n:Nat}(hp:ms.Perm ((List.range n).map Int.ofNat))(hp':ms'.Perm ((List.range n).map Int.ofNat))(h:KeyOrd ks ms)(h':KeyOrd ks ms'):ms=ms':=by
  refine List.Perm.eq_of_pairwise (le:=λa b:Int=>ks.getD a.toNat 0<=ks.getD b.toNat 0/\(ks.getD a.toNat 0=ks.getD b.toNat 0->a<=b)) (λa b _ _ z1 z2=>?_) h h' (hp.trans hp'.symm);have e:=Int.le_antisymm z1.1 z2.1;exact Int.le_antisymm (z1.2 e) (z2.2 e.symm)
end L2
namespace WS
theorem uu {g:Int}{hs cs:List S3}(hg:0<=g)(h1:∀x∈hs,rH x)(h2:∀x∈cs,lW x){L:Int}(hL:200+g<=L):fT g hs cs L=0:=by
  unfold fT;rw[iE λb hb=>?_,iE λb hb=>?_]
  · rfl
  · obtain ⟨x,hx,rfl⟩:=mem_map.mp hb;have:=(h1 x hx).hi;show x.1<=L;lia
  · obtain ⟨x,hx,rfl⟩:=mem_map.mp hb;have:=(h2 x hx).hi;show x.2.1+g<=L;lia
end WS
namespace WS
noncomputable def za (xs:List Int)(L:Nat):Int:=(xs.drop L).sum
theorem rp:∀(xs:List Int) (j L:Nat) (v x:Int),xs[j]?=some x->za (xs.set j v) L=za xs L+(if L<=j then v - x else 0)
  | [],j,L,v,x,h=>by simp at h
  | a::xs,0,0,v,x,h=>by
    simp at h;subst h;unfold za;simp;lia
  | a::xs,0,L+1,v,x,h=>by
    unfold za;simp
  | a::xs,j+1,0,v,x,h=>by
    have ih:=rp xs j 0 v x (by simpa using h);unfold za at *;simp only[List.set_cons_succ,List.drop_zero,sum_cons] at *;rw[ih];simp;lia
  | a::xs,j+1,L+1,v,x,h=>by
    have ih:=rp xs j L v x (by simpa using h);unfold za at *;simp only[List.set_cons_succ,List.drop_succ_cons] at *;rw[ih];congr 1;by_cases c:L<=j
    · rw[if_pos c,if_pos (by lia)]
    · rw[if_neg c,if_neg (by lia)]
theorem tM (xs:List Int):za xs 0=xs.sum:=rfl
structure Drawn (g:Int)(hs cs:List S3)(gv wt:List Int):Prop where
  lg:gv.length=251
  lw:wt.length=251
  ng:∀x∈gv,0<=x
  nw:∀x∈wt,0<=x
  FX:∀L:Nat,L<=251->fT g hs cs (L:Nat)<=za wt L - za gv L
  all:za wt 0 - za gv 0=fT g hs cs 0
end WS
namespace WS
noncomputable def bq (lots:List S3)(level:Int)(a:List Int×Int)(n:Int):List Int×Int:=
  if 0<a.2/\level<=(lots.getD n.toNat (0,0,0)).1 then
    (a.1.set n.toNat (a.1.getD n.toNat 0+min a.2 ((lots.getD n.toNat (0,0,0)).2.2 - a.1.getD n.toNat 0)),a.2 - min a.2 ((lots.getD n.toNat (0,0,0)).2.2 - a.1.getD n.toNat 0))
  else a
noncomputable def eF (lots:List S3)(S ord:List Int)(d:List Int)(k:Nat):List Int:=(ord.foldl (bq lots (249 - k)) (d,-(S.getD (249 - k) 0) - d.sum)).1
noncomputable def nU (lots:List S3)(S ord:List Int):List Int:=(List.range 250).foldl (eF lots S ord) (lots.map λ_=>0)
theorem qQ (lots:List S3)(level:Int)(a:List Int×Int)(n:Int):(bq lots level a n).1.length=a.1.length:=by
  unfold bq;split
  · rw[length_set]
  · rfl
theorem i6 (lots:List S3)(level:Int):∀(ord:List Int) (a:List Int×Int),(ord.foldl (bq lots level) a).1.length=a.1.length
  | [],_=>rfl
  | n::ord,a=>by rw[List.foldl_cons,i6 lots level ord,qQ]
theorem ph (lots:List S3)(S ord d:List Int)(k:Nat):(eF lots S ord d k).length=d.length:=i6 _ _ _ _
theorem kG (lots:List S3)(S ord:List Int):∀(ks:List Nat) (d:List Int),(ks.foldl (eF lots S ord) d).length=d.length
  | [],_=>rfl
  | k::ks,d=>by rw[List.foldl_cons,kG lots S ord ks,ph]
theorem iN {α:Type}(f:α->Nat->α)(a:α)(n:Nat):(List.range (n+1)).foldl f a=f ((List.range n).foldl f a) n:=by
  rw[List.range_succ,List.foldl_append];rfl
theorem yu (d:List Int)(i j:Nat)(v:Int)(h:i<d.length):(d.set i v).getD j 0=if j=i then v else d.getD j 0:=by
  rw[getD_eq_getElem?_getD,List.getElem?_set,getD_eq_getElem?_getD];by_cases z:j=i
  · subst z;rw[if_pos rfl,if_pos h,if_pos rfl];rfl
  · rw[if_neg (Ne.symm z),if_neg z]
theorem sum_set (d:List Int)(i:Nat)(v:Int)(h:i<d.length):(d.set i v).sum=d.sum+(v - d.getD i 0):=by
  have e:d[i]?=some (d.getD i 0):=by rw[getD_eq_getElem?_getD,getElem?_eq_getElem h];rfl
  have:=rp d i 0 v (d.getD i 0) e;rw[if_pos (Nat.zero_le _),tM,tM] at this;exact this
noncomputable abbrev lv (lots:List S3)(n:Nat):Int:=(lots.getD n (0,0,0)).1
noncomputable abbrev pr (lots:List S3)(n:Nat):Int:=(lots.getD n (0,0,0)).2.1
noncomputable abbrev ms (lots:List S3)(n:Nat):Int:=(lots.getD n (0,0,0)).2.2
structure Bw (lots:List S3)(L:Int)(ord:List Nat)(d:List Int)(need:Int)(e:List Int)(rest:Int):Prop where
  len:e.length=d.length
  up:∀n,n<lots.length->d.getD n 0<=e.getD n 0/\e.getD n 0<=ms lots n
  at':∀n,d.getD n 0<e.getD n 0->L<=lv lots n
  sum:e.sum=d.sum+(need - rest)
  low:0<=need->0<=rest
  df:need<=0->e=d/\rest=need
  full:0<rest->∀n∈ord,L<=lv lots n->e.getD n 0=ms lots n
  out:∀n,n∉ord->e.getD n 0=d.getD n 0
  u6:∀n∈ord,∀m∈ord,d.getD m 0<e.getD m 0->pr lots n<pr lots m->L<=lv lots n->e.getD n 0=ms lots n
set_option tactic.hygienic true in
theorem turned (lots:List S3)(L:Int):∀(ord:List Nat) (d:List Int) (need:Int),d.length=lots.length->(∀n,n<lots.length->d.getD n 0<=ms lots n)->ord.Nodup->(∀n∈ord,n<lots.length)->ord.Pairwise (λa b=>pr lots a<=pr lots b) ->
    Bw lots L ord d need ((ord.map Int.ofNat).foldl (bq lots L) (d,need)).1 ((ord.map Int.ofNat).foldl (bq lots L) (d,need)).2
  | [],d,need,hl,hm,_,_,_=>⟨rfl,λn hn=>⟨Int.le_refl _,hm n hn⟩,λn h=>absurd h (Int.lt_irrefl _),by show d.sum=d.sum+(need - need);lia,λh=>h,λ_=>⟨rfl,rfl⟩,(λ_ n hn=>nomatch hn),λ_ _=>rfl,(λn hn=>nomatch hn)⟩
  | k::ord,d,need,hl,hm,nd,hr,pw=>by
    have hk:k<lots.length:=hr k (mem_cons_self ..);have nd':=nodup_cons.mp nd;have pw':=List.pairwise_cons.mp pw;rw[map_cons,List.foldl_cons];have ek:(Int.ofNat k).toNat=k:=rfl;by_cases hc:0<need/\L<=lv lots k
    · have es:bq lots L (d,need) (Int.ofNat k)=(d.set k (d.getD k 0+min need (ms lots k - d.getD k 0)),need - min need (ms lots k - d.getD k 0)):=by
        unfold bq;rw[ek,if_pos hc]
      rw[es];have hdk:=hm k hk;have hkl:k<d.length:=by lia
      generalize hh:min need (ms lots k - d.getD k 0)=h;have h0:0<=h:=by lia
      have h1:h<=need:=by lia
      have h2:d.getD k 0+h<=ms lots k:=by lia
      have h3:need - h≠0->d.getD k 0+h=ms lots k:=by lia
      have gs:∀j,(d.set k (d.getD k 0+h)).getD j 0=if j=k then d.getD k 0+h else d.getD j 0:=λj=>yu d k j _ hkl
      have T:=turned lots L ord (d.set k (d.getD k 0+h)) (need - h) (by rw[length_set];exact hl) (λn hn=>by
        rw[gs n];split
        · rename_i z;subst z;exact h2
        · exact hm n hn) nd'.2 (λn hn=>hr n (mem_cons_of_mem _ hn)) pw'.2
      generalize ((ord.map Int.ofNat).foldl (bq lots L) (d.set k (d.getD k 0+h),need - h)).1=e at T ⊢;generalize ((ord.map Int.ofNat).foldl (bq lots L) (d.set k (d.getD k 0+h),need - h)).2=rest at T ⊢;have ek':e.getD k 0=d.getD k 0+h:=by rw[T.out k nd'.1,gs k,if_pos rfl]
      have sat:0<need - h->e.getD k 0=ms lots k:=λz=>by rw[ek'];exact h3 (by lia)
      refine ⟨by rw[T.len,length_set],λn hn=>?_,λn hn=>?_,?_,λ_=>T.low (by lia),λz=>by lia,λz n hn hL=>?_,λn hn=>?_,λn hn m hmm hlt hp hL=>?_⟩
      · have:=T.up n hn;rw[gs n] at this;split at this
        · rename_i z;subst z;lia
        · exact this
      · by_cases z:n=k
        · subst z;exact hc.2
        · have:=T.at' n;rw[gs n,if_neg z] at this;exact this hn
      · rw[T.sum,sum_set d k _ hkl];lia
      · rcases List.mem_cons.mp hn with y | y
        · subst y;refine sat ?_;rcases Int.lt_or_le 0 (need - h) with x | x
          · exact x
          · have:=(T.df x).2;lia
        · exact T.full z n y hL
      · rw[T.out n λy=>hn (mem_cons_of_mem _ y),gs n,if_neg λy=>hn (by rw[y];exact mem_cons_self ..)]
      · rcases List.mem_cons.mp hn with y | y
        · subst y;rcases List.mem_cons.mp hmm with x | x
          · subst x;lia
          · have nk:m≠n:=λq=>nd'.1 (q ▸ x);refine sat ?_;rcases Int.lt_or_le 0 (need - h) with w | w
            · exact w
            · have:=(T.df w).1;rw[this,gs m,if_neg nk] at hlt;lia
        · rcases List.mem_cons.mp hmm with x | x
          · subst x;have:=pw'.1 n y;lia
          · have nk:m≠k:=λq=>nd'.1 (q ▸ x);refine T.u6 n y m x ?_ hp hL;rw[gs m,if_neg nk];exact hlt
    · have es:bq lots L (d,need) (Int.ofNat k)=(d,need):=by
        unfold bq;rw[ek,if_neg hc]
      rw[es];have T:=turned lots L ord d need hl hm nd'.2 (λn hn=>hr n (mem_cons_of_mem _ hn)) pw'.2;generalize ((ord.map Int.ofNat).foldl (bq lots L) (d,need)).1=e at T ⊢;generalize ((ord.map Int.ofNat).foldl (bq lots L) (d,need)).2=rest at T ⊢;have ek':e.getD k 0=d.getD k 0:=T.out k nd'.1;have no:L<=lv lots k->need<=0:=λz=>by
        rcases Int.lt_or_le 0 need with x | x
        · exact absurd ⟨x,z⟩ hc
        · exact x
      refine ⟨T.len,T.up,T.at',T.sum,T.low,T.df,λz n hn hL=>?_,λn hn=>T.out n λy=>hn (mem_cons_of_mem _ y),λn hn m hmm hlt hp hL=>?_⟩
      · rcases List.mem_cons.mp hn with y | y
        · subst y;have:=no hL;have:=(T.df this).2;lia
        · exact T.full z n y hL
      · rcases List.mem_cons.mp hmm with x | x
        · subst x;lia
        · rcases List.mem_cons.mp hn with y | y
          · subst y;have:=no hL;have:=(T.df this).1;rw[this] at hlt;lia
          · exact T.u6 n y m x hlt hp hL
noncomputable def ab (L:Int):List S3->List Int->Int
  | x::xs,d::ds=>(if L<=x.1 then d else 0)+ab L xs ds
  | _,_=>0
set_option tactic.hygienic true in
theorem uU {L:Int}:∀{lots:List S3} {d e:List Int},d.length=lots.length->e.length=lots.length->(∀n,n<lots.length->L<=lv lots n->d.getD n 0<=e.getD n 0)->ab L lots d<=ab L lots e
  | [],_,_,_,_,_=>by simp[ab]
  | x::xs,[],_,h,_,_=>by simp at h
  | x::xs,_::_,[],_,h,_=>by simp at h
  | x::xs,a::d,b::e,h1,h2,h=>by
    have ih:=uU (L:=L) (lots:=xs) (d:=d) (e:=e) (by simpa using h1) (by simpa using h2) λn hn hL=>by simpa using h (n+1) (by simpa using hn) hL
    have h0:=h 0 (by simp);simp only[ab];split
    · rename_i z;have:a<=b:=by simpa using h0 z
      lia
    · lia
set_option tactic.hygienic true in
theorem ub {L:Int}:∀{lots:List S3} {d:List Int},d.length=lots.length->(∀n,n<lots.length->¬L<=lv lots n->d.getD n 0=0)->ab L lots d=d.sum
  | [],[],_,_=>rfl
  | [],_::_,h,_=>by simp at h
  | x::xs,[],h,_=>by simp at h
  | x::xs,a::d,h1,h=>by
    have ih:=ub (L:=L) (lots:=xs) (d:=d) (by simpa using h1) λn hn hL=>by simpa using h (n+1) (by simpa using hn) hL
    have h0:=h 0 (by simp);simp only[ab,sum_cons];split
    · lia
    · rename_i z;have:a=0:=by simpa using h0 z
      lia
theorem vM {P:Nat->Prop}:∀{b:Nat},(∃t,t<=b/\P t)->∃t,t<=b/\P t/\∀s,s<=b->P s->s<=t
  | 0,⟨t,h1,h2⟩=>⟨t,h1,h2,λs hs _=>by lia⟩
  | b+1,⟨t,h1,h2⟩=>by
    by_cases hb:P (b+1)
    · exact ⟨b+1,Nat.le_refl _,hb,λs hs _=>hs⟩
    · have:t<=b:=by
        rcases Nat.lt_or_ge b t with z | z
        · have : t = b + 1 := by lia
          subst this;exact absurd h2 hb
        · exact z
      obtain ⟨u,u1,u2,u3⟩:=vM (P:=P) (b:=b) ⟨t,this,h2⟩;refine ⟨u,by lia,u2,λs hs hP=>?_⟩;rcases Nat.lt_or_ge b s with z | z
      · have : s = b + 1 := by lia
        subst this;exact absurd hP hb
      · exact u3 s z hP
noncomputable def sL (lots:List S3):List Int:=lots.map λx=>x.2.2
theorem sM (lots:List S3)(n:Nat):(sL lots).getD n 0=ms lots n:=by
  unfold sL ms;rw[getD_eq_getElem?_getD,getElem?_map,getD_eq_getElem?_getD];cases lots[n]?<;>rfl
structure m9 (lots:List S3)(S:List Int):Prop where
  m0:∀n,n<lots.length->0<=ms lots n
  EZ:∀j:Nat,j<=249->0<=S.getD j 0+ab (j:Nat) lots (sL lots)
  wF:∀j:Nat,j<=249->S.getD 0 0<=S.getD j 0
  s0:S.getD 0 0<=0
structure lZ (lots:List S3)(S:List Int)(k:Nat)(d:List Int):Prop where
  len:d.length=lots.length
  bd:∀n,n<lots.length->0<=d.getD n 0/\d.getD n 0<=ms lots n
  hi:∀n,n<lots.length->0<d.getD n 0->250 - (k:Int)<=lv lots n
  ok:∀j:Nat,250 - k<=j->j<=249->0<=S.getD j 0+ab (j:Nat) lots d
  sum:d.sum <= -(S.getD 0 0)
  sep:∀n m,n<lots.length->m<lots.length->pr lots n<pr lots m->d.getD n 0<ms lots n->0<d.getD m 0 ->
    ∃t:Nat,t<=249/\(250 - k<=t/\lv lots n<t/\t<=lv lots m/\S.getD t 0+ab (t:Nat) lots d=0)
theorem mN (lots:List S3)(n:Nat):(lots.map λ_=>(0:Int)).getD n 0=0:=by
  rw[getD_eq_getElem?_getD,getElem?_map];cases lots[n]?<;>rfl
theorem qo:∀lots:List S3,(lots.map λ_=>(0:Int)).sum=0
  | []=>rfl
  | _::l=>by rw[map_cons,sum_cons,qo l];rfl
theorem wW {lots:List S3}{S:List Int}(H:m9 lots S):lZ lots S 0 (lots.map λ_=>0) where
  len:=by rw[length_map]
  bd:=λn hn=>by rw[mN];exact ⟨Int.le_refl _,H.m0 n hn⟩
  hi:=λn hn h=>by rw[mN] at h;lia
  ok:=λj h1 h2=>by lia
  sum:=by rw[qo];have:=H.s0;lia
  sep:=λn m hn hm _ _ h=>by rw[mN] at h;lia
theorem yI {lots:List S3}{S:List Int}{o:List Nat}(H:m9 lots S)(nd:o.Nodup)(mem:∀n,n∈o↔n<lots.length)(pw:o.Pairwise λa b=>pr lots a<=pr lots b){k:Nat}(hk:k<250){d:List Int}(I:lZ lots S k d) :
    lZ lots S (k+1) (eF lots S (o.map Int.ofNat) d k):=by
  have T:=turned lots (249 - (k:Nat)) o d (-(S.getD (249 - k) 0) - d.sum) I.len (λn hn=>(I.bd n hn).2) nd (λn hn=>(mem n).mp hn) pw;unfold eF;generalize ((o.map Int.ofNat).foldl (bq lots (249 - (k:Nat))) (d,-(S.getD (249 - k) 0) - d.sum)).1=e at T ⊢;generalize ((o.map Int.ofNat).foldl (bq lots (249 - (k:Nat))) (d,-(S.getD (249 - k) 0) - d.sum)).2=rest at T;have hLk:((249 - k:Nat):Int)=249 - (k:Nat):=by lia
  have hle:249 - k<=249:=Nat.sub_le ..;have bd':∀n,n<lots.length->0<=e.getD n 0/\e.getD n 0<=ms lots n:=λn hn=>by have:=T.up n hn;have:=I.bd n hn;lia
  have len':e.length=lots.length:=T.len.trans I.len;have hi':∀n,n<lots.length->0<e.getD n 0->250 - ((k+1:Nat):Int)<=lv lots n:=λn hn h=>by
    rcases Int.lt_or_le (d.getD n 0) (e.getD n 0) with z | z
    · have:=T.at' n z;lia
    · have:=I.hi n hn (by lia);lia
  have aball:ab ((249 - k:Nat):Int) lots e=e.sum:=ub len' λn hn hL=>by
    have:=bd' n hn;rcases Int.lt_or_le 0 (e.getD n 0) with z | z
    · have:=hi' n hn z;lia
    · lia
  have mono:∀j:Int,ab j lots d<=ab j lots e:=λj=>uU I.len len' λn hn _=>(T.up n hn).1;have hrest:0 < -(S.getD (249 - k) 0) - d.sum->rest=0:=λhn=>by
    have h1:=T.low (by lia);rcases Int.lt_or_le 0 rest with z | z
    · have f:=T.full z;have c1:ab ((249 - k:Nat):Int) lots (sL lots)<=ab ((249 - k:Nat):Int) lots e:=uU (by unfold sL;rw[length_map]) len' λn hn hL=>by
        rw[sM,f n ((mem n).mpr hn) (by lia)];exact Int.le_refl _
      have c2:=H.EZ (249 - k) hle;have c3:=T.sum;lia
    · lia
  have tight:0 < -(S.getD (249 - k) 0) - d.sum->S.getD (249 - k) 0+ab ((249 - k:Nat):Int) lots e=0:=λhn=>by
    have:=hrest hn;have:=T.sum;lia
  refine ⟨len',bd',hi',λj h1 h2=>?_,?_,λn m hn hm hp hlt hpos=>?_⟩
  · by_cases z:j=249 - k
    · subst z;rcases Int.lt_or_le 0 (-(S.getD (249 - k) 0) - d.sum) with y | y
      · have:=tight y;lia
      · have:=(T.df y).1;rw[this] at aball ⊢;lia
    · have := I.ok j (by lia) h2;have:=mono (j:Nat);lia
  · rcases Int.lt_or_le 0 (-(S.getD (249 - k) 0) - d.sum) with y | y
    · have:=hrest y;have:=T.sum;have:=H.wF (249 - k) hle;lia
    · rw[(T.df y).1];exact I.sum
  · rcases Int.lt_or_le 0 (-(S.getD (249 - k) 0) - d.sum) with y | y
    rotate_left
    · have es:=(T.df y).1;rw[es] at hlt hpos ⊢;obtain ⟨t,t1,t2,t3⟩:=I.sep n m hn hm hp hlt hpos;exact ⟨t,t1,by lia,t3⟩
    rcases Int.lt_or_le (lv lots n) (249 - (k:Nat)) with hl | hl
    · -- this level parts them
      refine ⟨249 - k,hle,by lia,by lia,?_,tight y⟩;have:=hi' m hm hpos;lia
    · -- not drawn now
      have em:e.getD m 0=d.getD m 0:=by
        rcases Int.lt_or_le (d.getD m 0) (e.getD m 0) with z | z
        · have:=T.u6 n ((mem n).mpr hn) m ((mem m).mpr hm) z hp hl;lia
        · have:=(T.up m hm).1;lia
      have dn:d.getD n 0<ms lots n:=by have:=(T.up n hn).1;lia
      obtain ⟨t,t1,⟨t2,t3,t4,t5⟩,tmax⟩:=vM (I.sep n m hn hm hp dn (by lia));refine ⟨t,t1,by lia,t3,t4,?_⟩;have le1:ab (t:Nat) lots e<=ab (t:Nat) lots d:=uU len' I.len λq hq hL=>by
        rcases Int.lt_or_le (d.getD q 0) (e.getD q 0) with z | z
        · have pq:pr lots q<=pr lots n:=by
            rcases Int.lt_or_le (pr lots n) (pr lots q) with w | w
            · have:=T.u6 n ((mem n).mpr hn) q ((mem q).mpr hq) z w hl;lia
            · exact w
          have uq:=(T.up q hq).2;obtain ⟨s,s1,s2,s3,s4,s5⟩:=I.sep q m hq hm (by lia) (by lia) (by lia);have:=tmax s s1 ⟨s2,by lia,s4,s5⟩;lia
        · exact z
      have:=mono (t:Nat);lia
theorem vL {lots:List S3}{S:List Int}{o:List Nat}(H:m9 lots S)(nd:o.Nodup)(mem:∀n,n∈o↔n<lots.length)(pw:o.Pairwise λa b=>pr lots a<=pr lots b):∀k:Nat,k<=250->lZ lots S k ((List.range k).foldl (eF lots S (o.map Int.ofNat)) (lots.map λ_=>0))
  | 0,_=>wW H
  | k+1,h=>by
    rw[iN];exact yI H nd mem pw (by lia) (vL H nd mem pw k (by lia))
end WS
namespace WS
end WS
namespace DL
open PySem L2
theorem ud {α:Type}(l:List α)(k:Nat):gY l none (some ((k:Nat):Int))=l.take k:=by
  unfold gY;rw[HT.tK,HT.vY,List.drop_zero,Nat.sub_zero,<-List.take_take,List.take_length]
theorem xS {α:Type}(l:List α)(k:Nat):gY l (some ((k:Nat):Int)) none=l.drop k:=by
  unfold gY;rw[HT.tK,HT.vY];by_cases h:k<=l.length
  · rw[Nat.min_eq_left h];exact take_of_length_le (by rw[length_drop];exact Nat.le_refl _)
  · rw[Nat.min_eq_right (by lia),List.drop_eq_nil_of_le (Nat.le_refl _),List.drop_eq_nil_of_le (by lia),List.take_nil]
theorem eZ {α:Type}{xs:List α}{e:α->D}{g:Tg}{te:DT}{ρ:aH}{Q:B->Prop}(F:D->D)(f:α->D)(hF:∀x∈xs,F (e x)=f x)(hz:xs.length<=1000000)(h:∀x∈xs,g.d (e x) ρ λρ'=>te ρ' λb=>some b.val=some (f x))(q:Q (.o (.lst (xs.map f)))) :
    CW (xs.map e) g aU te ρ Q:=by
  refine oe F (by rw[length_map];exact hz) (λd hd=>?_) ?_
  · obtain ⟨x,hx,rfl⟩:=mem_map.mp hd;rw[hF x hx];exact h x hx
  · rw[map_map,show xs.map (F∘e)=xs.map f from map_congr_left hF];exact q
theorem cZ {α β:Type}{f g:α->Option β}:∀{xs:List α},(∀x∈xs,f x=g x)->xs.filterMap f=xs.filterMap g
  | [],_=>rfl
  | x::xs,h=>by rw[filterMap_cons,filterMap_cons,h x mem_cons_self,cZ λy hy=>h y (mem_cons_of_mem _ hy)]
theorem nt {α:Type}{xs:List α}{e:α->D}{g:Tg}{tc:jR}{te:DT}{ρ:aH}{Q:B->Prop}(F:D->Option D)(f:α->Option D)(hF:∀x∈xs,F (e x)=f x)(hz:xs.length<=1000000)(h:∀x∈xs,g.d (e x) ρ λρ'=>tc ρ' λc=>(c=true->te ρ' λb=>some b.val=f x)/\(c=false->none=f x))(q:Q (.o (.lst (xs.filterMap f)))) :
    CW (xs.map e) g tc te ρ Q:=by
  refine yH F (by rw[length_map];exact hz) (λd hd=>?_) ?_
  · obtain ⟨x,hx,rfl⟩:=mem_map.mp hd;rw[hF x hx];exact h x hx
  · rw[List.filterMap_map,show xs.filterMap (F∘e)=xs.filterMap f from cZ hF];exact q
theorem eX {α β:Type}(e:α->D)(d:β->D)(xs:List α)(ys:List β):tU (xs.map e) (ys.map d)=(xs.zip ys).map λp=>.tup [e p.1,d p.2]:=by
  unfold tU;rw[List.zip_map,map_map];rfl
theorem va (xs:List D)(i:Int)(Q:B->Prop):iq (.lst xs) (.int i) Q = ∃d,fm xs i=some d/\Q (.p d):=rfl
theorem nq (xs:List D)(i:Int)(Q:B->Prop):iq (.tup xs) (.int i) Q = ∃d,fm xs i=some d/\Q (.p d):=rfl
theorem vc (ns:List Int)(i:Int)(Q:B->Prop):iq (.scr ns) (.int i) Q = ∃n,fm ns i=some n/\Q (.p (.int n)):=rfl
theorem rT (i j:Int)(Q:B->Prop):fg (.int i) (.int j) Q=Q (.p (.int (i+j))):=rfl
theorem rV (xs ys:List D)(Q:B->Prop):fg (.lst xs) (.lst ys) Q=(xs.length+ys.length<=sizeLine/\Q (.o (.lst (xs++ys)))):=rfl
theorem rW (x y:Str)(Q:B->Prop):fg (.str x) (.str y) Q=(x.length+y.length<=sizeLine/\Q (.p (.str (x++y)))):=rfl
theorem rX (xs ys:List D)(Q:B->Prop):fg (.tup xs) (.tup ys) Q=(xs≠[]/\ys≠[]/\xs.length+ys.length<=sizeLine/\Q (.p (.tup (xs++ys)))):=rfl
theorem sf (i j:Int)(Q:B->Prop):fR (.int i) (.int j) Q=(t8 i j/\Q (.p (.int (i*j)))):=rfl
theorem rY (i j:Int)(Q:B->Prop):fF (.int i) (.int j) Q=Q (.p (.bl (decide (i=j)))):=rfl
theorem rZ (i j:Str)(Q:B->Prop):fF (.str i) (.str j) Q=Q (.p (.bl (decide (i=j)))):=rfl
theorem u9 (i j:Bool)(Q:B->Prop):fF (.bl i) (.bl j) Q=Q (.p (.bl (decide (i=j)))):=rfl
theorem sk (i j:Int)(Q:B->Prop):fI (.int i) (.int j) Q=Q (.p (.bl (!decide (i=j)))):=rfl
theorem sm (i j:Str)(Q:B->Prop):fI (.str i) (.str j) Q=Q (.p (.bl (!decide (i=j)))):=rfl
theorem vd (i j:Bool)(Q:B->Prop):fI (.bl i) (.bl j) Q=Q (.p (.bl (!decide (i=j)))):=rfl
theorem r6 (xs:List D)(P:B->Prop):fH [.lst xs] P=P (.p (.int xs.length)):=rfl
theorem se (xs:List D)(P:B->Prop):fH [.tup xs] P=P (.p (.int xs.length)):=rfl
theorem r9 (xs:List Int)(P:B->Prop):fH [.scr xs] P=P (.p (.int xs.length)):=rfl
noncomputable def E8 (d:D)(P:List D->Prop):Prop:=match d with
  | .lst xs=>P xs
  | .scr ns=>P (ns.map D.int)
  | _=>False
theorem pZ (te:DT)(ρ:aH)(P:List D->Prop):bG te ρ P=te ρ λb=>E8 b.val P:=rfl
theorem vF (xs:List D)(P:List D->Prop):E8 (.lst xs) P=P xs:=rfl
theorem vG (xs:List Int)(P:List D->Prop):E8 (.scr xs) P=P (xs.map D.int):=rfl
noncomputable def EH (d:D)(lo hi:Option Int)(Q:B->Prop):Prop:=match d with
  | .lst xs=>Q (.o (.lst (gY xs lo hi)))
  | .scr ns=>Q (.o (.lst ((gY ns lo hi).map D.int)))
  | .tup xs=>¬(HT.fv xs.length 0 lo=0/\HT.fv xs.length xs.length hi=xs.length)/\Q (.p (.tup (gY xs lo hi)))
  | _=>False
theorem xZ (te:DT)(tl th:xF)(ρ:aH)(Q:B->Prop):mi te tl th ρ Q=te ρ λb=>tl ρ λlo=>th ρ λhi=>EH b.val lo hi Q:=rfl
theorem v7 (xs:List D)(lo hi:Option Int)(Q:B->Prop):EH (.lst xs) lo hi Q=Q (.o (.lst (gY xs lo hi))):=rfl
theorem v8 (xs:List Int)(lo hi:Option Int)(Q:B->Prop):EH (.scr xs) lo hi Q=Q (.o (.lst ((gY xs lo hi).map D.int))):=rfl
theorem v9 (xs:List D)(lo hi:Option Int)(Q:B->Prop):EH (.tup xs) lo hi Q=(¬(HT.fv xs.length 0 lo=0/\HT.fv xs.length xs.length hi=xs.length)/\Q (.p (.tup (gY xs lo hi)))):=rfl
noncomputable def CG (d:D)(lo hi st:Option Int)(Q:B->Prop):Prop:=match d with
  | .lst xs=>Q (.o (.lst (d5 xs lo hi st)))
  | .scr ns=>Q (.o (.lst ((d5 ns lo hi st).map D.int)))
  | _=>False
theorem vf (te:DT)(tl th ts:xF)(ρ:aH)(Q:B->Prop):gn te tl th ts ρ Q=te ρ λb=>tl ρ λlo=>th ρ λhi=>ts ρ λst=>st≠some 0/\CG b.val lo hi st Q:=rfl
theorem tN (xs:List D)(lo hi st:Option Int)(Q:B->Prop):CG (.lst xs) lo hi st Q=Q (.o (.lst (d5 xs lo hi st))):=rfl
theorem tO (xs:List Int)(lo hi st:Option Int)(Q:B->Prop):CG (.scr xs) lo hi st Q=Q (.o (.lst ((d5 xs lo hi st).map D.int))):=rfl
theorem pV (xs:List D)(P:B->Prop):cb [.lst xs] P=P (.o (.lst xs)):=rfl
theorem pX (xs:List D)(P:B->Prop):cb [.tup xs] P=P (.o (.lst xs)):=rfl
theorem pW (xs:List Int)(P:B->Prop):cb [.scr xs] P=P (.o (.lst (xs.map D.int))):=rfl
theorem DC {α:Type}(a:α)(l:List α):fm (a::l) (0:Int)=some a:=by unfold fm qf;simp
theorem BL {α:Type}(a b:α)(l:List α):fm (a::b::l) (1:Int)=some b:=by
  have:fm (a::b::l) (((1:Nat)):Int)=some b:=lj rfl;exact this
theorem E9 {α:Type}(a b c:α)(l:List α):fm (a::b::c::l) (2:Int)=some c:=by
  have:fm (a::b::c::l) (((2:Nat)):Int)=some c:=lj rfl;exact this
theorem Fb {α:Type}(a b c d:α)(l:List α):fm (a::b::c::d::l) (3:Int)=some d:=by
  have:fm (a::b::c::d::l) (((3:Nat)):Int)=some d:=lj rfl;exact this
theorem Fc {α:Type}(a b c d e:α)(l:List α):fm (a::b::c::d::e::l) (4:Int)=some e:=by
  have:fm (a::b::c::d::e::l) (((4:Nat)):Int)=some e:=lj rfl;exact this
theorem Dp {α:Type}(a:α)(p:α->Prop):(∃d,some a=some d/\p d)=p a:=propext ⟨by rintro ⟨d,e,h⟩;cases e;exact h,λh=>⟨a,rfl,h⟩⟩
theorem iz {α:Type}{xs:List α}{e:α->D}{k:Nat}{x:α}(h:xs[k]?=some x):fm (xs.map e) ((k:Nat):Int)=some (e x):=by
  refine lj ?_;rw[getElem?_map,h];rfl
end DL
namespace L2
open PySem PySem.Spec PyProof.Rows PySem.W
section
variable {X:Cx} {pins:List (Addr×Obj)} {σ:St} {H:Hp} {s:Shared}
end
theorem tL {K:Frag}{G G':Hp}{a:Addr}{xs:List V}(e:aE G G')(h:kX K G a xs):kX K G' a xs:=by
  rcases h with h | h
  · exact .inl (h.imp (λz=>e _ _ z) (by rintro ⟨o,z⟩;exact ⟨o,e _ _ z⟩))
  · exact .inr h
noncomputable def Es (t:TA):TA:=wj (EJ (λxs H Q=>∃j,xs = [.int j]/\∀p,H p=none->Q (.ref p) (upd H p (.rng 0 j))) t) AO
noncomputable def AR (K:Frag)(i:Nat)(j:Int)(t:TA):TE:=λσ H Q=>Es t σ H λus H2=>∃(p:Addr) (n:Nat) (la:Addr) (xs:List V) (ks:List Int),us = [.ref p]/\H2 p=some (.rng 0 n)/\n<64/\ks.length=n/\σ[i]?=some (some (.ref la))/\d6 K H2 la xs /\
  (∀(m:Nat) (k:Int),ks[m]?=some k->∃ta ys,xs[m]?=some (.ref ta)/\kX K H2 ta ys/\fm ys j=some (.int k)) /\
  ∀(l:Addr) (ms:List Int) (H3:Hp),aE H2 H3->H3 l=none->ms.Perm ((List.range n).map Int.ofNat)->KeyOrd ks ms->Q (.ref l) (upd H3 l (.lst (ms.map V.int)))
section
variable {X:Cx}
theorem yW {i:Nat}{P c cc:Addr}{x y:Str}{params:Arguments}{scope:Scope}{e:Expr}{lpos kpos p pr posr pos p1 p2 p3 p4 p5:Pos}{kk:Nat}{j:Int}{t:TA}
    (hg:Gl X "sorted") (hm:X.mg "sorted" = none) (hgr:Gl X "range") (hmr:X.mg "range" = none) (hc:X.calm=true) (room:fX 0 X.A)
    (hcode:X.env.code=.ref c) (C:CodeHd X.base c P) (B:bp X.mg X.base) (hT:TabAt X.H₀ P (X.env.qual++"<lambda>"))
    (hN:X.N[i]?=some y) (hkc:X.env.kindOf y=some .cell) (hcc:X.env.cells.lookup y=some cc) (hcl:closureFor scope X.env=pure [(y,cc)]) (hdef:defaultsOf params X.env=([],[]))
    (hbind:∀q pm c' ctv v,bindArgs (kla_fn "<lambda>" q params (.Subscript (.Subscript (.Name y p1) (.Name x p2) p3) (.Constant (.int j) kk p4) p5) scope [(y,cc)] pm (.ref c') ctv) ⟨[v],[]⟩=pure [(x,v)])
    (hk:scope.kind=.function) (hco:scope.isCoroutine=false) (hgen:scope.isGenerator=false) (hcell:∀z∈scope.names,z.2≠.cell) (hlx:scope.names.lookup x=some .local) (hly:scope.names.lookup y=some .free)
    (hdx:(x == ("__debug__" : Str))=false) (hdy:(y == ("__debug__" : Str))=false) (hcy:(y == ("__classdict__" : Str))=false)
    (ha:PA X [e] t) (he0:autoParam (starEach [e] X.env = [(false,eval e X.env)]) aZa._auto_1)
    (he:autoParam (starEach [.Call (.Name "range" pr) [e] [] posr] X.env = [(false,eval (.Call (.Name "range" pr) [e] [] posr) X.env)]) aZa._auto_1) :
    PE X (.Call (.Name "sorted" p) [.Call (.Name "range" pr) [e] [] posr] [⟨some "key",.Lambda params (.Subscript (.Subscript (.Name y p1) (.Name x p2) p3) (.Constant (.int j) kk p4) p5) scope lpos,kpos⟩] pos) (AR X.K i j t):=by
  intro pins s σ H Q I h;have hpa:PA X [.Call (.Name "range" pr) [e] [] posr] (Es t):=br (mF mP hgr hmr PyProof.Rows.boot_range ha (he:=by rw[he0];rfl) (hpl:=rfl)) gS (by rw[he];rfl);refine wpAny_Call_Name_kw (fh I hg hm (show bootBuiltins "sorted" = some (.builtin "sorted") by first | rfl | decide) ?_ (by decide) (by decide));refine callWith_kw (de (hpa pos pins s σ H _ I h) ?_) (by rw[he];rfl) (by rw[he];rfl) rfl rfl;rintro us s1 ⟨vs,H1,I1,r1,q1⟩;obtain ⟨q,n,la,xs,ks,rfl,hq,h64,hl,hσ,hsl,hks,fin⟩:=q1;obtain ⟨u,rfl,rx⟩:=vals1 r1;cases rx;show wpAny _ _ (evalAll [(do let v <-eval (.Lambda params (.Subscript (.Subscript (.Name y p1) (.Name x p2) p3) (.Constant (.int j) kk p4) p5) scope lpos) X.env;standAt pos;pure v)]) _ _ s1;refine wpAny_evalAll_cons (wpAny_bind (yG I1 hcode C B hT hcl hdef λf c' ctv pm h3 tk3 H3 I3 hH3 ho hfn hge hrec=>wpAny_bind (wpAny_standAt (wpAny_pure (wpAny_evalAll_nil ?_)))));show wpAny _ _ (call (.builtin "sorted") [.ref q] [(Str.ofString "key",.ref f)]) _ _ _;have s13:aE H1 H3:=by
    rcases hH3 with z | ⟨z,z'⟩
    · rw[z];exact aE.refl _
    · rw[z'];exact iR z
  obtain ⟨tA,uA,vA,hr⟩:=(show d7 X.prog X.w H3 h3 q (.rng 0 n) from I3.bK q _ (s13 _ _ hq))
  have nb:(n:Int)<2 ^ 62:=by lia
  refine tP (kz:=ks) (lo:=0) (hi:=n) (n:=n) (I3.ok.hd hc) hr (small_one (by decide) (by decide) (by lia) nb) (by rw[rangeSize_one];split<;>lia) hl h64 (ksk_s1 _ _) (λx=>ksk_l1 _ _) (λx=>ksk_t1 _ x)
    (λi' tt k hk' h4 tk4 K4 Q4 q4=>?_) λD h5 tk5 out c5 vs5 K5 hD hDo hit ko=>?_
  · have I4:Inv X pins σ H3 { s1 with heap:=h4,toks:=tk4 }:=I3.kept (t':=tk4) K4;obtain ⟨ta,ys,g1,g2,g3⟩:=hks i' k hk';obtain ⟨m4,hn4,hl4⟩:=I4.loc;obtain ⟨u4,ru,lk⟩:=hl4 i y (.ref la) hN hσ (.inr (.inl hkc));cases ru;have hce:h4.IsCell cc (some (.ref la)):=by
      rcases lk with ⟨z,_⟩ | ⟨_,c4,e4,z⟩
      · rw[hkc] at z;cases z
      · rw[hcc] at e4;cases e4;exact z
    have e0:(0:Int)+(i':Int)*1=(i':Int):=by lia
    rw[e0];have hrec4:h4.CodeRec (.ref c') (X.env.qual++"<lambda>"):=by
      obtain ⟨c2,o2,vs2,t2,e2,gg,r2,r3⟩:=hrec;cases e2;exact ⟨c',o2,vs2,t2,rfl,K4 _ _ gg,r2,r3⟩
    refine yF I4 (K4 f _ ho) hrec4 hce (s13.seq hsl) g1 (tL s13 g2) g3 (hbind _ _ _ _) hk hco hgen hcell hlx hly hdx hdy hcy ?_ λh' tk t' keep=>q4 h' tk t' keep;have:=room.dp;show X.A.depth<_;lia
  · have hv5:∀(m':Nat) (_:m'<n),∃t,vs5.toList[m']?=some (Value.int (m':Int) t):=λm' hm'=>by
      have hlt:m'<vs5.toList.length:=by rw[length_toList,hit.1];exact hm'
      have e5:vs5[m']?=some vs5.toList[m']:=by
        have:vs5[m']?=vs5.toList[m']?:=by simp
        rw[this,getElem?_eq_getElem hlt]
      obtain ⟨t5,e6⟩:=hit.2 m' _ e5;refine ⟨t5,?_⟩;rw[getElem?_eq_getElem hlt,e6];congr 2;lia
    obtain ⟨ms,hi5,hp5,ho5⟩:=Cg (n:=n) hl hv5 (by rw[length_toList];exact hit.1) ko;refine ⟨.ref D,_,I3.laid (s:={ s1 with heap:=h3,toks:=tk3 }) (t':=tk5) K5 hD (o:=.lst (ms.map V.int)) ⟨?_,out.toList,c5,mM hi5,?_⟩,rfl,fin D ms H3 s13 (I3.bK.fresh hD) hp5 ho5⟩
    · rw[length_map,hp5.length_eq,length_map,length_range,sizeLine_eq];lia
    · rw[Array.toArray_toList];exact hDo
end
end L2
namespace L2
open PySem PySem.Spec PyProof.Rows PySem.W
theorem TabAt.same {H H':Hp}{P:Addr}{q:Str}(s:aE H H')(x:TabAt H P q):TabAt H' P q:=by
  obtain ⟨qs,t,e,e2⟩:=x;exact ⟨qs,t,s _ _ e,e2⟩
theorem PE.tab {X:Cx}{e:Expr}{t:TE}{P:Addr}{q:Str}(h:PE X e t)(hT:TabAt X.H₀ P q):PE X e (λσ H Q=>TabAt H P q->t σ H Q):=
  λpins s σ H Q I hw=>h pins s σ H Q I (hw (hT.un I.base))
structure Bn (K:Frag)(x qual:Str)(st:Stmt)(f:Addr)(fd:FuncData)(P:Addr):Prop where
  ex:∃(oc:Value) (od:Option Addr) (kV doc pm:Value) (an:Option Addr) (c:Addr) (ct:Value) (osl:Array (Option Value)),
    fd=fnOf x qual (aB st) (av st) (ag st) .none kV doc pm an (.ref c) ct/\K.lookup f=some ⟨oc,od,.func fd,osl⟩/\codeIn K (.ref c) qual=true/\codeHdIn K c P=true
theorem zT {K:Frag}{x qual:Str}{st:Stmt}{f c P:Addr}{oc:Value}{od an:Option Addr}{osl:Array (Option Value)}{kV doc pm ct:Value}(l:K.lookup f=some ⟨oc,od,.func (fnOf x qual (aB st) (av st) (ag st) .none kV doc pm an (.ref c) ct),osl⟩)
    (h:codeIn K (.ref c) qual=true) (h2:codeHdIn K c P=true):Bn K x qual st f (fnOf x qual (aB st) (av st) (ag st) .none kV doc pm an (.ref c) ct) P:=⟨oc,od,kV,doc,pm,an,c,ct,osl,rfl,l,h,h2⟩
end L2
namespace DL
open PySem L2 PyProof.Rows PySem.W
noncomputable def kQ (K:Frag)(P:Addr)(q:Str)(R:DR):Sp:=λvs H Q E=>TabAt H P q/\bS K R vs H Q E
section
variable {X:Cx} {e:Expr} {es:List Expr} {pos:Pos}
theorem qJ {x:Str}{k:Nat}{ps:List Str}{R:DR}{p:Pos}{t:fc}{P:Addr}{q:Str}(hT:TabAt X.H₀ P q)(F:Fn X.prog X.w X.K X.mg X.base x k ps (kQ X.K P q R))(hr:fX k X.A)(hg:Gl X x)(ha:DA X (e::es) t)
    (hdb:autoParam ((x == ("__debug__" : Str))=false) aZb._auto_1) (he:autoParam (starEach (e::es) X.env=(false,eval e X.env)::starEach es X.env) aZa._auto_1) (hpl:autoParam ((backTo pos (starEach es X.env)).any (·.1)=false) aZa._auto_1) :
    DE X (.Call (.Name x p) (e::es) [] pos) (bU R t):=
  DE.of ((Bg F hr hg ha.pa hdb he hpl).tab hT)<|by
    rintro σ H Q ⟨G,ρ,PP,s,re,h,k⟩ tb;refine ⟨G,ρ,_,s,re,h,λds vs H1 G1 p1 l1 w1 r1=>?_⟩;show kQ X.K P q R (vs++[]) H1 Q E0;rw[append_nil];exact ⟨tb.same w1.hh,ds,G1,PP,w1.gh,r1,p1,sD k w1⟩
noncomputable def uf (i:Nat)(j:Int)(t:fc):DT:=λρ Q=>t ρ λds=>match ds with
  | [.int n]=>∃(xs:List D) (ks:List Int),aI ρ i=some (.p (.lst xs))/\(ks.length:Int)=n/\ks.length<64 /\
    (∀(m:Nat) (k:Int),ks[m]?=some k->∃ys,xs[m]?=some (.tup ys)/\fm ys j=some (.int k)) /\
    ∀ms:List Int,ms.Perm ((List.range ks.length).map Int.ofNat)->KeyOrd ks ms->Q (.o (.lst (ms.map D.int)))
  | _=>False
set_option tactic.hygienic true in
theorem yb {i:Nat}{P c cc:Addr}{x y:Str}{params:Arguments}{scope:Scope}{lpos kpos p pr posr p1 p2 p3 p4 p5:Pos}{kk:Nat}{j:Int}{t:fc}
    (hg:Gl X "sorted") (hm:X.mg "sorted" = none) (hgr:Gl X "range") (hmr:X.mg "range" = none) (hc:X.calm=true) (room:fX 0 X.A)
    (hcode:X.env.code=.ref c) (C:codeHdIn X.K c P=true) (DD:X.K.In X.base) (B:bp X.mg X.base) (hT:TabAt X.H₀ P (X.env.qual++"<lambda>"))
    (hN:X.N[i]?=some y) (hkc:X.env.kindOf y=some .cell) (hcc:X.env.cells.lookup y=some cc) (hcl:closureFor scope X.env=pure [(y,cc)]) (hdef:defaultsOf params X.env=([],[]))
    (hbind:∀q pm c' ctv v,bindArgs (kla_fn "<lambda>" q params (.Subscript (.Subscript (.Name y p1) (.Name x p2) p3) (.Constant (.int j) kk p4) p5) scope [(y,cc)] pm (.ref c') ctv) ⟨[v],[]⟩=pure [(x,v)])
    (hk:scope.kind=.function) (hco:scope.isCoroutine=false) (hgen:scope.isGenerator=false) (hcell:∀z∈scope.names,z.2≠.cell) (hlx:scope.names.lookup x=some .local) (hly:scope.names.lookup y=some .free)
    (hdx:(x == ("__debug__" : Str))=false) (hdy:(y == ("__debug__" : Str))=false) (hcy:(y == ("__classdict__" : Str))=false)
    (ha:DA X [e] t) (he0:autoParam (starEach [e] X.env = [(false,eval e X.env)]) aZa._auto_1)
    (he:autoParam (starEach [.Call (.Name "range" pr) [e] [] posr] X.env = [(false,eval (.Call (.Name "range" pr) [e] [] posr) X.env)]) aZa._auto_1) :
    DE X (.Call (.Name "sorted" p) [.Call (.Name "range" pr) [e] [] posr] [⟨some "key",.Lambda params (.Subscript (.Subscript (.Name y p1) (.Name x p2) p3) (.Constant (.int j) kk p4) p5) scope lpos,kpos⟩] pos) (uf i j t):=
  DE.of (yW hg hm hgr hmr hc room hcode (codeHd_of_K DD C) B hT hN hkc hcc hcl hdef hbind hk hco hgen hcell hlx hly hdx hdy hcy ha.pa he0 he)<|by
    rintro σ H Q ⟨G,ρ,PP,s,re,h,k⟩;refine ⟨G,ρ,_,s,re,h,λds vs H1 G1 p1 l1 w1 r1=>?_⟩;split at p1
    · rename_i n;obtain ⟨xs,ks,hget,hn,h64,hks,fin⟩:=p1;obtain ⟨v,rfl,rv⟩:=gK r1;cases rv;obtain ⟨v,hσ,rv⟩:=re i _ hget;obtain ⟨la,us,rfl,ea,rr⟩:=(rv.mono w1.gg).lst_inv;refine ⟨n,rfl,λp hp=>⟨p,ks.length,la,us,ks,rfl,by rw[bf,hn],h64,rfl,hσ,?_,λm k' hk'=>?_,λl ms H3 s23 hl hpm hko=>?_⟩⟩
      · exact d6.of (by rw[aC (aX (w1.gh _ _ ea) hp)];exact w1.gh _ _ ea)
      · obtain ⟨ys,e1,e2⟩:=hks m k' hk';obtain ⟨u,e3,ru⟩:=bA rr e1;obtain ⟨ta,zs,rfl,st,rz⟩:=ru.iy;obtain ⟨z,e4,rz'⟩:=qx rz e2;cases rz';exact ⟨ta,zs,e3,tL (w1.gh.upd (w1.gh.free hp)) st,e4⟩
      · have w2:Wd H G H3 G1:=⟨(w1.hh.trans (iR hp)).trans s23,w1.gg,(w1.gh.trans (iR hp)).trans s23,w1.old⟩
        obtain ⟨w3,r3⟩:=e8 w2 hl (g6 (K:=X.K) ms);exact k _ _ _ _ (fin ms hpm hko) w3 r3
    · exact p1.elim
end
section
variable {P:Program} {w:World} {K:Frag} {mg:Str->Option Value} {base:Heap}
theorem BZ {x qual:Str}{st:Stmt}{f Pt:Addr}{q:Str}{fd:FuncData}{N ps:List Str}{k:Nat}{R:DR}(F:iT K x qual st f fd)(S:aF N ps (ag st))(len:∀ds Q,R ds Q->ds.length=ps.length)
    (hbody:∀(cdv:Value) (A:Around) (outer:List Env) (s:Shared) (H:Hp) (E:XK),fX k (A.deeper (envOfC qual (ag st) s.heap.objs.size f cdv))->TabAt H Pt q ->
      ∃t,t6 (qH gX P w K mg base N qual (ag st) f cdv A outer s H E).Be (av st) t/\∀ds Q,R ds Q->t { nx:=λ_=>Q (.p .non),rt:=Q } (aM N.length ds)):bO P w K mg base gX (k+1) f fd ps (kQ K Pt q R):=by
  refine F.ok S (by rintro vs H Q E ⟨_,ds,G,P,s,r,h,_⟩;rw[Paired.length r];exact len ds P h) ?_;rintro cdv A outer s H vs Q E hr ⟨tb,ds,G,P,sg,r,h,k⟩;obtain ⟨t,h1,h2⟩:=hbody cdv A outer s H E hr tb;obtain ⟨e1,e2,e3⟩:=g9 (K:=K) N.length r;refine ⟨_,h1.Cv H G,_,G,_,?_,Wd.refl sg,bC.only e2 e1 (iS _ _),h2 ds P h⟩;exact ⟨λσ H' G' ρ w' _ p=>k _ _ H' G' p w' (show Rep K G' V.non D.non from .non),λσ H' G' ρ w' _ p=>p.elim,λσ H' G' ρ w' _ p=>p.elim,λb v H' G' w' r' p=>k b v H' G' p w' r'⟩
theorem Fj {x qual:Str}{st:Stmt}{f Pt:Addr}{q:Str}{fd:FuncData}{N ps:List Str}{k:Nat}{R:DR}(F:Bn K x qual st f fd Pt)(S:aF N ps (ag st))(len:∀ds Q,R ds Q->ds.length=ps.length)
    (hbody:∀(c:Addr) (A:Around) (outer:List Env) (s:Shared) (H:Hp) (E:XK),fX k (A.deeper (envOfC qual (ag st) s.heap.objs.size f (.ref c)))->TabAt H Pt q->codeHdIn K c Pt=true ->
      ∃t,t6 (qH gX P w K mg base N qual (ag st) f (.ref c) A outer s H E).Be (av st) t/\∀ds Q,R ds Q->t { nx:=λ_=>Q (.p .non),rt:=Q } (aM N.length ds)):bO P w K mg base gX (k+1) f fd ps (kQ K Pt q R):=by
  obtain ⟨oc,od,kV,doc,pm,an,c,ct,osl,rfl,lk,hcd,hC⟩:=F.ex;refine A7 lk hcd S (by rintro vs H Q E ⟨_,ds,G,P,s,r,h,_⟩;rw[Paired.length r];exact len ds P h) ?_;rintro A outer s H vs Q E hr ⟨tb,ds,G,P,sg,r,h,k⟩;obtain ⟨t,h1,h2⟩:=hbody c A outer s H E hr tb hC;obtain ⟨e1,e2,e3⟩:=g9 (K:=K) N.length r;refine ⟨_,(h1.Cv H G).Be,_,G,_,?_,Wd.refl sg,bC.only e2 e1 (iS _ _),h2 ds P h⟩;exact ⟨λσ H' G' ρ w' _ p=>k _ _ H' G' p w' (show Rep K G' V.non D.non from .non),λσ H' G' ρ w' _ p=>p.elim,λσ H' G' ρ w' _ p=>p.elim,λb v H' G' w' r' p=>k b v H' G' p w' r'⟩
end
noncomputable def oM (K:Frag)(P:Addr)(q:Str):Sp:=λvs H Q E=>TabAt H P q/\Eh K vs H Q E
theorem Ag {P:Program}{w:World}{K:Frag}{mg:Str->Option Value}{base:Heap}{k:Nat}{f Pt:Addr}{q:Str}{fd:FuncData}{ps:List Str}(h:bO P w K mg base gX k f fd ps (kQ K Pt q Bi)):bO P w K mg base gX k f fd ps (oM K Pt q):=
  h.imp λvs H Q E ⟨tb,a,ns,e,hs,hl,q⟩=>⟨tb,[.scr ns],H,λb=>b=.p (.bl true),aE.refl _,by rw[e];exact .cons (.scr hs) .nil,⟨ns,rfl,hl,rfl⟩,λb v H' G' hb w r=>by
    subst hb;have:v=.bl true:=Rep.qA r;rw[this];exact q H'⟩
end DL
namespace DL
open PySem PySem.Spec PyProof.Rows L2
noncomputable def oN (K:Frag)(Pt a:Addr)(qn:Str)(o:Obj)(xs:List V):Hp:=λb=>if b=Pt then some (.tbl #[.str qn 0]) else if b=a/\K.lookup a=none then some (.cM o (.lst xs)) else none
theorem rA {K:Frag}{Pt a b:Addr}{qn:Str}{o:Obj}{xs:List V}(h1:b≠Pt)(h2:b≠a):oN K Pt a qn o xs b=none:=by
  unfold oN;rw[if_neg h1,if_neg λz=>h2 z.1]
theorem wU {P:Program}{w:World}{K:Frag}{mg mb:Str->Option Value}{k:Nat}{fa a Pt c:Addr}{qn:Str}{fd:FuncData}{x:Str}{s₁:Shared}{vs:List Value}{ns:List Int}
    (KX:K.In s₁.heap) (hns:s₁.heap.Ns mainGlobals mg) (hb:s₁.heap.Ns builtinsNs mb) (hbb:∀x:Str,x≠"__name__"->mb x=bootBuiltins x) (hlim:s₁.heap.NoLimit) (hg:s₁.gens = #[]) (BM:bp mg s₁.heap)
    (hPt:s₁.heap.get? Pt=some (tabObj #[])) (hK:K.lookup Pt=none) (hC:PySem.W.codeHdIn K c Pt=true)
    (ha:s₁.heap.get? a=some { cls:=.type "list",data:=.seq vs.toArray }) (hi:IntsAre vs ns) (hl:ns.length<=63) (hr:fX k callerA)
    (F:∀base:Heap,K.In base->base.Ns mainGlobals mg->bp mg base->bO P w K mg base gX k fa fd [x] (oM K Pt qn)) (hbind:∀(s:Shared) (u:Value),BindsTo s fd ⟨[u],[]⟩ [(x,u)]) :
    codeAny (model P w) callerA (.call (.ref fa) ⟨[.ref a],[]⟩) (λr s'=>r=.ok (.ret (.bool true))/\OldK s₁.heap s'.heap/\s'.os=s₁.os/\AllBare s'.gens) s₁:=by
  have rv:=mM hi;have lenV:=hi.length;have haP:a≠Pt:=λz=>by rw[z,hPt] at ha;cases ha
  generalize hH:oN K Pt a qn { cls:=.type "list",data:=.seq vs.toArray } (ns.map V.int)=H;have hHP:H Pt=some (.tbl #[.str qn 0]):=by rw[<-hH];unfold oN;rw[if_pos rfl]
  have hHo:∀b,b≠Pt->b≠a->H b=none:=λb h1 h2=>by rw[<-hH];exact rA h1 h2
  have hHa:H a=none/\(∃o,K.lookup a=some o)\/H a=some (.cM { cls:=.type "list",data:=.seq vs.toArray } (.lst (ns.map V.int)))/\K.lookup a=none:=by
    rw[<-hH];unfold oN;rw[if_neg haP];cases q:K.lookup a with
    | none=>exact .inr ⟨by rw[if_pos ⟨rfl,rfl⟩],rfl⟩
    | some o=>exact .inl ⟨by rw[if_neg (λz=>nomatch z.2)],o,rfl⟩
  have small:ns.length<=sizeLine:=by rw[sizeLine_eq];lia
  have bK:lR P w H s₁.heap:=λb u e=>by
    by_cases h1:b=Pt
    · subst h1;rw[hHP] at e;cases e;exact ⟨#[],hPt,trivial,λpos cv z=>nomatch z⟩
    · by_cases h2:b=a
      · subst h2;rcases hHa with ⟨z,_⟩ | ⟨z,_⟩
        · rw[z] at e;cases e
        · rw[z] at e;cases e;exact ⟨ha,by rw[length_map];exact small,vs,_,rv,ha⟩
      · rw[hHo b h1 h2] at e;cases e
  have dictFree:∀{b:Addr} {o:Obj},s₁.heap.get? b=some o->o.cls≠.none->o.cls≠.type "list"->H b=none:=λ{b o} e d1 d2=>hHo b (λz=>by rw[z,hPt] at e;cases e;exact d1 rfl) (λz=>by rw[z,ha] at e;cases e;exact d2 rfl);have nsFree:∀{b:Addr} {m:Str->Option Value},s₁.heap.Ns b m->(qS s₁.heap H).Ns b m:=λ{b m} ⟨o,es,ep,e,d,r⟩ =>
    ⟨o,es,ep,n4 e (hHo b (λz=>by rw[z,hPt] at e;cases e;cases d) (λz=>by rw[z,ha] at e;cases e;cases d)),d,r⟩
  have hKb:K.In (qS s₁.heap H):=λb o e=>n4 (KX b o e) (by
    by_cases h1:b=Pt
    · subst h1;rw[hK] at e;cases e
    · by_cases h2:b=a
      · subst h2;rcases hHa with ⟨z,_⟩ | ⟨_,z⟩
        · exact z
        · rw[z] at e;cases e
      · exact hHo b h1 h2)
  have hM:Mod K mg (qS s₁.heap H):=⟨hKb,nsFree hns,⟨mb,nsFree hb,hbb⟩,let ⟨mc,h1,h2⟩:=hlim;⟨mc,nsFree h1,h2⟩⟩
  have hB:bp mg (qS s₁.heap H):=by
    obtain ⟨bm,ob,b1,b2,b3,b4,b5,b6⟩:=BM;exact ⟨bm,ob,b1,b2,n4 b3 (dictFree b3 (by rw[b4];intro z;cases z) (by rw[b4];decide)),b4,b5,b6⟩
  have e0:zA P w K mg (qS s₁.heap H) callerA [] s₁ H:=⟨rfl,hM,λb o e=>Am e,Nat.le_of_eq (wN _ _),trivial,λb hb=>absurd (show b∈([]:List Addr) from hb) (by simp),bK,.of_eq hg⟩
  have hS:d6 K H a (ns.map V.int):=by
    rcases hHa with ⟨_,o,z⟩ | ⟨z,_⟩
    · have e:=KX a o z;rw[ha] at e;cases e;exact .inr ⟨_,vs.toArray,_,z,rfl,rfl,rfl,by rw[size_toArray,lenV];exact small,by simpa using rv⟩
    · exact .inl (.inr ⟨_,z⟩)
  refine codeAny_mono ((F _ hKb (nsFree hns) hB).run callerA [] s₁ H ⟨[.ref a],[]⟩ [.ref a] [.ref a] (λv _=>v=.bl true) (λ_ _ _=>False) hr e0 (hbind s₁ (.ref a)) (.cons rfl .nil) ⟨⟨_,0,hHP,rfl⟩,a,ns,rfl,hS,hl,λ_=>rfl⟩) λr s' h=>?_;cases r with
  | error e=>exact False.elim h
  | ok fl =>
    cases fl with
    | next=>exact False.elim h
    | brk=>exact False.elim h
    | cont=>exact False.elim h
    | ret u =>
      obtain ⟨v,H',os,bare,un,hok',r',q⟩:=h;have q':v=.bl true:=q;subst q';obtain rfl:u=Value.bool true:=r';refine ⟨rfl,⟨λb o e=>?_,λb o e=>un.there b o e (by simp)⟩,os,bare⟩;by_cases h1:b=Pt
      · subst h1;rw[hPt] at e;cases e;obtain ⟨more,e2⟩:=un.oR _ _ hHP;obtain ⟨tb,e3,_⟩:=hok' _ _ e2;refine .inr (.inl ⟨((PySem.W.codeHd_of_K KX hC).tab hPt).isCodeTable,rfl,#[],tb,rfl,?_⟩);rw[e3];simp
      · refine .inl ?_;cases q:H b with
        | none=>exact un.keep b o e q (by intro z;exact absurd (show b∈([]:List Addr) from z) (by simp)) (by simp)
        | some u =>
          by_cases h2:b=a
          · subst h2;rcases hHa with ⟨z,_⟩ | ⟨z,_⟩
            · rw[q] at z;cases z
            · obtain ⟨e2,_⟩:=hok' _ _ (un.pj _ _ _ z);rw[ha] at e;cases e;exact e2
          · rw[hHo b h1 h2] at q;cases q
theorem zj {l:PySem.W.OpenLaw}{k:Nat}{q:Program}{loose:List Str}{XP:(Str->Option Value)->Heap->Prop}{YP:World->Heap->Prop}{d:DefRec}{K:Params->Frag}{x qn:Str}{Pt:Addr}
    (hn:l.most=some 63) (hdf:d.params.defaults = []) (hr:fX k callerA) (hY:∀(w:World) (h:Heap),YP w h->(K w.params).In h/\h.get? Pt=some (tabObj #[]))
    (F:∀(w:World) (mg:Str->Option Value) (fa:Addr) (h:Heap),(K w.params).In h->h.Ns mainGlobals mg->mg d.name=some (.ref fa) ->
      ∃(fd:FuncData) (c:Addr),(K w.params).lookup Pt=none/\PySem.W.codeHdIn (K w.params) c Pt=true/\(∀(s:Shared) (u:Value),BindsTo s fd ⟨[u],[]⟩ [(x,u)]) /\
        ∀base:Heap,(K w.params).In base->base.Ns mainGlobals mg->bp mg base->bO l.prog w (K w.params) mg base gX k fa fd [x] (oM (K w.params) Pt qn)) :
    PySem.W.WalkO q loose XP YP l.row.toRowW d [] (λf vs=>PySem.call f vs):=by
  refine Att.rN hn hdf λw s₀ s₁ mg mb fa o pm cd doc a vs ns G Y ho hd hcd hmg hobj hints hlen hg=>?_;obtain ⟨KX,hPt⟩:=hY w _ Y;obtain ⟨fd,c,hK,hC,hb,hF⟩:=F w mg fa _ KX G.T.g hmg;obtain ⟨bm,ob,b1,b2,b3,b4,b5,b6⟩:=G.T.bmain;exact wU KX G.T.g G.T.b G.T.builtins G.T.nolimit hg ⟨bm,ob,b1,b2,b3,b4,b5,b6⟩ hPt hK hC hobj hints hlen hr hF hb
end DL
namespace L2
open PySem PySem.Spec PyProof.Rows
section
variable {X:Cx} {e:Expr} {p pos kpos cpos:Pos} {j:Nat} {t:TA}
end
end L2
namespace DL
open PySem L2 PyProof.Rows
section
variable {X:Cx} {e:Expr} {p pos kpos cpos:Pos} {j:Nat} {t:fc}
end
end DL
namespace PySem
open Sem (wp)
section
variable {prog:Program} {w:World} {A:Around} {E:Value->Shared->Prop} {s:Shared}
noncomputable abbrev ku (h:Heap)(z TI TO:Addr)(f0:Value)(b:Bool):Prop:=
  h.get? z=some { cls:=.type "zip",dict:=none,data:=.fields #[f0,.bool b,.bool false,.ref TI,.ref TO],slots:=#[] }
theorem tS {a:Addr}{Q:Option Obj->Shared->Prop}(h:Q (s.heap.get? a) s):wpAny (model prog w) A (loadIfAlive a) Q E s:=by
  unfold loadIfAlive;intro Γ p st;rw[Sem.wp_loadIfAlive];exact h
theorem tY {z TI TO T:Addr}{oT:Obj}{b:Bool}{Q:Bool->Shared->Prop}(hz:ku s.heap z TI TO (rawInt T) b)(hT:s.heap.get? T=some oT)
    (hQ:∀h',ku h' z TI TO (rawInt T) true->h'.objs.size=s.heap.objs.size->(∀c o,c≠z->s.heap.get? c=some o->h'.get? c=some o)->Q false { s with heap:=h' }):wpAny (model prog w) A (Builtin.SmallTypes.ownedTupleIsFree (.ref z)) Q E s:=by
  unfold Builtin.SmallTypes.ownedTupleIsFree;refine wpAny_bind (wpAny_field hz rfl (x:=rawInt T) rfl ?_);refine wpAny_bind (tS ?_);rw[show ((T:Int)).toNat=T from rfl,hT];simp only[Option.isNone_some,Bool.false_eq_true,if_false];refine wpAny_bind (wpAny_field hz rfl (x:=.bool b) rfl ?_);cases b with
  | true=>exact wpAny_pure (hQ _ hz rfl λ_ _ _ e=>e)
  | false =>
    refine wpAny_bind (wpAny_setField_rec hz (by simp) λh₁ hz₁ hs₁=>wpAny_pure ?_);exact hQ h₁ hz₁ hs₁.1 λc o hc e=>hs₁.extBut _ _ hc e
theorem oW {z TI TO i1 i2 l1 l2 T:Addr}{oT:Obj}{bb:Bool}{k1 k2:Nat}{xs ys:Array Value}{x y:Value}{Q:Value->Shared->Prop}(D:ZipApart z TI TO i1 i2 l1 l2)
    (hz:ku s.heap z TI TO (rawInt T) bb) (hTI:IsPair s.heap TI (.ref i1) (.ref i2)) (hT:s.heap.get? T=some oT)
    (h1:s.heap.IsListIter i1 l1 k1) (h2:s.heap.IsListIter i2 l2 k2) (hl1:s.heap.IsList l1 xs) (hl2:s.heap.IsList l2 ys) (hx:xs[k1]?=some x) (hy:ys[k2]?=some y)
    (hQ:∀h',ku h' z TI TO (rawInt T) true->h'.IsListIter i1 l1 (k1+1)->h'.IsListIter i2 l2 (k2+1)->IsPair h' s.heap.objs.size x y->h'.objs.size=s.heap.objs.size+1 ->
      (∀c o,c≠z->c≠i1->c≠i2->s.heap.get? c=some o->h'.get? c=some o)->Q (.ref s.heap.objs.size) { s with heap:=h' }) :
    wpAny (model prog w) A (Builtin.«zip.__next__» ⟨[.ref z],[]⟩) (λfin s'=>∃v,fin=.done (.ret v)/\Q v s') E s:=by
  show wpAny _ _ (field (.ref z) 2 >>= _) _ _ _;refine wpAny_bind (wpAny_field hz rfl (x:=.bool false) rfl ?_);show wpAny _ _ (field (.ref z) 3 >>= _) _ _ _;refine wpAny_bind (wpAny_field hz rfl (x:=.ref TI) rfl ?_);refine wpAny_bind (wpAny_seqItems hTI rfl ?_);show wpAny _ _ (Builtin.SmallTypes.ownedTupleIsFree (.ref z) >>= _) _ _ _;refine wpAny_bind (tY hz hT λh₁ hz₁ hsz₁ hk₁=>?_);simp only[Bool.false_eq_true,if_false];have h1₁:h₁.IsListIter i1 l1 k1:=h1.at λo e=>hk₁ _ o D.i1z e;have h2₁:h₁.IsListIter i2 l2 k2:=h2.at λo e=>hk₁ _ o D.i2z e;have hl1₁:h₁.IsList l1 xs:=hl1.at λo e=>hk₁ _ o D.l1z e;have hl2₁:h₁.IsList l2 ys:=hl2.at λo e=>hk₁ _ o D.l2z e;refine wpAny_bind ?_;rw[<-Array.forIn_toList];simp only[List.forIn_cons,List.forIn_nil];refine wpAny_bind (wpAny_bind (wpAny_holding ?_));show wpAny _ _ (Builtin.SmallTypes.nextOf (.ref i1) >>= _) _ _ _;refine wpAny_bind (wpAny_nextOf_list_item h1₁ hl1₁ hx λh₂ h1₂ hs₂=>wpAny_pure (wpAny_pure ?_));have h2₂:h₂.IsListIter i2 l2 k2:=h2₁.at λo e=>hs₂.extBut _ _ D.i12.symm e;have hl2₂:h₂.IsList l2 ys:=hl2₁.at λo e=>hs₂.extBut _ _ D.l2i1 e;refine wpAny_bind (wpAny_bind (wpAny_holding ?_));show wpAny _ _ (Builtin.SmallTypes.nextOf (.ref i2) >>= _) _ _ _;refine wpAny_bind (wpAny_nextOf_list_item h2₂ hl2₂ hy λh₃ h2₃ hs₃=>wpAny_pure (wpAny_pure (wpAny_pure ?_)));show wpAny _ _ (newTuple [x,y] >>= _) _ _ _;refine wpAny_bind (wpAny_newTuple ?_);have hsz:h₃.objs.size=s.heap.objs.size:=by rw[hs₃.1,hs₂.1,hsz₁]
  have hz₃:ku h₃ z TI TO (rawInt T) true:=hs₃.extBut _ _ D.i2z.symm (hs₂.extBut _ _ D.i1z.symm hz₁);have h1₃:h₃.IsListIter i1 l1 (k1+1):=h1₂.at λo e=>hs₃.extBut _ _ D.i12 e;have key:=hQ (h₃.push { cls:=.type "tuple",data:=.seq #[x,y] }) (Heap.get?_push_of_some _ hz₃) (h1₃.at λo e=>Heap.get?_push_of_some _ e) (h2₃.at λo e=>Heap.get?_push_of_some _ e)
    (by rw[<-hsz];exact Heap.get?_push_size _ rfl) (by rw[Heap.size_push,hsz]) λc o c1 c2 c3 e=>Heap.get?_push_of_some _ (hs₃.extBut _ _ c3 (hs₂.extBut _ _ c2 (hk₁ _ _ c1 e)))
  rw[<-hsz] at key;exact wpAny_pure ⟨_,rfl,key⟩
theorem pN {z TI TO i1 i2 l1 l2 T:Addr}{oT:Obj}{bb:Bool}{k1 k2:Nat}{xs ys:Array Value}{Q:Fin->Shared->Prop}(hh:A.handled=none)(D:ZipApart z TI TO i1 i2 l1 l2)
    (hz:ku s.heap z TI TO (rawInt T) bb) (hTI:IsPair s.heap TI (.ref i1) (.ref i2)) (hT:s.heap.get? T=some oT)
    (h1:s.heap.IsListIter i1 l1 k1) (h2:s.heap.IsListIter i2 l2 k2) (hl1:s.heap.IsList l1 xs) (hl2:s.heap.IsList l2 ys) (hend:xs[k1]?=none\/ys[k2]?=none)
    (hE:∀h' e,(∀c o,c≠z->c≠i1->c≠i2->s.heap.get? c=some o->h'.get? c=some o)->(∃o,h'.get? e=some o/\o.cls=.type "StopIteration")->E (.ref e) { s with heap:=h' }) :
    wpAny (model prog w) A (Builtin.«zip.__next__» ⟨[.ref z],[]⟩) Q E s:=by
  show wpAny _ _ (field (.ref z) 2 >>= _) _ _ _;refine wpAny_bind (wpAny_field hz rfl (x:=.bool false) rfl ?_);show wpAny _ _ (field (.ref z) 3 >>= _) _ _ _;refine wpAny_bind (wpAny_field hz rfl (x:=.ref TI) rfl ?_);refine wpAny_bind (wpAny_seqItems hTI rfl ?_);show wpAny _ _ (Builtin.SmallTypes.ownedTupleIsFree (.ref z) >>= _) _ _ _;refine wpAny_bind (tY hz hT λh₁ hz₁ hsz₁ hk₁=>?_);simp only[Bool.false_eq_true,if_false];have h1₁:h₁.IsListIter i1 l1 k1:=h1.at λo e=>hk₁ _ o D.i1z e;have h2₁:h₁.IsListIter i2 l2 k2:=h2.at λo e=>hk₁ _ o D.i2z e;have hl1₁:h₁.IsList l1 xs:=hl1.at λo e=>hk₁ _ o D.l1z e;have hl2₁:h₁.IsList l2 ys:=hl2.at λo e=>hk₁ _ o D.l2z e;refine wpAny_bind ?_;rw[<-Array.forIn_toList];simp only[List.forIn_cons,List.forIn_nil];refine wpAny_bind (wpAny_bind (wpAny_holding ?_));show wpAny _ _ (Builtin.SmallTypes.nextOf (.ref i1) >>= _) _ _ _;cases hx:xs[k1]? with
  | none=>exact wpAny_bind (wpAny_nextOf_list_end hh h1₁ hl1₁ hx λh₂ e hs₂ he=>hE h₂ e (λc o c1 c2 c3 q=>hs₂ _ _ c2 (hk₁ _ _ c1 q)) he)
  | some x =>
    have hy:ys[k2]?=none:=by rcases hend with h | h;rw[hx] at h;cases h;exact h
    refine wpAny_bind (wpAny_nextOf_list_item h1₁ hl1₁ hx λh₂ h1₂ hs₂=>wpAny_pure (wpAny_pure ?_));have h2₂:h₂.IsListIter i2 l2 k2:=h2₁.at λo e=>hs₂.extBut _ _ D.i12.symm e;have hl2₂:h₂.IsList l2 ys:=hl2₁.at λo e=>hs₂.extBut _ _ D.l2i1 e;refine wpAny_bind (wpAny_bind (wpAny_holding ?_));show wpAny _ _ (Builtin.SmallTypes.nextOf (.ref i2) >>= _) _ _ _;exact wpAny_bind (wpAny_nextOf_list_end hh h2₂ hl2₂ hy λh₃ e hs₃ he=>hE h₃ e (λc o c1 c2 c3 q=>hs₃ _ _ c3 (hs₂.extBut _ _ c2 (hk₁ _ _ c1 q))) he)
structure hU (h:Heap)(z TI TO i1 i2 l1 l2:Addr)(xs ys:Array Value)(i:Nat):Prop where
  ti:IsPair h TI (.ref i1) (.ref i2)
  a1:h.IsListIter i1 l1 i
  a2:h.IsListIter i2 l2 i
  b1:h.IsList l1 xs
  b2:h.IsList l2 ys
  f:(IsZip h z TI TO .none/\∃a b,IsPair h TO a b)\/∃(T:Addr) (b:Bool) (x y:Value),ku h z TI TO (rawInt T) b/\IsPair h T x y/\T≠z/\T≠TO/\T≠i1/\T≠i2
theorem hU.ty {z TI TO i1 i2 l1 l2:Addr}{xs ys:Array Value}{i:Nat}(Z:hU s.heap z TI TO i1 i2 l1 l2 xs ys i):s.TypeIs (.ref z) "zip":=by
  rcases Z.f with ⟨hz,_⟩ | ⟨T,b,x,y,hz,_⟩<;>exact ⟨_,hz,rfl⟩
theorem hU.lt {h:Heap}{z TI TO i1 i2 l1 l2:Addr}{xs ys:Array Value}{i:Nat}(Z:hU h z TI TO i1 i2 l1 l2 xs ys i):z<h.objs.size/\i1<h.objs.size/\i2<h.objs.size:=by
  refine ⟨?_,?_,?_⟩
  · rcases Z.f with ⟨hz,_⟩ | ⟨T,b,x,y,hz,_⟩<;>exact Heap.lt_size hz
  · obtain ⟨_,e,_⟩:=Z.a1;exact Heap.lt_size e
  · obtain ⟨_,e,_⟩:=Z.a2;exact Heap.lt_size e
theorem hU.frame {h h':Heap}{z TI TO i1 i2 l1 l2 S:Addr}{xs ys:Array Value}{i:Nat}(Z:hU h z TI TO i1 i2 l1 l2 xs ys i)(hk:∀c o,c≠S->h.get? c=some o->h'.get? c=some o)
    (hS:S∉[z,TI,TO,i1,i2,l1,l2]) (hn:∀x y,¬IsPair h S x y):hU h' z TI TO i1 i2 l1 l2 xs ys i:=by
  simp only[List.mem_cons,List.not_mem_nil,or_false,not_or] at hS;obtain ⟨s1,s2,s3,s4,s5,s6,s7⟩:=hS;refine ⟨hk _ _ (Ne.symm s2) Z.ti,Z.a1.at λo e=>hk _ o (Ne.symm s4) e,Z.a2.at λo e=>hk _ o (Ne.symm s5) e,Z.b1.at λo e=>hk _ o (Ne.symm s6) e,Z.b2.at λo e=>hk _ o (Ne.symm s7) e,?_⟩;rcases Z.f with ⟨hz,a,b,ht⟩ | ⟨T,b,x,y,hz,hT,r⟩
  · exact .inl ⟨hk _ _ (Ne.symm s1) hz,a,b,hk _ _ (Ne.symm s3) ht⟩
  · exact .inr ⟨T,b,x,y,hk _ _ (Ne.symm s1) hz,hk _ _ (λe=>hn x y (e ▸ hT)) hT,r⟩
theorem zo {z TI TO i1 i2 l1 l2:Addr}{xs ys:Array Value}{i:Nat}{x y:Value}{Q:Option Value->Shared->Prop}(D:ZipApart z TI TO i1 i2 l1 l2)(Z:hU s.heap z TI TO i1 i2 l1 l2 xs ys i)(hx:xs[i]?=some x)(hy:ys[i]?=some y)
    (hQ:∀h',hU h' z TI TO i1 i2 l1 l2 xs ys (i+1)->IsPair h' s.heap.objs.size x y->h'.objs.size=s.heap.objs.size+1->(∀c o,c≠z->c≠TO->c≠i1->c≠i2->s.heap.get? c=some o->h'.get? c=some o)->Q (some (.ref s.heap.objs.size)) { s with heap:=h' }) :
    wpAny (model prog w) A (pyNext (.ref z)) Q E s:=by
  have hT:=Z.ty;obtain ⟨lz,li1,li2⟩:=Z.lt;rcases Z.f with ⟨hz,a,b,ht⟩ | ⟨T,b,u,v,hz,hTT,t1,t2,t3,t4⟩
  · have lt:=Heap.lt_size ht;refine wpAny_pyNext_zip_item D hz Z.ti ht Z.a1 Z.a2 Z.b1 Z.b2 hx hy λh' c1 c2 c3 c4 c5 c6 c7=>?_;exact hQ h' ⟨c7 _ _ D.TIz D.TITO D.TIi1 D.TIi2 Z.ti,c3,c4,Z.b1.at λo e=>c7 _ o D.l1z D.l1TO D.l1i1 D.l1i2 e,Z.b2.at λo e=>c7 _ o D.l2z D.l2TO D.l2i1 D.l2i2 e,
      .inr ⟨_,false,x,y,c1,c5,Nat.ne_of_gt lz,Nat.ne_of_gt lt,Nat.ne_of_gt li1,Nat.ne_of_gt li2⟩⟩ c5 c6 c7
  · unfold pyNext;refine wpAny_bind (wpAny_attempt (wpAny_callSpecial?_slot (name:=Str.ofString "__next__") hT F.slot_zip_next
      (wpAny_call_entry F.slot_zip_next hT F.entry_zip_next
        (oW D hz Z.ti hTT Z.a1 Z.a2 Z.b1 Z.b2 hx hy λh' c1 c3 c4 c5 c6 c7=>wpAny_pure ?_) (F.args_zip_next_1 _))))
    exact hQ h' ⟨c7 _ _ D.TIz D.TIi1 D.TIi2 Z.ti,c3,c4,Z.b1.at λo e=>c7 _ o D.l1z D.l1i1 D.l1i2 e,Z.b2.at λo e=>c7 _ o D.l2z D.l2i1 D.l2i2 e,
      .inr ⟨T,true,u,v,c1,c7 _ _ t1 t3 t4 hTT,t1,t2,t3,t4⟩⟩ c5 c6 λc o d1 _ d3 d4 e=>c7 c o d1 d3 d4 e
theorem AY {z TI TO i1 i2 l1 l2:Addr}{xs ys:Array Value}{i:Nat}{Q:Option Value->Shared->Prop}(hh:A.handled=none)(D:ZipApart z TI TO i1 i2 l1 l2)(Z:hU s.heap z TI TO i1 i2 l1 l2 xs ys i)(hend:xs[i]?=none\/ys[i]?=none)
    (hQ:∀h',(∀c o,c≠z->c≠TO->c≠i1->c≠i2->s.heap.get? c=some o->h'.get? c=some o)->Q none { s with heap:=h' }):wpAny (model prog w) A (pyNext (.ref z)) Q E s:=by
  have hT:=Z.ty;rcases Z.f with ⟨hz,a,b,ht⟩ | ⟨T,b,u,v,hz,hTT,t1,t2,t3,t4⟩
  · exact wpAny_pyNext_zip_end hh D hz Z.ti ht Z.a1 Z.a2 Z.b1 Z.b2 hend hQ
  · unfold pyNext;refine wpAny_bind (wpAny_attempt (wpAny_callSpecial?_slot (name:=Str.ofString "__next__") hT F.slot_zip_next
      (wpAny_call_entry F.slot_zip_next hT F.entry_zip_next (pN hh D hz Z.ti hTT Z.a1 Z.a2 Z.b1 Z.b2 hend λh' e hk he=>?_) (F.args_zip_next_1 _))))
    obtain ⟨o,ho,hc⟩:=he;refine wpAny_bind (wpAny_isInstance (T:="StopIteration") (b:=true) ⟨o,ho,hc⟩ isSubtype_stop ?_);exact wpAny_pure (hQ _ λc o d1 _ d3 d4 e=>hk c o d1 d3 d4 e)
theorem kq {T z lo:Nat}(h:z<lo)(h':lo<=T):T≠z:=by lia
structure uS (h:Heap)(xs ys:Array Value)(lo:Nat)(acc:Array Value):Prop where
  at':∀(j:Nat) (v:Value),acc[j]?=some v->∃(T:Addr) (x y:Value),v=Value.ref T/\xs[j]?=some x/\ys[j]?=some y/\IsPair h T x y/\lo<=T
  one:∀(i j:Nat) (v:Value),acc[i]?=some v->acc[j]?=some v->i=j
set_option tactic.hygienic true in
theorem uj {R:Result->Shared->Prop}{z TI TO i1 i2 l1 l2 S lo:Addr}{xs ys:Array Value}(res:Value)(hh:A.handled=none)(D:ZipApart z TI TO i1 i2 l1 l2)(hS:S∉[z,TI,TO,i1,i2,l1,l2])(hSlo:S<lo)
    (hlo:z<lo/\TO<lo/\i1<lo/\i2<lo) (hz:xs.size<=sizeLine) :
    ∀(k i:Nat) (s:Shared) (acc:Array Value) (c:Nat),min xs.size ys.size - i=k->i<=min xs.size ys.size->hU s.heap z TI TO i1 i2 l1 l2 xs ys i->lo<=s.heap.objs.size->s.heap.get? S=some { cls:=.type "list",dict:=none,data:=.seq acc c,slots:=#[] }->acc.size=i->uS s.heap xs ys lo acc ->
    (∀h' acc' c',(∀b o,b≠S->b≠z->b≠TO->b≠i1->b≠i2->s.heap.get? b=some o->h'.get? b=some o)->h'.get? S=some { cls:=.type "list",dict:=none,data:=.seq acc' c',slots:=#[] }->acc'.size=min xs.size ys.size->uS h' xs ys lo acc'->R (.ok (.ret res)) { s with heap:=h' }) ->
    codeAny (model prog w) A (.builtin "list.extend.loop" ⟨[.ref S,.ref z,res],[]⟩) R s:=by
  have hS':=hS;simp only[List.mem_cons,List.not_mem_nil,or_false,not_or] at hS';obtain ⟨s1,s2,s3,s4,s5,s6,s7⟩:=hS';intro k;induction k with
  | zero =>
    intro i s acc c hk hi Z hlos hSl hacc rows hR;have hin:i=min xs.size ys.size:=by lia
    have hend:xs[i]?=none\/ys[i]?=none:=by
      rcases Nat.le_total xs.size ys.size with h | h
      · exact .inl (Array.getElem?_eq_none (by lia))
      · exact .inr (Array.getElem?_eq_none (by lia))
    refine codeAny_builtin F.entry_extend_loop ?_;rw[Around.under_plainId F.plain_extend_loop _];show wpAny _ A.in1 (pyNext (.ref z) >>= _) _ _ s;refine wpAny_bind (AY hh D Z hend λh' hk'=>?_);refine wpAny_pure (hR h' acc c (λb o _ d1 d2 d3 d4 e=>hk' b o d1 d2 d3 d4 e) (hk' _ _ s1 s3 s4 s5 hSl) (by lia) ⟨λj v hj=>?_,rows.one⟩);obtain ⟨T,x,y,e1,e2,e3,e4,e5⟩:=rows.at' j v hj;exact ⟨T,x,y,e1,e2,e3,hk' _ _ (kq hlo.1 e5) (kq hlo.2.1 e5) (kq hlo.2.2.1 e5) (kq hlo.2.2.2 e5) e4,e5⟩
  | succ k ih =>
    intro i s acc c hk hi Z hlos hSl hacc rows hR;have hlt:i<min xs.size ys.size:=by lia
    have hx:=Array.getElem?_eq_getElem (xs:=xs) (i:=i) (by lia);have hy:=Array.getElem?_eq_getElem (xs:=ys) (i:=i) (by lia);refine codeAny_builtin F.entry_extend_loop ?_;rw[Around.under_plainId F.plain_extend_loop _];show wpAny _ A.in1 (pyNext (.ref z) >>= _) _ _ s;refine wpAny_bind (zo D Z hx hy λh' Z' hp hsz hk'=>?_);have hSl':=hk' _ _ s1 s3 s4 s5 hSl;show wpAny _ A.in1 (updateSeq S (·.push (.ref s.heap.objs.size)) >>= _) _ _ _;refine wpAny_bind ?_;have hSne:∀x y,¬IsPair h' S x y:=λx y e=>by have e':h'.get? S=some _:=e;rw[hSl'] at e';simp at e'
    have hk2:∀c o,c≠S->h'.get? c=some o->(h'.update S (Obj.mapSeq (·.push (Value.ref s.heap.objs.size)))).get? c=some o:=λc o hc e=>(Heap.get?_update_other _ _ (Ne.symm hc)).trans e;refine wpAny_updateSeq hSl' rfl (wpAny_pure ⟨plainId_quiet F.plain_extend_loop _,ih (i+1) _ (acc.push (.ref s.heap.objs.size)) _ (by lia) hlt (Z'.frame hk2 hS hSne) (by show lo<=(h'.update S _).objs.size;rw[Heap.size_update,hsz];exact Nat.le_trans hlos (Nat.le_succ _)) (Heap.get?_update_self _ hSl' rfl) (by rw[Array.size_push,hacc]) ⟨λj v hj=>?_,λa b v ha hb=>?_⟩ λh'' acc' c' hk'' hS'' ha hrows=>?_⟩)
      (by rw[hacc];lia) (by show (acc.push _).size<=sizeLine+1;rw[Array.size_push,hacc];lia)
    · rw[Array.getElem?_push] at hj;split at hj
      · rename_i ej;cases hj;rw[ej,hacc];exact ⟨_,_,_,rfl,hx,hy,hk2 _ _ (kq hSlo hlos) hp,hlos⟩
      · obtain ⟨T,x,y,e1,e2,e3,e4,e5⟩:=rows.at' j v hj;exact ⟨T,x,y,e1,e2,e3,hk2 _ _ (kq hSlo e5) (hk' _ _ (kq hlo.1 e5) (kq hlo.2.1 e5) (kq hlo.2.2.1 e5) (kq hlo.2.2.2 e5) e4),e5⟩
    · have old:∀m:Nat,acc[m]?=some (Value.ref s.heap.objs.size)->False:=λm hm=>by
        obtain ⟨T,x,y,e1,_,_,e4,_⟩:=rows.at' m _ hm;cases e1;exact Nat.lt_irrefl _ (Heap.lt_size e4)
      rw[Array.getElem?_push] at ha hb;split at ha
      · split at hb
        · lia
        · cases ha;exact (old _ hb).elim
      · split at hb
        · cases hb;exact (old _ ha).elim
        · exact rows.one _ _ _ ha hb
    · exact hR h'' acc' c' (λb o d0 d1 d2 d3 d4 e=>hk'' b o d0 d1 d2 d3 d4 (hk2 _ _ d0 (hk' _ _ d1 d2 d3 d4 e))) hS'' ha hrows
theorem uP:typeLookup (.type "zip") "__len__" = pure none:=by rw[typeLookup_type,builtinLookup_eq_fast];kernel_rfl
theorem tZ:typeLookup (.type "zip") "__length_hint__" = pure none:=by rw[typeLookup_type,builtinLookup_eq_fast];kernel_rfl
theorem nY {R:Result->Shared->Prop}{z TI TO i1 i2 l1 l2 S lo:Addr}{xs ys:Array Value}{c₀:Nat}(res:Value)(hh:A.handled=none)(D:ZipApart z TI TO i1 i2 l1 l2)(hS:S∉[z,TI,TO,i1,i2,l1,l2])(hSlo:S<lo)
    (hlo:z<lo/\TO<lo/\i1<lo/\i2<lo) (hz:xs.size<=sizeLine) (Z:hU s.heap z TI TO i1 i2 l1 l2 xs ys 0) (hlos:lo<=s.heap.objs.size) (hSl:s.heap.get? S=some { cls:=.type "list",data:=.seq #[] c₀ })
    (hR:∀h' acc' c',(∀b o,b≠S->b≠z->b≠TO->b≠i1->b≠i2->s.heap.get? b=some o->h'.get? b=some o)->h'.get? S=some { cls:=.type "list",dict:=none,data:=.seq acc' c',slots:=#[] }->acc'.size=min xs.size ys.size->uS h' xs ys lo acc'->R (.ok (.ret res)) { s with heap:=h' }) :
    wpAny (model prog w) A.in1 (Builtin.List.listExtendWith (.ref S) (.ref z) res)
      (λfin s'=>match fin with | .done f=>R (.ok f) s' | .again c'=>c'.quiet=true/\codeAny (model prog w) A c' R s') (λe s'=>R (.error e) s') s:=by
  have hT:=Z.ty;have hS':=hS;simp only[List.mem_cons,List.not_mem_nil,or_false,not_or] at hS';have hSz:S≠z:=hS'.1;unfold Builtin.List.listExtendWith;refine wpAny_bind (wpAny_typeOf hT ?_);have h1:Builtin.List.listSameRef (.ref S) (.ref z)=false:=by simp[Builtin.List.listSameRef,hSz]
  have h2:(Value.type "zip" == Value.type "list")=false:=by decide
  have h3:(Value.type "zip" == Value.type "tuple")=false:=by decide
  simp only[h1,h2,h3,Bool.or_false,Bool.false_eq_true,if_false];have hself:∀{Q:Value->Shared->Prop} {E:Value->Shared->Prop},Q (.ref z) s->wpAny (model prog w) A.in1 (pyIter (.ref z)) Q E s:=λh=>by
    rcases Z.f with ⟨hz,_⟩ | ⟨T,b,x,y,hz,_⟩
    · exact wpAny_pyIter_zip hz h
    · refine wpAny_pyIter_slot hT F.slot_zip_iter (wpAny_call_entry F.slot_zip_iter hT F.entry_zip_iter ?_ (F.args_zip_iter_1 _));show wpAny _ _ (ret (.ref z)) _ _ s;exact wpAny_pure ⟨_,rfl,"zip",_,hT,F.slot_zip_next.lookup,h⟩
  refine wpAny_bind (hself ?_);refine wpAny_bind (wpAny_holding ?_);unfold Builtin.List.listLengthHint;refine wpAny_bind (wpAny_specialOf hT uP ?_);show wpAny _ A.in1 (specialOf (Value.ref z) (Str.ofString "__length_hint__") >>= _) _ _ _;refine wpAny_bind (wpAny_specialOf hT tZ ?_);refine wpAny_pure ?_;show wpAny _ A.in1 (rule "list.extend.makes-room" >>= λ_=>Builtin.List.listTouch (.ref S) >>= λ_ =>
    again (.builtin "list.extend.loop" ⟨[.ref S,.ref z,res],[]⟩)) _ _ _
  refine wpAny_bind (wpAny_rule ?_);refine wpAny_bind ?_;show wpAny _ A.in1 (updateSeq S (·.push .none) >>= λ_=>updateSeq S (·.pop)) _ _ _;refine wpAny_bind (wpAny_updateSeq hSl rfl ?_);have hS₂:=Heap.get?_update_self (Obj.mapSeq (·.push Value.none)) hSl rfl;refine wpAny_updateSeq (hz:=by seq_fits) hS₂ rfl ?_;have hS₃:=Heap.get?_update_self (Obj.mapSeq (·.pop)) hS₂ rfl;have oth:∀b o,b≠S->s.heap.get? b=some o->((s.heap.update S (Obj.mapSeq (·.push Value.none))).update S (Obj.mapSeq (·.pop))).get? b=some o:=
    λb o hb e=>(Heap.get?_update_other _ _ (Ne.symm hb)).trans ((Heap.get?_update_other _ _ (Ne.symm hb)).trans e)
  have hSne:∀x y,¬IsPair s.heap S x y:=λx y e=>by have e':s.heap.get? S=some _:=e;rw[hSl] at e';simp at e'
  refine wpAny_pure ⟨plainId_quiet F.plain_extend_loop _,uj (A:=A) res hh D hS hSlo hlo hz _ 0 _ #[] _ rfl (Nat.zero_le _) (Z.frame oth hS hSne) (by show lo<=((s.heap.update S _).update S _).objs.size;rw[Heap.size_update,Heap.size_update];exact hlos) hS₃ rfl ⟨λj v hj=>by simp at hj,λa b v ha=>by simp at ha⟩ λh' acc' c' hk hS' ha hr=>?_⟩;exact hR h' acc' c' (λb o d0 d1 d2 d3 d4 e=>hk b o d0 d1 d2 d3 d4 (oth b o d0 e)) hS' ha hr
theorem o9 {Q:Value->Shared->Prop}{z TI TO i1 i2 l1 l2:Addr}{xs ys:Array Value}(hh:A.handled=none)(D:ZipApart z TI TO i1 i2 l1 l2)(hlt:z<s.heap.objs.size/\TI<s.heap.objs.size/\TO<s.heap.objs.size/\i1<s.heap.objs.size/\i2<s.heap.objs.size/\l1<s.heap.objs.size/\l2<s.heap.objs.size)
    (hz:xs.size<=sizeLine) (Z:hU s.heap z TI TO i1 i2 l1 l2 xs ys 0)
    (hQ:∀h' acc' c',(∀b o,b≠z->b≠TO->b≠i1->b≠i2->s.heap.get? b=some o->h'.get? b=some o)->h'.get? s.heap.objs.size=some { cls:=.type "list",dict:=none,data:=.seq acc' c',slots:=#[] }->acc'.size=min xs.size ys.size->uS h' xs ys (s.heap.objs.size+1) acc'->Q (.ref s.heap.objs.size) { s with heap:=h' }) :
    wpAny (model prog w) A (call (.type "list") [.ref z]) Q E s:=by
  obtain ⟨q1,q2,q3,q4,q5,q6,q7⟩:=hlt;refine callType_codes (Q₁:=λobj s₁=>obj=.ref s.heap.objs.size/\s₁ = { s with heap:=s.heap.push { cls:=.type "list",data:=.seq #[] } }) F.called_list (F.typeCall_list_1 _) F.entry_list_init
    (code_list_new _ ⟨rfl,rfl⟩) λobj s₁ h₁=>?_
  obtain ⟨rfl,rfl⟩:=h₁;have hS:(s.heap.push { cls:=.type "list",data:=.seq #[] }).get? s.heap.objs.size=some { cls:=.type "list",data:=.seq #[] }:=Heap.get?_push_size _ rfl;have hSf:s.heap.objs.size∉[z,TI,TO,i1,i2,l1,l2]:=λhm=>by
    simp only[List.mem_cons,List.not_mem_nil,or_false] at hm;rcases hm with e | e | e | e | e | e | e
    · exact Nat.ne_of_gt q1 e
    · exact Nat.ne_of_gt q2 e
    · exact Nat.ne_of_gt q3 e
    · exact Nat.ne_of_gt q4 e
    · exact Nat.ne_of_gt q5 e
    · exact Nat.ne_of_gt q6 e
    · exact Nat.ne_of_gt q7 e
  have hkp:∀b o,s.heap.get? b=some o->(s.heap.push { cls:=.type "list",data:=.seq #[] }).get? b=some o:=λb o e=>Heap.get?_push_of_some _ e;have hSne0:∀x y,¬IsPair s.heap s.heap.objs.size x y:=λx y e=>Nat.lt_irrefl _ (Heap.lt_size e);have Z1:hU (s.heap.push { cls:=.type "list",data:=.seq #[] }) z TI TO i1 i2 l1 l2 xs ys 0:=Z.frame (λc o _ e=>hkp c o e) hSf hSne0;refine ⟨⟨_,hS,rfl⟩,F.args_list_init_2 _ _,?_⟩;show wpAny _ A.in1.in1 (do let old <-Builtin.List.listItems (.ref s.heap.objs.size);Builtin.List.listUpdate (.ref s.heap.objs.size) (λ_=>#[]);letGo old.toList.reverse;Builtin.List.listExtendWith (.ref s.heap.objs.size) (.ref z) .none) _ _ _;refine wpAny_bind ?_;unfold Builtin.List.listItems;refine wpAny_bind (wpAny_seqItems hS rfl (wpAny_pure ?_));show wpAny _ A.in1.in1 (updateSeq s.heap.objs.size (λ_=>#[]) >>= λ_=>letGo (#[]:Array Value).toList.reverse >>= λ_=>Builtin.List.listExtendWith (.ref s.heap.objs.size) (.ref z) .none) _ _ _;refine wpAny_bind (wpAny_updateSeq hS rfl ?_);have hS₂:=Heap.get?_update_self (Obj.mapSeq (λ_=>(#[]:Array Value))) hS rfl;have oth:∀b o,b≠s.heap.objs.size->(s.heap.push { cls:=.type "list",data:=.seq #[] }).get? b=some o->((s.heap.push { cls:=.type "list",data:=.seq #[] }).update s.heap.objs.size (Obj.mapSeq (λ_=>(#[]:Array Value)))).get? b=some o:=
    λb o hb e=>(Heap.get?_update_other _ _ (Ne.symm hb)).trans e
  have hSne:∀x y,¬IsPair (s.heap.push { cls:=.type "list",data:=.seq #[] }) s.heap.objs.size x y:=λx y e=>by
    have e':(s.heap.push { cls:=.type "list",data:=.seq #[] }).get? s.heap.objs.size=some _:=e;rw[hS] at e';simp at e'
  refine wpAny_bind (wpAny_letGo ?_);refine nY (A:=A.in1) (lo:=s.heap.objs.size+1) .none hh D hSf (Nat.lt_succ_self _) ⟨Nat.lt_succ_of_lt q1,Nat.lt_succ_of_lt q3,Nat.lt_succ_of_lt q4,Nat.lt_succ_of_lt q5⟩ hz (Z1.frame oth hSf hSne) (by show _<=(Heap.update _ _ _).objs.size;rw[Heap.size_update,Heap.size_push];exact Nat.le_refl _) hS₂ λh' acc' c' hk hS' ha hr=>?_;exact ⟨rfl,hQ h' acc' c' (λb o d1 d2 d3 d4 e=>hk b o (Nat.ne_of_lt (Heap.lt_size e)) d1 d2 d3 d4 (oth b o (Nat.ne_of_lt (Heap.lt_size e)) (hkp b o e))) hS' ha hr⟩
end
end PySem
namespace L2
open PySem PySem.Spec PyProof.Rows
section
variable {X:Cx} {pins:List (Addr×Obj)} {σ:List (Option V)} {H H':Hp} {s:Shared} {h':Heap}
theorem Inv.Af {t':Nat}(I:Inv X pins σ H s)(k:∀b u,s.heap.get? b=some u->h'.get? b=some u)(same:∀b o,H b=some o->H' b=some o)
    (new:∀b o,H' b=some o->H b=none->s.heap.objs.size<=b/\d7 X.prog X.w H' h' b o):Inv X pins σ H' { s with heap:=h',toks:=t' }:=by
  refine I.un ⟨λb u q _ _ _=>k b u q,λb u q _ _ _=>⟨u.slots,k b u q⟩,λb u q n _=>?_,λb u q _=>⟨u,k b u q⟩,λb xs q=>same _ _ q,λb u xs q=>same _ _ q,λb ps q=>⟨#[],by rw[same _ _ q];simp⟩⟩ λb o e=>?_
  · cases e:H' b with
    | none=>rfl
    | some o=>exact absurd (Heap.lt_size q) (Nat.not_lt.mpr (new b o e n).1)
  · cases eb:H b with
    | none=>exact (new b o e eb).2
    | some u =>
      have:=same b u eb;rw[e] at this;cases this;exact (I.bK b o eb).df (λc v _ q=>k c v q) (λc q=>same _ _ q) λc xs q=>same _ _ q
end
end L2
namespace L2
open PySem PySem.Spec PyProof.Rows
theorem vW:∀{l:List Value},(∀(j:Nat) (v:Value),l[j]?=some v->∃T,v=Value.ref T)->∃as:List Addr,l=as.map Value.ref
  | [],_=>⟨[],rfl⟩
  | v::l,h=>by
    obtain ⟨T,rfl⟩:=h 0 v rfl;obtain ⟨as,rfl⟩:=vW (l:=l) λj v e=>h (j+1) v e;exact ⟨T::as,rfl⟩
theorem ql:∀as:List Addr,Vals (as.map V.ref) (as.map Value.ref)
  | []=>.nil
  | a::as=>.cons rfl (ql as)
open Classical in
noncomputable def zipHp (H:Hp) (ll:Addr) (as:List Addr) (xs ys:List V):Hp:=λb=>if b=ll then some (.lst (as.map V.ref)) else
  if h:∃q:Nat×V×V,as[q.1]?=some b/\xs[q.1]?=some q.2.1/\ys[q.1]?=some q.2.2 then some (.tup [h.choose.2.1,h.choose.2.2]) else H b
theorem oV {H:Hp}{ll:Addr}{as:List Addr}{xs ys:List V}:zipHp H ll as xs ys ll=some (.lst (as.map V.ref)):=if_pos rfl
theorem tV {H:Hp}{ll b:Addr}{as:List Addr}{xs ys:List V}{j:Nat}{x y:V}(one:∀(i j:Nat) (c:Addr),as[i]?=some c->as[j]?=some c->i=j)(hb:b≠ll)(h1:as[j]?=some b)(h2:xs[j]?=some x)(h3:ys[j]?=some y) :
    zipHp H ll as xs ys b=some (.tup [x,y]):=by
  have ex:∃q:Nat×V×V,as[q.1]?=some b/\xs[q.1]?=some q.2.1/\ys[q.1]?=some q.2.2:=⟨(j,x,y),h1,h2,h3⟩
  unfold zipHp;rw[if_neg hb,dif_pos ex];obtain ⟨c1,c2,c3⟩:=ex.choose_spec;have ej:=one _ _ _ c1 h1;rw[ej,h2] at c2;rw[ej,h3] at c3;cases c2;cases c3;rfl
theorem mO {H:Hp}{ll b:Addr}{as:List Addr}{xs ys:List V}(hb:b≠ll)(hn:∀j:Nat,as[j]?≠some b):zipHp H ll as xs ys b=H b:=by
  unfold zipHp;rw[if_neg hb,dif_neg];rintro ⟨q,h,_⟩;exact hn _ h
section
variable {X:Cx} {l l2:Expr} {ta:TA} {p pos p2 pos2:Pos}
noncomputable def Ew (t:TA):TE:=λσ H Q=>t σ H λvs H1=>∃a b xs ys,vs = [.ref a,.ref b]/\H1 a=some (.lst xs)/\H1 b=some (.lst ys) /\
  ∀(ll:Addr) (as:List Addr),H1 ll=none->(∀c∈as,H1 c=none)->ll∉as->(∀(i j:Nat) (c:Addr),as[i]?=some c->as[j]?=some c->i=j)->as.length=min xs.length ys.length->Q (.ref ll) (zipHp H1 ll as xs ys)
theorem Ay (hc:X.calm=true)(hg:Gl X "zip")(hm:X.mg "zip" = none)(hgl:Gl X "list")(hml:X.mg "list" = none)(ha:PA X [l,l2] ta)(hs:autoParam (starEach [l,l2] X.env = [(false,eval l X.env),(false,eval l2 X.env)]) aZa._auto_1)(hs2:autoParam (starEach [l2] X.env = [(false,eval l2 X.env)]) aZa._auto_1)
    (he:autoParam (starEach [.Call (.Name "zip" p2) [l,l2] [] pos2] X.env = [(false,eval (.Call (.Name "zip" p2) [l,l2] [] pos2) X.env)]) aZa._auto_1) :
    PE X (.Call (.Name "list" p) [.Call (.Name "zip" p2) [l,l2] [] pos2] [] pos) (Ew ta):=by
  intro pins s σ H Q I h;refine wpAny_Call_Name_kw (fh I hgl hml boot_list ?_ (by decide) (by decide));refine PyProof.Rows.callWith_type1 ?_ he rfl;rw[he];show wpAny _ _ (spliced [(false,eval (.Call (.Name "zip" p2) [l,l2] [] pos2) X.env)]) _ _ s;refine Calls.spliced_cons ?_;refine Call_ (fh I hg hm boot_zip (PyProof.Rows.callWith_type1 (de (ha pos2 pins s σ H _ I h) ?_) (by rw[hs,hs2]) (by rw[hs2];rfl)));rintro us s1 ⟨vs,H1,I1,r1,q1⟩;obtain ⟨a,b,xs,ys,rfl,hx,hy,q⟩:=q1;obtain ⟨u,u',rfl,ru,ru'⟩:=vals2 r1;cases ru;cases ru';obtain ⟨zx,its,n,rv,hl⟩:=I1.bK a _ hx;obtain ⟨zy,its',n',rv',hl'⟩:=I1.bK b _ hy;refine call_zip_2 (xs:=its.toArray) (ys:=its'.toArray) ⟨_,hl,rfl,n,rfl⟩ ⟨_,hl',rfl,n',rfl⟩ λh' hz hTI hTO hit1 hit2 hsz hk=>?_;refine Calls.spliced_nil ?_;have la:a<s1.heap.objs.size:=Heap.lt_size hl;have lb:b<s1.heap.objs.size:=Heap.lt_size hl';have D:=zipApart_new la lb;have Z:hU h' (s1.heap.objs.size+4) (s1.heap.objs.size+2) (s1.heap.objs.size+3) s1.heap.objs.size (s1.heap.objs.size+1) a b its.toArray its'.toArray 0:=
    ⟨hTI,hit1,hit2,⟨_,hk _ _ hl,rfl,n,rfl⟩,⟨_,hk _ _ hl',rfl,n',rfl⟩,.inl ⟨hz,_,_,hTO⟩⟩
  have la5:a<h'.objs.size:=by rw[hsz];exact Nat.lt_of_lt_of_le la (Nat.le_add_right _ _)
  have lb5:b<h'.objs.size:=by rw[hsz];exact Nat.lt_of_lt_of_le lb (Nat.le_add_right _ _)
  have hlx:=rv.length;have hly:=rv'.length;refine o9 (s:={ s1 with heap:=h' }) (I1.ok.hd hc) D (by
    show _<h'.objs.size/\_<h'.objs.size/\_<h'.objs.size/\_<h'.objs.size/\_<h'.objs.size/\_<h'.objs.size/\_<h'.objs.size;refine ⟨?_,?_,?_,?_,?_,la5,lb5⟩<;>rw[hsz]<;>first | exact Nat.lt_succ_self _ | exact Nat.add_lt_add_left (by decide) _ | exact Nat.lt_add_of_pos_right (by decide)) (by rw[size_toArray,<-hlx];exact zx) Z λh2 acc c' hk2 hS hacc rows=>?_
  have kp:∀c o,s1.heap.get? c=some o->h2.get? c=some o:=λc o e=>by
    have lc:=Heap.lt_size e;refine hk2 c o ?_ ?_ ?_ ?_ (hk c o e)
    · exact Nat.ne_of_lt (Nat.lt_of_lt_of_le lc (Nat.le_add_right _ _))
    · exact Nat.ne_of_lt (Nat.lt_of_lt_of_le lc (Nat.le_add_right _ _))
    · exact Nat.ne_of_lt lc
    · exact Nat.ne_of_lt (Nat.lt_of_lt_of_le lc (Nat.le_add_right _ _))
  obtain ⟨as,eas⟩:=vW (l:=acc.toList) λj v e=>by
    obtain ⟨T,x,y,e1,_⟩:=rows.at' j v (by rw[<-Array.getElem?_toList];exact e);exact ⟨T,e1⟩
  have asat:∀(j:Nat) (c:Addr),as[j]?=some c->acc[j]?=some (Value.ref c):=λj c e=>by
    rw[<-Array.getElem?_toList,eas,getElem?_map,e];rfl
  have one:∀(i j:Nat) (c:Addr),as[i]?=some c->as[j]?=some c->i=j:=λi j c e1 e2=>rows.one i j _ (asat i c e1) (asat j c e2);have szl:s1.heap.objs.size<=h'.objs.size:=by rw[hsz];exact Nat.le_add_right _ _
  have asz:∀(j:Nat) (c:Addr),as[j]?=some c->h'.objs.size+1<=c:=λj c e=>by
    obtain ⟨T,x,y,e1,_,_,_,e5⟩:=rows.at' j _ (asat j c e);cases e1;exact e5
  have fll:H1 h'.objs.size=none:=I1.bK.fresh szl;have fas:∀c∈as,H1 c=none:=λc hc=>by
    obtain ⟨j,e⟩:=mem_iff_getElem?.mp hc;exact I1.bK.fresh (Nat.le_trans szl (Nat.le_trans (Nat.le_succ _) (asz j c e)))
  have nll:h'.objs.size∉as:=λhc=>by
    obtain ⟨j,e⟩:=mem_iff_getElem?.mp hc;exact Nat.lt_irrefl _ (asz j _ e)
  have hlen:as.length=min xs.length ys.length:=by
    have h1:acc.toList.length=as.length:=by rw[eas,length_map]
    rw[length_toList,hacc,size_toArray,size_toArray] at h1;rw[<-h1,hlx,hly]
  refine ⟨.ref h'.objs.size,zipHp H1 h'.objs.size as xs ys,?_,rfl,q _ as fll fas nll one hlen⟩;refine I1.Af (h':=h2) (t':=s1.toks) kp (λc o e=>?_) (λc o e en=>?_)
  · rw [mO (aX e fll) λj ej => by have := fas c (mem_of_getElem? ej);rw [e] at this;cases this];exact e
  · by_cases hcl:c=h'.objs.size
    · subst hcl;rw[oV] at e;cases e;refine ⟨szl,?_,acc.toList,c',by rw[eas];exact ql as,by rw[Array.toArray_toList];exact hS⟩;rw[length_map,hlen];exact Nat.le_trans (Nat.min_le_left _ _) zx
    · by_cases hin:∃j:Nat,as[j]?=some c
      · obtain ⟨j,ej⟩:=hin;obtain ⟨T,x,y,e1,e2,e3,e4,e5⟩:=rows.at' j _ (asat j c ej);cases e1;have hj:j<as.length:=(List.getElem?_eq_some_iff.mp ej).1;have hjx:j<xs.length:=by lia
        have hjy:j<ys.length:=by lia
        obtain ⟨vx,ex,rx⟩:=rv.get (getElem?_eq_getElem hjx);obtain ⟨vy,ey,ry⟩:=rv'.get (getElem?_eq_getElem hjy);rw[tV one hcl ej (getElem?_eq_getElem hjx) (getElem?_eq_getElem hjy)] at e;cases e;have e2':its[j]?=some x:=by simpa using e2
        have e3':its'[j]?=some y:=by simpa using e3
        rw[ex] at e2';rw[ey] at e3';cases e2';cases e3';exact ⟨Nat.le_trans szl (Nat.le_trans (Nat.le_succ _) (asz j c ej)),by simp only[length_cons,List.length_nil];rw[sizeLine_eq];decide,[x,y],.cons rx (.cons ry .nil),⟨_,e4,rfl,_,rfl⟩⟩
      · rw[mO hcl λj ej=>hin ⟨j,ej⟩,en] at e;cases e
end
end L2
namespace DL
open PySem L2
section
variable {X:Cx} {l l2:Expr} {t:fc} {p pos p2 pos2:Pos}
noncomputable def x9 (t:fc):DT:=λρ Q=>t ρ λds=>match ds with
  | [.lst xs,.lst ys]=>Q (.o (.lst (tU xs ys)))
  | _=>False
set_option tactic.hygienic true in
theorem vh (hc:X.calm=true)(hg:Gl X "zip")(hm:X.mg "zip" = none)(hgl:Gl X "list")(hml:X.mg "list" = none)(ha:DA X [l,l2] t)(hs:autoParam (starEach [l,l2] X.env = [(false,eval l X.env),(false,eval l2 X.env)]) aZa._auto_1)(hs2:autoParam (starEach [l2] X.env = [(false,eval l2 X.env)]) aZa._auto_1)
    (he:autoParam (starEach [.Call (.Name "zip" p2) [l,l2] [] pos2] X.env = [(false,eval (.Call (.Name "zip" p2) [l,l2] [] pos2) X.env)]) aZa._auto_1) :
    DE X (.Call (.Name "list" p) [.Call (.Name "zip" p2) [l,l2] [] pos2] [] pos) (x9 t):=
  DE.of (Ay hc hg hm hgl hml ha.pa hs hs2 he)<|by
    rintro σ H Q ⟨G,ρ,P,s,re,h,k⟩;refine ⟨G,ρ,_,s,re,h,λds vs H1 G1 p1 l1 w1 r1=>?_⟩;split at p1
    · rename_i xs ys;obtain ⟨v,v',rfl,rv,rv'⟩:=tG r1;obtain ⟨a,us,rfl,e,rr⟩:=rv.lst_inv;obtain ⟨a',us',rfl,e',rr'⟩:=rv'.lst_inv;refine ⟨a,a',us,us',rfl,w1.gh _ _ e,w1.gh _ _ e',λll as hll has nin one hlen=>?_⟩
      classical
      have hold:∀c,H1 c≠none->zipHp H1 ll as us us' c=H1 c:=λc hne=>mO (λz=>hne (z ▸ hll)) λj ej=>hne (has c (mem_of_getElem? ej));have sH:aE H1 (zipHp H1 ll as us us'):=λc o q=>by rw[hold c (by rw[q];simp)];exact q
      have sG:aE G1 (λc=>if c∈as then zipHp H1 ll as us us' c else G1 c):=λc o q=>by
        show (if _ then _ else _)=_;rw[if_neg]
        · exact q
        · intro hc;have:=w1.gh _ _ q;rw[has c hc] at this;cases this
      have wd:Wd H1 G1 (zipHp H1 ll as us us') (λc=>if c∈as then zipHp H1 ll as us us' c else G1 c):=⟨sH,sG,λc o q=>by
          have q':(if c∈as then zipHp H1 ll as us us' c else G1 c)=some o:=q;split at q'
          · exact q'
          · exact sH _ _ (w1.gh _ _ q'),λc hne=>by
          show (if _ then _ else _)=_;rw[if_neg];intro hc;exact hne.there (has c hc)⟩
      refine k _ _ _ _ p1 (w1.trans wd) ⟨ll,rfl,w1.hh.free hll,?_,as.map V.ref,oV,?_⟩
      · show (if ll∈as then _ else G1 ll)=none;rw[if_neg nin];exact w1.gh.free hll
      · have lx:=Paired.length rr;have ly:=Paired.length rr';refine aD (by unfold tU;rw[length_map,length_map,List.length_zip,hlen,lx,ly]) λi v d h1 h2=>?_;rw[getElem?_map] at h1;cases ea:as[i]? with
        | none=>rw[ea] at h1;cases h1
        | some c =>
          rw[ea] at h1;cases h1;have hi:i<as.length:=(List.getElem?_eq_some_iff.mp ea).1;have hx:i<us.length:=by lia
          have hy:i<us'.length:=by lia
          obtain ⟨dx,ex,rx⟩:=WS.ic rr (getElem?_eq_getElem hx);obtain ⟨dy,ey,ry⟩:=WS.ic rr' (getElem?_eq_getElem hy);unfold tU at h2;rw[getElem?_map,List.getElem?_zip_eq_some (z:=(dx,dy)) |>.mpr ⟨ex,ey⟩] at h2;cases h2;have hcl:c≠ll:=λz=>nin (z ▸ mem_of_getElem? ea);have hc:=tV (H:=H1) one hcl ea (getElem?_eq_getElem hx) (getElem?_eq_getElem hy);refine Rep.uN (vs:=[us[i],us'[i]]) ?_ (.cons (Rep.mono sG rx) (.cons (Rep.mono sG ry) .nil));show (if c∈as then _ else _)=_;rw[if_pos (mem_of_getElem? ea)];exact hc
    · exact p1.elim
end
end DL
namespace L2
open PySem PySem.Spec PyProof.Rows
section
variable {X:Cx} {tg:Expr}
theorem rangeSize_down (a b:Int):Builtin.Range.rangeSize a b (-1)=((a - b).toNat:Int):=by
  unfold Builtin.Range.rangeSize;rw[if_neg (by decide)];split
  · rw[show -(-1:Int)=1 from rfl,Int.ediv_one];lia
  · lia
theorem small_down {lo hi:Int}(h1 : -(2 ^ 62)<=lo)(h2:lo<2 ^ 62)(h3 : -(2 ^ 62)<=hi)(h4:hi<2 ^ 62):Builtin.Range.small lo hi (-1)=true:=by
  unfold Builtin.Range.small;rw[rangeSize_down];simp only[Builtin.Range.rangeFitsLong,Bool.and_eq_true,Bool.or_eq_true,decide_eq_true_eq,beq_iff_eq,show ¬((-1:Int)>0) by decide,if_false];first
    | lia
    | (split<;>lia)
    | (refine ⟨?_,?_⟩<;>lia)
theorem xi {a b c:Expr}{ta:TA}{p pos:Pos}(hg:Gl X "range")(hm:X.mg "range" = none)(ha:PA X [a,b,c] ta)(hs:autoParam (starEach [a,b,c] X.env=(false,eval a X.env)::starEach [b,c] X.env) aZa._auto_1)(hs2:autoParam ((backTo pos (starEach [b,c] X.env)).any (·.1)=false) aZa._auto_1) :
    PI X tg (.Call (.Name "range" p) [a,b,c] [] pos) (Dz ta):=by
  intro pins s σ H R I h;refine Call_ (fh I hg hm boot_range (PyProof.Rows.callWith_type1 (de (ha pos pins s σ H _ I h) ?_) hs hs2));rintro us s1 ⟨vs,H1,I1,r1,q1⟩;obtain ⟨i,j,e,⟨q1,q2,q3,q4⟩,q⟩:=q1;subst e;cases r1 with
  | cons r rr =>
    cases rr with
    | cons r' rr =>
      cases rr with
      | cons r'' rr =>
        cases rr;obtain ⟨t,rfl⟩:=r;obtain ⟨t',rfl⟩:=r';obtain ⟨t'',rfl⟩:=r'';refine call_range_3 (by decide) ?_ (Or.inl (PyProof.noPylong_small (by decide)));refine wpAny_pyIter_range (IsRange.new ..) (small_down q1 q2 q3 q4) ?_;have I2:Inv X pins σ H1 { s1 with heap:=s1.heap.push { cls:=.type "range",data:=.fields #[.int i t,.int j t',.int (-1) t''] } }:=I1.kept (t':=s1.toks) λb o e=>Heap.get?_push_of_some _ e;have I3:Inv X pins σ H1 { s1 with heap:=(s1.heap.push { cls:=.type "range",data:=.fields #[.int i t,.int j t',.int (-1) t''] }).push { cls:=.type "range_iterator",data:=.fields #[rawInt i,rawInt (Builtin.Range.rangeSize i j (-1)),rawInt (-1)] } }:=I2.kept (t':=s1.toks) λb o e=>Heap.get?_push_of_some _ e;refine ⟨(s1.heap.push { cls:=.type "range",data:=.fields #[.int i t,.int j t',.int (-1) t''] }).objs.size,[(s1.heap.push { cls:=.type "range",data:=.fields #[.int i t,.int j t',.int (-1) t''] }).objs.size],_,_,H1,rfl,I3,oS _ i (-1) (i - j).toNat,?_,λb hb=>?_,q⟩
        · show IsRangeIter _ _ (i+((0:Nat):Int)*(-1)) (((i - j).toNat:Int) - ((0:Nat):Int)) (-1);rw[show i+((0:Nat):Int)*(-1)=i by lia,show (((i - j).toNat:Int) - ((0:Nat):Int))=Builtin.Range.rangeSize i j (-1) by rw[rangeSize_down];lia];exact Heap.get?_push_size _ rfl
        · have e : b = (s1.heap.push { cls := .type "range", data := .fields #[.int i t, .int j t', .int (-1) t''] }).objs.size := by simpa using hb
          subst e;exact I2.um (Nat.le_refl _) (I2.bK.fresh (Nat.le_refl _))
end
end L2
namespace DL
open PySem L2
section
variable {X:Cx} {tg:Expr} {pos:Pos}
theorem Ee {K:Frag}{G:Hp}{vs:List V}{d d' d'':D}(h:bw K G vs [d,d',d'']):∃v v' v'',vs = [v,v',v'']/\Rep K G v d/\Rep K G v' d'/\Rep K G v'' d'':=by
  cases h with | cons h t=>obtain ⟨v',v'',rfl,h',h''⟩:=tG t;exact ⟨_,_,_,rfl,h,h',h''⟩
noncomputable def ug (t:fc):fc:=λρ P=>t ρ λds=>match ds with
  | [.int i,.int j,.int k]=>k = -1/\(-(2 ^ 62)<=i/\i<2 ^ 62/\-(2 ^ 62)<=j/\j<2 ^ 62)/\P (kE i (i - j).toNat)
  | _=>False
set_option tactic.hygienic true in
theorem sx {a b c:Expr}{t:fc}{p:Pos}(hg:Gl X "range")(hm:X.mg "range" = none)(ha:DA X [a,b,c] t)(hs:autoParam (starEach [a,b,c] X.env=(false,eval a X.env)::starEach [b,c] X.env) aZa._auto_1)(hs2:autoParam ((backTo pos (starEach [b,c] X.env)).any (·.1)=false) aZa._auto_1) :
    wo X tg (.Call (.Name "range" p) [a,b,c] [] pos) (ug t):=
  wo.of (xi hg hm ha.pa hs hs2)<|by
    rintro σ H R ⟨G,ρ,P,s,re,h,k⟩;refine ⟨G,ρ,_,s,re,h,λds vs H1 G1 p1 l1 w1 r1=>?_⟩;split at p1
    · rename_i i j k';obtain ⟨v,v',v'',rfl,rv,rv',rv''⟩:=Ee r1;cases rv;cases rv';cases rv'';obtain ⟨rfl,hb,p2⟩:=p1;exact ⟨i,j,rfl,hb,k _ _ _ G1 p2 w1 λ_=>vH⟩
    · exact p1.elim
end
end DL
namespace PySem
open PyProof.Rows
section
variable {prog:Program} {w:World} {A:Around} {E:Value->Shared->Prop} {s:Shared}
theorem uK:typeLookup (.type "list_reverseiterator") "__len__" = pure none:=by rw[typeLookup_type,builtinLookup_eq_fast];kernel_rfl
theorem y8:typeLookup (.type "list_reverseiterator") "__length_hint__" = pure (some (.builtin "list_reverseiterator.__length_hint__")):=by rw[typeLookup_type,builtinLookup_eq_fast];kernel_rfl
theorem ui {R:Result->Shared->Prop}{it l S:Addr}{items:Array Value}{c₀:Nat}(res:Value)(hh:A.handled=none)(hne:l≠it)(hS:S∉[it,l])(hz:items.size<=sizeLine)
    (hit:s.heap.IsRevIter it l ((items.size:Int) - 1)) (hl:s.heap.IsList l items) (hSl:s.heap.get? S=some { cls:=.type "list",data:=.seq #[] c₀ })
    (hR:∀s' acc' c',Moved [S,it] (λa b=>b=a) s s'->s'.heap.get? S=some { cls:=.type "list",dict:=none,data:=.seq acc' c',slots:=#[] }->ItemsOf (λi v=>items[items.size - 1 - i]?=some v) acc' items.size->R (.ok (.ret res)) s') :
    wpAny (model prog w) A.in1 (Builtin.List.listExtendWith (.ref S) (.ref it) res)
      (λfin s'=>match fin with | .done f=>R (.ok f) s' | .again c'=>c'.quiet=true/\codeAny (model prog w) A c' R s') (λe s'=>R (.error e) s') s:=by
  have hT:=hit.typeIs;have hSi:S≠it:=λz=>hS (by simp[z]);have W:=(Walks.listRev (prog:=prog) (w:=w) (A:=A.in1) hh it l hne items).toS;unfold Builtin.List.listExtendWith;refine wpAny_bind (wpAny_typeOf hT ?_);have h1:Builtin.List.listSameRef (.ref S) (.ref it)=false:=by simp[Builtin.List.listSameRef,hSi]
  have h2:(Value.type "list_reverseiterator" == Value.type "list")=false:=by decide
  have h3:(Value.type "list_reverseiterator" == Value.type "tuple")=false:=by decide
  simp only[h1,h2,h3,Bool.or_false,Bool.false_eq_true,if_false];refine wpAny_bind (wpAny_pyIter_revIter hit ?_);refine wpAny_bind (wpAny_holding ?_);unfold Builtin.List.listLengthHint;refine wpAny_bind (wpAny_specialOf hT uK ?_);show wpAny _ A.in1 (specialOf (Value.ref it) (Str.ofString "__length_hint__") >>= _) _ _ _;refine wpAny_bind (wpAny_specialOf hT y8 ?_)
  (generalize hid:("list_reverseiterator.__length_hint__" : String)=id0;(fail_if_success (clear hid id0));wp_delta;rw[show splitId id0=some ("list_reverseiterator","__length_hint__") from by subst hid;decide +kernel];subst hid)
  refine wpAny_bind (wpAny_isInstance (b:=true) hT (by rw[isSubtype_type];kernel_rfl) ?_);refine wpAny_pure ?_;rw[if_neg (by decide)];have hit0:s.heap.IsRevIter it l ((items.size:Int) - 1 - ((0:Nat):Int)):=by rw[show ((items.size:Int) - 1 - ((0:Nat):Int))=(items.size:Int) - 1 by lia];exact hit
  exact wpAny_pure ⟨plainId_quiet F.plain_extend_loop _,codeAny_extend_loopS W hz S hS res items.size 0 _ #[] c₀ rfl (Nat.zero_le _) ⟨Nat.zero_le _,hit0,hl⟩ hSl (ItemsOf.nil _) hR⟩
theorem o8 {Q:Value->Shared->Prop}{it l:Addr}{items:Array Value}(hh:A.handled=none)(hne:l≠it)(hz:items.size<=sizeLine)(hit:s.heap.IsRevIter it l ((items.size:Int) - 1))(hl:s.heap.IsList l items)
    (hQ:∀h' tk acc' c',(∀b o,b≠it->s.heap.get? b=some o->h'.get? b=some o)->h'.get? s.heap.objs.size=some { cls:=.type "list",dict:=none,data:=.seq acc' c',slots:=#[] }->ItemsOf (λi v=>items[items.size - 1 - i]?=some v) acc' items.size ->
      Q (.ref s.heap.objs.size) { s with heap:=h',toks:=tk }):wpAny (model prog w) A (call (.type "list") [.ref it]) Q E s:=by
  refine callType_codes (Q₁:=λobj s₁=>obj=.ref s.heap.objs.size/\s₁ = { s with heap:=s.heap.push { cls:=.type "list",data:=.seq #[] } }) F.called_list (F.typeCall_list_1 _) F.entry_list_init
    (code_list_new _ ⟨rfl,rfl⟩) λobj s₁ h₁=>?_
  obtain ⟨rfl,rfl⟩:=h₁;have hS:(s.heap.push { cls:=.type "list",data:=.seq #[] }).get? s.heap.objs.size=some { cls:=.type "list",data:=.seq #[] }:=Heap.get?_push_size _ rfl;have l1:it<s.heap.objs.size:=by obtain ⟨o,e,_⟩:=hit;exact Heap.lt_size e
  have l2:l<s.heap.objs.size:=by obtain ⟨o,e,_⟩:=hl;exact Heap.lt_size e
  have hSf:s.heap.objs.size∉[it,l]:=λhm=>by
    rcases List.mem_cons.mp hm with e | e
    · exact Nat.ne_of_gt l1 e
    · exact Nat.ne_of_gt l2 (mem_singleton.mp e)
  refine ⟨⟨_,hS,rfl⟩,F.args_list_init_2 _ _,?_⟩;show wpAny _ A.in1.in1 (do let old <-Builtin.List.listItems (.ref s.heap.objs.size);Builtin.List.listUpdate (.ref s.heap.objs.size) (λ_=>#[]);letGo old.toList.reverse;Builtin.List.listExtendWith (.ref s.heap.objs.size) (.ref it) .none) _ _ _;refine wpAny_bind ?_;unfold Builtin.List.listItems;refine wpAny_bind (wpAny_seqItems hS rfl (wpAny_pure ?_));show wpAny _ A.in1.in1 (updateSeq s.heap.objs.size (λ_=>#[]) >>= λ_=>letGo (#[]:Array Value).toList.reverse >>= λ_=>Builtin.List.listExtendWith (.ref s.heap.objs.size) (.ref it) .none) _ _ _;refine wpAny_bind (wpAny_updateSeq hS rfl ?_);have hS₂:=Heap.get?_update_self (Obj.mapSeq (λ_=>(#[]:Array Value))) hS rfl;have oth:∀b o,s.heap.get? b=some o->((s.heap.push { cls:=.type "list",data:=.seq #[] }).update s.heap.objs.size (Obj.mapSeq (λ_=>(#[]:Array Value)))).get? b=some o:=
    λb o e=>(Heap.get?_update_other _ _ (Nat.ne_of_gt (Heap.lt_size e))).trans (Heap.get?_push_of_some _ e)
  refine wpAny_bind (wpAny_letGo ?_);refine ui (A:=A.in1) .none hh hne hSf hz (hit.at λo e=>oth it o e) (hl.at λo e=>oth l o e) hS₂ λs' acc' c' hm hS' hacc=>⟨rfl,?_⟩
  rw[Moved.eq_with hm];exact hQ s'.heap s'.toks acc' c' (λb o hb e=>hm.heap b o (λhmem=>by
    rcases List.mem_cons.mp hmem with z | z
    · exact Nat.ne_of_lt (Heap.lt_size e) z
    · exact hb (mem_singleton.mp z)) (oth b o e)) hS' hacc
end
end PySem
namespace PySem
open PyProof.Rows
section
variable {prog:Program} {w:World} {A:Around} {R:Result->Shared->Prop} {I:Addr} {fp wr:List Addr} {n:Nat} {P:Nat->Value->Prop} {St:Nat->Heap->Prop}
theorem j3:(toString "min" ++ toString ".loop" : String) = "min.loop":=by decide
theorem wZ {kw:List (Str×Value)}(W:Walks prog w A.in1 I fp wr n P St)(val:Nat->Int)(hcmp:CmpOf prog w A.in1 .Lt P (λi j=>decide (val i<val j)))(S:Addr)(hSf:S∉fp) :
    ∀(k i:Nat) (s:Shared) (b:Nat) (vb:Value) (c:Nat),n - i=k->i<=n->St i s.heap->b<i->P b vb->(∀j,j<i->val b<=val j)->s.heap.get? S=some { cls:=.type "list",dict:=none,data:=.seq #[vb,vb] c,slots:=#[] } ->
      (∀v b h' tk,b<n->P b v->(∀j,j<n->val b<=val j)->(∀a o,a∉wr->a≠S->s.heap.get? a=some o->h'.get? a=some o)->R (.ok (.ret v)) { s with heap:=h',toks:=tk }) ->
      codeAny (model prog w) A (.builtin "min.loop" ⟨[.ref I,.none,.ref S],kw⟩) R s:=by
  have hSw:S∉wr:=λh=>hSf (W.sub _ h);intro k;induction k with
  | zero =>
    intro i s b vb c hk hi hst hb hPb hle hS hR;have hin:i=n:=by lia
    subst hin;refine codeAny_builtin F.entry_min_loop ?_;rw[Around.under_plainId F.plain_min_loop _];show wpAny _ A.in1 (seqItems? (.ref S) >>= _) _ _ s;refine wpAny_bind (wpAny_seqItems hS rfl ?_);show wpAny _ A.in1 (tryCatch (pyNext (.ref I)) _ >>= _) _ _ s;refine wpAny_bind (wpAny_tryCatch (W.done s _ _ hst λh' tk hk'=>?_));show wpAny _ A.in1 (updateSeq S (λ_=>#[]) >>= _) _ _ _;refine wpAny_bind (wpAny_updateSeq (hk' S _ hSw hS) rfl (wpAny_bind (wpAny_letGo (wpAny_pure ?_))));exact hR vb b _ tk hb hPb hle λa o ha haS e=>(Heap.get?_update_other _ _ (Ne.symm haS)).trans (hk' a o ha e)
  | succ k ih =>
    intro i s b vb c hk hi hst hb hPb hle hS hR;have hlt:i<n:=by lia
    refine codeAny_builtin F.entry_min_loop ?_;rw[Around.under_plainId F.plain_min_loop _];show wpAny _ A.in1 (seqItems? (.ref S) >>= _) _ _ s;refine wpAny_bind (wpAny_seqItems hS rfl ?_);show wpAny _ A.in1 (tryCatch (pyNext (.ref I)) _ >>= _) _ _ s;refine wpAny_bind (wpAny_tryCatch (W.item i s _ _ hlt hst λv h' tk hP hst' hk'=>?_));have hS':=hk' S _ hSw hS;show wpAny _ A.in1 (tryCatch (holding [v,v] (richCompare .Lt v vb >>= _)) _ >>= _) _ _ _;refine wpAny_bind (wpAny_tryCatch (wpAny_holding (wpAny_bind (hcmp i b v vb _ _ _ hP hPb ?_))));refine wpAny_bind (wpAny_holding (wpAny_truthy_bool ?_));refine wpAny_bind (wpAny_letGo (wpAny_pure ?_));by_cases hv:val i<val b
    · rw[if_pos (show (λi j=>decide (val i<val j)) i b=true from decide_eq_true hv)];refine wpAny_bind (wpAny_updateSeq hS' rfl (wpAny_bind (wpAny_letGo ?_)));rw[j3];refine wpAny_pure ⟨plainId_quiet F.plain_min_loop _,ih (i+1) _ i v _ (by lia) hlt (W.frame _ _ _ hst' λa ha o e=>?_) (Nat.lt_succ_self _) hP (λj hj=>?_) (Heap.get?_update_self _ hS' rfl) λv' b' h'' tk'' hb' hP' hle' hk''=>?_⟩
      · exact (Heap.get?_update_other _ _ (λh:S=a=>hSf (by rw[h];exact ha))).trans e
      · rcases Nat.lt_succ_iff_lt_or_eq.mp hj with z | z
        · have:=hle j z;lia
        · subst z;exact Int.le_refl _
      · exact hR v' b' h'' tk'' hb' hP' hle' λa o ha haS e=>hk'' a o ha haS ((Heap.get?_update_other _ _ (Ne.symm haS)).trans (hk' a o ha e))
    · rw[if_neg (show ¬(λi j=>decide (val i<val j)) i b=true from λz=>hv (of_decide_eq_true z))];refine wpAny_bind (wpAny_letGo ?_);rw[j3];refine wpAny_pure ⟨plainId_quiet F.plain_min_loop _,ih (i+1) _ b vb c (by lia) hlt hst' (Nat.lt_succ_of_lt hb) hPb (λj hj=>?_) hS' λv' b' h'' tk'' hb' hP' hle' hk''=>?_⟩
      · rcases Nat.lt_succ_iff_lt_or_eq.mp hj with z | z
        · exact hle j z
        · subst z;lia
      · exact hR v' b' h'' tk'' hb' hP' hle' λa o ha haS e=>hk'' a o ha haS (hk' a o ha e)
theorem yM {d:Value}(W:Walks prog w A.in1 I fp wr n P St)(val:Nat->Int)(hcmp:CmpOf prog w A.in1 .Lt P (λi j=>decide (val i<val j)))(S:Addr)(hSf:S∉fp){s:Shared}{c:Nat}(hst:St 0 s.heap)
    (hS:s.heap.get? S=some { cls:=.type "list",dict:=none,data:=.seq #[] c,slots:=#[] })
    (h0:n=0->∀h' tk,(∀a o,a∉wr->a≠S->s.heap.get? a=some o->h'.get? a=some o)->R (.ok (.ret d)) { s with heap:=h',toks:=tk })
    (hR:∀v b h' tk,b<n->P b v->(∀j,j<n->val b<=val j)->(∀a o,a∉wr->a≠S->s.heap.get? a=some o->h'.get? a=some o)->R (.ok (.ret v)) { s with heap:=h',toks:=tk }) :
    codeAny (model prog w) A (.builtin "min.loop" ⟨[.ref I,.none,.ref S],[(Str.ofString "default",d)]⟩) R s:=by
  have hSw:S∉wr:=λh=>hSf (W.sub _ h);refine codeAny_builtin F.entry_min_loop ?_;rw[Around.under_plainId F.plain_min_loop _];show wpAny _ A.in1 (seqItems? (.ref S) >>= _) _ _ s;refine wpAny_bind (wpAny_seqItems hS rfl ?_);show wpAny _ A.in1 (tryCatch (pyNext (.ref I)) _ >>= _) _ _ s;rcases Nat.eq_zero_or_pos n with hz | hn
  · subst hz;refine wpAny_bind (wpAny_tryCatch (W.done s _ _ hst λh' tk hk'=>?_));refine wpAny_bind (wpAny_rule (wpAny_pure ?_));exact h0 rfl h' tk λa o ha _ e=>hk' a o ha e
  · refine wpAny_bind (wpAny_tryCatch (W.item 0 s _ _ hn hst λv h' tk hP hst' hk'=>?_));have hS':=hk' S _ hSw hS;show wpAny _ A.in1 (updateSeq S (λ_=>#[v,v]) >>= _) _ _ _;refine wpAny_bind (wpAny_updateSeq hS' rfl ?_);rw[j3];refine wpAny_pure ⟨plainId_quiet F.plain_min_loop _,wZ W val hcmp S hSf _ 1 _ 0 v _ rfl hn (W.frame _ _ _ hst' λa ha o e=>?_) (by lia) hP (λj hj=>?_) (Heap.get?_update_self _ hS' rfl) λv' b' h'' tk'' hb' hP' hle' hk''=>?_⟩
    · exact (Heap.get?_update_other _ _ (λh:S=a=>hSf (by rw[h];exact ha))).trans e
    · have : j = 0 := by lia
      subst this;exact Int.le_refl _
    · exact hR v' b' h'' tk'' hb' hP' hle' λa o ha haS e=>hk'' a o ha haS ((Heap.get?_update_other _ _ (Ne.symm haS)).trans (hk' a o ha e))
end
section
variable {prog:Program} {w:World} {A:Around} {E:Value->Shared->Prop} {s:Shared}
theorem wY (a d:Value):argsOk "min" ⟨[a],[(Str.ofString "default",d)]⟩:=by unfold argsOk;kernel_rfl
theorem wB {l:Addr}{xs:Array (Int×Tok)}{d:Value}{Q:Value->Shared->Prop}(hh:A.handled=none)(hl:s.heap.IsList l (intItems xs))
    (h0:xs.size=0->∀h' tk,(∀b o,s.heap.get? b=some o->h'.get? b=some o)->Q d { s with heap:=h',toks:=tk })
    (h:∀b v h' tk,b<xs.size->(intItems xs)[b]?=some v->(∀j,j<xs.size->numAt xs b<=numAt xs j)->(∀b o,s.heap.get? b=some o->h'.get? b=some o)->Q v { s with heap:=h',toks:=tk }) :
    wpAny (model prog w) A (call (.builtin "min") [.ref l] [(Str.ofString "default",d)]) Q E s:=by
  refine kmk_tree PySem.F.kind_min PySem.F.plain_min PySem.F.entry_min (wY _ _) ?_;show wpAny _ A.in1 (Builtin.Builtins.bindParams "min" ["key","default"] 0 ⟨[],[(Str.ofString "default",d)]⟩ >>= _) _ _ s;refine wpAny_bind (wpAny_of_eq (show Builtin.Builtins.bindParams "min" ["key","default"] 0 ⟨[],[(Str.ofString "default",d)]⟩=pure [none,some d] from rfl) ?_);refine wpAny_bind (wpAny_pure ?_);refine wpAny_bind (iter_intList hl λs₂ e st hfp hlI=>?_);subst e;refine wpAny_bind (wpAny_newObj_type ?_);rw[j3];have hsz:(intItems xs).size=xs.size:=by simp[intItems]
  have W:=Walks.list (prog:=prog) (w:=w) (A:=A.in1) hh _ l hlI (intItems xs);have hSf:(s.heap.push { cls:=.type "list_iterator",data:=.fields #[.ref l,.int 0 0] }).objs.size∉[s.heap.objs.size,l]:=λhm=>Nat.lt_irrefl _ (hfp _ hm);refine wpAny_pure ⟨plainId_quiet F.plain_min_loop _,yM (A:=A) W (numAt xs) (CmpOf.ints_lt (numAt xs) (λ_ _=>intItems_at)) _ hSf (W.frame _ _ _ st λb _ o e=>Heap.get?_push_of_some _ e) (Heap.get?_push_size _ rfl) (λhz h' tk hk=>?_) λv b h' tk hb hP hle hk=>?_⟩
  · exact h0 (by lia) h' tk λb o e=>hk b o (λhm=>Nat.ne_of_lt (Heap.lt_size e) (mem_singleton.mp hm)) (λz=>by have:=Heap.lt_size e;rw[z,Heap.size_push] at this;exact Nat.lt_irrefl _ (Nat.lt_of_succ_lt this)) (Heap.get?_push_of_some _ (Heap.get?_push_of_some _ e))
  · exact h b v h' tk (by lia) hP (λj hj=>hle j (by lia)) λb o e=>hk b o (λhm=>Nat.ne_of_lt (Heap.lt_size e) (mem_singleton.mp hm)) (λz=>by have:=Heap.lt_size e;rw[z,Heap.size_push] at this;exact Nat.lt_irrefl _ (Nat.lt_of_succ_lt this)) (Heap.get?_push_of_some _ (Heap.get?_push_of_some _ e))
end
end PySem
namespace L2
open PySem PySem.Spec PyProof.Rows
section
variable {X:Cx} {l e:Expr} {p pos p2 pos2 kpos cpos:Pos} {j:Nat} {d:Int} {ta:TA}
noncomputable def Er (t:TA):TE:=λσ H Q=>t σ H λvs H1=>∃a xs,vs = [.ref a]/\H1 a=some (.lst xs)/\∀c,H1 c=none->Q (.ref c) (upd H1 c (.lst xs.reverse))
theorem wQ {its:List Value}{acc:Array Value}(h:ItemsOf (λi v=>its.toArray[its.toArray.size - 1 - i]?=some v) acc its.toArray.size):acc.toList=its.reverse:=by
  obtain ⟨hl,hi⟩:=h;have hl2:acc.toList.length=its.length:=by rw[length_toList,hl,size_toArray]
  rw[size_toArray] at hi;apply List.ext_getElem?;intro i;by_cases q:i<its.length
  · have hlt : i < acc.toList.length := by lia
    have e5:acc[i]?=some acc.toList[i]:=by
      have:acc[i]?=acc.toList[i]?:=by simp
      rw[this,getElem?_eq_getElem hlt]
    have e6:=hi i _ e5;rw[getElem?_eq_getElem hlt,List.getElem?_reverse q];have e7:its[its.length - 1 - i]?=some acc.toList[i]:=by simpa using e6
    exact e7.symm
  · rw[List.getElem?_eq_none (by lia),List.getElem?_eq_none (by rw[List.length_reverse];lia)]
theorem Ax (hc:X.calm=true)(hg:Gl X "reversed")(hm:X.mg "reversed" = none)(hgl:Gl X "list")(hml:X.mg "list" = none)(ha:PA X [l] ta)(hs:autoParam (starEach [l] X.env = [(false,eval l X.env)]) aZa._auto_1)
    (he:autoParam (starEach [.Call (.Name "reversed" p2) [l] [] pos2] X.env = [(false,eval (.Call (.Name "reversed" p2) [l] [] pos2) X.env)]) aZa._auto_1) :
    PE X (.Call (.Name "list" p) [.Call (.Name "reversed" p2) [l] [] pos2] [] pos) (Er ta):=by
  intro pins s σ H Q I h;refine wpAny_Call_Name_kw (fh I hgl hml boot_list ?_ (by decide) (by decide));refine PyProof.Rows.callWith_type1 ?_ he rfl;rw[he];show wpAny _ _ (spliced [(false,eval (.Call (.Name "reversed" p2) [l] [] pos2) X.env)]) _ _ s;refine Calls.spliced_cons ?_;refine Call_ (fh I hg hm boot_reversed (PyProof.Rows.callWith_type1 (de (ha pos2 pins s σ H _ I h) ?_) hs rfl));rintro us s1 ⟨vs,H1,I1,r1,q1⟩;obtain ⟨a,xs,rfl,hx,q⟩:=q1;obtain ⟨u,rfl,ru⟩:=vals1 r1;cases ru;obtain ⟨zx,its,n,rv,hl⟩:=I1.bK a _ hx;have hlen:=rv.length;refine call_reversed_list (items:=its.toArray) ⟨_,hl,rfl,n,rfl⟩ ?_;refine Calls.spliced_nil ?_;have ne:a≠s1.heap.objs.size:=Nat.ne_of_lt (Heap.lt_size hl);have hit:(s1.heap.push (revObj a ((its.toArray.size:Int) - 1))).IsRevIter s1.heap.objs.size a ((its.toArray.size:Int) - 1):=⟨_,Heap.get?_push_size _ rfl,rfl,rfl⟩
  refine o8 (s:={ s1 with heap:=s1.heap.push (revObj a ((its.toArray.size:Int) - 1)) }) (I1.ok.hd hc) ne (by rw[size_toArray,<-hlen];exact zx) hit ⟨_,Heap.get?_push_of_some _ hl,rfl,n,rfl⟩ λh' tk acc c' hk hS hacc=>?_;have kp:∀c o,s1.heap.get? c=some o->h'.get? c=some o:=λc o e=>hk c o (Nat.ne_of_lt (Heap.lt_size e)) (Heap.get?_push_of_some _ e);have hge:s1.heap.objs.size<=(s1.heap.push (revObj a ((its.toArray.size:Int) - 1))).objs.size:=by rw[Heap.size_push];exact Nat.le_succ _
  refine ⟨.ref _,_,I1.laid (t':=tk) kp hge (o:=.lst xs.reverse) ⟨by rw[List.length_reverse];exact zx,acc.toList,c',?_,by rw[Array.toArray_toList];exact hS⟩,rfl,q _ (I1.bK.fresh hge)⟩;rw[wQ hacc];exact DL.kJ rv
noncomputable def Em (K:Frag)(d:Int)(t:TA):TE:=λσ H Q=>t σ H λvs H1=>∃a ns,vs = [.ref a]/\d6 K H1 a (ns.map V.int)/\(ns = []->Q (.int d) H1)/\∀m∈ns,(∀z∈ns,m<=z)->Q (.int m) H1
theorem Aw (hc:X.calm=true)(hg:Gl X "min")(hm:X.mg "min" = none)(ha:PA X [e] ta)(he:autoParam (starEach [e] X.env = [(false,eval e X.env)]) aZa._auto_1) :
    PE X (.Call (.Name "min" p) [e] [⟨some "default",.Constant (.int d) j cpos,kpos⟩] pos) (Em X.K d ta):=by
  intro pins s σ H Q I h;refine wpAny_Call_Name_kw (fh I hg hm (show bootBuiltins "min" = some (.builtin "min") by first | rfl | decide) ?_ (by decide) (by decide));refine callWith_kw (de (ha pos pins s σ H _ I h) ?_) (by rw[he];rfl) (by rw[he];rfl) rfl rfl;rintro us s1 ⟨vs,H1,I1,r1,q1⟩;refine de ((AA (nm:=some "default") (kpos:=kpos) (jI (i:=d) (j:=j) (pos:=cpos)) Cq:PK X [⟨some "default",.Constant (.int d) j cpos,kpos⟩] (wj (tC (.int d)) AO)) pos pins s1 σ H1 (λws H2=>ws = [.int d]/\H2=H1) I1 ⟨rfl,rfl⟩) ?_;rintro ws s2 ⟨zs,H2,I2,rz,q2,q3⟩;subst q2 q3;obtain ⟨a,ns,rfl,hs,q0,q⟩:=q1;obtain ⟨u,rfl,rx⟩:=vals1 r1;cases rx;obtain ⟨w,rfl,rw'⟩:=vals1 rz;obtain ⟨tw,rfl⟩:=rw';obtain ⟨its,rv,pl,hz⟩:=I2.list hs;have hi:IntsAre its ns:=intsAre_of rv;obtain ⟨zs,ez⟩:=hi.allInts.items;have e3:zs.toList.map (·.1)=ns:=by rw[<-nums_intItems,<-ez];exact hi.numsOf
  have e4:ns.length=zs.size:=by rw[<-e3];simp
  show wpAny _ _ (call (.builtin "min") [.ref a] [(Str.ofString "default",.int d tw)]) _ _ _;refine wB (I2.ok.hd hc) (xs:=zs) (ez ▸ pl.isList) (λz h' tk hk=>⟨.int d,H2,I2.kept hk,⟨_,rfl⟩,q0 (length_eq_zero_iff.mp (by lia))⟩) λb v h' tk hb hv hle hk=>?_;have hn:ns[b]?=some (numAt zs b):=by
    rw[<-e3,getElem?_map];have e5:zs.toList[b]?=some zs[b]:=by simp[hb]
    rw[e5];simp[numAt,hb]
  have hv':∃t,v=.int (numAt zs b) t:=intItems_at hv;obtain ⟨t,rfl⟩:=hv';refine ⟨.int _,H2,I2.kept hk,⟨t,rfl⟩,q _ (mem_of_getElem? hn) λz hz=>?_⟩;obtain ⟨j',hj',ej⟩:=kH (e3 ▸ hz);rw[<-ej];exact hle j' (by lia)
end
end L2
namespace DL
open PySem L2
section
variable {X:Cx} {l e:Expr} {p pos p2 pos2 kpos cpos:Pos} {j:Nat} {d:Int} {t:fc}
noncomputable def xX (t:fc):DT:=λρ Q=>t ρ λds=>match ds with
  | [.lst xs]=>Q (.o (.lst xs.reverse))
  | _=>False
set_option tactic.hygienic true in
theorem zM (hc:X.calm=true)(hg:Gl X "reversed")(hm:X.mg "reversed" = none)(hgl:Gl X "list")(hml:X.mg "list" = none)(ha:DA X [l] t)(hs:autoParam (starEach [l] X.env = [(false,eval l X.env)]) aZa._auto_1)
    (he:autoParam (starEach [.Call (.Name "reversed" p2) [l] [] pos2] X.env = [(false,eval (.Call (.Name "reversed" p2) [l] [] pos2) X.env)]) aZa._auto_1) :
    DE X (.Call (.Name "list" p) [.Call (.Name "reversed" p2) [l] [] pos2] [] pos) (xX t):=
  DE.of (Ax hc hg hm hgl hml ha.pa hs he)<|by
    rintro σ H Q ⟨G,ρ,P,s,re,h,k⟩;refine ⟨G,ρ,_,s,re,h,λds vs H1 G1 p1 l1 w1 r1=>?_⟩;split at p1
    · rename_i xs;obtain ⟨v,rfl,rv⟩:=gK r1;obtain ⟨a,us,rfl,e,rr⟩:=rv.lst_inv;refine ⟨a,us,rfl,w1.gh _ _ e,λc hcn=>?_⟩;obtain ⟨w2,r2⟩:=e8 w1 hcn (kJ rr);exact k _ _ _ _ p1 w2 r2
    · exact p1.elim
noncomputable def xU (d:Int)(t:fc):DT:=λρ Q=>t ρ λds=>match ds with
  | [.lst xs]=>∃ns:List Int,xs=ns.map D.int/\∀m:Int,(ns = []/\m=d\/m∈ns/\∀z∈ns,m<=z)->Q (.p (.int m))
  | _=>False
set_option tactic.hygienic true in
theorem zL (hc:X.calm=true)(hg:Gl X "min")(hm:X.mg "min" = none)(ha:DA X [e] t)(he:autoParam (starEach [e] X.env = [(false,eval e X.env)]) aZa._auto_1) :
    DE X (.Call (.Name "min" p) [e] [⟨some "default",.Constant (.int d) j cpos,kpos⟩] pos) (xU d t):=
  DE.of (Aw hc hg hm ha.pa he)<|by
    rintro σ H Q ⟨G,ρ,P,s,re,h,k⟩;refine ⟨G,ρ,_,s,re,h,λds vs H1 G1 p1 l1 w1 r1=>?_⟩;split at p1
    · rename_i xs;obtain ⟨ns,rfl,h1⟩:=p1;obtain ⟨v,rfl,rv⟩:=gK r1;obtain ⟨a,us,rfl,e,rr⟩:=rv.lst_inv;rw[iQ rr] at e;exact ⟨a,ns,rfl,d6.of (w1.gh _ _ e),λz=>k _ _ H1 G1 (h1 d (.inl ⟨z,rfl⟩)) w1 (.int _),λm h2 h3=>k _ _ H1 G1 (h1 m (.inr ⟨h2,h3⟩)) w1 (.int _)⟩
    · exact p1.elim
end
end DL
namespace L2
open PySem PySem.Spec PyProof.Rows PyProof
section
variable {X:Cx}
noncomputable def AJ:V->List V->Hp->VK->Prop:=λx vs H Q=>∃l xs i y,x=.ref l/\vs = [.int i,y]/\H l=some (.lst xs)/\0<=i/\i<2 ^ 63/\xs.length<sizeLine/\Q .non (upd H l (.lst (xs.take i.toNat++y::xs.drop i.toNat)))
theorem zW (its:List Value)(u:Value)(k:Nat):((its.toArray.extract 0 (min k its.toArray.size)).push u++its.toArray.extract (min k its.toArray.size))=(its.take k++u::its.drop k).toArray:=by
  apply Array.ext';by_cases h:k<=its.length
  · simp[Nat.min_eq_left h];exact take_of_length_le (by rw[length_drop];exact Nat.le_refl _)
  · have h' : its.length <= k := by lia
    simp[Nat.min_eq_right h',take_of_length_le h',List.drop_eq_nil_of_le h']
theorem w6:EO X "list.insert" AJ:=by
  intro pins s σ H x vs v us Q I rx rv h;obtain ⟨l,xs,i,y,rfl,rfl,hH,h0,h1,hz,q⟩:=h;cases rx;cases rv with
  | cons ri rv =>
  obtain ⟨t,rfl⟩:=ri;obtain ⟨u,rfl,ru⟩:=vals1 rv;obtain ⟨z,its,n,r,hl,e⟩:=I.uw hH;refine call_meets F.slot_list_insert ⟨_,e,rfl⟩ F.entry_list_insert (F.args_list_insert_3 _ _ _) (AutoSeq1.list_insert_list_int_val_1 l its.toArray n i t u (by rw[fitsIndex_both (by lia) h1];decide) (by rw[size_toArray];lia)) ⟨e,?_⟩;refine ⟨.non,_,I.BS (its':=its.take i.toNat++u::its.drop i.toNat) hH e ?_ ((Vals.take _ r).append (.cons ru (Vals.drop _ r))) ?_,rfl,q⟩
  · dsimp only;rw[if_neg (by lia)];exact zW its u i.toNat
  · rw[length_append,length_cons,length_take,length_drop];lia
end
end L2
namespace DL
open PySem L2
noncomputable def zK (i:Nat)(tk te:DT):ir:=λE ρ=>match aI ρ i with
  | some (.o (.lst ds))=>tk (cM ρ) λk=>match k.val with
    | .int z=>te ρ λb=>(0<=z/\z<2 ^ 63)/\ds.length<sizeLine/\E.nx (dput ρ i (.o (.lst (ds.take z.toNat++b.val::ds.drop z.toNat))))
    | _=>False
  | _=>False
section
variable {X:Cx} {e k:Expr} {te tk:DT} {i:Nat} {x:Str} {px apos cpos spos:Pos}
set_option tactic.hygienic true in
theorem yi (hN:X.N[i]?=some x)(hv:ua X.env.scope x)(hk:DE X k tk)(he:DE X e te)(hd:autoParam ((x == ("__debug__" : Str))=false) aZb._auto_1)(hcd:autoParam ((x == ("__classdict__" : Str))=false) aZb._auto_1)
    (hbase:autoParam (attributeBase (.Name x px) "insert" X.env (eval (.Name x px) X.env)=eval (.Name x px) X.env) aZa._auto_1)
    (hfew:autoParam (((backTo cpos (starEach (k::[e]) X.env)).all (λx=>!x.1) && (backToKw cpos (keywordEach [] X.env)).all (λx=>x.1.isSome)
      && decide ((k::[e]).length+([]:List Keyword).length+(if ([]:List Keyword).isEmpty then 0 else 1)<30))=true) aZa._auto_1)
    (hline:autoParam ((apos.endLine == cpos.line)=true) aZa._auto_1) (hs:autoParam (starEach (k::[e]) X.env=(false,eval k X.env)::starEach [e] X.env) aZa._auto_1) (hs2:autoParam (starEach [e] X.env=(false,eval e X.env)::starEach [] X.env) aZa._auto_1) (hplain:autoParam ((backTo cpos (starEach [e] X.env)).any (·.1)=false) aZa._auto_1)
    (hsw:autoParam (swapsWith (.Call (.Attribute (.Name x px) "insert" apos) [k,e] [] cpos) none spos.line X.env=pure false) aZa._auto_1) :
    DS X (.Expr (.Call (.Attribute (.Name x px) "insert" apos) [k,e] [] cpos) spos) (zK i tk te):=DS.mk λH0 G0 =>
  PS.imp (rg (yT PySem.F.plainAttrs_list PySem.F.slot_list_insert PySem.F.type_list_insert w6 (gT hN hv hd hcd) (br hk.pe (br he.pe gS hs2) hs) hbase hfew hline hs hplain) hsw)<|by
    rintro Dn σ H ⟨E,G,ρ,eo,w,en,h⟩;unfold zK at h;split at h
    · rename_i ds q;obtain ⟨a,h1,h2,h3,vs,h4,h5⟩:=en.o i _ q;obtain ⟨G1,w1,sg,e1⟩:=en.freeze w;refine ⟨_,h1,.inl ⟨rfl,_,d6.of h4⟩,G1,cM ρ,_,w1.gh,e1.p,h,λb v H' G' p' w' r'=>?_⟩;split at p'
      · rename_i z ez;have ev:=d8 w' r' ez;subst ev;have wb:=w.back w';have eb:=en.back w'.hh;refine ⟨G,ρ,_,wb.gh,eb.p,p',λb2 v2 H2 G2 p2 w2 r2=>?_⟩;obtain ⟨G3,w3,r3⟩:=r2.give w2;obtain ⟨hz,hl,p3⟩:=p2;have wt:=wb.trans w3;have et:=eb.on w3;obtain ⟨a',k1,k2,k3⟩:=et.o i _ q;rw[h1] at k1;cases k1;have h6:H2 a=some (.lst vs):=w3.hh _ _ (w'.hh _ _ h4);have h7:=bw.mono w3.gg h5;exact ⟨a,vs,z,v2,rfl,rfl,h6,hz.1,hz.2,by rw[Paired.length h7];exact hl,eo.nx σ _ G3 _ (wt.own k2 k3.1) (et.CF q h1 (er (jH _ h7) (.cons r3 (jG _ h7)))) p3⟩
      · exact p'.elim
    · exact h.elim
end
end DL
set_option maxHeartbeats 4000000
namespace DL
open PySem L2
noncomputable def D.flat:D->Bool
  | .lst ds=>ds.all D.sc
  | _=>false
noncomputable def B.flat:B->Bool
  | .p d=>d.sc
  | .o d=>d.flat
  | .n t dss=>!t.own && dss.all D.flat
theorem vZ (ns:List Int):(ns.map D.int).all D.sc=true:=by
  induction ns with
  | nil=>rfl
  | cons n ns ih=>exact ih
theorem AV {H G G1 H' G':Hp}(s:aE G H)(sg:aE G G1)(w':Wd H G1 H' G') :
    ∃G2,Wd H G H' G2/\(∀a xs,G' a=some (.tup xs)->G2 a=some (.tup xs))/\∀a,H a=none->(∀xs,G' a≠some (.tup xs))->G2 a=none:=by
  classical
  refine ⟨λx=>if ∃xs,G' x=some (.tup xs) then G' x else G x,⟨w'.hh,λa o e=>?_,λa o e=>?_,λa h=>?_⟩,λa xs e=>?_,λa h n=>?_⟩
  · show (if ∃xs,G' a=some (.tup xs) then G' a else G a)=some o;by_cases c:∃xs,G' a=some (.tup xs)
    · rw[if_pos c];exact w'.gg _ _ (sg _ _ e)
    · rw[if_neg c];exact e
  · have e':(if ∃xs,G' a=some (.tup xs) then G' a else G a)=some o:=e;by_cases c:∃xs,G' a=some (.tup xs)
    · rw[if_pos c] at e';exact w'.gh _ _ e'
    · rw[if_neg c] at e';exact w'.hh _ _ (s _ _ e')
  · obtain ⟨o,e,n⟩:=h;show (if ∃xs,G' a=some (.tup xs) then G' a else G a)=G a;refine if_neg ?_;rintro ⟨xs,z⟩;have:=w'.gh _ _ z;rw[w'.hh _ _ e] at this;cases this;exact n _ rfl
  · show (if ∃xs,G' a=some (.tup xs) then G' a else G a)=_;rw[if_pos ⟨xs,e⟩];exact e
  · show (if ∃xs,G' a=some (.tup xs) then G' a else G a)=none;rw[if_neg (by rintro ⟨xs,z⟩;exact n xs z)];exact s.free h
theorem xk {K:Frag}{G G':Hp}{vs:List V}{ds:List D}(r:bw K G vs ds)(f:ds.all D.sc=true):bw K G' vs ds:=by
  induction r with
  | nil=>exact .nil
  | cons h _ ih =>
    rw[List.all_cons,Bool.and_eq_true] at f;exact .cons (h.sc f.1) (ih f.2)
theorem bI.flat {K:Frag}{G G' H:Hp}{a:Addr}{d:D}(h:bI K G H a d)(f:d.flat=true)(g:G' a=none):bI K G' H a d:=by
  cases d with
  | lst ds =>
    obtain ⟨_,vs,e,r⟩:=h;exact ⟨g,vs,e,xk r f⟩
  | _=>cases f
theorem Ct.zG {t:Ct}{G G':Hp}{a:Addr}{as:List Addr}(o:t.own=false)(k:∀a xs,G a=some (.tup xs)->G' a=some (.tup xs))(h:t.at G a as):t.at G' a as:=by
  cases t with
  | tup=>exact k _ _ h
  | lst=>cases o
  | obj C g n=>cases o
  | wk g=>obtain ⟨b,c,e,h⟩:=h;exact ⟨b,c,e,k _ _ h⟩
  | fnd x p=>obtain ⟨b,c,e,t,h1,h2,h3⟩:=h;exact ⟨b,c,e,t,h1,k _ _ h2,k _ _ h3⟩
theorem xc {K:Frag}{H G G' H':Hp}{as:List Addr}{dss:List D}(n:∀a,H a=none->(∀xs,G a≠some (.tup xs))->G' a=none)(pr:Paired (λx d=>H x=none/\bI K G H' x d) as dss)(f:dss.all D.flat=true):Paired (λx d=>H x=none/\bI K G' H' x d) as dss:=by
  induction pr with
  | nil=>exact .nil
  | cons h _ ih =>
    rw[List.all_cons,Bool.and_eq_true] at f;exact .cons ⟨h.1,h.2.flat f.1 (n _ h.1 λxs z=>by rw[h.2.1] at z;cases z)⟩ (ih f.2)
theorem gL.AV {K:Frag}{H G G1 H' G':Hp}{v:V}{b:B}(s:aE G H)(sg:aE G G1)(w':Wd H G1 H' G')(r:gL K H G' H' v b)(f:b.flat=true):∃G2,Wd H G H' G2/\gL K H G2 H' v b:=by
  obtain ⟨G2,w2,t2,n2⟩:=DL.AV s sg w';refine ⟨G2,w2,?_⟩;cases b with
  | p d=>exact Rep.sc r f
  | o d =>
    obtain ⟨a,rfl,n,o⟩:=r;exact ⟨a,rfl,n,o.flat f (n2 a n λxs z=>by rw[o.1] at z;cases z)⟩
  | n t dss =>
    obtain ⟨a,as,rfl,nd,pr,q⟩:=r;have f':(!t.own && dss.all D.flat)=true:=f;rw[Bool.and_eq_true] at f';have fo:t.own=false:=by
      cases z:t.own with
      | false=>rfl
      | true=>rw[z] at f';cases f'.1
    refine ⟨a,as,rfl,nd,xc n2 pr f'.2,?_⟩;unfold Ct.On at q ⊢;rw[fo] at q ⊢;exact Ct.zG fo t2 q
section
variable {X:Cx} {e e0 e1 e2 e3:Expr} {te t0 t1 t2 t3:DT} {i j:Nat} {x y:Str} {pos px py lp:Pos}
noncomputable def xY (i:Nat)(te:DT):ir:=λE ρ=>te (cM ρ) λb=>b.flat=true/\E.nx (dput ρ i b)
theorem vq (hN:X.N.Nodup)(hi:X.N[i]?=some x)(hx:Loc X.env.scope x)(he:DE X e te)(hs:autoParam (swapsWith e (some (.Name x px)) pos.line X.env=pure false) aZa._auto_1)(hf:autoParam (X.fn x=true\/X.env.scope.names.lookup x=some .local) aZd._auto_1) :
    DS X (.Assign [.Name x px] e pos) (xY i te):=DS.mk λH0 G0=>PS.imp (rh hN hi hx he.pe hs hf)<|by
  rintro Dn σ H ⟨E,G,ρ,eo,w,en,h⟩;obtain ⟨G1,w1,sg,e1⟩:=en.freeze w;refine ⟨G1,cM ρ,_,w1.gh,e1.p,h,λb v H' G' p' w' r'=>?_⟩;obtain ⟨G2,w2,r2⟩:=gL.AV w.gh sg w' r' p'.1;exact oJ i eo w en p'.2 w2 r2
noncomputable def ve (i:Nat):ir:=λE ρ=>match aI ρ i with
  | some b=>E.rt b
  | none=>False
theorem zP (i:Nat){x:Str}{px:Pos}(hN:autoParam (X.N[i]?=some x) aZa._auto_1)(hv:autoParam (ua X.env.scope x) aZf._auto_1)(hd:autoParam ((x == ("__debug__" : Str))=false) aZb._auto_1)
    (hcd:autoParam ((x == ("__classdict__" : Str))=false) aZb._auto_1):DS X (.Return (some (.Name x px)) pos) (ve i):=DS.mk λH0 G0=>PS.imp (oD (gT hN hv hd hcd))<|by
  rintro Dn σ H ⟨E,G,ρ,eo,w,en,h⟩;unfold ve at h;cases q:aI ρ i with
  | none=>rw[q] at h;exact h.elim
  | some b =>
    rw[q] at h;cases b with
    | p d =>
      obtain ⟨v,h1,h2⟩:=en.p i d q;exact ⟨v,h1,eo.rt (.p d) _ H G w h2 h⟩
    | o d =>
      obtain ⟨a,h1,h2,h3⟩:=en.o i d q;exact ⟨.ref a,h1,eo.rt (.o d) _ H G w ⟨a,rfl,h2,h3⟩ h⟩
    | n t ds =>
      obtain ⟨o,en⟩:=en;obtain ⟨a,h1,as,nd,pr,on⟩:=en.n i t ds q;exact ⟨.ref a,h1,eo.rt (.n t ds) _ H G w ⟨a,as,rfl,nd,Paired.imp' (λ_ _ z=>⟨z.1,z.2.2⟩) pr,on.imp (aE.refl _) λf g _=>⟨f.1,g,λ_ z=>z⟩⟩ h⟩
noncomputable def ue (j:Nat)(te:DT):ir:=λE ρ=>te ρ λb=>∃d1 d2,b=.o d1/\aI ρ j=some (.o d2)/\E.rt (.n .tup [d1,d2])
theorem yj {x1}(he:DE X e te)(hN:X.N[j]?=some y)(hv:ua X.env.scope y)(hd:autoParam ((y == ("__debug__" : Str))=false) aZb._auto_1)(hcd:autoParam ((y == ("__classdict__" : Str))=false) aZb._auto_1)
    (hs0:autoParam (starEach [e,.Name y py] X.env=(false,eval e X.env)::starEach [.Name y py] X.env) aZa._auto_1) (hs1:autoParam (starEach [.Name y py] X.env=(false,eval (.Name y py) X.env)::starEach [] X.env) aZa._auto_1) :
    DS X (.Return (some (.Tuple [e,.Name y py] x1 lp)) pos) (ue j te):=DS.mk λH0 G0 =>
  PS.imp (oD (oA (br he.pe (br (gT hN hv hd hcd) gS hs1) hs0)))<|by
    rintro Dn σ H ⟨E,G,ρ,eo,w,en,h⟩;refine ⟨G,ρ,_,w.gh,en.p,h,λb v H' G' p' w' r'=>?_⟩;obtain ⟨d1,d2,rfl,ej,p'⟩:=p';obtain ⟨a1,rfl,n1,o1⟩:=r';obtain ⟨a,_,_,oa⟩:=en.o j d2 ej;obtain ⟨a2,h1,h2,o2⟩:=(en.on w').o j d2 ej;refine ⟨.ref a2,h1,bV (by show 2<=1000;decide),λp hp=>?_⟩;have ne:a1≠a2:=λz=>by
      obtain ⟨b,k1,_,ob⟩:=en.o j d2 ej;rw[h1] at k1;cases k1;exact ob.there (z ▸ n1)
    have w2:=w'.new (o:=.tup [V.ref a1,V.ref a2]) hp;have st:∀(a:Addr) (d:D),bI X.K G' H' a d->bI X.K (upd G' p (.tup [.ref a1,.ref a2])) (upd H' p (.tup [.ref a1,.ref a2])) a d:=λa d o=>by
      have np:a≠p:=λz=>o.there (z ▸ hp);exact o.df ((aE.refl _).upd (w'.gh.free hp)) (by rw[aC np];exact o.1) λob q=>by rw[aC np];exact q
    exact eo.rt (.n .tup [d1,d2]) _ _ _ (w.trans w2) ⟨p,[a1,a2],rfl,by simp[ne],.cons ⟨w.hh.free n1,st _ _ o1⟩ (.cons ⟨h2,st _ _ o2⟩ .nil),(show upd G' p _ p=_ from bf)⟩ p'
noncomputable def x6 (t0 t1:DT):DT:=λρ Q=>t0 ρ λb0=>t1 ρ λb1=>∃d1 d2,b0=.o d1/\b1=.o d2/\Q (.n .tup [d1,d2])
theorem vg {kx}(h0:DE X e0 t0)(h1:DE X e1 t1)(hs0:autoParam (starEach (e0::[e1]) X.env=(false,eval e0 X.env)::starEach [e1] X.env) aZa._auto_1)(hs1:autoParam (starEach (e1::[]) X.env=(false,eval e1 X.env)::starEach [] X.env) aZa._auto_1):DE X (.Tuple [e0,e1] kx pos) (x6 t0 t1):=by
  refine DE.of (oA (br h0.pe (br h1.pe gS hs1) hs0)) ?_;rintro σ H Q ⟨G,ρ,P,s,re,h,k⟩;refine ⟨G,ρ,_,s,re,h,λb0 v0 H1 G1 p1 w1 r1=>?_⟩;refine ⟨G1,ρ,_,w1.gh,re.mono w1.gg,p1,λb1 v1 H2 G2 p2 w2 r2=>?_⟩;obtain ⟨d1,d2,rfl,rfl,p3⟩:=p2;obtain ⟨l1,rfl,n1,o1⟩:=r1;obtain ⟨l2,rfl,n2,o2⟩:=r2;have o1':bI X.K G2 H2 l1 d1:=o1.df w2.gg (by rw[w2.old l1 o1.chg];exact o1.1) λo q=>w2.hh _ _ q;have l12:l1≠l2:=λz=>o1.there (z ▸ n2);have w:=w1.trans w2;refine ⟨(show 2<=sizeLine by decide),λp hp=>?_⟩;have st:∀(a:Addr) (d:D),bI X.K G2 H2 a d->bI X.K (upd G2 p (.tup [.ref l1,.ref l2])) (upd H2 p (.tup [.ref l1,.ref l2])) a d:=λa d o=>by
    have ne:a≠p:=λz=>o.there (z ▸ hp);exact o.df ((aE.refl _).upd (w.gh.free hp)) (by rw[aC ne];exact o.1) λob q=>by rw[aC ne];exact q
  exact k _ _ _ _ p3 (w.new hp) ⟨p,[l1,l2],rfl,by simp[l12],.cons ⟨n1,st _ _ o1'⟩ (.cons ⟨w1.hh.free n2,st _ _ o2⟩ .nil),(show upd G2 p _ p=_ from bf)⟩
noncomputable def x8 (t0 t1 t2 t3:DT):DT:=λρ Q=>t0 ρ λb0=>t1 ρ λb1=>t2 ρ λb2=>t3 ρ λb3=>∃x d1 d2 p d3,b0.val=.str x/\b1=.n .tup [d1,d2]/\b2.val=.int p/\b3=.o d3/\Q (.n (.fnd x p) [d1,d2,d3])
theorem rP {K:Frag}{H G H' G':Hp}{v:V}{b:B}{z:Str}(w:Wd H G H' G')(r:gL K H G' H' v b)(e:b.val=.str z):v=.str z:=by
  obtain ⟨_,_,rr⟩:=r.give w;rw[e] at rr;exact rr.str_inv
theorem zN {kx}(h0:DE X e0 t0)(h1:DE X e1 t1)(h2:DE X e2 t2)(h3:DE X e3 t3)(hs0:autoParam (starEach (e0::[e1,e2,e3]) X.env=(false,eval e0 X.env)::starEach [e1,e2,e3] X.env) aZa._auto_1)(hs1:autoParam (starEach (e1::[e2,e3]) X.env=(false,eval e1 X.env)::starEach [e2,e3] X.env) aZa._auto_1)
    (hs2:autoParam (starEach (e2::[e3]) X.env=(false,eval e2 X.env)::starEach [e3] X.env) aZa._auto_1) (hs3:autoParam (starEach (e3::[]) X.env=(false,eval e3 X.env)::starEach [] X.env) aZa._auto_1):DE X (.Tuple [e0,e1,e2,e3] kx pos) (x8 t0 t1 t2 t3):=by
  refine DE.of (oA (br h0.pe (br h1.pe (br h2.pe (br h3.pe gS hs3) hs2) hs1) hs0)) ?_;rintro σ H Q ⟨G,ρ,P,s,re,h,k⟩;refine ⟨G,ρ,_,s,re,h,λb0 v0 H1 G1 p1 w1 r1=>?_⟩;refine ⟨G1,ρ,_,w1.gh,re.mono w1.gg,p1,λb1 v1 H2 G2 p2 w2 r2=>?_⟩;refine ⟨G2,ρ,_,w2.gh,re.mono (w1.trans w2).gg,p2,λb2 v2 H3 G3 p3 w3 r3=>?_⟩;refine ⟨G3,ρ,_,w3.gh,re.mono ((w1.trans w2).trans w3).gg,p3,λb3 v3 H4 G4 p4 w4 r4=>?_⟩;obtain ⟨x,d1,d2,q,d3,q1,rfl,q2,rfl,p5⟩:=p4;cases rP w1 r1 q1;cases d8 w3 r3 q2;obtain ⟨t,as,rfl,nd,pr,on⟩:=r2;obtain ⟨l3,rfl,n3,o3⟩:=r4;cases pr with
  | @cons l1 _ _ _ f1 pr=>cases pr with
    | @cons l2 _ _ _ f2 pr=>cases pr with
      | nil =>
        have gt:G2 t=some (.tup [V.ref l1,V.ref l2]):=on;have w34:=w3.trans w4;have w:=(w1.trans w2).trans w34;have up:∀(a:Addr) (d:D),bI X.K G2 H2 a d->bI X.K G4 H4 a d:=λa d o=>o.df w34.gg (by rw[w34.old a o.chg];exact o.1) λob z=>w34.hh _ _ z;have no3:∀(a:Addr) (d:D),bI X.K G2 H2 a d->a≠l3:=λa d o z=>by
          obtain ⟨ob,e1,_⟩:=o.chg;have:=w3.hh _ _ e1;rw[z,n3] at this;cases this
        refine ⟨(show 4<=sizeLine by decide),λp hp=>?_⟩;have st:∀(a:Addr) (d:D),bI X.K G4 H4 a d->bI X.K (upd G4 p (.tup [.str x,.ref t,.int q,.ref l3])) (upd H4 p (.tup [.str x,.ref t,.int q,.ref l3])) a d:=λa d o=>by
          have ne:a≠p:=λz=>o.there (z ▸ hp);exact o.df ((aE.refl _).upd (w.gh.free hp)) (by rw[aC ne];exact o.1) λob q=>by rw[aC ne];exact q
        have n12:l1≠l2:=by
          have:=(nodup_cons.mp nd).1;simpa using this
        have tp:t≠p:=λz=>by
          have:=w.gh _ _ (w34.gg _ _ gt);rw[z,hp] at this;cases this
        exact k _ _ _ _ p5 (w.new hp) ⟨p,[l1,l2,l3],rfl,by simp[n12,no3 _ _ f1.2,no3 _ _ f2.2],.cons ⟨w1.hh.free f1.1,st _ _ (up _ _ f1.2)⟩ (.cons ⟨w1.hh.free f2.1,st _ _ (up _ _ f2.2)⟩ (.cons ⟨((w1.trans w2).trans w3).hh.free n3,st _ _ o3⟩ .nil)),
          (show Ct.at (.fnd x q) _ p [l1,l2,l3] from ⟨l1,l2,l3,t,rfl,bf,by rw[aC tp];exact w34.gg _ _ gt⟩)⟩
noncomputable def xW (i j:Nat)(t0 te:DT):ir:=λE ρ=>∃d1 d2 d3,aI ρ i=some (.n .tup [d1,d2])/\aI ρ j=some (.o d3)/\i≠j/\t0 (cM ρ) λb0=>te (cM ρ) λb=>∃x p,b0.val=.str x/\b.val=.int p/\E.rt (.n (.fnd x p) [d1,d2,d3])
theorem zQ {x1}(h0:DE X e0 t0)(he:DE X e te)(hN:X.N[i]?=some x)(hv:ua X.env.scope x)(hN':X.N[j]?=some y)(hv':ua X.env.scope y)(hd:autoParam ((x == ("__debug__" : Str))=false) aZb._auto_1)(hcd:autoParam ((x == ("__classdict__" : Str))=false) aZb._auto_1)(hd':autoParam ((y == ("__debug__" : Str))=false) aZb._auto_1)(hcd':autoParam ((y == ("__classdict__" : Str))=false) aZb._auto_1)
    (hs0:autoParam (starEach (e0::[.Name x px,e,.Name y py]) X.env=(false,eval e0 X.env)::starEach [.Name x px,e,.Name y py] X.env) aZa._auto_1) (hs1:autoParam (starEach (.Name x px::[e,.Name y py]) X.env=(false,eval (.Name x px) X.env)::starEach [e,.Name y py] X.env) aZa._auto_1)
    (hs2:autoParam (starEach (e::[.Name y py]) X.env=(false,eval e X.env)::starEach [.Name y py] X.env) aZa._auto_1) (hs3:autoParam (starEach (.Name y py::[]) X.env=(false,eval (.Name y py) X.env)::starEach [] X.env) aZa._auto_1) :
    DS X (.Return (some (.Tuple [e0,.Name x px,e,.Name y py] x1 lp)) pos) (xW i j t0 te):=DS.mk λH0 G0 =>
  PS.imp (oD (oA (br h0.pe (br (gT hN hv hd hcd) (br he.pe (br (gT hN' hv' hd' hcd') gS hs3) hs2) hs1) hs0)))<|by
    rintro Dn σ H ⟨E,G,ρ,eo,w,en,h⟩;obtain ⟨d1,d2,d3,qi,qj,ne,h⟩:=h;obtain ⟨G1,w1,sg,e1⟩:=en.freeze w;obtain ⟨own,en⟩:=en;obtain ⟨t,si,_⟩:=en.n i _ _ qi;obtain ⟨l3,sj,_⟩:=en.o j _ qj;refine ⟨G1,cM ρ,_,w1.gh,e1.p,h,λb0 v0 H1 G1' p1 w1' r1=>⟨.ref t,si,G1',cM ρ,_,w1'.gh,gk.mono w1'.gg e1.p,p1,λb v H2 G2' p2 w2' r2=>⟨.ref l3,sj,(show 4<=sizeLine by decide),λp hp=>?_⟩⟩⟩;obtain ⟨z,q,q1,q2,p5⟩:=p2;cases rP w1' r1 q1;cases d8 w2' r2 q2;obtain ⟨G2,w2,t2,n2⟩:=DL.AV w.gh sg (w1'.trans w2');have en2:=en.on w2;obtain ⟨t',si',as,nd,pr,on⟩:=en2.n i _ _ qi;rw[si] at si';cases si';obtain ⟨l3',sj',z3,o3,f3⟩:=en2.o j _ qj;rw[sj] at sj';cases sj';cases pr with
    | @cons l1 _ _ _ f1 pr=>cases pr with
      | @cons l2 _ _ _ f2 pr=>cases pr with
        | nil =>
          have gt:G2 t=some (.tup [V.ref l1,V.ref l2]):=on;have st:∀(a:Addr) (d:D),bI X.K G2 H2 a d->bI X.K (upd G2 p (.tup [.str z,.ref t,.int q,.ref l3])) (upd H2 p (.tup [.str z,.ref t,.int q,.ref l3])) a d:=λa d o=>by
            have ne:a≠p:=λz=>o.there (z ▸ hp);exact o.df ((aE.refl _).upd (w2.gh.free hp)) (by rw[aC ne];exact o.1) λob q=>by rw[aC ne];exact q
          have n12:l1≠l2:=by
            have:=(nodup_cons.mp nd).1;simpa using this
          have n13:l1≠l3:=λz=>ne (f1.2.1.symm.trans (z ▸ o3));have n23:l2≠l3:=λz=>ne (f2.2.1.symm.trans (z ▸ o3));have tp:t≠p:=λz=>by
            have:=w2.gh _ _ gt;rw[z,hp] at this;cases this
          exact eo.rt (.n (.fnd z q) [d1,d2,d3]) _ _ _ (w.trans (w2.new hp)) ⟨p,[l1,l2,l3],rfl,by simp[n12,n13,n23],.cons ⟨f1.1,st _ _ f1.2.2⟩ (.cons ⟨f2.1,st _ _ f2.2.2⟩ (.cons ⟨z3,st _ _ f3⟩ .nil)),
            (show Ct.at (.fnd z q) _ p [l1,l2,l3] from ⟨l1,l2,l3,t,rfl,bf,by rw[aC tp];exact gt⟩)⟩ p5
end
theorem bC.uo {K:Frag}{H0 G H:Hp}{σ:St}{ρ:aH}{i j:Nat}{t:Ct}{dss ds:List D}(e:bC K H0 G H σ ρ)(h1:aI ρ i=some (.n t dss))(hj:dss[j]?=some (.lst ds)) :
    ∃a as x vs,σ[i]?=some (some (.ref a))/\t.On True G H a as/\as[j]?=some x/\H x=some (.lst vs)/\bw K G vs ds/\H0 x=none/\G x=none/\∀vs' ds',bw K G vs' ds'->bC K H0 G (upd H x (.lst vs')) σ (dput ρ i (.n t (dss.set j (.lst ds')))):=by
  obtain ⟨o,e⟩:=e;obtain ⟨a,k1,as,nd,pr,q⟩:=e.n i t dss h1;obtain ⟨x,hx,x0,xo,gx,vs,ex,rx⟩:=bA pr hj;have mx:x∈as:=mem_of_getElem? hx;refine ⟨a,as,x,vs,k1,q.imp (aE.refl _) λf g _=>⟨trivial,g,λ_ z=>z⟩,hx,ex,rx,x0,gx,λvs' ds' r=>?_⟩;refine ⟨o,by rw[hZ];exact e.len,λj' d q=>?_,λj' d q=>?_,λj' t' dss' q'=>?_⟩
  · rcases bP q with ⟨rfl,_,q⟩ | ⟨hne,q⟩
    · cases q
    · exact e.p j' d q
  · rcases bP q with ⟨rfl,_,q⟩ | ⟨hne,q⟩
    · cases q
    · obtain ⟨b,k1,k2,k2',k3⟩:=e.o j' d q;refine ⟨b,k1,k2,k2',k3.df (aE.refl _) k3.1 λo z=>?_⟩;have:b≠x:=by
        rintro rfl;exact hne (xo.symm.trans k2')
      rw[aC this];exact z
  · rcases bP q' with ⟨rfl,_,q'⟩ | ⟨hne,q'⟩
    · cases q';refine ⟨a,k1,as,nd,aD (by rw[length_set];exact Paired.length pr) λk y d h3 h4=>?_,?_⟩
      · by_cases c:j=k
        · subst c;rw[hx] at h3;cases h3;have hl:j<dss.length:=(List.getElem?_eq_some_iff.mp hj).1;rw[List.getElem?_set_self hl] at h4;cases h4;exact ⟨x0,xo,gx,vs',bf,r⟩
        · rw[List.getElem?_set_ne c] at h4;obtain ⟨z0,z1,z2⟩:=iO pr k y d h3 h4;have ny:y≠x:=by
            rintro rfl;obtain ⟨l1,e1⟩:=List.getElem?_eq_some_iff.mp hx;obtain ⟨l2,e2⟩:=List.getElem?_eq_some_iff.mp h3;exact c ((List.getElem_inj nd).mp (e1.trans e2.symm))
          exact ⟨z0,z1,z2.df (aE.refl _) z2.1 λob z=>by rw[aC ny];exact z⟩
      · unfold Ct.On at q ⊢;cases to:t.own with
        | true =>
          rw[to] at q;have na:a≠x:=λz=>q.2.2.1 (z ▸ mx);exact ⟨q.1,q.2.1,q.2.2.1,Ct.qz to (λob z=>by rw[aC na];exact z) q.2.2.2⟩
        | false =>
          rw[to] at q;exact q
    · obtain ⟨b,k1,k2⟩:=e.n j' t' dss' q';refine ⟨b,k1,k2.df (aE.refl _) λy z1 z2 z3 z4=>⟨z3,z2,λo z=>?_⟩⟩;have:y≠x:=by
        rintro rfl;exact hne (xo.symm.trans z2)
      rw[aC this];exact z
section
variable {X:Cx} {e k m:Expr} {tk tm te:DT} {i:Nat} {x:Str} {pos px sp tpos:Pos}
noncomputable def xT (i:Nat)(tk tm te:DT)(f:Int->Int->Int):ir:=λE ρ=>∃dss,aI ρ i=some (.n .tup dss)/\tk (cM ρ) λk=>∃(z:Int) (j:Nat) (ds:List D),k.val=.int z/\qf dss.length z=some j/\dss[j]?=some (.lst ds) /\
  tm (cM ρ) λm=>∃(z':Int) (j':Nat) (q:Int),m.val=.int z'/\qf ds.length z'=some j'/\ds[j']?=some (.int q)/\te (cM ρ) λb=>∃v,b.val=.int v/\E.nx (dput ρ i (.n .tup (dss.set j (.lst (ds.set j' (.int (f q v)))))))
theorem vn {op:Operator}{f:Int->Int->Int}(hN:X.N[i]?=some x)(hv:ua X.env.scope x)(hk:DE X k tk)(hm:DE X m tm)(he:DE X e te)(ho:Bp X op (CV f))(hp:autoParam (ni k) aZj._auto_1)(hd:autoParam ((x == ("__debug__" : Str))=false) aZb._auto_1)(hcd:autoParam ((x == ("__classdict__" : Str))=false) aZb._auto_1)
    (ha:autoParam (∀ov iv new,augStore m ov iv new=(do holding [new,ov,iv] (setItem ov iv new);release [new,ov,iv] [];pure .next)) aZh._auto_1) :
    DS X (.AugAssign (.Subscript (.Subscript (.Name x px) k sp) m tpos) op e pos) (xT i tk tm te f):=DS.mk λH0 G0 =>
  PS.imp (je (oz yE (gT hN hv hd hcd) hk.pe hp) hm.pe h8 he.pe ho set_list ha)<|by
    rintro Dn σ H ⟨E,G,ρ,eo,w,en,h⟩;obtain ⟨dss,q,h⟩:=h;obtain ⟨G1,w1,sg,e1⟩:=en.freeze w;have en0:=en;obtain ⟨own,en'⟩:=en0;obtain ⟨a,hσ,as,nd,pr,on⟩:=en'.n i _ _ q;have ga:G a=some (.tup (as.map V.ref)):=on;refine ⟨.ref a,hσ,G1,cM ρ,_,w1.gh,e1.p,h,λb3 v3 H3 G3 p3 w3 r3=>?_⟩;obtain ⟨z,j,ds,ez,hj,hds,p3⟩:=p3;obtain ⟨a',as',y,vs,hσ',on',hy,yh,yr,y0,yg,fin⟩:=en.uo q hds;rw[hσ] at hσ';cases hσ';obtain rfl:as'=as:=by
      have:G a=some (.tup (as'.map V.ref)):=on';rw[ga] at this;injection this with this
      injection this with this
      exact (List.map_inj_right (f:=V.ref) (λx y e=>by cases e;rfl)).mp this.symm
    have hat:fm (as'.map V.ref) z=some (.ref y):=by
      unfold fm;rw[length_map,Paired.length pr,hj];show (as'.map V.ref)[j]?=_;rw[getElem?_map,hy];rfl
    have s3:aE H H3:=w3.hh;refine .inr (.inl ⟨a,_,z,.ref y,rfl,d8 w3 r3 ez,kX.of ((w.gh.trans s3) _ _ ga),hat,?_⟩);refine ⟨G3,cM ρ,_,w3.gh,gk.mono w3.gg e1.p,p3,λb4 v4 H4 G4 p4 w4 r4=>?_⟩;obtain ⟨z',j',qq,ez',hj',hq,p4⟩:=p4;obtain ⟨u1,g1,g2⟩:=bA yr hq;cases g2;have s4:aE H H4:=s3.trans w4.hh;have hat':fm vs z'=some (.int qq):=by
      unfold fm;rw[Paired.length yr,hj'];exact g1
    have ez4:=d8 w4 r4 ez';refine ⟨y,vs,z',.int qq,rfl,ez4,d6.of (s4 _ _ yh),hat',?_⟩;refine ⟨G4,cM ρ,_,w4.gh,gk.mono (w3.trans w4).gg e1.p,p4,λb5 v5 H5 G5 p5 w5 r5=>?_⟩;obtain ⟨n,en5,p5⟩:=p5;have s5:aE H H5:=s4.trans w5.hh;obtain ⟨a6,as6,y6,vs6,hσ6,on6,hy6,yh6,yr6,y06,yg6,fin6⟩:=(en.back s5).uo q hds;rw[hσ] at hσ6;cases hσ6;obtain rfl:as6=as':=by
      have:G a=some (.tup (as6.map V.ref)):=on6;rw[ga] at this;injection this with this
      injection this with this
      exact (List.map_inj_right (f:=V.ref) (λx y e=>by cases e;rfl)).mp this.symm
    rw[hy] at hy6;cases hy6;refine ⟨qq,n,rfl,d8 w5 r5 en5,y,vs,z',j',rfl,ez4,s5 _ _ yh,by rw[Paired.length yr];exact hj',?_⟩;have wb:Wd H0 G0 H5 G:=⟨w.hh.trans s5,w.gg,w.gh.trans s5,w.old⟩
    exact eo.nx σ _ G _ (wb.own y0 yg) (fin6 _ _ (kK (.int _) j' yr)) p5
end
theorem bC.Fv {K:Frag}{H0 G H:Hp}{σ:St}{ρ:aH}{m:Nat}{v:V}(h:bC K H0 G H σ ρ)(e:aI ρ m=none):bC K H0 G H (σ.set m (some v)) ρ:=by
  obtain ⟨o,h⟩:=h;have ne:∀{i:Nat} {b:B},aI ρ i=some b->i≠m:=λq z=>by rw[z,e] at q;cases q
  refine ⟨o,by rw[length_set];exact h.len,λi d q=>?_,λi d q=>?_,λi t dss q=>?_⟩
  · obtain ⟨v,h1,h2⟩:=h.p i d q;exact ⟨v,by rw[dB (ne q).symm];exact h1,h2⟩
  · obtain ⟨a,h1,h2⟩:=h.o i d q;exact ⟨a,by rw[dB (ne q).symm];exact h1,h2⟩
  · obtain ⟨a,h1,h2⟩:=h.n i t dss q;exact ⟨a,by rw[dB (ne q).symm];exact h1,h2⟩
theorem qc:∀{ρ:aH} {i:Nat} {b:B},aI ρ i=some b->dput ρ i b=ρ
  | [],_,_,h=>by cases h
  | _::_,0,_,h=>by
    have:_=some _:=h;rw[dput,<-this];rfl
  | c::r,i+1,_,h=>congrArg (c::·) (qc (ρ:=r) h)
theorem nS:∀(ρ:aH) (m:Nat) (a b:B),dput (dput ρ m a) m b=dput ρ m b
  | [],_,_,_=>rfl
  | _::_,0,_,_=>rfl
  | x::ρ,m+1,a,b=>congrArg (x::·) (nS ρ m a b)
theorem pY:∀{ρ:aH} {i:Nat} {b c:B},aI ρ i=some c->aI (dput ρ i b) i=some b
  | [],_,_,_,h=>by cases h
  | _::_,0,_,_,_=>rfl
  | _::r,i+1,_,_,h=>pY (ρ:=r) h
theorem nQ:∀{ρ:aH} {i j:Nat} {b:B},j≠i->aI (dput ρ i b) j=aI ρ j
  | [],_,_,_,_=>rfl
  | _::_,0,0,_,h=>absurd rfl h
  | _::_,0,_+1,_,_=>rfl
  | _::_,_+1,0,_,_=>rfl
  | _::r,i+1,j+1,_,h=>nQ (ρ:=r) λz=>h (by rw[z])
section
variable {X:Cx} {i m:Nat} {x y:Str} {tg:Expr} {pos lp px px1 px2 px3 py ip1 ip2 ip3 ip4 ip5 sp1 sp2 sp3 sp4 sp5 apos cpos kp spos:Pos} {k1 k2 k3 k4 k5 kk:Nat}
noncomputable def qI (i m:Nat):ir:=λE ρ=>∃z q a b c,aI ρ i=some (.n (.fnd z q) [.lst a,.lst b,.lst c])/\aI ρ m=none/\m<ρ.length/\i≠m/\a.length<sizeLine/\b.length<sizeLine/\c.length<sizeLine/\E.nx (dput ρ i (.n (.fnd z q) [.lst (a++[.int 1]),.lst (b++[.int 1]),.lst (c++[.int 1])]))
noncomputable abbrev lS (o:Expr)(n:Int)(k:Nat)(ip sp:Pos):Expr:=.Subscript o (.Constant (.int n) k ip) sp
theorem wL (hp:PassesOwn (model X.prog X.w) X.A X.env X.xe)(hc:X.calm=true)(hN:X.N[i]?=some x)(hv:ua X.env.scope x)(hN':X.N[m]?=some y)(hv':ua X.env.scope y)(hg:PG X tg ((Tg.n m).v X.K))
    (hns:∀(n:Int) (k:Nat) (ip:Pos),ni (.Constant (.int n) k ip)) (hd:autoParam ((x == ("__debug__" : Str))=false) aZb._auto_1) (hcd:autoParam ((x == ("__classdict__" : Str))=false) aZb._auto_1) (hd':autoParam ((y == ("__debug__" : Str))=false) aZb._auto_1) (hcd':autoParam ((y == ("__classdict__" : Str))=false) aZb._auto_1)
    (hbase:autoParam (attributeBase (.Name y py) "append" X.env (eval (.Name y py) X.env)=eval (.Name y py) X.env) aZa._auto_1)
    (hfew:autoParam (((backTo cpos (starEach (.Constant (.int 1) kk kp::[]) X.env)).all (λx=>!x.1) && (backToKw cpos (keywordEach [] X.env)).all (λx=>x.1.isSome)
      && decide ((Expr.Constant (.int 1) kk kp::[]).length+([]:List Keyword).length+(if ([]:List Keyword).isEmpty then 0 else 1)<30))=true) aZa._auto_1)
    (hline:autoParam ((apos.endLine == cpos.line)=true) aZa._auto_1) (hs:autoParam (starEach (.Constant (.int 1) kk kp::[]) X.env=(false,eval (.Constant (.int 1) kk kp) X.env)::starEach [] X.env) aZa._auto_1) (hplain:autoParam ((backTo cpos (starEach [] X.env)).any (·.1)=false) aZa._auto_1)
    (hsw:autoParam (swapsWith (.Call (.Attribute (.Name y py) "append" apos) [.Constant (.int 1) kk kp] [] cpos) none spos.line X.env=pure false) aZa._auto_1)
    (hs0:autoParam (starEach [lS (lS (.Name x px1) 1 k1 ip1 sp1) 0 k2 ip2 sp2,lS (lS (.Name x px2) 1 k3 ip3 sp3) 1 k4 ip4 sp4,lS (.Name x px3) 3 k5 ip5 sp5] X.env=(false,eval (lS (lS (.Name x px1) 1 k1 ip1 sp1) 0 k2 ip2 sp2) X.env)::starEach [lS (lS (.Name x px2) 1 k3 ip3 sp3) 1 k4 ip4 sp4,lS (.Name x px3) 3 k5 ip5 sp5] X.env) aZa._auto_1)
    (hs1:autoParam (starEach [lS (lS (.Name x px2) 1 k3 ip3 sp3) 1 k4 ip4 sp4,lS (.Name x px3) 3 k5 ip5 sp5] X.env=(false,eval (lS (lS (.Name x px2) 1 k3 ip3 sp3) 1 k4 ip4 sp4) X.env)::starEach [lS (.Name x px3) 3 k5 ip5 sp5] X.env) aZa._auto_1)
    (hs2:autoParam (starEach [lS (.Name x px3) 3 k5 ip5 sp5] X.env=(false,eval (lS (.Name x px3) 3 k5 ip5 sp5) X.env)::starEach [] X.env) aZa._auto_1)
    (hfs:autoParam (∀u,foldedSetIterable (.List [lS (lS (.Name x px1) 1 k1 ip1 sp1) 0 k2 ip2 sp2,lS (lS (.Name x px2) 1 k3 ip3 sp3) 1 k4 ip4 sp4,lS (.Name x px3) 3 k5 ip5 sp5] lp) X.env u=pure u) aZc._auto_1) :
    DS X (.For tg (.List [lS (lS (.Name x px1) 1 k1 ip1 sp1) 0 k2 ip2 sp2,lS (lS (.Name x px2) 1 k3 ip3 sp3) 1 k4 ip4 sp4,lS (.Name x px3) 3 k5 ip5 sp5] lp) [.Expr (.Call (.Attribute (.Name y py) "append" apos) [.Constant (.int 1) kk kp] [] cpos) spos] [] pos) (qI i m):=DS.mk λH0 G0=>by
  have ev:∀p:Pos,PE X (.Name x p) (AS i):=λp=>gT hN hv hd hcd;refine PS.imp (uJ hp hc (vS (yU (br (oz mr (oz mr (ev px1) jI (hns _ _ _)) jI (hns _ _ _)) (br (oz mr (oz mr (ev px2) jI (hns _ _ _)) jI (hns _ _ _)) (br (oz mr (ev px3) jI (hns _ _ _)) gS hs2) hs1) hs0))) hg
    (vU (rg (yT PySem.F.plainAttrs_list PySem.F.slot_list_append PySem.F.type_list_append my (gT hN' hv' hd' hcd') (br jI gS hs) hbase hfew hline hs hplain) hsw)) hfs) ?_
  rintro Dn σ H ⟨E,G,ρ,eo,w,en,z,q,a,b,c,ei,em,hm,him,la,lb,lc,h⟩;have en0:=en;obtain ⟨own,en'⟩:=en0;obtain ⟨r,sr,as,nd,pr,on⟩:=en'.n i _ _ ei;obtain ⟨l1,l2,l3,t,rfl,gr,gt⟩ : ∃l1 l2 l3 t,as = [l1,l2,l3]/\G r=some (.tup [.str z,.ref t,.int q,.ref l3])/\G t=some (.tup [.ref l1,.ref l2]):=on;have hr:kX X.K H r [.str z,.ref t,.int q,.ref l3]:=kX.of (w.gh _ _ gr);have ht:kX X.K H t [.ref l1,.ref l2]:=kX.of (w.gh _ _ gt);refine ⟨.ref r,sr,r,_,1,.ref t,rfl,rfl,hr,rfl,t,_,0,.ref l1,rfl,rfl,ht,rfl,.ref r,sr,r,_,1,.ref t,rfl,rfl,hr,rfl,t,_,1,.ref l2,rfl,rfl,ht,rfl,.ref r,sr,r,_,3,.ref l3,rfl,rfl,hr,rfl,(show 3<=sizeLine by decide),λp hp=>⟨p,rfl,⟨[.ref l1,.ref l2,.ref l3],d6.of bf⟩,?_⟩⟩;have fl:∃f:Nat->List D,f 0 = [.lst a,.lst b,.lst c]/\f 3 = [.lst (a++[.int 1]),.lst (b++[.int 1]),.lst (c++[.int 1])]/\∀j,j<3->∃ds,(f j)[j]?=some (.lst ds)/\ds.length<sizeLine/\f (j+1)=(f j).set j (.lst (ds++[.int 1])):=by
    refine ⟨λj=>match j with | 0=>[.lst a,.lst b,.lst c] | 1=>[.lst (a++[.int 1]),.lst b,.lst c] | 2=>[.lst (a++[.int 1]),.lst (b++[.int 1]),.lst c] | _=>[.lst (a++[.int 1]),.lst (b++[.int 1]),.lst (c++[.int 1])],rfl,rfl,λj hj=>?_⟩;rcases (show j=0\/j=1\/j=2 by lia) with rfl | rfl | rfl
    · exact ⟨a,rfl,la,rfl⟩
    · exact ⟨b,rfl,lb,rfl⟩
    · exact ⟨c,rfl,lc,rfl⟩
  obtain ⟨f,f0,f3,fj⟩:=fl;have at_:∀(j:Nat) (l:V),([V.ref l1,.ref l2,.ref l3]:List V)[j]?=some l->∃u,l=.ref u/\[l1,l2,l3][j]?=some u:=λj l e=>by
    rw[show ([V.ref l1,.ref l2,.ref l3]:List V) = [l1,l2,l3].map V.ref from rfl,getElem?_map] at e;obtain ⟨u,e1,e2⟩:=Option.map_eq_some_iff.mp e;exact ⟨u,e2.symm,e1⟩
  have w0:Wd H0 G0 (upd H p (.lst [.ref l1,.ref l2,.ref l3])) G:=w.own (w.hh.free hp) (w.gh.free hp);refine ⟨λ(j k:Nat) (σ':St) (H':Hp)=>k=3 - j/\j<=3/\H' p=some (.lst [.ref l1,.ref l2,.ref l3])/\Wd H0 G0 H' G/\σ'[i]?=some (some (.ref r))/\∃ρ',bC X.K H0 G H' σ' ρ'/\aI ρ' i=some (.n (.fnd z q) (f j))/\(∀b,dput ρ' i b=dput ρ i b)/\aI ρ' m=none/\ρ'.length=ρ.length,
    ⟨3,rfl,by lia,bf,w0,sr,ρ,en.back (iR hp),by rw[f0];exact ei,λ_=>rfl,em,rfl⟩,?_⟩
  rintro j k σ' H' ⟨rfl,hj,ep,w',si,ρ',en1,q1,q2,q3,q4⟩;by_cases hlt:j<3
  · refine .inr ⟨⟨_, _, d6.of ep, getElem?_eq_getElem (show j < 3 from hlt)⟩, λσ2 H2 => H2 p = some (.lst [.ref l1, .ref l2, .ref l3]) /\ Wd H0 G0 H2 G /\ σ2[i]? = some (some (.ref r)) /\ ∃ ρ', bC X.K H0 G H2 σ2 ρ' /\ aI ρ' i = some (.n (.fnd z q) (f (j + 1))) /\ (∀ b, dput ρ' i b = dput ρ i b) /\ aI ρ' m = none /\ ρ'.length = ρ.length, λσ2 H2 z => ⟨3 - (j + 1), by lia, rfl, hlt, z⟩, ?_⟩;intro v H2 hy;obtain ⟨rfl,hv2⟩:=hy;obtain ⟨u,rfl,eu⟩:=at_ j v (hv2 _ (d6.of ep));obtain ⟨ds,g1,g2,g3⟩:=fj j hlt;obtain ⟨r',as',u',vs,sr',on',hu',hvs,rvs,z0,zg,nx⟩:=(en1.Fv (v:=.ref u) q3).uo q1 g1;have si':(σ'.set m (some (V.ref u)))[i]?=some (some (.ref r)):=by rw[dB him.symm];exact si
    rw[si'] at sr';cases sr';obtain ⟨b1,b2,b3,t',rfl,gr',gt'⟩ : ∃l1 l2 l3 t,as' = [l1,l2,l3]/\G r=some (.tup [.str z,.ref t,.int q,.ref l3])/\G t=some (.tup [.ref l1,.ref l2]):=on';rw[gr] at gr';cases gr';rw[gt] at gt';cases gt';rw[eu] at hu';cases hu';have up:u≠p:=λz=>by
      obtain ⟨o,e0⟩ : ∃o,H u=some o:=by
        rcases (show j=0\/j=1\/j=2 by lia) with rfl | rfl | rfl
        all_goals
          obtain ⟨_,k2,k3⟩:=iO pr _ u _ eu rfl;obtain ⟨o,e0,_⟩:=k3.chg;exact ⟨o,e0⟩
      rw[z,hp] at e0;cases e0
    refine ⟨.ref u,lM (by rw[en1.len,q4];exact hm),.inl ⟨rfl,vs,d6.of hvs⟩,u,vs,.int 1,rfl,rfl,hvs,by rw[Paired.length rvs];exact g2,?_⟩;refine ⟨by rw[aC up.symm];exact ep,w'.own z0 zg,si',_,nx _ _ (er rvs (.cons (.int 1) .nil)),?_,λb=>?_,?_,?_⟩
    · rw[g3];exact pY q1
    · rw[nS];exact q2 b
    · rw[nQ him.symm];exact q3
    · rw[hZ];exact q4
  · have e : j = 3 := by lia
    subst e;refine .inl ⟨⟨_,d6.of ep,Nat.le_refl _⟩,eo.nx σ' H' G ρ' w' en1 ?_⟩;rw[<-qc q1,q2,f3];exact h
end
end DL
namespace L2
open PySem PySem.Spec PyProof.Rows
theorem Aq {X:Cx}:jS X (compareOp .IsNot) (λx y H Q=>∃a b:Bool,x=.bl a/\y=.bl b/\Q (.bl (!decide (a=b))) H):=by
  intro pins s σ H x y v u Q I rx ry h;obtain ⟨a,b,rfl,rfl,q⟩:=h;cases rx;cases ry;refine wpAny_isNot_plain (by rfl) ⟨.bl (!decide (a=b)),H,I,?_,q⟩;cases a<;>cases b<;>rfl
end L2
namespace DL
open PySem L2
noncomputable def xV:D2:=λx y Q=>∃a b,x=.bl a/\y=.bl b/\Q (.p (.bl (!decide (a=b))))
theorem vR {X:Cx}:oY X (compareOp .IsNot) xV:=by
  refine ⟨_,Aq,λH G x y dx dy P Q s rx ry hr k=>?_⟩;obtain ⟨a,b,rfl,rfl,hr⟩:=hr;rw[rx.qA,ry.qA];exact ⟨_,_,rfl,rfl,k _ _ H G hr (Wd.refl s) (.bl _)⟩
theorem De (d:D):(B.p d).val=d:=rfl
theorem Dd (d:D):(B.o d).val=d:=rfl
theorem xP (ds:List D):(B.n .tup ds).val=.tup ds:=rfl
theorem xO (x:Str)(p:Int)(a b c:D):(B.n (.fnd x p) [a,b,c]).val=.tup [.str x,.tup [a,b],.int p,c]:=rfl
end DL
namespace DL
open PySem PySem.Spec PyProof.Rows L2
noncomputable def lq (K:Frag)(Pt:Addr):Frag:=K.filter λp=>!(Nat.beq p.1 Pt)
theorem lr {Pt a:Addr}(ne:Nat.beq a Pt=false):∀K:Frag,(lq K Pt).lookup a=K.lookup a
  | []=>rfl
  | (b,o)::K=>by
    have ih:=lr ne K;unfold lq at ih ⊢;rw[filter_cons,lookup_cons];cases q:Nat.beq b Pt with
    | false=>rw[if_pos (show (!false)=true from rfl),lookup_cons,ih]
    | true =>
      have hb:b=Pt:=Nat.eq_of_beq_eq_true q;have ha:(a == b)=false:=by
        rw[hb];cases z:(a == Pt) with
        | false=>rfl
        | true=>rw[eq_of_beq z,Nat.beq_refl] at ne;cases ne
      rw[if_neg (by simp),ih,ha]
theorem nK {Pt:Addr}:∀K:Frag,(lq K Pt).lookup Pt=none
  | []=>rfl
  | (b,o)::K=>by
    have ih:=nK (Pt:=Pt) K;unfold lq at ih ⊢;rw[filter_cons];cases q:Nat.beq b Pt with
    | false =>
      have hb:(Pt == b)=false:=by
        cases z:(Pt == b) with
        | false=>rfl
        | true=>rw[eq_of_beq z] at q;rw[Nat.beq_refl] at q;cases q
      rw[if_pos (show (!false)=true from rfl),lookup_cons,hb];exact ih
    | true=>rw[if_neg (by simp)];exact ih
theorem BE {K:Frag}{Pt:Addr}{h:Heap}(X:K.In h):(lq K Pt).In h:=λa o e=>by
  cases q:Nat.beq a Pt with
  | false=>exact X a o (by rw[<-lr q K];exact e)
  | true=>rw[Nat.eq_of_beq_eq_true q,nK] at e;cases e
theorem bT {K:Frag}{Pt a:Addr}{r:Option Obj}(h:K.lookup a=r)(ne:Nat.beq a Pt=false):(lq K Pt).lookup a=r:=(lr ne K).trans h
theorem aW {K:Frag}{Pt a:Addr}{n:Str}{r:Option (Option Value)}(h:nsIn K a n=r)(ne:Nat.beq a Pt=false):nsIn (lq K Pt) a n=r:=by
  unfold nsIn;rw[lr ne];exact h
theorem AX {l:PySem.W.OpenLaw}{k:Nat}{q:Program}{loose:List Str}{XP:(Str->Option Value)->Heap->Prop}{d:DefRec}{K:Params->Frag}{as:List Addr}{n t:Nat}{x qn:Str}(Pt:Addr)
    (hn:l.most=some 63) (hdf:d.params.defaults = []) (hr:fX k callerA) (e:∀P,as=(K P).map (·.1)) (hT:∀P,(K P).lookup Pt=some (tabObj #[]))
    (F:∀(w:World) (mg:Str->Option Value) (fa:Addr) (h:Heap),(lq (K w.params) Pt).In h->h.Ns mainGlobals mg->mg d.name=some (.ref fa) ->
      ∃(fd:FuncData) (c:Addr),(lq (K w.params) Pt).lookup Pt=none/\PySem.W.codeHdIn (lq (K w.params) Pt) c Pt=true/\(∀(s:Shared) (u:Value),BindsTo s fd ⟨[u],[]⟩ [(x,u)]) /\
        ∀base:Heap,(lq (K w.params) Pt).In base->base.Ns mainGlobals mg->bp mg base->bO l.prog w (lq (K w.params) Pt) mg base gX k fa fd [x] (oM (lq (K w.params) Pt) Pt qn)) :
    PySem.W.WalkX q loose XP (PySem.W.X.obsZ as) (PySem.W.X.valZ K n t) l.row.toRowW d [] (λf vs=>PySem.call f vs):=by
  have W:PySem.W.WalkO q loose XP (λw h=>(K w.params).In h) l.row.toRowW d [] (λf vs=>PySem.call f vs):=
    zj (K:=λP=>lq (K P) Pt) (Pt:=Pt) hn hdf hr (λw h Y=>⟨BE Y,Y _ _ (hT _)⟩) F
  exact λw s₀ s₁ mg mb G y a o pm cd doc dV kV h1 h2 h3 h4 h5 h6 args vals as' L p1 p2 p3 p4 p5 =>
    W w s₀ s₁ mg mb G (Frag.In.keeps (PySem.W.X.z_facts e y).2.1 L.keeps) a o pm cd doc dV kV h1 h2 h3 h4 h5 h6 args vals as' p1 p2 p3 p4 p5
end DL
set_option maxHeartbeats 4000000
namespace WS
open PySem L2 DL
local macro_rules | `(tactic| walk_at "rs1")=>do let ns:=("gi cK gf cu gb fK cg cx fP fY fO bx fZ cJ aO dC fL dI kj fQ cq lu fJ cU cH eE fS fE kR bF dX aN eU gc bU ki kC gm aQ cL fG aU aI dput cM gj aM Tg.d putN bD bE aR ao aS ar bj iD kD List.map List.length va nq vc rT rV rW rX sf rY rZ u9 sk sm vd r6 se r9 pZ vF vG xZ v7 v8 v9 vf tN tO pV pX pW x9 ug uf xX xU zK xY ve ue x6 x8 xW xT qI xV zZ De Dd xP xO".splitOn " ").toArray.map λs=>Lean.mkIdent s.toName;`(tactic| dsimp only[$[$ns:ident],*])
local macro_rules | `(tactic| walk_at "rsx")=>`(tactic| set_option simprocs false in simp only[DC,BL,E9,Fb,Fc,Dp])
local macro_rules | `(tactic| walk_at "rs")=>`(tactic| repeat (first | walk_at "rs1" | walk_at "rsx"))
local macro_rules | `(tactic| walk_at "v") => `(tactic| first | exact Or.inl rfl | exact Or.inr (Or.inl rfl) | exact Or.inr (Or.inr rfl))
local macro_rules | `(tactic| walk_at "rs2")=>do let ns:=("cK gf cu gb fK cg cx fP fY fO bx fZ cJ aO dC fL dI kj fQ cq lu fJ cU cH eE fS fE kR bF dX aN eU gc bU ki kC gm aQ cL fG aU aI dput cM gj aM Tg.d putN bD bE aR ao aS ar bj iD kD List.map List.length va nq vc rT rV rW rX sf rY rZ u9 sk sm vd r6 se r9 pZ vF vG xZ v7 v8 v9 vf tN tO pV pX pW x9 ug uf xX xU zK xY ve ue x6 x8 xW xT qI xV zZ De Dd xP xO".splitOn " ").toArray.map λs=>Lean.mkIdent s.toName;`(tactic| dsimp only[$[$ns:ident],*])
noncomputable def top (i:Nat):Stmt:=PySem.Challenge.pw_warmshare_k23_what_is_bought.main.body.getD i (.Pass ⟨0,0,0,0⟩)
structure ka (mg:Str->Option Value):Prop where
  jt:mg "sum" = none
  cP:mg "range" = none
  xK:mg "max" = none
  ff:mg "list" = none
  kh:mg "zip" = none
  rO:mg "enumerate" = none
  xM:mg "sorted" = none
  gW:mg "len" = none
  uW:mg "min" = none
  nG:mg "reversed" = none
  fM:mg "isinstance" = none
  uX:mg "tuple" = none
  By:mg "bool" = none
  Dc:mg "int" = none
  jD:∃t,mg "LEVELS" = some (.int 250 t)
noncomputable abbrev gA:Stmt:=top 23
theorem jO:aF ["cell","k","number"] ["cell","k"] (ag gA):=⟨rfl,rfl,rfl,by decide +kernel,rfl,by decide +kernel,by decide +kernel⟩
noncomputable abbrev eN:Stmt:=top 24
theorem gH:aF ["cell","least","low","high","rate"] ["cell","least"] (ag eN):=⟨rfl,rfl,rfl,by decide +kernel,rfl,by decide +kernel,by decide +kernel⟩
noncomputable abbrev fy:Stmt:=top 25
theorem aV:aF ["script","head","gap","least","counts","hots","k","low","high","rate","colds"] ["script"] (ag fy):=⟨rfl,rfl,rfl,by decide +kernel,rfl,by decide +kernel,by decide +kernel⟩
noncomputable abbrev fw:Stmt:=top 26
theorem fV:aF ["cell","least","degree","price","most","kind"] ["cell","least"] (ag fw):=⟨rfl,rfl,rfl,by decide +kernel,rfl,by decide +kernel,by decide +kernel⟩
noncomputable abbrev gz:Stmt:=top 27
theorem fD:aF ["script","head","fires","k","waters"] ["script"] (ag gz):=⟨rfl,rfl,rfl,by decide +kernel,rfl,by decide +kernel,by decide +kernel⟩
noncomputable abbrev dm:Stmt:=top 6
theorem pH:aF ["bands","level"] ["bands","level"] (ag dm):=⟨rfl,rfl,rfl,by decide +kernel,rfl,by decide +kernel,by decide +kernel⟩
noncomputable abbrev dk:Stmt:=top 5
theorem kr:aF ["works","gap"] ["works"] (ag dk):=⟨rfl,rfl,rfl,by decide +kernel,rfl,by decide +kernel,by decide +kernel⟩
noncomputable abbrev eC:Stmt:=top 4
theorem rn:aF ["works"] ["works"] (ag eC):=⟨rfl,rfl,rfl,by decide +kernel,rfl,by decide +kernel,by decide +kernel⟩
noncomputable abbrev eG:Stmt:=top 2
theorem pI:aF ["works","level"] ["works","level"] (ag eG):=⟨rfl,rfl,rfl,by decide +kernel,rfl,by decide +kernel,by decide +kernel⟩
noncomputable abbrev cG:Stmt:=top 3
theorem oH:aF ["works"] ["works"] (ag cG):=⟨rfl,rfl,rfl,by decide +kernel,rfl,by decide +kernel,by decide +kernel⟩
noncomputable abbrev cF:Stmt:=top 13
theorem oG:aF ["shop"] ["shop"] (ag cF):=⟨rfl,rfl,rfl,by decide +kernel,rfl,by decide +kernel,by decide +kernel⟩
noncomputable abbrev bY:Stmt:=top 14
theorem m8:aF ["works","shop"] ["works","shop"] (ag bY):=⟨rfl,rfl,rfl,by decide +kernel,rfl,by decide +kernel,by decide +kernel⟩
noncomputable abbrev bX:Stmt:=top 12
theorem m7:aF ["bought","level"] ["bought","level"] (ag bX):=⟨rfl,rfl,rfl,by decide +kernel,rfl,by decide +kernel,by decide +kernel⟩
noncomputable abbrev bz:Stmt:=top 11
theorem dw:aF ["works","shop","buying","fires","waters","lacks"] ["works","shop","buying"] (ag bz):=⟨rfl,rfl,rfl,by decide +kernel,rfl,by decide +kernel,by decide +kernel⟩
noncomputable abbrev jq:Stmt:=top 15
theorem y9:aF ["offers"] ["offers"] (ag jq):=⟨rfl,rfl,rfl,by decide +kernel,rfl,by decide +kernel,by decide +kernel⟩
noncomputable abbrev gB:Stmt:=top 16
theorem uL:aF ["offers"] ["offers"] (ag gB):=⟨rfl,rfl,rfl,by decide +kernel,rfl,by decide +kernel,by decide +kernel⟩
noncomputable abbrev gC:Stmt:=top 17
theorem iw:aF ["works","shop","warmest","coldest","level"] ["works","shop"] (ag gC):=⟨rfl,rfl,rfl,by decide +kernel,rfl,by decide +kernel,by decide +kernel⟩
noncomputable abbrev fz:Stmt:=top 18
theorem kO:aF ["works","shop","fires","waters"] ["works","shop"] (ag fz):=⟨rfl,rfl,rfl,by decide +kernel,rfl,by decide +kernel,by decide +kernel⟩
noncomputable abbrev eB:Stmt:=top 20
theorem cC:aF ["lots","surpluses","drawn","by_price","level","need","number","lot","heat"] ["lots","surpluses"] (ag eB):=⟨rfl,rfl,rfl,by decide +kernel,rfl,by decide +kernel,by decide +kernel⟩
noncomputable abbrev eA:Stmt:=top 19
theorem jr:aF ["shop","drawn","count","waters"] ["shop","drawn"] (ag eA):=⟨rfl,rfl,rfl,by decide +kernel,rfl,by decide +kernel,by decide +kernel⟩
noncomputable abbrev dg:Stmt:=top 21
theorem dz:aF ["lots","drawn","surpluses","least","worths","highest","level","prices"] ["lots","drawn","surpluses"] (ag dg):=⟨rfl,rfl,rfl,by decide +kernel,rfl,by decide +kernel,by decide +kernel⟩
noncomputable abbrev eD:Stmt:=top 9
theorem jP:aF ["shop","buying","fires","waters"] ["shop","buying"] (ag eD):=⟨rfl,rfl,rfl,by decide +kernel,rfl,by decide +kernel,by decide +kernel⟩
noncomputable abbrev gy:Stmt:=top 10
theorem fC:aF ["works","shop","short","lots","drawn","buying","worths"] ["works","shop"] (ag gy):=⟨rfl,rfl,rfl,by decide +kernel,rfl,by decide +kernel,by decide +kernel⟩
noncomputable abbrev eI:Stmt:=top 30
theorem gG:aF ["works","shop","handed","offers","found"] ["works","shop"] (ag eI):=⟨rfl,rfl,rfl,by decide +kernel,rfl,by decide +kernel,by decide +kernel⟩
noncomputable abbrev cn:Stmt:=top 29
theorem gE:aF ["shop","number","fires","waters"] ["shop","number"] (ag cn):=⟨rfl,rfl,rfl,by decide +kernel,rfl,by decide +kernel,by decide +kernel⟩
noncomputable abbrev eM:Stmt:=top 28
theorem aK:aF ["works","shop","buying","rows","start","goal","rate","step","offer","amount","level"] ["works","shop","buying"] (ag eM):=⟨rfl,rfl,rfl,by decide +kernel,rfl,by decide +kernel,by decide +kernel⟩
noncomputable abbrev dq:Stmt:=top 31
theorem pK:aF ["found","many"] ["found","many"] (ag dq):=⟨rfl,rfl,rfl,by decide +kernel,rfl,by decide +kernel,by decide +kernel⟩
noncomputable abbrev eJ:Stmt:=top 32
theorem pJ:aF ["found","shop"] ["found","shop"] (ag eJ):=⟨rfl,rfl,rfl,by decide +kernel,rfl,by decide +kernel,by decide +kernel⟩
noncomputable abbrev fx:Stmt:=top 33
theorem du:aF ["works","shop","found","price","side","k","amount","spare"] ["works","shop","found"] (ag fx):=⟨rfl,rfl,rfl,by decide +kernel,rfl,by decide +kernel,by decide +kernel⟩
noncomputable abbrev g7:Stmt:=top 8
theorem oI:aF ["works","shop","buying","surpluses"] ["works","shop","buying"] (ag g7):=⟨rfl,rfl,rfl,by decide +kernel,rfl,by decide +kernel,by decide +kernel⟩
noncomputable abbrev eK:Stmt:=top 34
theorem eW:aF ["works","shop","found","buying","offers","side","k"] ["works","shop","found"] (ag eK):=⟨rfl,rfl,rfl,by decide +kernel,rfl,by decide +kernel,by decide +kernel⟩
noncomputable abbrev lL:Stmt:=top 35
theorem jN:aF ["script","works","shop","number","found","twin","some"] ["script"] (ag lL):=⟨rfl,rfl,rfl,by decide +kernel,rfl,by decide +kernel,by decide +kernel⟩
noncomputable abbrev xC:Str:="drawn_of" ++ ".<locals>." ++ "<lambda>"
section
variable {Pt:Addr} {P:Program} {w:World} {K:Frag} {mg:Str->Option Value} {base:Heap} {f:Addr} {fd:FuncData}
theorem iG {t1 u:ir}{E:kT}{ρ:aH}(C:aH->Prop)(tail:∀ρ,C ρ->u E ρ)(head:∀N:aH->Prop,(∀ρ,C ρ->N ρ)->t1 { E with nx:=N } ρ):gi t1 u E ρ:=head _ tail
theorem mulR {i j:Int}(h : -(2 ^ 64)<j/\j<2 ^ 64):t8 i j:=.inr h
theorem mulL {i j:Int}(h : -(2 ^ 64)<i/\i<2 ^ 64):t8 i j:=.inl h
local macro_rules | `(tactic| walk_at "side")=>`(tactic| first | decide | lia | exact mulR (by decide) | exact mulL (by decide) | exact ⟨by decide,by decide,by decide⟩ | exact ⟨by lia,by decide⟩ | exact mulL ⟨by lia,by lia⟩ | exact mulR ⟨by lia,by lia⟩ | exact ⟨by lia,by lia⟩)
local macro_rules | `(tactic| walk_at "go")=>`(tactic| repeat (refine ⟨by walk_at "side",?_⟩))
noncomputable def bo (c k:Int):Int:=((c % 10 ^ (12:Int).toNat+911*k+1)*39373 % 2147483647)*((c % 10 ^ (12:Int).toNat+911*k+1)*39373 % 2147483647) % 2147483629*48271 % 2147483587 / 8
theorem aA (c k:Int):0<=bo c k:=Int.ediv_nonneg (Int.emod_nonneg _ (by decide)) (by decide)
noncomputable def aJ:DR:=λds P=>match ds with
  | [.int c,.int k]=>P (.p (.int (bo c k)))
  | _=>False
set_option tactic.hygienic true in
theorem sV (T:ka mg)(F:iT K "_law_stir" "_law_stir" gA f fd):bO P w K mg base gX 1 f fd ["cell","k"] (bS K aJ):=by
  refine lU F jO (λds Q h=>by unfold aJ at h;split at h<;>first | rfl | exact h.elim) λcdv A outer s H E hr=>⟨_,(ah (aw (i:=2) jO.nd rfl (Or.inl rfl) (ak ba (ak dc (ak az (ak az (ak ba (dv 0) (ak h9 ae ae)) (ak dc ae (dv 1))) ae) ae) ae))
      (ah (aw (i:=2) jO.nd rfl (Or.inl rfl) (ak ba (ak dc (dv 2) (dv 2)) ae))
      (aj (aL (ak lH (ak ba (ak dc (dv 2) ae) ae) ae))))),λds Q h=>?_⟩
  unfold aJ at h;split at h;rotate_left
  · exact h.elim
  rename_i c k;try dsimp only[gi,cK,gf,dG,cu,gb,fK,cg,cx,dH,bM,fP,fY,fO,dD,bN,bg,bx,dE,fZ,dF,cJ,aO,dC,fL,dI,kj,fF,fI,fQ,cq,lu,fJ,cU,cH,gQ,eE,fS,fE,kR,gP,bF,dX,aN,eU,gc,bU,ki,fH,kC,gO,gm,cb,iq,aQ,cL,mi,gn,fg,fR,fG,aU,aI,dput,cM,gj,B.val,aM,Tg.d,putN,bG,dJ,bD,bE,aR,ao,aS,ar,bj,iD,kD,List.map,List.length]
  have h0:0<=((c % 10 ^ (12:Int).toNat+911*k+1)*39373 % 2147483647:Int):=Int.emod_nonneg _ (by decide);have h1:((c % 10 ^ (12:Int).toNat+911*k+1)*39373 % 2147483647:Int)<2147483647:=Int.emod_lt_of_pos _ (by decide);walk_at "go";exact h
noncomputable def d3 (x:S3):D:=.tup [.int x.1,.int x.2.1,.int x.2.2]
noncomputable def dW (g:Int)(hs cs:List S3):D:=.tup [.int g,.lst (hs.map d3),.lst (cs.map d3)]
theorem vN:∀l:List S3,jw (l.map d3)=true
  | []=>dN
  | x::l=>by rw[map_cons,dU,vN l,show bt (d3 x)=true by unfold d3;simp only[j5,dU,dN,j4,Bool.and_true]];rfl
theorem qM:∀l:List S3,iI (l.map d3)<=1
  | []=>by rw[List.map_nil,ed];exact Nat.zero_le _
  | x::l=>by
    have h:=qM l;have e:dep (d3 x)=1:=by unfold d3;simp only[jY,dR,ed,jW];rfl
    rw[map_cons,dR,e];lia
theorem mB (g:Int)(hs cs:List S3):bt (dW g hs cs)=true:=by
  unfold dW;simp only[j5,dU,dN,j4,jc,vN,Bool.and_true]
theorem ye (g:Int)(hs cs:List S3):dep (dW g hs cs)<=3:=by
  have h1:=qM hs;have h2:=qM cs;unfold dW;simp only[jY,dR,ed,jW,jX];lia
theorem FN {g:Int}{hs cs:List S3}{P:B->Prop}(h:P (.p (.bl true))):Dj (dW g hs cs) (dW g hs cs) P:=by
  refine ⟨⟨mB _ _ _,mB _ _ _,by have:=ye g hs cs;lia⟩,?_⟩;rw[gJ _ (mB _ _ _)];exact h
structure eT (g:Int)(hs cs:List S3):Prop where
  g0:0<=g
  g1:g<=50
  nh:hs.length<=12
  nc:cs.length<=12
  EE:∀x∈hs,rH x
  wF:∀x∈cs,lW x
theorem lt1000 {n:Nat}(h:n<=1000):n<sizeLine:=g8 h
theorem DG {α β:Type}{f g:α->β}{l:List α}(h:∀x∈l,f x=g x):l.map f=l.map g:=map_congr_left h
noncomputable def jK:DR:=λds P=>∃g hs cs,ds = [dW g hs cs]/\hs.length<=12/\P (.o (.lst ((gu hs).map d3)))
theorem q8 (T:ka mg)(F:iT K "hot_bands" "hot_bands" eC f fd):bO P w K mg base gX 1 f fd ["works"] (bS K jK):=by
  refine lU F rn (λds Q h=>by obtain ⟨g,hs,cs,rfl,hl,q⟩:=h;rfl) λcdv A outer s H E hr=>⟨_,(aj (aL (ju (g:=(.t [0,1,2])) (tc:=aU) (te:=(eU (aN (aO 1) (aN (aO 0) (aN (aO 2) dX))))) (sc0:=ag eC) (N0:=["works"]) ["start","goal","rate"] [none,none,none] rfl (dY (ai (dv 0) ae)) (λ_ _ _ _ _=>(eR rfl (au (aq (i:=0) (show (["start","goal","rate"]:List Str).Nodup by decide +kernel) rfl (Or.inl rfl)) (au (aq (i:=1) (show (["start","goal","rate"]:List Str).Nodup by decide +kernel) rfl (Or.inl rfl)) (au (aq (i:=2) (show (["start","goal","rate"]:List Str).Nodup by decide +kernel) rfl (Or.inl rfl)) cQ))))) (λ_ _ _ _ _=>bQ) (λ_ _ _ _ _=>(cD (aa (dv 1) (aa (dv 0) (aa (dv 2) af)))))))),λds Q h=>?_⟩
  obtain ⟨g,hs,cs,rfl,hl,q⟩:=h;try dsimp only[gi,cK,gf,dG,cu,gb,fK,cg,cx,dH,bM,fP,fY,fO,dD,bN,bg,bx,dE,fZ,dF,cJ,aO,dC,fL,dI,kj,fF,fI,fQ,cq,lu,fJ,cU,cH,gQ,eE,fS,fE,kR,gP,bF,dX,aN,eU,gc,bU,ki,fH,kC,gO,gm,cb,iq,aQ,cL,mi,gn,fg,fR,fG,aU,aI,dput,cM,gj,B.val,aM,Tg.d,putN,bG,dJ,bD,bE,aR,ao,aS,ar,bj,iD,kD,List.map,List.length,dW]
  refine ⟨_,rfl,?_⟩;refine oe (λx=>match x with | .tup [a,b,c]=>.tup [b,a,c] | d=>d) (by rw[length_map];lia) (λx hx=>?_) ?_
  · obtain ⟨y,hy,rfl⟩:=mem_map.mp hx;rfl
  · rw[map_map];unfold gu at q;rw[map_map] at q;exact q
noncomputable def jf:DR:=λds P=>∃g hs cs,ds = [dW g hs cs]/\cs.length<=12/\P (.o (.lst ((eP g cs).map d3)))
theorem pk (T:ka mg)(F:iT K "cold_bands" "cold_bands" dk f fd):bO P w K mg base gX 1 f fd ["works"] (bS K jf):=by
  refine lU F kr (λds Q h=>by obtain ⟨g,hs,cs,rfl,hl,q⟩:=h;rfl) λcdv A outer s H E hr=>⟨_,(ah (aw (i:=1) kr.nd rfl (Or.inr rfl) (ai (dv 0) ae))
      (aj (aL (ju (g:=(.t [0,1,2])) (tc:=aU) (te:=(eU (aN (fL _ (aO 0) (aO 3)) (aN (fL _ (aO 1) (aO 3)) (aN (aO 2) dX))))) (sc0:=ag dk) (N0:=["works","gap"]) ["start","goal","rate","gap"] [none,none,none,some 1] rfl (dY (ai (dv 0) ae)) (λ_ _ _ _ _=>(eR rfl (au (aq (i:=0) (show (["start","goal","rate","gap"]:List Str).Nodup by decide +kernel) rfl (Or.inl rfl)) (au (aq (i:=1) (show (["start","goal","rate","gap"]:List Str).Nodup by decide +kernel) rfl (Or.inl rfl)) (au (aq (i:=2) (show (["start","goal","rate","gap"]:List Str).Nodup by decide +kernel) rfl (Or.inl rfl)) cQ))))) (λ_ _ _ _ _=>bQ) (λ_ _ _ _ _=>(cD (aa (ak az (dv 0) (dv 3)) (aa (ak az (dv 1) (dv 3)) (aa (dv 2) af))))))))),λds Q h=>?_⟩
  obtain ⟨g,hs,cs,rfl,hl,q⟩:=h;try dsimp only[gi,cK,gf,dG,cu,gb,fK,cg,cx,dH,bM,fP,fY,fO,dD,bN,bg,bx,dE,fZ,dF,cJ,aO,dC,fL,dI,kj,fF,fI,fQ,cq,lu,fJ,cU,cH,gQ,eE,fS,fE,kR,gP,bF,dX,aN,eU,gc,bU,ki,fH,kC,gO,gm,cb,iq,aQ,cL,mi,gn,fg,fR,fG,aU,aI,dput,cM,gj,B.val,aM,Tg.d,putN,bG,dJ,bD,bE,aR,ao,aS,ar,bj,iD,kD,List.map,List.length,dW]
  refine ⟨_,rfl,_,rfl,?_⟩;refine oe (λx=>match x with | .tup [.int a,.int b,c]=>.tup [.int (a+g),.int (b+g),c] | d=>d) (by rw[length_map];lia) (λx hx=>?_) ?_
  · obtain ⟨y,hy,rfl⟩:=mem_map.mp hx;rfl
  · rw[map_map];unfold eP at q;rw[map_map] at q;exact q
noncomputable def jg:DR:=λds P=>∃(bs:List S3) (L:Int),ds = [.lst (bs.map d3),.int L]/\bs.length<=12/\(∀b∈bs,0<=b.2.2/\b.2.2<=1000000000)/\P (.p (.int (above bs L)))
theorem pz (T:ka mg)(F:iT K "heat_above" "heat_above" dm f fd):bO P w K mg base gX 1 f fd ["bands","level"] (bS K jg):=by
  refine lU F pH (λds Q h=>by obtain ⟨bs,L,rfl,hl,hb,q⟩:=h;rfl) λcdv A outer s H E hr=>⟨_,(aj (aL (ax (gN rfl) (by rfl) T.jt boot_sum (aa (ju (g:=(.t [0,1,2])) (tc:=aU) (te:=(fL _ (aO 2) (ki _ (aN (dC _) (aN (fL _ (aO 1) (ki _ (aN (aO 0) (aN (aO 3) dX)))) dX))))) (sc0:=ag dm) (N0:=["bands","level"]) ["low","high","rate","level"] [none,none,none,some 1] rfl (dY (dv 0)) (λ_ _ _ _ _=>(eR rfl (au (aq (i:=0) (show (["low","high","rate","level"]:List Str).Nodup by decide +kernel) rfl (Or.inl rfl)) (au (aq (i:=1) (show (["low","high","rate","level"]:List Str).Nodup by decide +kernel) rfl (Or.inl rfl)) (au (aq (i:=2) (show (["low","high","rate","level"]:List Str).Nodup by decide +kernel) rfl (Or.inl rfl)) cQ))))) (λ_ _ _ _ _=>bQ) (λ_ _ _ _ _=>(ak dc (dv 2) (ax (u0 rfl) (by rfl) T.xK boot_max (aa ae (aa (ak fi (dv 1) (ax (u0 rfl) (by rfl) T.xK boot_max (aa (dv 0) (aa (dv 3) af)))) af)))))) af)))),λds Q h=>?_⟩
  obtain ⟨bs,L,rfl,hl,hb,q⟩:=h;try dsimp only[gi,cK,gf,dG,cu,gb,fK,cg,cx,dH,bM,fP,fY,fO,dD,bN,bg,bx,dE,fZ,dF,cJ,aO,dC,fL,dI,kj,fF,fI,fQ,cq,lu,fJ,cU,cH,gQ,eE,fS,fE,kR,gP,bF,dX,aN,eU,gc,bU,ki,fH,kC,gO,gm,cb,iq,aQ,cL,mi,gn,fg,fR,fG,aU,aI,dput,cM,gj,B.val,aM,Tg.d,putN,bG,dJ,bD,bE,aR,ao,aS,ar,bj,iD,kD,List.map,List.length]
  refine oe (λx=>match x with | .tup [.int a,.int b,.int c]=>.int (iW (a,b,c) L) | d=>d) (by rw[length_map];lia) (λx hx=>?_) ?_
  · obtain ⟨y,hy,rfl⟩:=mem_map.mp hx;have:=hb y hy;try dsimp only[gi,cK,gf,dG,cu,gb,fK,cg,cx,dH,bM,fP,fY,fO,dD,bN,bg,bx,dE,fZ,dF,cJ,aO,dC,fL,dI,kj,fF,fI,fQ,cq,lu,fJ,cU,cH,gQ,eE,fS,fE,kR,gP,bF,dX,aN,eU,gc,bU,ki,fH,kC,gO,gm,cb,iq,aQ,cL,mi,gn,fg,fR,fG,aU,aI,dput,cM,gj,B.val,aM,Tg.d,putN,bG,dJ,bD,bE,aR,ao,aS,ar,bj,iD,kD,List.map,List.length,d3]
    exact ⟨mulL ⟨by lia,by lia⟩,rfl⟩
  · rw[map_map];have e:List.map ((λx=>match x with | .tup [.int a,.int b,.int c]=>.int (iW (a,b,c) L) | d=>d)∘d3) bs=(bs.map λb=>iW b L).map D.int:=by
      rw[map_map];exact DG λy _=>rfl
    rw[e];exact eY q
theorem eT.E4 {g:Int}{hs cs:List S3}(o:eT g hs cs):∀b∈gu hs,0<=b.2.2/\b.2.2<=1000000000:=λb hb=>by
  obtain ⟨x,hx,rfl⟩:=mem_map.mp hb;have h:=o.EE x hx;exact ⟨by have:=h.r0;show 0<=x.2.2;lia,h.r1⟩
theorem eT.Di {g:Int}{hs cs:List S3}(o:eT g hs cs):∀b∈eP g cs,0<=b.2.2/\b.2.2<=1000000000:=λb hb=>by
  obtain ⟨x,hx,rfl⟩:=mem_map.mp hb;have h:=o.wF x hx;exact ⟨by have:=h.r0;show 0<=x.2.2;lia,h.r1⟩
theorem yy (hs:List S3):(gu hs).length=hs.length:=by unfold gu;simp
theorem wG (g:Int)(cs:List S3):(eP g cs).length=cs.length:=by unfold eP;simp
noncomputable def jh:DR:=λds P=>∃g hs cs L,ds = [dW g hs cs,.int L]/\eT g hs cs/\P (.p (.int (fT g hs cs L)))
theorem pA (T:ka mg)(F_heat_above:Fn P w K mg base "heat_above" 1 ["bands","level"] (bS K jg))(F_cold_bands:Fn P w K mg base "cold_bands" 1 ["works"] (bS K jf))(F_hot_bands:Fn P w K mg base "hot_bands" 1 ["works"] (bS K jK))(F:iT K "lack_above" "lack_above" eG f fd):bO P w K mg base gX 2 f fd ["works","level"] (bS K jh):=by
  refine lU F pI (λds Q h=>by obtain ⟨g,hs,cs,L,rfl,ok,q⟩:=h;rfl) λcdv A outer s H E hr=>⟨_,(aj (aL (ak fi (ay F_heat_above (hr.mono (by decide)) (by rfl) (aa (ay F_cold_bands (hr.mono (by decide)) (by rfl) (aa (dv 0) af)) (aa (dv 1) af))) (ay F_heat_above (hr.mono (by decide)) (by rfl) (aa (ay F_hot_bands (hr.mono (by decide)) (by rfl) (aa (dv 0) af)) (aa (dv 1) af)))))),λds Q h=>?_⟩
  obtain ⟨g,hs,cs,L,rfl,ok,q⟩:=h;try dsimp only[gi,cK,gf,dG,cu,gb,fK,cg,cx,dH,bM,fP,fY,fO,dD,bN,bg,bx,dE,fZ,dF,cJ,aO,dC,fL,dI,kj,fF,fI,fQ,cq,lu,fJ,cU,cH,gQ,eE,fS,fE,kR,gP,bF,dX,aN,eU,gc,bU,ki,fH,kC,gO,gm,cb,iq,aQ,cL,mi,gn,fg,fR,fG,aU,aI,dput,cM,gj,B.val,aM,Tg.d,putN,bG,dJ,bD,bE,aR,ao,aS,ar,bj,iD,kD,List.map,List.length]
  refine ⟨g,hs,cs,rfl,ok.nc,?_⟩;try dsimp only[gi,cK,gf,dG,cu,gb,fK,cg,cx,dH,bM,fP,fY,fO,dD,bN,bg,bx,dE,fZ,dF,cJ,aO,dC,fL,dI,kj,fF,fI,fQ,cq,lu,fJ,cU,cH,gQ,eE,fS,fE,kR,gP,bF,dX,aN,eU,gc,bU,ki,fH,kC,gO,gm,cb,iq,aQ,cL,mi,gn,fg,fR,fG,aU,aI,dput,cM,gj,B.val,aM,Tg.d,putN,bG,dJ,bD,bE,aR,ao,aS,ar,bj,iD,kD,List.map,List.length]
  refine ⟨_,L,rfl,by rw[wG];exact ok.nc,ok.Di,g,hs,cs,rfl,ok.nh,?_⟩;try dsimp only[gi,cK,gf,dG,cu,gb,fK,cg,cx,dH,bM,fP,fY,fO,dD,bN,bg,bx,dE,fZ,dF,cJ,aO,dC,fL,dI,kj,fF,fI,fQ,cq,lu,fJ,cU,cH,gQ,eE,fS,fE,kR,gP,bF,dX,aN,eU,gc,bU,ki,fH,kC,gO,gm,cb,iq,aQ,cL,mi,gn,fg,fR,fG,aU,aI,dput,cM,gj,B.val,aM,Tg.d,putN,bG,dJ,bD,bE,aR,ao,aS,ar,bj,iD,kD,List.map,List.length]
  exact ⟨_,L,rfl,by rw[yy];exact ok.nh,ok.E4,q⟩
noncomputable def n6 (g:Int)(hs cs:List S3):List Int:=(List.range 251).map λi=>fT g hs cs (i:Nat)
noncomputable def iC:DR:=λds P=>∃g hs cs,ds = [dW g hs cs]/\eT g hs cs/\P (.o (.lst ((n6 g hs cs).map D.int)))
theorem ow (T:ka mg)(F_lack_above:Fn P w K mg base "lack_above" 2 ["works","level"] (bS K jh))(F:iT K "lacks_above" "lacks_above" cG f fd):bO P w K mg base gX 3 f fd ["works"] (bS K iC):=by
  refine lU F oH (λds Q h=>by obtain ⟨g,hs,cs,rfl,ok,q⟩:=h;rfl) λcdv A outer s H E hr=>⟨_,(aj (aL (ju (g:=(.n 0)) (tc:=aU) (te:=(bU _ (aN (aO 1) (aN (aO 0) dX)))) (sc0:=ag cG) (N0:=["works"]) ["level","works"] [none,some 0] rfl (eV (by rfl) T.cP (aa (ak az (sq (by rfl) T.jD) ae) af)).di (λ_ _ _ _ _=>(aq (i:=0) (show (["level","works"]:List Str).Nodup by decide +kernel) rfl (Or.inl rfl))) (λ_ _ _ _ _=>bQ) (λ_ _ _ _ _=>(ay F_lack_above (hr.mono (by decide)) (by rfl) (aa (dv 1) (aa (dv 0) af))))))),λds Q h=>?_⟩
  obtain ⟨g,hs,cs,rfl,ok,q⟩:=h;try dsimp only[gi,cK,gf,dG,cu,gb,fK,cg,cx,dH,bM,fP,fY,fO,dD,bN,bg,bx,dE,fZ,dF,cJ,aO,dC,fL,dI,kj,fF,fI,fQ,cq,lu,fJ,cU,cH,gQ,eE,fS,fE,kR,gP,bF,dX,aN,eU,gc,bU,ki,fH,kC,gO,gm,cb,iq,aQ,cL,mi,gn,fg,fR,fG,aU,aI,dput,cM,gj,B.val,aM,Tg.d,putN,bG,dJ,bD,bE,aR,ao,aS,ar,bj,iD,kD,List.map,List.length]
  refine ⟨by decide,?_⟩;refine oe (λx=>match x with | .int L=>.int (fT g hs cs L) | d=>d) (by rw[bZ];decide) (λx hx=>?_) ?_
  · obtain ⟨i,hi,rfl⟩:=uy hx;exact ⟨g,hs,cs,_,rfl,ok,rfl⟩
  · have e:List.map (λx=>match x with | D.int L=>D.int (fT g hs cs L) | d=>d) (ik 0 (Int.toNat (250+1)))=(n6 g hs cs).map D.int:=by
      unfold ik n6;rw[map_map,map_map];refine DG λi _=>?_;show D.int (fT g hs cs (0+(i:Nat)))=D.int (fT g hs cs (i:Nat));rw[Int.zero_add]
    rw[e];exact q
noncomputable def dO (x:S3):D:=.tup [.int x.1,.int x.2.1,.int x.2.2]
noncomputable def dS (fs ws:List S3):D:=.tup [.lst (fs.map dO),.lst (ws.map dO)]
noncomputable def C0 (a b c i:Int):Int:=if i=0 then a else if i=1 then b else c
noncomputable def m5 (a b c d i:Int):Int:=if i=0 then a else if i=1 then b else if i=2 then c else d
theorem Cp {a b c i:Int}(h0:0<=i)(h1:i<3):fm [D.int a,D.int b,D.int c] i=some (.int (C0 a b c i)):=by
  have:i=0\/i=1\/i=2:=by lia
  rcases this with e | e | e<;>subst e<;>rfl
theorem oC {a b c d i:Int}(h0:0<=i)(h1:i<4):fm [D.int a,D.int b,D.int c,D.int d] i=some (.int (m5 a b c d i)):=by
  have:i=0\/i=1\/i=2\/i=3:=by lia
  rcases this with e | e | e | e<;>subst e<;>rfl
noncomputable def dA (as:List Int):D:=.lst (as.map D.int)
noncomputable def sI (i:Int):Int:=if i=2\/i=4 then 1 else if i=3\/i=5 then 2 else if i=7 then 3 else 0
theorem Ac {i:Int}(h0:0<=i)(h1:i<8):fm [D.int 0,D.int 0,D.int 1,D.int 2,D.int 1,D.int 2,D.int 0,D.int 3] i=some (.int (sI i)):=by
  have:i=0\/i=1\/i=2\/i=3\/i=4\/i=5\/i=6\/i=7:=by lia
  rcases this with e | e | e | e | e | e | e | e<;>subst e<;>rfl
theorem Ad (i : Int):0 <= sI i /\ sI i < 4 := by
 unfold sI
 repeat' split
 all_goals lia
noncomputable def ot (c least:Int):S3:=
  (C0 least (least+249 - 50*(1 - least)) (least+bo c 5 % (200+49*least)) (bo c 6 % 3),
   m5 0 (bo c 7 % 9) 1000000 (bo c 7 % 1000001) (bo c 8 % 4),
   m5 1000000000000000 (bo c 9 % 3000) (bo c 9*1024 % 1000000000000) 0 (sI (bo c 10 % 8)))
structure qu (lo hi:Int)(x:S3):Prop where
  d0:lo<=x.1
  d1:x.1<=hi
  p0:0<=x.2.1
  p1:x.2.1<=1000000
  m0:0<=x.2.2
  m1:x.2.2<=1000000000000000
theorem sR (c:Int){least hi:Int}(hl:(least=1/\hi=250)\/(least=0/\hi=199)):qu least hi (ot c least):=by
  have p7:=aA c 7;have p9:=aA c 9;unfold ot;constructor
  · show least<=C0 _ _ _ _;unfold C0;rcases hl with ⟨rfl,rfl⟩ | ⟨rfl,rfl⟩<;>repeat' split
    all_goals lia
  · show C0 _ _ _ _<=hi;unfold C0;rcases hl with ⟨rfl,rfl⟩ | ⟨rfl,rfl⟩<;>repeat' split
    all_goals lia
  · show 0<=m5 _ _ _ _ _;unfold m5;repeat' split;all_goals lia
  · show m5 _ _ _ _ _<=_;unfold m5;repeat' split;all_goals lia
  · show 0<=m5 _ _ _ _ _;unfold m5;repeat' split;all_goals lia
  · show m5 _ _ _ _ _<=_;unfold m5;repeat' split;all_goals lia
noncomputable def bB:DR:=λds P=>match ds with
  | [.int c,.int l]=>(l=0\/l=1)/\P (.p (dO (ot c l)))
  | _=>False
set_option tactic.hygienic true in
theorem q9 (T:ka mg)(F_law_stir:Fn P w K mg base "_law_stir" 1 ["cell","k"] (bS K aJ))(F:iT K "_law_offer" "_law_offer" fw f fd):bO P w K mg base gX 2 f fd ["cell","least"] (bS K bB):=by
  refine lU F fV (λds Q h=>by unfold bB at h;split at h<;>first | rfl | exact h.elim) λcdv A outer s H E hr=>⟨_,(ah (aw (i:=2) fV.nd rfl (Or.inl rfl) (cW (aa (dv 1) (aa (ak fi (ak az (dv 1) ae) (ak dc ae (ak fi ae (dv 1)))) (aa (ak az (dv 1) (ak ba (ay F_law_stir (hr.mono (by decide)) (by rfl) (aa (dv 0) (aa ae af))) (ak az ae (ak dc ae (dv 1))))) af)))))
      (ah (aw (i:=3) fV.nd rfl (Or.inl rfl) (cW (aa ae (aa (ak ba (ay F_law_stir (hr.mono (by decide)) (by rfl) (aa (dv 0) (aa ae af))) ae) (aa (ak h9 ae ae) (aa (ak ba (ay F_law_stir (hr.mono (by decide)) (by rfl) (aa (dv 0) (aa ae af))) (ak az (ak h9 ae ae) ae)) af))))))
      (ah (aw (i:=4) fV.nd rfl (Or.inl rfl) (cW (aa (ak h9 ae ae) (aa (ak ba (ay F_law_stir (hr.mono (by decide)) (by rfl) (aa (dv 0) (aa ae af))) ae) (aa (ak ba (ak dc (ay F_law_stir (hr.mono (by decide)) (by rfl) (aa (dv 0) (aa ae af))) (ak h9 ae ae)) (ak h9 ae ae)) (aa ae af))))))
      (ah (aw (i:=5) fV.nd rfl (Or.inl rfl) (ai (cW (aa ae (aa ae (aa ae (aa ae (aa ae (aa ae (aa ae (aa ae af))))))))) (ak ba (ay F_law_stir (hr.mono (by decide)) (by rfl) (aa (dv 0) (aa ae af))) ae)))
      (aj (aL (cD (aa (ai (dv 2) (ak ba (ay F_law_stir (hr.mono (by decide)) (by rfl) (aa (dv 0) (aa ae af))) ae)) (aa (ai (dv 3) (ak ba (ay F_law_stir (hr.mono (by decide)) (by rfl) (aa (dv 0) (aa ae af))) ae)) (aa (ai (dv 4) (dv 5)) af)))))))))),λds Q h=>?_⟩
  unfold bB at h;split at h;rotate_left
  · exact h.elim
  rename_i c l;obtain ⟨hl,q⟩:=h;have p5:=aA c 5;have p6:=aA c 6;have p7:=aA c 7;have p8:=aA c 8;have p9:=aA c 9;have p10:=aA c 10;have k0:=Ad (bo c 10 % 8);try dsimp only[gi,cK,gf,dG,cu,gb,fK,cg,cx,dH,bM,fP,fY,fO,dD,bN,bg,bx,dE,fZ,dF,cJ,aO,dC,fL,dI,kj,fF,fI,fQ,cq,lu,fJ,cU,cH,gQ,eE,fS,fE,kR,gP,bF,dX,aN,eU,gc,bU,ki,fH,kC,gO,gm,cb,iq,aQ,cL,mi,gn,fg,fR,fG,aU,aI,dput,cM,gj,B.val,aM,Tg.d,putN,bG,dJ,bD,bE,aR,ao,aS,ar,bj,iD,kD,List.map,List.length,aJ]
  have e6:((10:Int) ^ (6:Int).toNat)=1000000:=by decide
  have e15:((10:Int) ^ (15:Int).toNat)=1000000000000000:=by decide
  have e12:((10:Int) ^ (12:Int).toNat)=1000000000000:=by decide
  have e10:((2:Int) ^ (10:Int).toNat)=1024:=by decide
  rw[e6,e15,e12,e10];refine ⟨mulL (by decide),mulL (by decide),by lia,by decide,⟨by decide,by decide,by decide⟩,⟨by decide,by decide,by decide⟩,by decide,⟨by decide,by decide,by decide⟩,by decide,⟨by decide,by decide,by decide⟩,mulR (by decide),⟨by decide,by decide,by decide⟩,by decide,by decide,_,Ac (by lia) (by lia),by decide,_,Cp (by lia) (by lia),by decide,_,oC (by lia) (by lia),?_⟩;exact ⟨_,oC k0.1 k0.2,q⟩
noncomputable def lF (ns:List Int):Int:=(d5 ns (some 0) (some 63) (some 37)).sum
noncomputable def A6 (ns:List Int)(k:Nat):S3:=ot ((d5 ns (some (13+(k:Nat))) (some 63) (some 37)).sum+200+(k:Nat)) 1
noncomputable def zl (ns:List Int)(k:Nat):S3:=ot ((d5 ns (some (25+(k:Nat))) (some 63) (some 37)).sum+300+(k:Nat)) 0
noncomputable def qR (ns:List Int):List S3:=(List.range (bo (lF ns) 5 % 7).toNat).map (A6 ns)
noncomputable def rD (ns:List Int):List S3:=(List.range (bo (lF ns) 6 % 7).toNat).map (zl ns)
structure nD (fs ws:List S3):Prop where
  nf:fs.length<=6
  nw:ws.length<=6
  f:∀x∈fs,qu 1 250 x
  w:∀x∈ws,qu 0 199 x
theorem AL (ns:List Int):nD (qR ns) (rD ns):=by
  have p5:=aA (lF ns) 5;have p6:=aA (lF ns) 6;refine ⟨by unfold qR;rw[length_map,length_range];lia,by unfold rD;rw[length_map,length_range];lia,λx hx=>?_,λx hx=>?_⟩
  · obtain ⟨k,_,rfl⟩:=mem_map.mp hx;exact sR _ (.inl ⟨rfl,rfl⟩)
  · obtain ⟨k,_,rfl⟩:=mem_map.mp hx;exact sR _ (.inr ⟨rfl,rfl⟩)
noncomputable def gw:DR:=λds P=>match ds with
  | [.scr ns]=>P (.p (dS (qR ns) (rD ns)))
  | _=>False
theorem oF {f:Nat->S3}{i:Nat}:((List.range i).map f).map dO++[dO (f i)]=((List.range (i+1)).map f).map dO:=by
  rw[List.range_succ,map_append,map_append];rfl
set_option tactic.hygienic true in
theorem sU (T:ka mg)(F_law_stir:Fn P w K mg base "_law_stir" 1 ["cell","k"] (bS K aJ))(F_law_offer:Fn P w K mg base "_law_offer" 2 ["cell","least"] (bS K bB))(F:iT K "_law_shop" "_law_shop" gz f fd):bO P w K mg base gX 3 f fd ["script"] (bS K gw):=by
  refine lU F fD (λds Q h=>by unfold gw at h;split at h<;>first | rfl | exact h.elim) λcdv A outer s H E hr=>⟨_,(ah (aw (i:=1) fD.nd rfl (Or.inl rfl) (ax (gN rfl) (by rfl) T.jt boot_sum (aa (gp (dv 0) (bh ae) (bh ae) (bh ae)) af)))
      (ah (gR (i:=2) fD.nd rfl (Or.inl rfl) (cW af))
      (ah (dZ (g:=(.n 3)) PassesOwn.never rfl (eV (by rfl) T.cP (aa (ak ba (ay F_law_stir (hr.mono (by decide)) (by rfl) (aa (dv 1) (aa ae af))) ae) af)) (aq (i:=3) fD.nd rfl (Or.inl rfl)) (aj (nV (i:=2) rfl (by walk_at "v") (ay F_law_offer (hr.mono (by decide)) (by rfl) (aa (ak az (ak az (ax (gN rfl) (by rfl) T.jt boot_sum (aa (gp (dv 0) (bh (ak az ae (dv 3))) (bh ae) (bh ae)) af)) ae) (dv 3)) (aa ae af))))))
      (ah (gR (i:=4) fD.nd rfl (Or.inl rfl) (cW af))
      (ah (dZ (g:=(.n 3)) PassesOwn.never rfl (eV (by rfl) T.cP (aa (ak ba (ay F_law_stir (hr.mono (by decide)) (by rfl) (aa (dv 1) (aa ae af))) ae) af)) (aq (i:=3) fD.nd rfl (Or.inl rfl)) (aj (nV (i:=4) rfl (by walk_at "v") (ay F_law_offer (hr.mono (by decide)) (by rfl) (aa (ak az (ak az (ax (gN rfl) (by rfl) T.jt boot_sum (aa (gp (dv 0) (bh (ak az ae (dv 3))) (bh ae) (bh ae)) af)) ae) (dv 3)) (aa ae af))))))
      (aj (aL (cD (aa (dv 2) (aa (dv 4) af)))))))))),λds Q h=>?_⟩
  unfold gw at h;split at h;rotate_left
  · exact h.elim
  rename_i ns;try dsimp only[gi,cK,gf,dG,cu,gb,fK,cg,cx,dH,bM,fP,fY,fO,dD,bN,bg,bx,dE,fZ,dF,cJ,aO,dC,fL,dI,kj,fF,fI,fQ,cq,lu,fJ,cU,cH,gQ,eE,fS,fE,kR,gP,bF,dX,aN,eU,gc,bU,ki,fH,kC,gO,gm,cb,iq,aQ,cL,mi,gn,fg,fR,fG,aU,aI,dput,cM,gj,B.val,aM,Tg.d,putN,bG,dJ,bD,bE,aR,ao,aS,ar,bj,iD,kD,List.map,List.length,aJ,bB]
  refine ⟨by simp,eY ?_⟩;try dsimp only[gi,cK,gf,dG,cu,gb,fK,cg,cx,dH,bM,fP,fY,fO,dD,bN,bg,bx,dE,fZ,dF,cJ,aO,dC,fL,dI,kj,fF,fI,fQ,cq,lu,fJ,cU,cH,gQ,eE,fS,fE,kR,gP,bF,dX,aN,eU,gc,bU,ki,fH,kC,gO,gm,cb,iq,aQ,cL,mi,gn,fg,fR,fG,aU,aI,dput,cM,gj,B.val,aM,Tg.d,putN,bG,dJ,bD,bE,aR,ao,aS,ar,bj,iD,kD,List.map,List.length,aJ,bB]
  rw[show (d5 ns (some 0) (some 63) (some 37)).sum=lF ns from rfl];have p5:=aA (lF ns) 5;have p6:=aA (lF ns) 6;refine ⟨by decide,⟨by lia,by lia⟩,?_⟩;refine bR (λi ρ=>∃a3,ρ = [some (.p (.scr ns)),some (.p (.int (lF ns))),some (.o (.lst (((List.range i).map (A6 ns)).map dO))),a3,none]) ⟨none,rfl⟩ ?_ ?_
  · rintro i x ρ hx ⟨a3,rfl⟩;obtain ⟨hi,rfl⟩:=bH hx;try dsimp only[gi,cK,gf,dG,cu,gb,fK,cg,cx,dH,bM,fP,fY,fO,dD,bN,bg,bx,dE,fZ,dF,cJ,aO,dC,fL,dI,kj,fF,fI,fQ,cq,lu,fJ,cU,cH,gQ,eE,fS,fE,kR,gP,bF,dX,aN,eU,gc,bU,ki,fH,kC,gO,gm,cb,iq,aQ,cL,mi,gn,fg,fR,fG,aU,aI,dput,cM,gj,B.val,aM,Tg.d,putN,bG,dJ,bD,bE,aR,ao,aS,ar,bj,iD,kD,List.map,List.length,aJ,bB]
    refine ⟨by simp,eY ?_⟩;try dsimp only[gi,cK,gf,dG,cu,gb,fK,cg,cx,dH,bM,fP,fY,fO,dD,bN,bg,bx,dE,fZ,dF,cJ,aO,dC,fL,dI,kj,fF,fI,fQ,cq,lu,fJ,cU,cH,gQ,eE,fS,fE,kR,gP,bF,dX,aN,eU,gc,bU,ki,fH,kC,gO,gm,cb,iq,aQ,cL,mi,gn,fg,fR,fG,aU,aI,dput,cM,gj,B.val,aM,Tg.d,putN,bG,dJ,bD,bE,aR,ao,aS,ar,bj,iD,kD,List.map,List.length,aJ,bB]
    refine ⟨.inr rfl,by simp only[length_map,length_range];exact g8 (by lia),_,by rw[<-oF,Int.zero_add];rfl⟩
  rintro ρ ⟨a3,rfl⟩;rw[bZ];try dsimp only[gi,cK,gf,dG,cu,gb,fK,cg,cx,dH,bM,fP,fY,fO,dD,bN,bg,bx,dE,fZ,dF,cJ,aO,dC,fL,dI,kj,fF,fI,fQ,cq,lu,fJ,cU,cH,gQ,eE,fS,fE,kR,gP,bF,dX,aN,eU,gc,bU,ki,fH,kC,gO,gm,cb,iq,aQ,cL,mi,gn,fg,fR,fG,aU,aI,dput,cM,gj,B.val,aM,Tg.d,putN,bG,dJ,bD,bE,aR,ao,aS,ar,bj,iD,kD,List.map,List.length,aJ,bB]
  refine ⟨by decide,⟨by lia,by lia⟩,?_⟩;refine bR (λi ρ=>∃a3,ρ = [some (.p (.scr ns)),some (.p (.int (lF ns))),some (.o (.lst ((qR ns).map dO))),a3,some (.o (.lst (((List.range i).map (zl ns)).map dO)))]) ⟨_,rfl⟩ ?_ ?_
  · rintro i x ρ hx ⟨a3,rfl⟩;obtain ⟨hi,rfl⟩:=bH hx;try dsimp only[gi,cK,gf,dG,cu,gb,fK,cg,cx,dH,bM,fP,fY,fO,dD,bN,bg,bx,dE,fZ,dF,cJ,aO,dC,fL,dI,kj,fF,fI,fQ,cq,lu,fJ,cU,cH,gQ,eE,fS,fE,kR,gP,bF,dX,aN,eU,gc,bU,ki,fH,kC,gO,gm,cb,iq,aQ,cL,mi,gn,fg,fR,fG,aU,aI,dput,cM,gj,B.val,aM,Tg.d,putN,bG,dJ,bD,bE,aR,ao,aS,ar,bj,iD,kD,List.map,List.length,aJ,bB]
    refine ⟨by simp,eY ?_⟩;try dsimp only[gi,cK,gf,dG,cu,gb,fK,cg,cx,dH,bM,fP,fY,fO,dD,bN,bg,bx,dE,fZ,dF,cJ,aO,dC,fL,dI,kj,fF,fI,fQ,cq,lu,fJ,cU,cH,gQ,eE,fS,fE,kR,gP,bF,dX,aN,eU,gc,bU,ki,fH,kC,gO,gm,cb,iq,aQ,cL,mi,gn,fg,fR,fG,aU,aI,dput,cM,gj,B.val,aM,Tg.d,putN,bG,dJ,bD,bE,aR,ao,aS,ar,bj,iD,kD,List.map,List.length,aJ,bB]
    refine ⟨.inl rfl,by simp only[length_map,length_range];exact g8 (by lia),_,by rw[<-oF,Int.zero_add];rfl⟩
  rintro ρ ⟨a3,rfl⟩;rw[bZ];try dsimp only[gi,cK,gf,dG,cu,gb,fK,cg,cx,dH,bM,fP,fY,fO,dD,bN,bg,bx,dE,fZ,dF,cJ,aO,dC,fL,dI,kj,fF,fI,fQ,cq,lu,fJ,cU,cH,gQ,eE,fS,fE,kR,gP,bF,dX,aN,eU,gc,bU,ki,fH,kC,gO,gm,cb,iq,aQ,cL,mi,gn,fg,fR,fG,aU,aI,dput,cM,gj,B.val,aM,Tg.d,putN,bG,dJ,bD,bE,aR,ao,aS,ar,bj,iD,kD,List.map,List.length]
  exact h
noncomputable def jm:DR:=λds P=>∃c l:Int,ds = [.int c,.int l]/\0<=l/\l<=50/\∀x:S3,lW x->P (.p (d3 x))
theorem pF (T:ka mg)(F_law_stir:Fn P w K mg base "_law_stir" 1 ["cell","k"] (bS K aJ))(F:iT K "_law_stream" "_law_stream" eN f fd):bO P w K mg base gX 2 f fd ["cell","least"] (bS K jm):=by
  refine lU F gH (λds Q h=>by obtain ⟨c,l,rfl,l0,l1,q⟩:=h;rfl) λcdv A outer s H E hr=>⟨_,(ah (aw (i:=2) gH.nd rfl (Or.inl rfl) (ak az (dv 1) (ak ba (ay F_law_stir (hr.mono (by decide)) (by rfl) (aa (dv 0) (aa ae af))) (ak fi ae (dv 1)))))
      (ah (aw (i:=3) gH.nd rfl (Or.inl rfl) (ak az (ak az (dv 2) ae) (ak ba (ay F_law_stir (hr.mono (by decide)) (by rfl) (aa (dv 0) (aa ae af))) (ak fi ae (dv 2)))))
      (ah (aw (i:=4) gH.nd rfl (Or.inl rfl) (cW (aa ae (aa (ak az ae (ak ba (ay F_law_stir (hr.mono (by decide)) (by rfl) (aa (dv 0) (aa ae af))) ae)) (aa (ak az ae (ak ba (ay F_law_stir (hr.mono (by decide)) (by rfl) (aa (dv 0) (aa ae af))) ae)) (aa (ak az ae (ak ba (ak dc (ay F_law_stir (hr.mono (by decide)) (by rfl) (aa (dv 0) (aa ae af))) ae) (ak h9 ae ae))) af))))))
      (aj (aL (cD (aa (dv 2) (aa (dv 3) (aa (ai (dv 4) (ak ba (ay F_law_stir (hr.mono (by decide)) (by rfl) (aa (dv 0) (aa ae af))) ae)) af))))))))),λds Q h=>?_⟩
  obtain ⟨c,l,rfl,l0,l1,q⟩:=h;have p3:=aA c 3;have p4:=aA c 4;have m1:0<200 - l:=by lia
  have m2:=Int.emod_nonneg (bo c 0) (b:=200 - l) (by lia);have m3:=Int.emod_lt_of_pos (bo c 0) m1;repeat (first | dsimp only[aJ] | walk_at "rs1" | walk_at "rsx")
  generalize el:l+bo c 0 % (200 - l)=lo at *;have n1:0<200 - lo:=by lia
  have n2:=Int.emod_nonneg (bo c 1) (b:=200 - lo) (by lia);have n3:=Int.emod_lt_of_pos (bo c 1) n1;have e9:((10:Int) ^ (9:Int).toNat)=1000000000:=by decide
  rw[e9];refine ⟨m1,n1,by decide,by decide,mulR (by decide),⟨by decide,by decide,by decide⟩,by decide,by decide,_,oC (by lia) (by lia),?_⟩;refine q (lo,lo+1+bo c 1 % (200 - lo),m5 1 (2+bo c 3 % 4) (1+bo c 3 % 40) (1+bo c 3*4 % 1000000000) (bo c 4 % 4)) ⟨by show 0<=lo;lia,by show lo<lo+1+_;lia,by show lo+1+_<=200;lia,?_,?_⟩
  · show 1<=m5 _ _ _ _ _;unfold m5;repeat' split;all_goals lia
  · show m5 _ _ _ _ _<=_;unfold m5;repeat' split;all_goals lia
theorem wa {A:S3->Prop}{l:List S3}{x:S3}(h:∀y∈l,A y)(hx:A x):∀y∈l++[x],A y:=λy hy=>by
  rcases mem_append.mp hy with z | z
  · exact h y z
  · rw[mem_singleton.mp z];exact hx
noncomputable def fu:DR:=λds P=>match ds with
  | [.scr ns]=>∀g hs cs,eT g hs cs->P (.p (dW g hs cs))
  | _=>False
set_option tactic.hygienic true in
theorem rb (T:ka mg)(F_law_stream:Fn P w K mg base "_law_stream" 2 ["cell","least"] (bS K jm))(F_law_stir:Fn P w K mg base "_law_stir" 1 ["cell","k"] (bS K aJ))(F:iT K "_law_works" "_law_works" fy f fd):bO P w K mg base gX 3 f fd ["script"] (bS K fu):=by
  refine lU F aV (λds Q h=>by unfold fu at h;split at h<;>first | rfl | exact h.elim) λcdv A outer s H E hr=>⟨_,(ah (aw (i:=1) aV.nd rfl (Or.inl rfl) (ax (gN rfl) (by rfl) T.jt boot_sum (aa (gp (dv 0) (bh ae) (bh ae) (bh ae)) af)))
      (ah (aw (i:=2) aV.nd rfl (Or.inl rfl) (ai (cW (aa ae (aa ae (aa ae (aa (ak ba (ay F_law_stir (hr.mono (by decide)) (by rfl) (aa (dv 1) (aa ae af))) ae) af))))) (ak ba (ay F_law_stir (hr.mono (by decide)) (by rfl) (aa (dv 1) (aa ae af))) ae)))
      (ah (aw (i:=3) aV.nd rfl (Or.inl rfl) (ai (cW (aa (dv 2) (aa (dv 2) (aa (dv 2) (aa ae af))))) (ak ba (ay F_law_stir (hr.mono (by decide)) (by rfl) (aa (dv 1) (aa ae af))) ae)))
      (ah (aw (i:=4) aV.nd rfl (Or.inl rfl) (cW (aa (ak ba (ay F_law_stir (hr.mono (by decide)) (by rfl) (aa (dv 1) (aa ae af))) ae) (aa (ak ba (ay F_law_stir (hr.mono (by decide)) (by rfl) (aa (dv 1) (aa ae af))) ae) af))))
      (ah (fq (bJ oq (ak ba (ay F_law_stir (hr.mono (by decide)) (by rfl) (aa (dv 1) (aa ae af))) ae) ae (aT _)) (aj (aw (i:=4) aV.nd rfl (Or.inl rfl) (cW (aa ae (aa (ak az ae (ak ba (ai (dv 4) ae) ae)) af))))) bL)
      (ah (gR (i:=5) aV.nd rfl (Or.inl rfl) (cW af))
      (ah (dZ (g:=(.n 6)) PassesOwn.never rfl (eV (by rfl) T.cP (aa (ai (dv 4) ae) af)) (aq (i:=6) aV.nd rfl (Or.inl rfl)) (ah (BH (g:=(.t [7,8,9])) (ay F_law_stream (hr.mono (by decide)) (by rfl) (aa (ak az (ax (gN rfl) (by rfl) T.jt boot_sum (aa (gp (dv 0) (bh (ak az ae (dv 6))) (bh ae) (bh ae)) af)) (dv 6)) (aa (dv 3) af))) (eR rfl (au (aq (i:=7) aV.nd rfl (Or.inl rfl)) (au (aq (i:=8) aV.nd rfl (Or.inl rfl)) (au (aq (i:=9) aV.nd rfl (Or.inl rfl)) cQ)))))
      (aj (nV (i:=5) rfl (by walk_at "v") (cD (aa (dv 8) (aa (dv 7) (aa (dv 9) af))))))))
      (ah (gR (i:=10) aV.nd rfl (Or.inl rfl) (cW af))
      (ah (dZ (g:=(.n 6)) PassesOwn.never rfl (eV (by rfl) T.cP (aa (ai (dv 4) ae) af)) (aq (i:=6) aV.nd rfl (Or.inl rfl)) (aj (nV (i:=10) rfl (by walk_at "v") (ay F_law_stream (hr.mono (by decide)) (by rfl) (aa (ak az (ak az (ax (gN rfl) (by rfl) T.jt boot_sum (aa (gp (dv 0) (bh (ak az ae (dv 6))) (bh ae) (bh ae)) af)) ae) (dv 6)) (aa ae af))))))
      (aj (aL (cD (aa (dv 2) (aa (dv 5) (aa (dv 10) af))))))))))))))),λds Q h=>?_⟩
  unfold fu at h;split at h;rotate_left
  · exact h.elim
  rename_i ns;repeat (first | dsimp only[aJ] | walk_at "rs1" | walk_at "rsx")
  refine ⟨by simp,eY ?_⟩;repeat (first | dsimp only[aJ] | walk_at "rs1" | walk_at "rsx")
  generalize (d5 ns (some 0) (some 63) (some 37)).sum=head;have p0:=aA head 0;have p1:=aA head 1;have p2:=aA head 2;have p3:=aA head 3;have p4:=aA head 4;have hg:0<=m5 0 10 50 (bo head 0 % 51) (bo head 1 % 4)/\m5 0 10 50 (bo head 0 % 51) (bo head 1 % 4)<=50:=by
    unfold m5;repeat' split;all_goals lia
  generalize eg:m5 0 10 50 (bo head 0 % 51) (bo head 1 % 4)=g at hg;refine ⟨by decide,by decide,.int g,by rw[<-eg];exact oC (by lia) (by lia),by decide,.int (m5 g g g 0 (bo head 2 % 4)),oC (by lia) (by lia),by decide,by decide,by decide,λ_=>⟨by decide,⟨by decide,by decide⟩,?_⟩,λ_=>⟨⟨by lia,by lia⟩,?_⟩⟩;all_goals
    have hle:0<=m5 g g g 0 (bo head 2 % 4)/\m5 g g g 0 (bo head 2 % 4)<=50:=by
      unfold m5;repeat' split;all_goals lia
    generalize m5 g g g 0 (bo head 2 % 4)=l at hle
  case' h_1.refine_1 =>
    have hb:0<=7+bo head 4 % 7 % 6/\7+bo head 4 % 7 % 6<=12:=by lia
    generalize 7+bo head 4 % 7 % 6=b at hb;have ha:0<=(12:Int)/\(12:Int)<13:=by lia
    generalize (12:Int)=a at ha
  case' h_1.refine_2 =>
    have ha:0<=bo head 3 % 7/\bo head 3 % 7<=12:=by lia
    have hb:0<=bo head 4 % 7/\bo head 4 % 7<=12:=by lia
    generalize bo head 3 % 7=a at ha;generalize bo head 4 % 7=b at hb
  all_goals
    have a12:a<=12:=by lia
    refine bR (λi ρ=>∃hs a6 a7 a8 a9,ρ = [some (.p (.scr ns)),some (.p (.int head)),some (.p (.int g)),some (.p (.int l)),some (.p (.lst [.int a,.int b])),some (.o (.lst (hs.map d3))),a6,a7,a8,a9,none]/\hs.length=i/\∀x∈hs,rH x) ⟨[],none,none,none,none,rfl,rfl,λx hx=>nomatch hx⟩ ?_ ?_
    · rintro i x ρ hx ⟨hs,a6,a7,a8,a9,rfl,hl,ho⟩;obtain ⟨hi,rfl⟩:=bH hx;walk_at "rs";refine ⟨by simp,eY ?_⟩;walk_at "rs";refine ⟨_,l,rfl,hle.1,hle.2,λy oy=>?_⟩;repeat (first | dsimp only[d3] | walk_at "rs1" | walk_at "rsx")
      refine ⟨by rw[length_map];exact g8 (by lia),hs++[(y.2.1,y.1,y.2.2)],_,_,_,_,by rw[map_append];rfl,by rw[length_append,hl];rfl,wa ho ⟨oy.lo,oy.lt,oy.hi,oy.r0,oy.r1⟩⟩
    rintro ρ ⟨hs,a6,a7,a8,a9,rfl,hl,ho⟩;rw[bZ] at hl;walk_at "rs";refine ⟨⟨by lia,by lia⟩,?_⟩;refine bR (λi ρ=>∃cs a6 a7 a8 a9,ρ = [some (.p (.scr ns)),some (.p (.int head)),some (.p (.int g)),some (.p (.int l)),some (.p (.lst [.int a,.int b])),some (.o (.lst (hs.map d3))),a6,a7,a8,a9,some (.o (.lst (cs.map d3)))]/\cs.length=i/\∀x∈cs,lW x) ⟨[],_,_,_,_,rfl,rfl,λx hx=>nomatch hx⟩ ?_ ?_
    · rintro i x ρ hx ⟨cs,a6,a7,a8,a9,rfl,hl2,ho2⟩;obtain ⟨hi,rfl⟩:=bH hx;walk_at "rs";refine ⟨by simp,eY ?_⟩;walk_at "rs";refine ⟨_,0,rfl,by decide,by decide,λy oy=>?_⟩;walk_at "rs";refine ⟨by rw[length_map];exact g8 (by lia),cs++[y],_,_,_,_,by rw[map_append];rfl,by rw[length_append,hl2];rfl,wa ho2 oy⟩
    rintro ρ ⟨cs,a6,a7,a8,a9,rfl,hl2,ho2⟩;rw[bZ] at hl2;walk_at "rs";exact h g hs cs ⟨hg.1,hg.2,by lia,by lia,ho,ho2⟩
noncomputable def aP (os:List S3)(as:List Int):Int:=((os.zip as).map λx=>x.1.2.1*x.2).sum
noncomputable def jo:DR:=λds P=>∃fs ws as bs,ds = [dS fs ws,.tup [dA as,dA bs]]/\fs.length<=900/\ws.length<=900/\as.length=fs.length/\bs.length=ws.length/\(∀x∈fs++ws,0<=x.2.1/\x.2.1<=1000000)/\P (.p (.int (aP fs as+aP ws bs)))
theorem sW (T:ka mg)(F:iT K "price_of" "price_of" eD f fd):bO P w K mg base gX 1 f fd ["shop","buying"] (bS K jo):=by
  refine lU F jP (λds Q h=>by obtain ⟨fs,ws,as,bs,rfl,nf,nw,la,lb,hp,q⟩:=h;rfl) λcdv A outer s H E hr=>⟨_,(ah (iL (i:=2) jP.nd rfl (Or.inl rfl) (g:=(.t [0,1])) (tc:=aU) (te:=(fL _ (fL iq (aO 0) (dC _)) (aO 1))) (sc0:=ag eD) (N0:=["shop","buying","fires","waters"]) ["offer","amount"] [none,none] rfl (jA (by rfl) T.kh (aa (ai (dv 0) ae) (aa (ai (dv 1) ae) af))) (λ_ _ _ _ _=>(eR rfl (au (aq (i:=0) (show (["offer","amount"]:List Str).Nodup by decide +kernel) rfl (Or.inl rfl)) (au (aq (i:=1) (show (["offer","amount"]:List Str).Nodup by decide +kernel) rfl (Or.inl rfl)) cQ)))) (λ_ _ _ _ _=>bQ) (λ_ _ _ _ _=>(ak dc (ai (dv 0) ae) (dv 1))))
      (ah (iL (i:=3) jP.nd rfl (Or.inl rfl) (g:=(.t [0,1])) (tc:=aU) (te:=(fL _ (fL iq (aO 0) (dC _)) (aO 1))) (sc0:=ag eD) (N0:=["shop","buying","fires","waters"]) ["offer","amount"] [none,none] rfl (jA (by rfl) T.kh (aa (ai (dv 0) ae) (aa (ai (dv 1) ae) af))) (λ_ _ _ _ _=>(eR rfl (au (aq (i:=0) (show (["offer","amount"]:List Str).Nodup by decide +kernel) rfl (Or.inl rfl)) (au (aq (i:=1) (show (["offer","amount"]:List Str).Nodup by decide +kernel) rfl (Or.inl rfl)) cQ)))) (λ_ _ _ _ _=>bQ) (λ_ _ _ _ _=>(ak dc (ai (dv 0) ae) (dv 1))))
      (aj (aL (ak az (ax (gN rfl) (by rfl) T.jt boot_sum (aa (dv 2) af)) (ax (gN rfl) (by rfl) T.jt boot_sum (aa (dv 3) af))))))),λds Q h=>?_⟩
  obtain ⟨fs,ws,as,bs,rfl,nf,nw,la,lb,hp,q⟩:=h;try dsimp only[gi,cK,gf,dG,cu,gb,fK,cg,cx,dH,bM,fP,fY,fO,dD,bN,bg,bx,dE,fZ,dF,cJ,aO,dC,fL,dI,kj,fF,fI,fQ,cq,lu,fJ,cU,cH,gQ,eE,fS,fE,kR,gP,bF,dX,aN,eU,gc,bU,ki,fH,kC,gO,gm,cb,iq,aQ,cL,mi,gn,fg,fR,fG,aU,aI,dput,cM,gj,B.val,aM,Tg.d,putN,bG,dJ,bD,bE,aR,ao,aS,ar,bj,iD,kD,List.map,List.length,dS,dA]
  refine ⟨_,rfl,_,rfl,?_⟩;dsimp only;rw[eX];have hz:∀(os:List S3) (cs:List Int),os.length<=900->(os.zip cs).length<=1000000:=λos cs h=>by rw[List.length_zip];lia
  have hm:∀p∈fs.zip as,0<=p.1.2.1/\p.1.2.1<=1000000:=λp h=>hp _ (mem_append_left _ (List.of_mem_zip h).1);have hm2:∀p∈ws.zip bs,0<=p.1.2.1/\p.1.2.1<=1000000:=λp h=>hp _ (mem_append_right _ (List.of_mem_zip h).1);refine eZ (λd=>match d with | .tup [.tup [_,.int p,_],.int a]=>.int (p*a) | d=>d) (λx=>.int (x.1.2.1*x.2)) (λ_ _=>rfl) (hz _ _ nf) (λx hx=>?_) ?_
  · have:=hm x hx;try dsimp only[gi,cK,gf,dG,cu,gb,fK,cg,cx,dH,bM,fP,fY,fO,dD,bN,bg,bx,dE,fZ,dF,cJ,aO,dC,fL,dI,kj,fF,fI,fQ,cq,lu,fJ,cU,cH,gQ,eE,fS,fE,kR,gP,bF,dX,aN,eU,gc,bU,ki,fH,kC,gO,gm,cb,iq,aQ,cL,mi,gn,fg,fR,fG,aU,aI,dput,cM,gj,B.val,aM,Tg.d,putN,bG,dJ,bD,bE,aR,ao,aS,ar,bj,iD,kD,List.map,List.length,dO]
    exact ⟨_,rfl,mulL ⟨by lia,by lia⟩,rfl⟩
  try dsimp only[gi,cK,gf,dG,cu,gb,fK,cg,cx,dH,bM,fP,fY,fO,dD,bN,bg,bx,dE,fZ,dF,cJ,aO,dC,fL,dI,kj,fF,fI,fQ,cq,lu,fJ,cU,cH,gQ,eE,fS,fE,kR,gP,bF,dX,aN,eU,gc,bU,ki,fH,kC,gO,gm,cb,iq,aQ,cL,mi,gn,fg,fR,fG,aU,aI,dput,cM,gj,B.val,aM,Tg.d,putN,bG,dJ,bD,bE,aR,ao,aS,ar,bj,iD,kD,List.map,List.length]
  refine ⟨_,rfl,_,rfl,?_⟩;dsimp only;rw[eX];refine eZ (λd=>match d with | .tup [.tup [_,.int p,_],.int a]=>.int (p*a) | d=>d) (λx=>.int (x.1.2.1*x.2)) (λ_ _=>rfl) (hz _ _ nw) (λx hx=>?_) ?_
  · have:=hm2 x hx;try dsimp only[gi,cK,gf,dG,cu,gb,fK,cg,cx,dH,bM,fP,fY,fO,dD,bN,bg,bx,dE,fZ,dF,cJ,aO,dC,fL,dI,kj,fF,fI,fQ,cq,lu,fJ,cU,cH,gQ,eE,fS,fE,kR,gP,bF,dX,aN,eU,gc,bU,ki,fH,kC,gO,gm,cb,iq,aQ,cL,mi,gn,fg,fR,fG,aU,aI,dput,cM,gj,B.val,aM,Tg.d,putN,bG,dJ,bD,bE,aR,ao,aS,ar,bj,iD,kD,List.map,List.length,dO]
    exact ⟨_,rfl,mulL ⟨by lia,by lia⟩,rfl⟩
  try dsimp only[gi,cK,gf,dG,cu,gb,fK,cg,cx,dH,bM,fP,fY,fO,dD,bN,bg,bx,dE,fZ,dF,cJ,aO,dC,fL,dI,kj,fF,fI,fQ,cq,lu,fJ,cU,cH,gQ,eE,fS,fE,kR,gP,bF,dX,aN,eU,gc,bU,ki,fH,kC,gO,gm,cb,iq,aQ,cL,mi,gn,fg,fR,fG,aU,aI,dput,cM,gj,B.val,aM,Tg.d,putN,bG,dJ,bD,bE,aR,ao,aS,ar,bj,iD,kD,List.map,List.length]
  have em:∀l:List (S3×Int),l.map (λx=>D.int (x.1.2.1*x.2))=(l.map λx=>x.1.2.1*x.2).map D.int:=λl=>by rw[map_map];rfl
  rw[em,em];refine eY ?_;try dsimp only[gi,cK,gf,dG,cu,gb,fK,cg,cx,dH,bM,fP,fY,fO,dD,bN,bg,bx,dE,fZ,dF,cJ,aO,dC,fL,dI,kj,fF,fI,fQ,cq,lu,fJ,cU,cH,gQ,eE,fS,fE,kR,gP,bF,dX,aN,eU,gc,bU,ki,fH,kC,gO,gm,cb,iq,aQ,cL,mi,gn,fg,fR,fG,aU,aI,dput,cM,gj,B.val,aM,Tg.d,putN,bG,dJ,bD,bE,aR,ao,aS,ar,bj,iD,kD,List.map,List.length]
  refine eY ?_;try dsimp only[gi,cK,gf,dG,cu,gb,fK,cg,cx,dH,bM,fP,fY,fO,dD,bN,bg,bx,dE,fZ,dF,cJ,aO,dC,fL,dI,kj,fF,fI,fQ,cq,lu,fJ,cU,cH,gQ,eE,fS,fE,kR,gP,bF,dX,aN,eU,gc,bU,ki,fH,kC,gO,gm,cb,iq,aQ,cL,mi,gn,fg,fR,fG,aU,aI,dput,cM,gj,B.val,aM,Tg.d,putN,bG,dJ,bD,bE,aR,ao,aS,ar,bj,iD,kD,List.map,List.length]
  exact q
noncomputable def lT (fs:List S3):List Int:=fs.map λx=>x.1 - 1
noncomputable def lQ (g:Int)(ws:List S3):List Int:=ws.map λx=>x.1+g
noncomputable def gF:DR:=λds P=>∃fs ws,ds = [dS fs ws]/\fs.length<=900/\P (.o (.lst ((lT fs).map D.int)))
theorem ou (T:ka mg)(F:iT K "fire_levels" "fire_levels" cF f fd):bO P w K mg base gX 1 f fd ["shop"] (bS K gF):=by
  refine lU F oG (λds Q h=>by obtain ⟨fs,ws,rfl,nf,q⟩:=h;rfl) λcdv A outer s H E hr=>⟨_,(aj (aL (ju (g:=(.n 0)) (tc:=aU) (te:=(fL _ (fL iq (aO 0) (dC _)) (dC _))) (sc0:=ag cF) (N0:=["shop"]) ["offer"] [none] rfl (dY (ai (dv 0) ae)) (λ_ _ _ _ _=>(aq (i:=0) (show (["offer"]:List Str).Nodup by decide +kernel) rfl (Or.inl rfl))) (λ_ _ _ _ _=>bQ) (λ_ _ _ _ _=>(ak fi (ai (dv 0) ae) ae))))),λds Q h=>?_⟩
  obtain ⟨fs,ws,rfl,nf,q⟩:=h;repeat (first | dsimp only[dS] | walk_at "rs1" | walk_at "rsx")
  refine eZ (λd=>match d with | .tup [.int a,_,_]=>.int (a - 1) | d=>d) (λx=>.int (x.1 - 1)) (λ_ _=>rfl) (by lia) (λx hx=>?_) ?_
  · repeat (first | dsimp only[dO] | walk_at "rs1" | walk_at "rsx")
  unfold lT at q;rw[map_map] at q;exact q
noncomputable def fU:DR:=λds P=>∃g hs cs fs ws,ds = [dW g hs cs,dS fs ws]/\ws.length<=900/\P (.o (.lst ((lQ g ws).map D.int)))
theorem mZ (T:ka mg)(F:iT K "water_levels" "water_levels" bY f fd):bO P w K mg base gX 1 f fd ["works","shop"] (bS K fU):=by
  refine lU F m8 (λds Q h=>by obtain ⟨g,hs,cs,fs,ws,rfl,nw,q⟩:=h;rfl) λcdv A outer s H E hr=>⟨_,(aj (aL (ju (g:=(.n 0)) (tc:=aU) (te:=(fL _ (fL iq (aO 0) (dC _)) (fL iq (aO 1) (dC _)))) (sc0:=ag bY) (N0:=["works","shop"]) ["offer","works"] [none,some 0] rfl (dY (ai (dv 1) ae)) (λ_ _ _ _ _=>(aq (i:=0) (show (["offer","works"]:List Str).Nodup by decide +kernel) rfl (Or.inl rfl))) (λ_ _ _ _ _=>bQ) (λ_ _ _ _ _=>(ak az (ai (dv 0) ae) (ai (dv 1) ae)))))),λds Q h=>?_⟩
  obtain ⟨g,hs,cs,fs,ws,rfl,nw,q⟩:=h;repeat (first | dsimp only[dS,dW] | walk_at "rs1" | walk_at "rsx")
  refine eZ (λd=>match d with | .tup [.int a,_,_]=>.int (a+g) | d=>d) (λx=>.int (x.1+g)) (λ_ _=>rfl) (by lia) (λx hx=>?_) ?_
  · repeat (first | dsimp only[dO] | walk_at "rs1" | walk_at "rsx")
  unfold lQ at q;rw[map_map] at q;exact q
noncomputable def EX (x:Int×Int):D:=.tup [.int x.1,.int x.2]
noncomputable def fe (bs:List (Int×Int))(L:Int):Int:=(bs.filterMap λx=>if L<=x.1 then some x.2 else none).sum
noncomputable def ij:DR:=λds P=>∃(bs:List (Int×Int)) (L:Int),ds = [.lst (bs.map EX),.int L]/\bs.length<=900/\P (.p (.int (fe bs L)))
theorem mY (T:ka mg)(F:iT K "amount_above" "amount_above" bX f fd):bO P w K mg base gX 1 f fd ["bought","level"] (bS K ij):=by
  refine lU F m7 (λds Q h=>by obtain ⟨bs,L,rfl,nb,q⟩:=h;rfl) λcdv A outer s H E hr=>⟨_,(aj (aL (ax (gN rfl) (by rfl) T.jt boot_sum (aa (ju (g:=(.t [0,1])) (tc:=(eE (fL _ (aO 0) (aO 2)))) (te:=(aO 1)) (sc0:=ag bX) (N0:=["bought","level"]) ["place","amount","level"] [none,none,some 1] rfl (dY (dv 0)) (λ_ _ _ _ _=>(eR rfl (au (aq (i:=0) (show (["place","amount","level"]:List Str).Nodup by decide +kernel) rfl (Or.inl rfl)) (au (aq (i:=1) (show (["place","amount","level"]:List Str).Nodup by decide +kernel) rfl (Or.inl rfl)) cQ)))) (λ_ _ _ _ _=>(nR (bJ vP (dv 0) (dv 2) (aT _)))) (λ_ _ _ _ _=>(dv 1))) af)))),λds Q h=>?_⟩
  obtain ⟨bs,L,rfl,nb,q⟩:=h;walk_at "rs";refine nt (λd=>match d with | .tup [.int a,.int b]=>if L<=a then some (.int b) else none | d=>some d) (λx=>if L<=x.1 then some (.int x.2) else none) (λ_ _=>rfl) (by lia) (λx hx=>?_) ?_
  · repeat (first | dsimp only[EX] | walk_at "rs1" | walk_at "rsx")
    refine ⟨λz=>?_,λz=>?_⟩
    · have:=of_decide_eq_true z;rw[if_pos this]
    · have:=of_decide_eq_false z;rw[if_neg this]
  walk_at "rs";have em:bs.filterMap (λx=>if L<=x.1 then some (D.int x.2) else none)=(bs.filterMap λx=>if L<=x.1 then some x.2 else none).map D.int:=by
    rw[List.map_filterMap];refine cZ λx _=>?_;split<;>rfl
  rw[em];refine eY ?_;walk_at "rs";exact q
noncomputable def dP (g:Int)(hs cs fs ws:List S3)(as bs:List Int)(L:Int):Int:=fe ((lT fs).zip as) L - fe ((lQ g ws).zip bs) L - fT g hs cs L
noncomputable def fW (g:Int)(hs cs fs ws:List S3)(as bs:List Int):List Int:=(List.range 251).map λi=>dP g hs cs fs ws as bs (i:Nat)
noncomputable def cB:DR:=λds P=>∃g hs cs fs ws as bs,ds = [dW g hs cs,dS fs ws,.tup [dA as,dA bs]]/\eT g hs cs/\fs.length<=900/\ws.length<=900/\P (.o (.lst ((fW g hs cs fs ws as bs).map D.int)))
theorem zp (xs ys:List Int):tU (xs.map D.int) (ys.map D.int)=(xs.zip ys).map EX:=eX _ _ _ _
theorem kI (T:ka mg)(F_lacks_above:Fn P w K mg base "lacks_above" 3 ["works"] (bS K iC))(F_fire_levels:Fn P w K mg base "fire_levels" 1 ["shop"] (bS K gF))(F_water_levels:Fn P w K mg base "water_levels" 1 ["works","shop"] (bS K fU))(F_amount_above:Fn P w K mg base "amount_above" 1 ["bought","level"] (bS K ij))(F:iT K "surpluses_above" "surpluses_above" bz f fd):bO P w K mg base gX 4 f fd ["works","shop","buying"] (bS K cB):=by
  refine lU F dw (λds Q h=>by obtain ⟨g,hs,cs,fs,ws,as,bs,rfl,ok,nf,nw,q⟩:=h;rfl) λcdv A outer s H E hr=>⟨_,(ah (aw (i:=3) dw.nd rfl (Or.inr rfl) (vh rfl (by rfl) T.kh (by rfl) T.ff (aa (ay F_fire_levels (hr.mono (by decide)) (by rfl) (aa (dv 1) af)) (aa (ai (dv 2) ae) af))))
      (ah (aw (i:=4) dw.nd rfl (Or.inr rfl) (vh rfl (by rfl) T.kh (by rfl) T.ff (aa (ay F_water_levels (hr.mono (by decide)) (by rfl) (aa (dv 0) (aa (dv 1) af))) (aa (ai (dv 2) ae) af))))
      (ah (aw (i:=5) dw.nd rfl (Or.inl rfl) (ay F_lacks_above (hr.mono (by decide)) (by rfl) (aa (dv 0) af)))
      (aj (aL (ju (g:=(.t [0,1])) (tc:=aU) (te:=(fL _ (fL _ (bU _ (aN (aO 2) (aN (aO 0) dX))) (bU _ (aN (aO 3) (aN (aO 0) dX)))) (aO 1))) (sc0:=ag bz) (N0:=["works","shop","buying","fires","waters","lacks"]) ["level","lack","fires","waters"] [none,none,some 3,some 4] rfl (qP (by rfl) T.rO (aa (dv 5) af)) (λ_ _ _ _ _=>(eR rfl (au (aq (i:=0) (show (["level","lack","fires","waters"]:List Str).Nodup by decide +kernel) rfl (Or.inl rfl)) (au (aq (i:=1) (show (["level","lack","fires","waters"]:List Str).Nodup by decide +kernel) rfl (Or.inl rfl)) cQ)))) (λ_ _ _ _ _=>bQ) (λ_ _ _ _ _=>(ak fi (ak fi (ay F_amount_above (hr.mono (by decide)) (by rfl) (aa (dv 2) (aa (dv 0) af))) (ay F_amount_above (hr.mono (by decide)) (by rfl) (aa (dv 3) (aa (dv 0) af)))) (dv 1))))))))),λds Q h=>?_⟩
  obtain ⟨g,hs,cs,fs,ws,as,bs,rfl,ok,nf,nw,q⟩:=h;walk_at "rs";refine ⟨fs,ws,rfl,nf,?_⟩;repeat (first | dsimp only[dA] | walk_at "rs1" | walk_at "rsx")
  refine ⟨g,hs,cs,fs,ws,rfl,nw,?_⟩;walk_at "rs";refine ⟨g,hs,cs,rfl,ok,?_⟩;walk_at "rs";rw[zp,zp];have el:(n6 g hs cs).map D.int=(List.range 251).map λi=>D.int (fT g hs cs (i:Nat)):=by unfold n6;rw[map_map];rfl
  rw[el,nX 251 (λi=>D.int (fT g hs cs (i:Nat)))];have l1:((lT fs).zip as).length<=900:=by rw[List.length_zip];unfold lT;rw[length_map];lia
  have l2:((lQ g ws).zip bs).length<=900:=by rw[List.length_zip];unfold lQ;rw[length_map];lia
  refine eZ (λd=>match d with | .tup [.int a,.int b]=>.int (fe ((lT fs).zip as) a - fe ((lQ g ws).zip bs) a - b) | d=>d) (λi:Nat=>.int (dP g hs cs fs ws as bs (i:Nat))) (λ_ _=>rfl) (by rw[length_range];decide) (λi hi=>?_) ?_
  · walk_at "rs";refine ⟨_,_,rfl,l1,?_⟩;walk_at "rs";refine ⟨_,_,rfl,l2,?_⟩;walk_at "rs";rfl
  unfold fW at q;rw[map_map] at q;exact q
theorem oQ {g:Int}{hs cs fs ws:List S3}{as bs:List Int}{i:Nat}(h:i<251):fm ((fW g hs cs fs ws as bs).map D.int) ((i:Nat):Int)=some (.int (dP g hs cs fs ws as bs (i:Nat))):=by
  refine iz ?_;unfold fW;rw[getElem?_map,List.getElem?_range h];rfl
noncomputable def Rw (f:Nat->Int):List Int:=(List.range 251).map f
theorem qw (f:Nat->Int):(Rw f).length=251:=by unfold Rw;simp
theorem uT (f:Nat->Int){i:Nat}(h:i<251):(Rw f)[i]?=some (f i):=by unfold Rw;rw[getElem?_map,List.getElem?_range h];rfl
set_option tactic.hygienic true in
theorem Br (f:Nat->Int)(j:Nat)(v:Int):((Rw f).map D.int).set j (.int v)=(Rw λi=>if i=j then v else f i).map D.int:=by
  rw[<-map_set];congr 1;apply List.ext_getElem?;intro i;rw[List.getElem?_set];by_cases hi:i<251
  · rw[uT _ hi,uT _ hi,qw];by_cases hij:j=i
    · subst hij;rw[if_pos rfl,if_pos hi,if_pos rfl]
    · rw[if_neg hij,if_neg (Ne.symm hij)]
  · have e1 : ∀ f, (Rw f)[i]? = none := λf => List.getElem?_eq_none (by rw [qw];lia);rw[e1,e1];split
    · rename_i hji;rw[qw,if_neg (by lia)]
    · rfl
theorem nA (f:Nat->Int){i:Nat}(h:i<251):((Rw f).map D.int)[i]?=some (.int (f i)):=by rw[getElem?_map,uT f h];rfl
theorem rK (f:Nat->Int){z:Int}{j:Nat}(h:j<251)(e:z=(j:Nat)):qf ((Rw f).map D.int).length z=some j:=by
  rw[length_map,qw,e];unfold qf;rw[if_pos (by lia),if_pos (by lia)];simp
theorem kW {f g:Nat->Int}(h:∀i,i<251->f i=g i):Rw f=Rw g:=by
  unfold Rw;exact map_congr_left λi hi=>h i (mem_range.mp hi)
theorem nB {f f':Nat->Int}{j:Nat}{v:Int}(h:∀i,i<251->f' i=if i=j then v else f i):((Rw f).map D.int).set j (.int v)=(Rw f').map D.int:=by
  rw[Br,kW h]
theorem uV (bs:List S3)(b:S3)(L:Int):jU (bs++[b]) L=jU bs L+(if b.1<=L/\L<b.2.1 then b.2.2 else 0):=xJ bs b L
noncomputable def iF (bs:List (Int×Int))(L:Int):Int:=(bs.map λx=>if x.1=L then x.2 else 0).sum
theorem mh (L:Int):∀bs:List (Int×Int),fe bs L=fe bs (L+1)+iF bs L
  | []=>rfl
  | x::bs=>by
    have ih:=mh L bs;unfold fe iF at *;rw[filterMap_cons,filterMap_cons,map_cons,sum_cons];by_cases h1:L=x.1
    · rw [if_pos (by lia), if_neg (by lia), if_pos h1.symm];dsimp only;rw[sum_cons];lia
    · by_cases h2:L<=x.1
      · rw [if_pos h2, if_pos (by lia), if_neg (Ne.symm h1)];dsimp only;rw[sum_cons,sum_cons];lia
      · rw [if_neg h2, if_neg (by lia), if_neg (Ne.symm h1)];dsimp only;lia
theorem nF (bs:List (Int×Int))(x:Int×Int)(L:Int):iF (bs++[x]) L=iF bs L+(if x.1=L then x.2 else 0):=by
  unfold iF;rw[map_append,sum_append,map_cons,List.map_nil,sum_cons,List.sum_nil,Int.add_zero]
theorem jy {L:Int}:∀{bs:List (Int×Int)},(∀x∈bs,x.1<L)->fe bs L=0
  | [],_=>rfl
  | x::bs,h=>by
    have ih:=jy λy hy=>h y (mem_cons_of_mem _ hy);have hx:=h x (mem_cons_self ..);unfold fe at *;rw[filterMap_cons,if_neg (by lia)];exact ih
structure gM (g:Int)(fs ws:List S3):Prop where
  f0:∀x∈fs,1<=x.1/\x.1<=250
  w0:∀x∈ws,0<=x.1/\x.1+g<=249
theorem yp {g:Int}{fs ws:List S3}(h:gM g fs ws):∀z∈lT fs,0<=z/\z<250:=λz hz=>by
  obtain ⟨x,hx,rfl⟩:=mem_map.mp hz;have:=h.f0 x hx;lia
theorem zm {g:Int}{fs ws:List S3}(g0:0<=g)(h:gM g fs ws):∀z∈lQ g ws,0<=z/\z<250:=λz hz=>by
  obtain ⟨x,hx,rfl⟩:=mem_map.mp hz;have:=h.w0 x hx;lia
theorem rE {p:Int->Prop}{xs ys:List Int}(h:∀z∈xs,p z):∀q∈xs.zip ys,p q.1:=λq hq=>h _ (List.of_mem_zip hq).1
noncomputable def tF (g:Int)(hs cs fs ws:List S3)(as bs:List Int)(L:Int):Int:=jU (gu hs) L - jU (eP g cs) L+iF ((lT fs).zip as) L - iF ((lQ g ws).zip bs) L
theorem tR (g:Int)(hs cs fs ws:List S3)(as bs:List Int)(L:Int):dP g hs cs fs ws as bs L=tF g hs cs fs ws as bs L+dP g hs cs fs ws as bs (L+1):=by
  have h1:=uv g hs cs L;have h2:=mh L ((lT fs).zip as);have h3:=mh L ((lQ g ws).zip bs);unfold dP tF;lia
theorem wg {g:Int}{hs cs fs ws:List S3}{as bs:List Int}(ok:eT g hs cs)(h:gM g fs ws):dP g hs cs fs ws as bs 250=0:=by
  have h1:=wR ok.g1 ok.EE ok.wF;have h2:fe ((lT fs).zip as) 250=0:=jy (rE λz hz=>(yp h z hz).2);have h3:fe ((lQ g ws).zip bs) 250=0:=jy (rE λz hz=>(zm ok.g0 h z hz).2);unfold dP;lia
theorem zc {g:Int}{hs cs fs ws:List S3}{as bs:List Int}(ok:eT g hs cs)(h:gM g fs ws):dP g hs cs fs ws as bs 251=0:=by
  have h1:fT g hs cs 251=0:=uu ok.g0 ok.EE ok.wF (by have:=ok.g1;lia);have h2:fe ((lT fs).zip as) 251=0:=jy (rE (p:=λz=>z<251) λz hz=>by have:=yp h z hz;lia);have h3:fe ((lQ g ws).zip bs) 251=0:=jy (rE (p:=λz=>z<251) λz hz=>by have:=zm ok.g0 h z hz;lia);unfold dP;lia
noncomputable def pO (W S Bu:D)(f:Nat->Int)(ρ:aH):Prop:=∃a4 a5 a6 a7 a8 a9 a10,ρ = [some (.p W),some (.p S),some (.p Bu),some (.o (.lst ((Rw f).map D.int))),a4,a5,a6,a7,a8,a9,a10]
theorem qh {W S Bu:D}{f f':Nat->Int}{a4 a5 a6 a7 a8 a9 a10:Option B}(h:∀i,i<251->f i=f' i):pO W S Bu f' [some (.p W),some (.p S),some (.p Bu),some (.o (.lst ((Rw f).map D.int))),a4,a5,a6,a7,a8,a9,a10]:=by
  rw[kW h];exact ⟨_,_,_,_,_,_,_,rfl⟩
theorem vv (fs:List S3)(as:List Int):(lT fs).zip as=(fs.zip as).map λp=>(p.1.1 - 1,p.2):=by unfold lT;rw[List.zip_map_left];rfl
theorem wm (g:Int)(ws:List S3)(bs:List Int):(lQ g ws).zip bs=(ws.zip bs).map λp=>(p.1.1+g,p.2):=by unfold lQ;rw[List.zip_map_left];rfl
noncomputable def C1 (bu:D)(as bs:List Int):Prop:=(∀Q,iq bu (.int 0) Q=Q (.p (dA as)))/\(∀Q,iq bu (.int 1) Q=Q (.p (dA bs)))
theorem BB (as bs:List Int):C1 (.tup [dA as,dA bs]) as bs:=⟨λQ=>by rw[nq,DC];simp,λQ=>by rw[nq,BL];simp⟩
noncomputable def jl:DR:=λds P=>∃g hs cs fs ws as bs bu,ds = [dW g hs cs,dS fs ws,bu]/\C1 bu as bs/\eT g hs cs/\gM g fs ws/\P (.o (.lst ((fW g hs cs fs ws as bs).map D.int)))
theorem pE (T:ka mg)(F:iT K "_law_spares" "_law_spares" eM f fd):bO P w K mg base gX 1 f fd ["works","shop","buying"] (bS K jl):=by
  refine lU F aK (λds Q h=>by obtain ⟨g,hs,cs,fs,ws,as,bs,bu,rfl,hb,ok,oi,q⟩:=h;rfl) λcdv A outer s H E hr=>⟨_,(ah (gR (i:=3) aK.nd rfl (Or.inl rfl) (ak dc (cW (aa ae af)) ae))
      (ah (nW (g:=(.t [4,5,6])) PassesOwn.never rfl (dY (ai (dv 0) ae)) (eR rfl (au (aq (i:=4) aK.nd rfl (Or.inl rfl)) (au (aq (i:=5) aK.nd rfl (Or.inl rfl)) (au (aq (i:=6) aK.nd rfl (Or.inl rfl)) cQ)))) (aj (dZ (g:=(.n 7)) PassesOwn.never rfl (su (by rfl) T.cP (aa (dv 5) (aa (dv 4) af))) (aq (i:=7) aK.nd rfl (Or.inl rfl)) (aj (iK ja (je (pv 3) (dv 7).pe h8 (dv 6).pe ja set_list))))))
      (ah (nW (g:=(.t [4,5,6])) PassesOwn.never rfl (dY (ai (dv 0) ae)) (eR rfl (au (aq (i:=4) aK.nd rfl (Or.inl rfl)) (au (aq (i:=5) aK.nd rfl (Or.inl rfl)) (au (aq (i:=6) aK.nd rfl (Or.inl rfl)) cQ)))) (aj (dZ (g:=(.n 7)) PassesOwn.never rfl (su (by rfl) T.cP (aa (dv 4) (aa (dv 5) af))) (aq (i:=7) aK.nd rfl (Or.inl rfl)) (aj (iK mq (je (pv 3) (ak az (dv 7) (ai (dv 0) ae)).pe h8 (dv 6).pe mq set_list))))))
      (ah (nW (g:=(.t [8,9])) PassesOwn.never rfl (jA (by rfl) T.kh (aa (ai (dv 1) ae) (aa (ai (dv 2) ae) af))) (eR rfl (au (aq (i:=8) aK.nd rfl (Or.inl rfl)) (au (aq (i:=9) aK.nd rfl (Or.inl rfl)) cQ))) (aj (iK ja (je (pv 3) (ak fi (ai (dv 8) ae) ae).pe h8 (dv 9).pe ja set_list))))
      (ah (nW (g:=(.t [8,9])) PassesOwn.never rfl (jA (by rfl) T.kh (aa (ai (dv 1) ae) (aa (ai (dv 2) ae) af))) (eR rfl (au (aq (i:=8) aK.nd rfl (Or.inl rfl)) (au (aq (i:=9) aK.nd rfl (Or.inl rfl)) cQ))) (aj (iK mq (je (pv 3) (ak az (ai (dv 8) ae) (ai (dv 0) ae)).pe h8 (dv 9).pe mq set_list))))
      (ah (dZ (g:=(.n 10)) PassesOwn.never rfl (wJ (by rfl) T.cP (by rfl) T.nG (aa ae af)) (aq (i:=10) aK.nd rfl (Or.inl rfl)) (aj (iK ja (je (pv 3) (dv 10).pe h8 (ai (dv 3) (ak az (dv 10) ae)).pe ja set_list))))
      (aj (vo 3)))))))),λds Q h=>?_⟩
  obtain ⟨g,hs,cs,fs,ws,as,bs,bu,rfl,hb,ok,oi,q⟩:=h;have hb0:=hb.1;have hb1:=hb.2;walk_at "rs";have e0:(List.replicate (251:Int).toNat [D.int 0]).flatten=(Rw λ_=>0).map D.int:=rfl;refine (show fR (.lst [.int 0]) (.int 251) _ from ⟨⟨by decide,by decide⟩,bV (by decide),?_⟩);rw[e0];repeat (first | dsimp only[dW] | walk_at "rs1" | walk_at "rsx")
  refine bR (λi ρ=>pO (dW g hs cs) (dS fs ws) bu (λL=>jU (gu (hs.take i)) L) ρ) ⟨none,none,none,none,none,none,none,rfl⟩ ?_ ?_
  · rintro i x ρ hx ⟨a4,a5,a6,a7,a8,a9,a10,rfl⟩;rw[getElem?_map] at hx;cases ec:hs[i]? with
    | none=>rw[ec] at hx;cases hx
    | some h =>
    rw[ec] at hx;cases hx;have ho:=ok.EE h (mem_of_getElem? ec);obtain ⟨o1,o2,o3,o4,o5⟩:=ho;repeat (first | dsimp only[d3] | walk_at "rs1" | walk_at "rsx")
    refine ⟨⟨by lia,by lia,by lia,by lia⟩,?_⟩;refine bR (λk ρ=>∃b7 b8 b9 b10,ρ = [some (.p (dW g hs cs)),some (.p (dS fs ws)),some (.p bu),some (.o (.lst ((Rw λL=>jU (gu (hs.take i)) L+(if h.2.1<=L/\(L:Int)<h.2.1+(k:Nat) then h.2.2 else 0)).map D.int))),some (.p (.int h.1)),some (.p (.int h.2.1)),some (.p (.int h.2.2)),b7,b8,b9,b10]) ⟨a7,a8,a9,a10,?_⟩ ?_ ?_
    · rw[kW (f:=λL=>jU (gu (hs.take i)) L+(if h.2.1<=L/\(L:Int)<h.2.1+((0:Nat):Int) then h.2.2 else 0)) (g:=λL=>jU (gu (hs.take i)) L) λL _=>by rw[if_neg (by lia),Int.add_zero]]
    · rintro k y ρ hy ⟨b7,b8,b9,b10,rfl⟩;obtain ⟨hk,rfl⟩:=bH hy;obtain ⟨j,ej⟩ : ∃j:Nat,h.2.1+(k:Nat)=(j:Nat):=⟨(h.2.1+(k:Nat)).toNat,by lia⟩
      have hj:j<251:=by lia
      walk_at "rs";refine ⟨j,_,rK _ hj ej,nA _ hj,?_⟩;rw[nB (f':=λL=>jU (gu (hs.take i)) L+(if h.2.1<=L/\(L:Int)<h.2.1+((k+1:Nat):Int) then h.2.2 else 0)) λL hL=>?_]
      · exact ⟨_,b8,b9,b10,rfl⟩
      by_cases z:L=j
      · subst z;rw[if_pos rfl,if_pos (by lia),if_neg (by lia)];lia
      · rw[if_neg z];by_cases z2:h.2.1<=L/\(L:Int)<h.2.1+(k:Nat)
        · rw[if_pos z2,if_pos (by lia)]
        · rw[if_neg z2,if_neg (by lia)]
    · rintro ρ ⟨b7,b8,b9,b10,rfl⟩;rw[bZ];have e1:gu (hs.take (i+1))=gu (hs.take i)++[(h.2.1,h.1,h.2.2)]:=by rw[take_snoc ec];unfold gu;rw[map_append];rfl
      refine qh λL _=>?_;rw[e1,uV];dsimp only;by_cases z:h.2.1<=(L:Int)/\(L:Int)<h.1
      · rw[if_pos z,if_pos (by lia)]
      · rw[if_neg z,if_neg (by lia)]
  rw[length_map];rintro ρ ⟨a4,a5,a6,a7,a8,a9,a10,rfl⟩;rw[List.take_length];repeat (first | dsimp only[dW] | walk_at "rs1" | walk_at "rsx")
  refine bR (λi ρ=>pO (dW g hs cs) (dS fs ws) bu (λL=>jU (gu hs) L - jU (eP g (cs.take i)) L) ρ) (qh λL _=>by rw[List.take_zero];show _=_ - (0:Int);lia) ?_ ?_
  · rintro i x ρ hx ⟨a4,a5,a6,a7,a8,a9,a10,rfl⟩;rw[getElem?_map] at hx;cases ec:cs[i]? with
    | none=>rw[ec] at hx;cases hx
    | some h =>
    rw[ec] at hx;cases hx;have ho:=ok.wF h (mem_of_getElem? ec);obtain ⟨o1,o2,o3,o4,o5⟩:=ho;have g0:=ok.g0;have g1:=ok.g1;repeat (first | dsimp only[d3] | walk_at "rs1" | walk_at "rsx")
    refine ⟨⟨by lia,by lia,by lia,by lia⟩,?_⟩;refine bR (λk ρ=>∃b7 b8 b9 b10,ρ = [some (.p (dW g hs cs)),some (.p (dS fs ws)),some (.p bu),some (.o (.lst ((Rw λL=>jU (gu hs) L - jU (eP g (cs.take i)) L - (if h.1+g<=L/\(L:Int)<h.1+g+(k:Nat) then h.2.2 else 0)).map D.int))),some (.p (.int h.1)),some (.p (.int h.2.1)),some (.p (.int h.2.2)),b7,b8,b9,b10]) ⟨a7,a8,a9,a10,?_⟩ ?_ ?_
    · rw[kW (f:=λL=>jU (gu hs) L - jU (eP g (cs.take i)) L - (if h.1+g<=L/\(L:Int)<h.1+g+((0:Nat):Int) then h.2.2 else 0)) (g:=λL=>jU (gu hs) L - jU (eP g (cs.take i)) L) λL _=>by rw[if_neg (by lia),Int.sub_zero]]
    · rintro k y ρ hy ⟨b7,b8,b9,b10,rfl⟩;obtain ⟨hk,rfl⟩:=bH hy;obtain ⟨j,ej⟩ : ∃j:Nat,h.1+(k:Nat)+g=(j:Nat):=⟨(h.1+(k:Nat)+g).toNat,by lia⟩
      have hj:j<251:=by lia
      repeat (first | dsimp only[dW] | walk_at "rs1" | walk_at "rsx")
      refine ⟨j,_,rK _ hj ej,nA _ hj,?_⟩;rw[nB (f':=λL=>jU (gu hs) L - jU (eP g (cs.take i)) L - (if h.1+g<=L/\(L:Int)<h.1+g+((k+1:Nat):Int) then h.2.2 else 0)) λL hL=>?_]
      · exact ⟨_,b8,b9,b10,rfl⟩
      by_cases z:L=j
      · subst z;rw[if_pos rfl,if_pos (by lia),if_neg (by lia)];lia
      · rw[if_neg z];by_cases z2:h.1+g<=L/\(L:Int)<h.1+g+(k:Nat)
        · rw[if_pos z2,if_pos (by lia)]
        · rw[if_neg z2,if_neg (by lia)]
    · rintro ρ ⟨b7,b8,b9,b10,rfl⟩;rw[bZ];have e1:eP g (cs.take (i+1))=eP g (cs.take i)++[(h.1+g,h.2.1+g,h.2.2)]:=by rw[take_snoc ec];unfold eP;rw[map_append];rfl
      refine qh λL _=>?_;rw[e1,uV];dsimp only;by_cases z:h.1+g<=(L:Int)/\(L:Int)<h.2.1+g
      · rw[if_pos z,if_pos (by lia)];lia
      · rw[if_neg z,if_neg (by lia)];lia
  rw[length_map];rintro ρ ⟨a4,a5,a6,a7,a8,a9,a10,rfl⟩;rw[List.take_length];repeat (first | dsimp only[dS,dA] | walk_at "rs1" | walk_at "rsx" | set_option simprocs false in simp only[hb0])
  rw[eX];refine bR (λi ρ=>pO (dW g hs cs) (dS fs ws) bu (λL=>jU (gu hs) L - jU (eP g cs) L+iF (((lT fs).zip as).take i) L) ρ) (qh λL _=>by rw[List.take_zero];show _=_+(0:Int);lia) ?_ ?_
  · rintro i x ρ hx ⟨a4,a5,a6,a7,a8,a9,a10,rfl⟩;rw[getElem?_map] at hx;cases ec:(fs.zip as)[i]? with
    | none=>rw[ec] at hx;cases hx
    | some h =>
    rw[ec] at hx;cases hx;have ho:=oi.f0 h.1 (List.of_mem_zip (mem_of_getElem? ec)).1;have ez:((lT fs).zip as)[i]?=some (h.1.1 - 1,h.2):=by rw[vv,getElem?_map,ec];rfl
    obtain ⟨j,ej⟩ : ∃j:Nat,h.1.1 - 1=(j:Nat):=⟨(h.1.1 - 1).toNat,by lia⟩
    have hj:j<251:=by lia
    repeat (first | dsimp only[dO] | walk_at "rs1" | walk_at "rsx")
    refine ⟨j,_,rK _ hj ej,nA _ hj,?_⟩;rw[nB (f':=λL=>jU (gu hs) L - jU (eP g cs) L+iF (((lT fs).zip as).take (i+1)) L) λL hL=>?_]
    · exact ⟨a4,a5,a6,a7,_,_,a10,rfl⟩
    rw[take_snoc ez,nF];dsimp only;by_cases z:L=j
    · subst z;rw[if_pos rfl,if_pos ej];lia
    · rw [if_neg z, if_neg (by lia)];lia
  rw[length_map];have el:(fs.zip as).length=((lT fs).zip as).length:=by rw[vv,length_map]
  rw[el];rintro ρ ⟨a4,a5,a6,a7,a8,a9,a10,rfl⟩;rw[List.take_length];repeat (first | dsimp only[dS,dA] | walk_at "rs1" | walk_at "rsx" | set_option simprocs false in simp only[hb1])
  rw[eX];refine bR (λi ρ=>pO (dW g hs cs) (dS fs ws) bu (λL=>jU (gu hs) L - jU (eP g cs) L+iF ((lT fs).zip as) L - iF (((lQ g ws).zip bs).take i) L) ρ) (qh λL _=>by rw[List.take_zero];show _=_ - (0:Int);lia) ?_ ?_
  · rintro i x ρ hx ⟨a4,a5,a6,a7,a8,a9,a10,rfl⟩;rw[getElem?_map] at hx;cases ec:(ws.zip bs)[i]? with
    | none=>rw[ec] at hx;cases hx
    | some h =>
    rw[ec] at hx;cases hx;have ho:=oi.w0 h.1 (List.of_mem_zip (mem_of_getElem? ec)).1;have g0:=ok.g0;have ez:((lQ g ws).zip bs)[i]?=some (h.1.1+g,h.2):=by rw[wm,getElem?_map,ec];rfl
    obtain ⟨j,ej⟩ : ∃j:Nat,h.1.1+g=(j:Nat):=⟨(h.1.1+g).toNat,by lia⟩
    have hj:j<251:=by lia
    repeat (first | dsimp only[dO,dW] | walk_at "rs1" | walk_at "rsx")
    refine ⟨j,_,rK _ hj ej,nA _ hj,?_⟩;rw[nB (f':=λL=>jU (gu hs) L - jU (eP g cs) L+iF ((lT fs).zip as) L - iF (((lQ g ws).zip bs).take (i+1)) L) λL hL=>?_]
    · exact ⟨a4,a5,a6,a7,_,_,a10,rfl⟩
    rw[take_snoc ez,nF];dsimp only;by_cases z:L=j
    · subst z;rw[if_pos rfl,if_pos ej];lia
    · rw [if_neg z, if_neg (by lia)];lia
  rw[length_map];have el2:(ws.zip bs).length=((lQ g ws).zip bs).length:=by rw[wm,length_map]
  rw[el2];rintro ρ ⟨a4,a5,a6,a7,a8,a9,a10,rfl⟩;rw[List.take_length];walk_at "rs";refine ⟨⟨by decide,by decide⟩,?_⟩;refine bR (λi ρ=>pO (dW g hs cs) (dS fs ws) bu (λL=>if 250 - i<=L then dP g hs cs fs ws as bs L else tF g hs cs fs ws as bs L) ρ) (qh λL hL=>?_) ?_ ?_
  · show tF g hs cs fs ws as bs L=_;by_cases z:250 - 0<=L
    · have : L = 250 := by lia
      subst this;rw[if_pos z];have h1:=tR g hs cs fs ws as bs 250;have h2:=zc (as:=as) (bs:=bs) ok oi;show tF g hs cs fs ws as bs 250=dP g hs cs fs ws as bs 250;have h3:dP g hs cs fs ws as bs (250+1)=0:=h2;lia
    · rw[if_neg z]
  · rintro i x ρ hx ⟨a4,a5,a6,a7,a8,a9,a10,rfl⟩;obtain ⟨hi,rfl⟩:=hX hx;have hi':i<250:=hi;obtain ⟨j,ej⟩ : ∃j:Nat,(250 - 1:Int)+(i:Nat)*(-1)=(j:Nat):=⟨249 - i,by lia⟩
    have hj:j<251:=by lia
    have hj1:j+1<251:=by lia
    have g1:fm ((Rw λL=>if 250 - i<=L then dP g hs cs fs ws as bs L else tF g hs cs fs ws as bs L).map D.int) (((250 - 1:Int)+(i:Nat)*(-1))+1)=some (.int (dP g hs cs fs ws as bs ((j:Int)+1))):=by
      rw[ej,show (j:Int)+1=((j+1:Nat):Int) by lia];refine (iz (uT _ hj1)).trans ?_;rw[if_pos (by lia)]
    repeat (first | walk_at "rs1" | walk_at "rsx" | set_option simprocs false in simp only[g1])
    refine ⟨j,_,rK _ hj ej,nA _ hj,?_⟩;rw[nB (f':=λL=>if 250 - (i+1)<=L then dP g hs cs fs ws as bs L else tF g hs cs fs ws as bs L) λL hL=>?_]
    · exact ⟨a4,a5,a6,a7,a8,a9,_,rfl⟩
    by_cases z:L=j
    · subst z;rw[if_pos rfl,if_pos (by lia),if_neg (by lia)];exact tR g hs cs fs ws as bs _
    · rw[if_neg z];by_cases z2:250 - i<=L
      · rw[if_pos z2,if_pos (by lia)]
      · rw[if_neg z2,if_neg (by lia)]
  rw[i5];rintro ρ ⟨a4,a5,a6,a7,a8,a9,a10,rfl⟩;have ef:Rw (λL=>if 250 - Int.toNat 250<=L then dP g hs cs fs ws as bs L else tF g hs cs fs ws as bs L)=fW g hs cs fs ws as bs:=by
    unfold Rw fW;exact map_congr_left λL _=>if_pos (by have:Int.toNat 250=250:=rfl;lia)
  rw[ef];walk_at "rs";exact q
noncomputable def ma (g:Int)(hs cs fs ws:List S3)(as bs:List Int):Prop:=(∀i:Nat,i<251->0<=dP g hs cs fs ws as bs (i:Nat))/\dP g hs cs fs ws as bs 0=0
noncomputable def mI:DR:=λds P=>∃g hs cs fs ws as bs,ds = [dW g hs cs,dS fs ws,.tup [dA as,dA bs]]/\eT g hs cs/\fs.length<=900/\ws.length<=900/\∀c:Bool,(c=true↔ma g hs cs fs ws as bs)->P (.p (.bl c))
theorem uD (T:ka mg)(F_surpluses_above:Fn P w K mg base "surpluses_above" 4 ["works","shop","buying"] (bS K cB))(F:iT K "will_do" "will_do" g7 f fd):bO P w K mg base gX 5 f fd ["works","shop","buying"] (bS K mI):=by
  refine lU F oI (λds Q h=>by obtain ⟨g,hs,cs,fs,ws,as,bs,rfl,ok,nf,nw,q⟩:=h;rfl) λcdv A outer s H E hr=>⟨_,(ah (aw (i:=3) oI.nd rfl (Or.inl rfl) (ay F_surpluses_above (hr.mono (by decide)) (by rfl) (aa (dv 0) (aa (dv 1) (aa (dv 2) af)))))
      (aj (aL (nM (iZ vP (ax (u5 rfl) (by rfl) T.uW boot_min (aa (dv 3) af)) ae (aT _)) (qL (iZ oq (ai (dv 3) ae) ae (aT _))))))),λds Q h=>?_⟩
  obtain ⟨g,hs,cs,fs,ws,as,bs,rfl,ok,nf,nw,q⟩:=h;walk_at "rs";refine ⟨g,hs,cs,fs,ws,as,bs,rfl,ok,nf,nw,?_⟩;walk_at "rs";refine ⟨fW g hs cs fs ws as bs,rfl,λz=>by have:=congrArg List.length z;unfold fW at this;simp at this,λm hm hle=>?_⟩;have g0:fm ((fW g hs cs fs ws as bs).map D.int) 0=some (.int (dP g hs cs fs ws as bs 0)):=oQ (i:=0) (by decide);have mem:∀i:Nat,i<251->dP g hs cs fs ws as bs (i:Nat)∈fW g hs cs fs ws as bs:=λi hi=>mem_map.mpr ⟨i,mem_range.mpr hi,rfl⟩;repeat (first | walk_at "rs1" | walk_at "rsx" | set_option simprocs false in simp only[g0])
  refine ⟨λz=>q _ ?_,λz=>q _ ?_⟩
  · have hz:=of_decide_eq_true z;refine ⟨λw=>⟨λi hi=>Int.le_trans hz (hle _ (mem i hi)),of_decide_eq_true w⟩,λw=>decide_eq_true w.2⟩
  · have hz:=of_decide_eq_false z;refine ⟨λw=>(nomatch w),λw=>absurd ?_ hz⟩;obtain ⟨i,hi,e⟩:=mem_map.mp hm;rw[<-e];exact w.1 i (mem_range.mp hi)
noncomputable def nv:DR:=λds P=>∃os:List S3,ds = [.lst (os.map dO)]/\os.length<=900/\P (.o (.lst ((os.map λx=>x.2.2).map D.int)))
theorem yR (T:ka mg)(F:iT K "mosts" "mosts" jq f fd):bO P w K mg base gX 1 f fd ["offers"] (bS K nv):=by
  refine lU F y9 (λds Q h=>by obtain ⟨os,rfl,n,q⟩:=h;rfl) λcdv A outer s H E hr=>⟨_,(aj (aL (ju (g:=(.n 0)) (tc:=aU) (te:=(fL iq (aO 0) (dC _))) (sc0:=ag jq) (N0:=["offers"]) ["offer"] [none] rfl (dY (dv 0)) (λ_ _ _ _ _=>(aq (i:=0) (show (["offer"]:List Str).Nodup by decide +kernel) rfl (Or.inl rfl))) (λ_ _ _ _ _=>bQ) (λ_ _ _ _ _=>(ai (dv 0) ae))))),λds Q h=>?_⟩
  obtain ⟨os,rfl,n,q⟩:=h;walk_at "rs";refine eZ (λd=>match d with | .tup [_,_,c]=>c | d=>d) (λx=>.int x.2.2) (λ_ _=>rfl) (by lia) (λx hx=>?_) ?_
  · repeat (first | dsimp only[dO] | walk_at "rs1" | walk_at "rsx")
  rw[map_map] at q;exact q
noncomputable def j7:DR:=λds P=>∃os:List S3,ds = [.lst (os.map dO)]/\os.length<=900/\P (.o (.lst ((os.map λ_=>(0:Int)).map D.int)))
theorem uC (T:ka mg)(F:iT K "nothing" "nothing" gB f fd):bO P w K mg base gX 1 f fd ["offers"] (bS K j7):=by
  refine lU F uL (λds Q h=>by obtain ⟨os,rfl,n,q⟩:=h;rfl) λcdv A outer s H E hr=>⟨_,(aj (aL (ju (g:=(.n 0)) (tc:=aU) (te:=(dC _)) (sc0:=ag gB) (N0:=["offers"]) ["offer"] [none] rfl (dY (dv 0)) (λ_ _ _ _ _=>(aq (i:=0) (show (["offer"]:List Str).Nodup by decide +kernel) rfl (Or.inl rfl))) (λ_ _ _ _ _=>bQ) (λ_ _ _ _ _=>ae)))),λds Q h=>?_⟩
  obtain ⟨os,rfl,n,q⟩:=h;walk_at "rs";refine eZ (λ_=>.int 0) (λ_=>.int 0) (λ_ _=>rfl) (by lia) (λx hx=>rfl) ?_;rw[map_map] at q;exact q
noncomputable def cN (os:List S3):List Int:=os.map λx=>x.2.2
noncomputable def eh (os:List S3):List Int:=os.map λ_=>(0:Int)
noncomputable def warmF (g:Int)(hs cs fs ws:List S3)(L:Int):Int:=dP g hs cs fs ws (cN fs) (eh ws) L
noncomputable def d9 (g:Int)(hs cs fs ws:List S3)(L:Int):Int:=dP g hs cs fs ws (eh fs) (cN ws) L
noncomputable def iu (g:Int)(hs cs fs ws:List S3)(d:D):Prop:=
  (d=.non/\∀i:Nat,i<251->0<=warmF g hs cs fs ws (i:Nat)/\d9 g hs cs fs ws 0<=d9 g hs cs fs ws (i:Nat)) \/
  (∃i:Nat,i<251/\(∀j:Nat,j<i->0<=warmF g hs cs fs ws (j:Nat)/\d9 g hs cs fs ws 0<=d9 g hs cs fs ws (j:Nat))/\((d=.tup [.str "heat",.int (i:Nat)]/\warmF g hs cs fs ws (i:Nat)<0)\/(d=.tup [.str "cold",.int (i:Nat)]/\0<=warmF g hs cs fs ws (i:Nat)/\d9 g hs cs fs ws (i:Nat)<d9 g hs cs fs ws 0)))
noncomputable def kN:DR:=λds P=>∃g hs cs fs ws,ds = [dW g hs cs,dS fs ws]/\eT g hs cs/\fs.length<=900/\ws.length<=900/\∀d,iu g hs cs fs ws d->P (.p d)
theorem sX (T:ka mg)(F_surpluses_above:Fn P w K mg base "surpluses_above" 4 ["works","shop","buying"] (bS K cB))(F_mosts:Fn P w K mg base "mosts" 1 ["offers"] (bS K nv))(F_nothing:Fn P w K mg base "nothing" 1 ["offers"] (bS K j7))(F:iT K "shortage" "shortage" gC f fd):bO P w K mg base gX 5 f fd ["works","shop"] (bS K kN):=by
  refine lU F iw (λds Q h=>by obtain ⟨g,hs,cs,fs,ws,rfl,ok,nf,nw,q⟩:=h;rfl) λcdv A outer s H E hr=>⟨_,(ah (aw (i:=2) iw.nd rfl (Or.inl rfl) (ay F_surpluses_above (hr.mono (by decide)) (by rfl) (aa (dv 0) (aa (dv 1) (aa (cD (aa (ay F_mosts (hr.mono (by decide)) (by rfl) (aa (ai (dv 1) ae) af)) (aa (ay F_nothing (hr.mono (by decide)) (by rfl) (aa (ai (dv 1) ae) af)) af))) af)))))
      (ah (aw (i:=3) iw.nd rfl (Or.inl rfl) (ay F_surpluses_above (hr.mono (by decide)) (by rfl) (aa (dv 0) (aa (dv 1) (aa (cD (aa (ay F_nothing (hr.mono (by decide)) (by rfl) (aa (ai (dv 1) ae) af)) (aa (ay F_mosts (hr.mono (by decide)) (by rfl) (aa (ai (dv 1) ae) af)) af))) af)))))
      (ah (dZ (g:=(.n 4)) PassesOwn.never rfl (eV (by rfl) T.cP (aa (ak az (sq (by rfl) T.jD) ae) af)) (aq (i:=4) iw.nd rfl (Or.inl rfl)) (ah (fq (bJ yQ (ai (dv 2) (dv 4)) ae (aT _)) (aj (aL (cD (aa ml (aa (dv 4) af))))) bL)
      (aj (fq (bJ vQ (ai (dv 3) ae) (ai (dv 3) (dv 4)) (aT _)) (aj (aL (cD (aa ml (aa (dv 4) af))))) bL))))
      (aj (aL qK))))),λds Q h=>?_⟩
  obtain ⟨g,hs,cs,fs,ws,rfl,ok,nf,nw,q⟩:=h;repeat (first | dsimp only[dS] | walk_at "rs1" | walk_at "rsx")
  refine ⟨fs,rfl,nf,?_⟩;walk_at "rs";refine ⟨ws,rfl,nw,?_⟩;walk_at "rs";refine ⟨g,hs,cs,fs,ws,cN fs,eh ws,rfl,ok,nf,nw,?_⟩;walk_at "rs";refine ⟨fs,rfl,nf,?_⟩;walk_at "rs";refine ⟨ws,rfl,nw,?_⟩;walk_at "rs";refine ⟨g,hs,cs,fs,ws,eh fs,cN ws,rfl,ok,nf,nw,?_⟩;walk_at "rs";refine ⟨⟨by decide,by decide⟩,?_⟩;refine bR (λi ρ=>∃a4,ρ = [some (B.p (dW g hs cs)),some (B.p (D.tup [D.lst (fs.map dO),D.lst (ws.map dO)])),some (B.p (D.lst ((fW g hs cs fs ws (cN fs) (eh ws)).map D.int))),some (B.p (D.lst ((fW g hs cs fs ws (eh fs) (cN ws)).map D.int))),a4]/\∀j:Nat,j<i->0<=warmF g hs cs fs ws (j:Nat)/\d9 g hs cs fs ws 0<=d9 g hs cs fs ws (j:Nat)) ⟨none,rfl,λj hj=>by lia⟩ ?_ ?_
  · rintro i x ρ hx ⟨a4,rfl,hall⟩;obtain ⟨hi,rfl⟩:=bH hx;have hi':i<251:=hi;rw[Int.zero_add] at *;have g1:=oQ (g:=g) (hs:=hs) (cs:=cs) (fs:=fs) (ws:=ws) (as:=cN fs) (bs:=eh ws) hi';have g2:=oQ (g:=g) (hs:=hs) (cs:=cs) (fs:=fs) (ws:=ws) (as:=eh fs) (bs:=cN ws) hi';have g0:fm ((fW g hs cs fs ws (eh fs) (cN ws)).map D.int) 0=some (.int (dP g hs cs fs ws (eh fs) (cN ws) 0)):=oQ (i:=0) (by decide);repeat (first | walk_at "rs1" | walk_at "rsx" | set_option simprocs false in simp only[g1,g2,g0])
    refine ⟨λz=>q _ (.inr ⟨i,hi',hall,.inl ⟨rfl,of_decide_eq_true z⟩⟩),λz1=>⟨λz=>q _ (.inr ⟨i,hi',hall,.inr ⟨rfl,Int.not_lt.mp (of_decide_eq_false z1),of_decide_eq_true z⟩⟩),λz2=>⟨_,rfl,λj hj=>?_⟩⟩⟩;rcases Nat.lt_succ_iff_lt_or_eq.mp hj with w | w
    · exact hall j w
    · subst w;have:=of_decide_eq_false z1;have:=of_decide_eq_false z2;unfold warmF d9;lia
  · rintro ρ ⟨a4,rfl,hall⟩;rw[bZ] at hall;walk_at "rs";exact q _ (.inl ⟨rfl,hall⟩)
theorem kP {g:Int}{hs cs fs ws:List S3}{d e:D}(h:iu g hs cs fs ws d)(h':iu g hs cs fs ws e):d=e:=by
  have two:∀{i j:Nat} {d e:D},(∀j:Nat,j<i->0<=warmF g hs cs fs ws (j:Nat)/\d9 g hs cs fs ws 0<=d9 g hs cs fs ws (j:Nat))->((e=.tup [.str "heat",.int (j:Nat)]/\warmF g hs cs fs ws (j:Nat)<0)\/(e=.tup [.str "cold",.int (j:Nat)]/\0<=warmF g hs cs fs ws (j:Nat)/\d9 g hs cs fs ws (j:Nat)<d9 g hs cs fs ws 0))->i<=j:=λ{i j d e} a b=>by
    rcases Nat.lt_or_ge j i with z | z
    · have:=a j z;rcases b with ⟨_,b⟩ | ⟨_,_,b⟩<;>lia
    · exact z
  rcases h with ⟨rfl,h⟩ | ⟨i,hi,ha,hb⟩<;>rcases h' with ⟨rfl,h'⟩ | ⟨j,hj,ha',hb'⟩
  · rfl
  · have:=h j hj;rcases hb' with ⟨_,b⟩ | ⟨_,_,b⟩<;>lia
  · have:=h' i hi;rcases hb with ⟨_,b⟩ | ⟨_,_,b⟩<;>lia
  · have e1:=two (d:=d) ha hb';have e2:=two (d:=e) ha' hb;have:i=j:=by lia
    subst this;rcases hb with ⟨rfl,b⟩ | ⟨rfl,b0,b⟩<;>rcases hb' with ⟨rfl,b'⟩ | ⟨rfl,b0',b'⟩
    · rfl
    · lia
    · lia
    · rfl
noncomputable def dj (g:Int)(fs ws:List S3):List S3:=fs.map (λx=>(x.1 - 1,x.2.1,x.2.2))++ws.map (λx=>(x.1+g,-x.2.1,x.2.2))
theorem oX {α β:Type}(f:α->β):∀l:List α,(l.map f).zip l=l.map λx=>(f x,x)
  | []=>rfl
  | x::l=>by rw[map_cons,List.zip_cons_cons,map_cons,oX f l]
noncomputable def mH:DR:=λds P=>∃g hs cs fs ws,ds = [dW g hs cs,dS fs ws]/\fs.length<=6/\ws.length<=6/\P (.o (.lst ((dj g fs ws).map dO)))
theorem uB (T:ka mg)(F_fire_levels:Fn P w K mg base "fire_levels" 1 ["shop"] (bS K gF))(F_water_levels:Fn P w K mg base "water_levels" 1 ["works","shop"] (bS K fU))(F:iT K "lots_of" "lots_of" fz f fd):bO P w K mg base gX 2 f fd ["works","shop"] (bS K mH):=by
  refine lU F kO (λds Q h=>by obtain ⟨g,hs,cs,fs,ws,rfl,nf,nw,q⟩:=h;rfl) λcdv A outer s H E hr=>⟨_,(ah (iL (i:=2) kO.nd rfl (Or.inl rfl) (g:=(.t [0,1])) (tc:=aU) (te:=(eU (aN (aO 0) (aN (fL iq (aO 1) (dC _)) (aN (fL iq (aO 1) (dC _)) dX))))) (sc0:=ag fz) (N0:=["works","shop","fires","waters"]) ["level","offer"] [none,none] rfl (jA (by rfl) T.kh (aa (ay F_fire_levels (hr.mono (by decide)) (by rfl) (aa (dv 1) af)) (aa (ai (dv 1) ae) af))) (λ_ _ _ _ _=>(eR rfl (au (aq (i:=0) (show (["level","offer"]:List Str).Nodup by decide +kernel) rfl (Or.inl rfl)) (au (aq (i:=1) (show (["level","offer"]:List Str).Nodup by decide +kernel) rfl (Or.inl rfl)) cQ)))) (λ_ _ _ _ _=>bQ) (λ_ _ _ _ _=>(cD (aa (dv 0) (aa (ai (dv 1) ae) (aa (ai (dv 1) ae) af))))))
      (ah (iL (i:=3) kO.nd rfl (Or.inl rfl) (g:=(.t [0,1])) (tc:=aU) (te:=(eU (aN (aO 0) (aN (lu fJ (fL iq (aO 1) (dC _))) (aN (fL iq (aO 1) (dC _)) dX))))) (sc0:=ag fz) (N0:=["works","shop","fires","waters"]) ["level","offer"] [none,none] rfl (jA (by rfl) T.kh (aa (ay F_water_levels (hr.mono (by decide)) (by rfl) (aa (dv 0) (aa (dv 1) af))) (aa (ai (dv 1) ae) af))) (λ_ _ _ _ _=>(eR rfl (au (aq (i:=0) (show (["level","offer"]:List Str).Nodup by decide +kernel) rfl (Or.inl rfl)) (au (aq (i:=1) (show (["level","offer"]:List Str).Nodup by decide +kernel) rfl (Or.inl rfl)) cQ)))) (λ_ _ _ _ _=>bQ) (λ_ _ _ _ _=>(cD (aa (dv 0) (aa (mj (ai (dv 1) ae)) (aa (ai (dv 1) ae) af))))))
      (aj (aL (ak az (dv 2) (dv 3)))))),λds Q h=>?_⟩
  obtain ⟨g,hs,cs,fs,ws,rfl,nf,nw,q⟩:=h;walk_at "rs";refine ⟨fs,ws,rfl,by lia,?_⟩;repeat (first | dsimp only[dS] | walk_at "rs1" | walk_at "rsx")
  rw[eX,show (lT fs).zip fs=fs.map λx=>(x.1 - 1,x) from oX _ _,map_map];refine eZ (λd=>match d with | .tup [a,.tup [_,b,c]]=>.tup [a,b,c] | d=>d) (λx=>dO (x.1 - 1,x.2.1,x.2.2)) (λ_ _=>rfl) (by lia) (λx hx=>?_) ?_
  · repeat (first | dsimp only[dO,Function.comp] | walk_at "rs1" | walk_at "rsx")
  walk_at "rs";refine ⟨g,hs,cs,fs,ws,rfl,by lia,?_⟩;walk_at "rs";rw[eX,show (lQ g ws).zip ws=ws.map λx=>(x.1+g,x) from oX _ _,map_map];refine eZ (λd=>match d with | .tup [a,.tup [_,.int b,c]]=>.tup [a,.int (-b),c] | d=>d) (λx=>dO (x.1+g,-x.2.1,x.2.2)) (λ_ _=>rfl) (by lia) (λx hx=>?_) ?_
  · repeat (first | dsimp only[dO,Function.comp] | walk_at "rs1" | walk_at "rsx")
  walk_at "rs";refine ⟨by rw[length_map,length_map];exact bV (by lia),?_⟩;unfold dj at q;rw[map_append,map_map,map_map] at q;exact q
noncomputable def kn (ws:List S3)(hs:List Int):List Int:=(ws.zip hs).map λp=>p.1.2.2 - p.2
noncomputable def jJ:DR:=λds P=>∃fs ws dr,ds = [dS fs ws,dA dr]/\ws.length<=6/\P (.n .tup [dA (dr.take fs.length),dA (kn ws (dr.drop fs.length))])
theorem qZ (T:ka mg)(F:iT K "buying_of" "buying_of" eA f fd):bO P w K mg base gX 1 f fd ["shop","drawn"] (bS K jJ):=by
  refine lU F jr (λds Q h=>by obtain ⟨fs,ws,dr,rfl,nw,q⟩:=h;rfl) λcdv A outer s H E hr=>⟨_,(ah (aw (i:=2) jr.nd rfl (Or.inl rfl) (ax eQ (by rfl) T.gW PySem.boot_len (aa (ai (dv 0) ae) af)))
      (ah (sy (i:=3) jr.nd rfl (Or.inl rfl) (g:=(.t [0,1])) (tc:=aU) (te:=(fL _ (fL iq (aO 0) (dC _)) (aO 1))) (sc0:=ag eA) (N0:=["shop","drawn","count","waters"]) ["offer","heat"] [none,none] rfl (jA (by rfl) T.kh (aa (ai (dv 0) ae) (aa (lA (dv 1) (bh (dv 2)) nr) af))) (λ_ _ _ _ _=>(eR rfl (au (aq (i:=0) (show (["offer","heat"]:List Str).Nodup by decide +kernel) rfl (Or.inl rfl)) (au (aq (i:=1) (show (["offer","heat"]:List Str).Nodup by decide +kernel) rfl (Or.inl rfl)) cQ)))) (λ_ _ _ _ _=>bQ) (λ_ _ _ _ _=>(ak fi (ai (dv 0) ae) (dv 1))))
      (aj (yj (j:=3) (lA (dv 1) nr (bh (dv 2))) rfl (by walk_at "v"))))),λds Q h=>?_⟩
  obtain ⟨fs,ws,dr,rfl,nw,q⟩:=h;repeat (first | dsimp only[dS,dA] | walk_at "rs1" | walk_at "rsx")
  have e1:gY (dr.map D.int) (some ((fs.map dO).length:Nat)) none=(dr.drop fs.length).map D.int:=by rw[xS,length_map,map_drop]
  have e2:gY (dr.map D.int) none (some ((fs.map dO).length:Nat))=(dr.take fs.length).map D.int:=by rw[ud,length_map,map_take]
  rw[e1,eX];refine eZ (λd=>match d with | .tup [.tup [_,_,.int c],.int h]=>.int (c - h) | d=>d) (λp=>.int (p.1.2.2 - p.2)) (λ_ _=>rfl) (by rw[List.length_zip];lia) (λx hx=>?_) ?_
  · repeat (first | dsimp only[dO] | walk_at "rs1" | walk_at "rsx")
  walk_at "rs";refine ⟨_,_,rfl,rfl,?_⟩;rw[e2];have em:(ws.zip (dr.drop fs.length)).map (λp=>D.int (p.1.2.2 - p.2))=(kn ws (dr.drop fs.length)).map D.int:=by unfold kn;rw[map_map];rfl
  rw[em];exact q
theorem uk {α β:Type}(f:α->β->α)(a:α){l:List β}{i:Nat}{x:β}(h:l[i]?=some x):(l.take (i+1)).foldl f a=f ((l.take i).foldl f a) x:=by
  rw[take_snoc h,List.foldl_append];rfl
noncomputable def kM:DR:=λds P=>∃(lots:List S3) (S:List Int),ds = [.lst (lots.map dO),.lst (S.map D.int)]/\lots.length<=12/\S.length=251/\∀ord:List Int,ord.Perm ((List.range lots.length).map Int.ofNat)->KeyOrd (lots.map λx=>x.2.1) ord->P (.o (.lst ((nU lots S ord).map D.int)))
theorem sT (kb:K.In base)(hBl:bp mg base)(T:ka mg)(F:Bn K "drawn_of" "drawn_of" eB f fd Pt):bO P w K mg base gX 1 f fd ["lots","surpluses"] (kQ K Pt xC kM):=by
  refine Fj F cC (λds Q h=>by obtain ⟨lots,S,rfl,nl,ns,q⟩:=h;rfl) λcdv A outer s H E hr hT hC=>⟨_,(ah (sy (i:=2) cC.nd rfl (Or.inl rfl) (g:=(.n 0)) (tc:=aU) (te:=(dC _)) (sc0:=ag eB) (N0:=["lots","surpluses","drawn","by_price","level","need","number","lot","heat"]) ["lot"] [none] rfl (dY (dv 0)) (λ_ _ _ _ _=>(aq (i:=0) (show (["lot"]:List Str).Nodup by decide +kernel) rfl (Or.inl rfl))) (λ_ _ _ _ _=>bQ) (λ_ _ _ _ _=>ae))
      (ah (aw (i:=3) cC.nd rfl (Or.inl rfl) (yb (i:=0) (x:="place") (y:="lots") (by rfl) T.xM (by rfl) T.cP rfl (hr.mono (by decide)) rfl hC kb hBl hT rfl rfl rfl rfl rfl (λ_ _ _ _ _=>rfl) rfl rfl rfl (by decide) rfl rfl (by decide) (by decide) (by decide) (aa (ax eQ (by rfl) T.gW PySem.boot_len (aa (dv 0) af)) af)))
      (ah (dZ (g:=(.n 4)) PassesOwn.never rfl (sx (by rfl) T.cP (aa (ak fi (sq (by rfl) T.jD) ae) (aa (mj ae) (aa (mj ae) af)))) (aq (i:=4) cC.nd rfl (Or.inl rfl)) (ah (vp (i:=5) cC.nd rfl (Or.inl rfl) (ak fi (mj (ai (dv 1) (dv 4))) (ax (gN rfl) (by rfl) T.jt boot_sum (aa (dv 2) af))))
      (aj (nW (g:=(.n 6)) PassesOwn.never rfl (dY (dv 3)) (aq (i:=6) cC.nd rfl (Or.inl rfl)) (ah (aw (i:=7) cC.nd rfl (Or.inl rfl) (ai (dv 0) (dv 6)))
      (aj (fq (DW.dt (yk (bJ vQ (dv 5) ae (aT _)) (vt (bJ vP (ai (dv 7) ae) (dv 4) (aT _))))) (ah (vp (i:=8) cC.nd rfl (Or.inl rfl) (ax (zJ rfl) (by rfl) T.uW boot_min (aa (dv 5) (aa (ak fi (ai (dv 7) ae) (ai (dv 2) (dv 6))) af))))
      (ah (iK ja (je (pv 2) (dv 6).pe h8 (dv 8).pe ja set_list))
      (aj (BI (i:=5) cC.nd rfl (Or.inl rfl) (dv 8) mq)))) bL)))))))
      (aj (vo 2))))),λds Q h=>?_⟩
  obtain ⟨lots,S,rfl,nl,ns,q⟩:=h;walk_at "rs";refine eZ (λ_=>.int 0) (λ_=>.int 0) (λ_ _=>rfl) (by lia) (λx hx=>rfl) ?_;have ez:lots.map (λ_=>D.int 0)=(lots.map λ_=>(0:Int)).map D.int:=by rw[map_map];rfl
  rw[ez];walk_at "rs";refine ⟨_,lots.map λx=>x.2.1,rfl,by rw[length_map,length_map],by rw[length_map];lia,λm k hk=>?_,λord hp ho=>?_⟩
  · rw[getElem?_map] at hk;cases ec:lots[m]? with
    | none=>rw[ec] at hk;cases hk
    | some x =>
    rw[ec] at hk;cases hk;refine ⟨_,by rw[getElem?_map,ec];rfl,?_⟩;exact BL _ _ _
  rw[length_map] at hp;have hord:∀n∈ord,∃m:Nat,n=(m:Nat)/\m<lots.length:=λn hn=>by
    obtain ⟨m,hm,e⟩:=mem_map.mp (hp.mem_iff.mp hn);exact ⟨m,e.symm,mem_range.mp hm⟩
  refine ⟨trivial,⟨by decide,by decide,by decide,by decide⟩,?_⟩;refine bR (λi ρ=>∃a4 a5 a6 a7 a8,ρ = [some (B.p (D.lst (lots.map dO))),some (B.p (D.lst (S.map D.int))),some (B.o (D.lst (((List.range i).foldl (eF lots S ord) (lots.map λ_=>0)).map D.int))),some (B.p (D.lst (ord.map D.int))),a4,a5,a6,a7,a8]) ⟨none,none,none,none,none,rfl⟩ ?_ ?_
  · rintro i x ρ hx ⟨a4,a5,a6,a7,a8,rfl⟩;obtain ⟨hi,rfl⟩:=hX hx;have hi':i<250:=hi;have ej:(250 - 1:Int)+(i:Nat)*(-1)=((249 - i:Nat):Int):=by lia
    have ej2:((249 - i:Nat):Int)=249 - (i:Nat):=by lia
    have hSl:249 - i<S.length:=by lia
    have es:S[249 - i]?=some (S.getD (249 - i) 0):=by rw[getD_eq_getElem?_getD,getElem?_eq_getElem hSl];rfl
    have g1:fm (S.map D.int) ((250 - 1:Int)+(i:Nat)*(-1))=some (.int (S.getD (249 - i) 0)):=by rw[ej];exact iz es
    have hlen:=kG lots S ord (List.range i) (lots.map λ_=>0);rw[length_map] at hlen;rw[iN];generalize (List.range i).foldl (eF lots S ord) (lots.map λ_=>0)=d at hlen ⊢;repeat (first | walk_at "rs1" | walk_at "rsx" | set_option simprocs false in simp only[g1])
    refine eY ?_;walk_at "rs";unfold eF;rw[ej,ej2];generalize hneed : -(S.getD (249 - i) 0) - d.sum=need;refine ⟨rfl,bR (λk ρ=>∃a6 a7 a8,ρ = [some (B.p (D.lst (lots.map dO))),some (B.p (D.lst (S.map D.int))),some (B.o (D.lst ((((ord.take k).foldl (bq lots (249 - (i:Nat))) (d,need)).1).map D.int))),some (B.p (D.lst (ord.map D.int))),some (B.p (D.int (249 - (i:Nat)))),some (B.p (D.int (((ord.take k).foldl (bq lots (249 - (i:Nat))) (d,need)).2))),a6,a7,a8]) ⟨a6,a7,a8,rfl⟩ ?_ ?_⟩
    · rintro k y ρ hy ⟨b6,b7,b8,rfl⟩;rw[getElem?_map] at hy;cases ec:ord[k]? with
      | none=>rw[ec] at hy;cases hy
      | some n =>
      rw[ec] at hy;cases hy;obtain ⟨m,rfl,hm⟩:=hord n (mem_of_getElem? ec);rw[uk _ _ ec];have hl2:=i6 lots (249 - (i:Nat)) (ord.take k) (d,need);generalize (ord.take k).foldl (bq lots (249 - (i:Nat))) (d,need)=st at hl2 ⊢;obtain ⟨e,nd⟩:=st;have hl3:e.length=lots.length:=hl2.trans hlen;have em:lots[m]?=some (lots.getD m (0,0,0)):=by rw[getD_eq_getElem?_getD,getElem?_eq_getElem hm];rfl
      have ee:e[m]?=some (e.getD m 0):=by rw[getD_eq_getElem?_getD,getElem?_eq_getElem (by lia)];rfl
      have g2:fm (lots.map dO) ((m:Nat):Int)=some (dO (lots.getD m (0,0,0))):=iz em;have g3:fm (e.map D.int) ((m:Nat):Int)=some (.int (e.getD m 0)):=iz ee;unfold bq;rw[Int.toNat_natCast];dsimp only;generalize lots.getD m (0,0,0)=lot at g2 ⊢;repeat (first | dsimp only[dO] | walk_at "rs1" | walk_at "rsx" | set_option simprocs false in simp only[g2])
      refine ⟨λz1=>⟨λz2=>?_,λz2=>?_⟩,λz1=>?_⟩
      · have w1:=of_decide_eq_true z1;have w2:=of_decide_eq_true z2;repeat (first | walk_at "rs1" | walk_at "rsx" | set_option simprocs false in simp only[g3])
        have emin:(if lot.2.2 - e.getD m 0<nd then lot.2.2 - e.getD m 0 else nd)=min nd (lot.2.2 - e.getD m 0):=by
          by_cases z:lot.2.2 - e.getD m 0<nd
          · rw[if_pos z];lia
          · rw[if_neg z];lia
        rw[emin,if_pos ⟨w1,w2⟩];refine ⟨rfl,m,_,?_,by rw[getElem?_map,ee];rfl,?_⟩
        · rw[length_map];unfold qf;rw[if_pos (by lia),if_pos (by lia)];simp
        rw[<-map_set];exact ⟨_,_,_,rfl⟩
      · have w2:=of_decide_eq_false z2;rw[if_neg λz=>w2 z.2];exact ⟨_,_,b8,rfl⟩
      · have w1:=of_decide_eq_false z1;rw[if_neg λz=>w1 z.1];exact ⟨λz=>(nomatch z),λ_=>⟨_,_,b8,rfl⟩⟩
    · rintro ρ ⟨b6,b7,b8,rfl⟩;rw[length_map,List.take_length];exact ⟨_,_,_,_,_,rfl⟩
  · rintro ρ ⟨a4,a5,a6,a7,a8,rfl⟩;rw[i5];walk_at "rs";exact q ord hp ho
noncomputable def uQ (ns:List Int)(m:Int):Prop:=m∈ns/\∀z∈ns,z<=m
noncomputable def iV (lots:List S3)(l:Int):Prop:=(lots = []->l=0)/\(lots≠[]->(∃x∈lots,x.2.1=l)/\∀x∈lots,l<=x.2.1)
noncomputable def jv (S:List Int):Nat->Int
  | 0=>250
  | k+1=>if S.getD (250 - k) 0=0 then 249 - (k:Nat) else jv S k
noncomputable def cR (lots:List S3)(dr:List Int)(h:Int):List Int:=(lots.zip dr).filterMap λp=>if 0<p.2/\p.1.1<=h then some p.1.2.1 else none
noncomputable def ck (lots:List S3)(dr S:List Int)(l:Int)(W:List Int):Prop:=∀(k:Nat) (w:Int),W[k]?=some w->uQ (l::cR lots dr (jv S (k+1))) w
theorem wV {lots:List S3}{m:Int}(h:(lots.map λx=>x.2.1) = []/\m=0\/m∈(lots.map λx=>x.2.1)/\∀z∈lots.map (λx=>x.2.1),m<=z):iV lots m:=by
  rcases h with ⟨h1,h2⟩ | ⟨h1,h2⟩
  · exact ⟨λ_=>h2,λz=>absurd (List.map_eq_nil_iff.mp h1) z⟩
  · obtain ⟨x,hx,e⟩:=mem_map.mp h1;refine ⟨λz=>?_,λ_=>⟨⟨x,hx,e⟩,λy hy=>h2 _ (mem_map.mpr ⟨y,hy,rfl⟩)⟩⟩;rw[z] at hx;cases hx
noncomputable def jM:DR:=λds P=>∃(lots:List S3) (dr S:List Int),ds = [.lst (lots.map dO),dA dr,.lst (S.map D.int)]/\lots.length<=12/\S.length=251/\∀(l:Int) (W:List Int),iV lots l->W.length=250->ck lots dr S l W->P (.o (.lst (W.reverse.map D.int)))
theorem rd (T:ka mg)(F:iT K "worths_of" "worths_of" dg f fd):bO P w K mg base gX 1 f fd ["lots","drawn","surpluses"] (bS K jM):=by
  refine lU F dz (λds Q h=>by obtain ⟨lots,dr,S,rfl,nl,ns,q⟩:=h;rfl) λcdv A outer s H E hr=>⟨_,(ah (aw (i:=3) dz.nd rfl (Or.inl rfl) (zL (d:=0) rfl (by rfl) T.uW (aa (ju (g:=(.n 0)) (tc:=aU) (te:=(fL iq (aO 0) (dC _))) (sc0:=ag dg) (N0:=["lots","drawn","surpluses","least","worths","highest","level","prices"]) ["lot"] [none] rfl (dY (dv 0)) (λ_ _ _ _ _=>(aq (i:=0) (show (["lot"]:List Str).Nodup by decide +kernel) rfl (Or.inl rfl))) (λ_ _ _ _ _=>bQ) (λ_ _ _ _ _=>(ai (dv 0) ae))) af)))
      (ah (gR (i:=4) dz.nd rfl (Or.inl rfl) (cW af))
      (ah (aw (i:=5) dz.nd rfl (Or.inr rfl) (sq (by rfl) T.jD))
      (ah (dZ (g:=(.n 6)) PassesOwn.never rfl (sx (by rfl) T.cP (aa (ak fi (sq (by rfl) T.jD) ae) (aa (mj ae) (aa (mj ae) af)))) (aq (i:=6) dz.nd rfl (Or.inl rfl)) (ah (fq (bJ oq (ai (dv 2) (ak az (dv 6) ae)) ae (aT _)) (aj (aw (i:=5) dz.nd rfl (Or.inr rfl) (dv 6))) bL)
      (ah (iL (i:=7) dz.nd rfl (Or.inl rfl) (g:=(.t [0,1])) (tc:=(fE (eE (fL _ (aO 1) (dC _))) (eE (fL _ (fL iq (aO 0) (dC _)) (aO 2))))) (te:=(fL iq (aO 0) (dC _))) (sc0:=ag dg) (N0:=["lots","drawn","surpluses","least","worths","highest","level","prices"]) ["lot","heat","highest"] [none,none,some 5] rfl (jA (by rfl) T.kh (aa (dv 0) (aa (dv 1) af))) (λ_ _ _ _ _=>(eR rfl (au (aq (i:=0) (show (["lot","heat","highest"]:List Str).Nodup by decide +kernel) rfl (Or.inl rfl)) (au (aq (i:=1) (show (["lot","heat","highest"]:List Str).Nodup by decide +kernel) rfl (Or.inl rfl)) cQ)))) (λ_ _ _ _ _=>(nR (DW.dt (yk (bJ vQ (dv 1) ae (aT _)) (vt (bJ DJ (ai (dv 0) ae) (dv 2) (aT _))))))) (λ_ _ _ _ _=>(ai (dv 0) ae)))
      (aj (nV (i:=4) rfl (by walk_at "v") (ax (zI rfl) (by rfl) T.xK boot_max (aa (ak az (cW (aa (dv 3) af)) (dv 7)) af)))))))
      (aj (aL (zM rfl (by rfl) T.nG (by rfl) T.ff (aa (dv 4) af)))))))),λds Q h=>?_⟩
  obtain ⟨lots,dr,S,rfl,nl,ns,q⟩:=h;repeat (first | dsimp only[dA] | walk_at "rs1" | walk_at "rsx")
  refine eZ (λd=>match d with | .tup [_,b,_]=>b | d=>d) (λx=>.int x.2.1) (λ_ _=>rfl) (by lia) (λx hx=>?_) ?_
  · repeat (first | dsimp only[dO] | walk_at "rs1" | walk_at "rsx")
  have ep:lots.map (λx=>D.int x.2.1)=(lots.map λx=>x.2.1).map D.int:=by rw[map_map];rfl
  rw[ep];walk_at "rs";refine ⟨_,rfl,λl hl=>?_⟩;have hl:=wV hl;refine ⟨trivial,⟨by decide,by decide,by decide,by decide⟩,?_⟩;refine bR (λi ρ=>∃(W:List Int) (a6 a7:Option B),ρ = [some (B.p (D.lst (lots.map dO))),some (B.p (D.lst (dr.map D.int))),some (B.p (D.lst (S.map D.int))),some (B.p (D.int l)),some (B.o (D.lst (W.map D.int))),some (B.p (D.int (jv S i))),a6,a7]/\W.length=i/\ck lots dr S l W) ⟨[],none,none,rfl,rfl,λk w h=>by simp at h⟩ ?_ ?_
  · rintro i x ρ hx ⟨W,a6,a7,rfl,hW,hws⟩;obtain ⟨hi,rfl⟩:=hX hx;have hi':i<250:=hi;have ej:(250 - 1:Int)+(i:Nat)*(-1)+1=((250 - i:Nat):Int):=by lia
    have ej2:(250 - 1:Int)+(i:Nat)*(-1)=249 - (i:Nat):=by lia
    have es:S[250 - i]?=some (S.getD (250 - i) 0):=by rw[getD_eq_getElem?_getD,getElem?_eq_getElem (by lia)];rfl
    have g1:fm (S.map D.int) ((250 - 1:Int)+(i:Nat)*(-1)+1)=some (.int (S.getD (250 - i) 0)):=by rw[ej];exact iz es
    repeat (first | walk_at "rs1" | walk_at "rsx" | set_option simprocs false in simp only[g1])
    rw[ej2];refine ⟨λz=>?_,λz=>?_⟩
    · rw[<-(show jv S (i+1)=249 - (i:Nat) from if_pos (of_decide_eq_true z))];rw[eX];refine nt (λd=>match d with | .tup [.tup [.int a,b,_],.int h]=>if 0<h/\a<=jv S (i+1) then some b else none | d=>some d) (λp=>if 0<p.2/\p.1.1<=jv S (i+1) then some (.int p.1.2.1) else none) (λ_ _=>rfl) (by rw[List.length_zip];lia) (λx hx=>?_) ?_
      · repeat (first | dsimp only[dO] | walk_at "rs1" | walk_at "rsx")
        by_cases h1:0<x.2<;>by_cases h2:x.1.1<=jv S (i+1)<;>simp[h1,h2]
      have em:(lots.zip dr).filterMap (λp=>if 0<p.2/\p.1.1<=jv S (i+1) then some (D.int p.1.2.1) else none)=(cR lots dr (jv S (i+1))).map D.int:=by
        unfold cR;rw[List.map_filterMap];refine cZ λx _=>?_;split<;>rfl
      rw[em];walk_at "rs";have lp:(cR lots dr (jv S (i+1))).length<=12:=by
        unfold cR;refine Nat.le_trans (List.length_filterMap_le ..) ?_;rw[List.length_zip];lia
      refine ⟨bV (by rw[length_map];show 1+_<=_;lia),l::cR lots dr (jv S (i+1)),rfl,(λz=>nomatch z),λm hm hle=>⟨bV (by rw[length_map];lia),W++[m],_,_,by rw[map_append];rfl,by rw[length_append,hW];rfl,λk w hk=>?_⟩⟩;by_cases hkw:k<W.length
      · rw[List.getElem?_append_left hkw] at hk;exact hws k w hk
      · rw [List.getElem?_append_right (by lia)] at hk;have hk0:k - W.length=0:=by
          rcases Nat.eq_zero_or_pos (k - W.length) with y | y
          · exact y
          · rw[List.getElem?_eq_none (by rw[List.length_singleton];lia)] at hk;cases hk
        have hki:k=i:=by lia
        rw[hk0] at hk;cases hk;subst hki;exact ⟨hm,hle⟩
    · rw[<-(show jv S (i+1)=jv S i from if_neg (of_decide_eq_false z))];rw[eX];refine nt (λd=>match d with | .tup [.tup [.int a,b,_],.int h]=>if 0<h/\a<=jv S (i+1) then some b else none | d=>some d) (λp=>if 0<p.2/\p.1.1<=jv S (i+1) then some (.int p.1.2.1) else none) (λ_ _=>rfl) (by rw[List.length_zip];lia) (λx hx=>?_) ?_
      · repeat (first | dsimp only[dO] | walk_at "rs1" | walk_at "rsx")
        by_cases h1:0<x.2<;>by_cases h2:x.1.1<=jv S (i+1)<;>simp[h1,h2]
      have em:(lots.zip dr).filterMap (λp=>if 0<p.2/\p.1.1<=jv S (i+1) then some (D.int p.1.2.1) else none)=(cR lots dr (jv S (i+1))).map D.int:=by
        unfold cR;rw[List.map_filterMap];refine cZ λx _=>?_;split<;>rfl
      rw[em];walk_at "rs";have lp:(cR lots dr (jv S (i+1))).length<=12:=by
        unfold cR;refine Nat.le_trans (List.length_filterMap_le ..) ?_;rw[List.length_zip];lia
      refine ⟨bV (by rw[length_map];show 1+_<=_;lia),l::cR lots dr (jv S (i+1)),rfl,(λz=>nomatch z),λm hm hle=>⟨bV (by rw[length_map];lia),W++[m],_,_,by rw[map_append];rfl,by rw[length_append,hW];rfl,λk w hk=>?_⟩⟩;by_cases hkw:k<W.length
      · rw[List.getElem?_append_left hkw] at hk;exact hws k w hk
      · rw [List.getElem?_append_right (by lia)] at hk;have hk0:k - W.length=0:=by
          rcases Nat.eq_zero_or_pos (k - W.length) with y | y
          · exact y
          · rw[List.getElem?_eq_none (by rw[List.length_singleton];lia)] at hk;cases hk
        have hki:k=i:=by lia
        rw[hk0] at hk;cases hk;subst hki;exact ⟨hm,hle⟩
  · rintro ρ ⟨W,a6,a7,rfl,hW,hws⟩;rw[i5] at hW;walk_at "rs";rw[<-List.map_reverse];exact q l W hl hW hws
noncomputable def uR (lots:List S3)(ord:List Int):Prop:=ord.Perm ((List.range lots.length).map Int.ofNat)/\KeyOrd (lots.map λx=>x.2.1) ord
noncomputable def iJ (g:Int)(hs cs fs ws:List S3)(ord:List Int):List Int:=nU (dj g fs ws) (fW g hs cs fs ws (eh fs) (cN ws)) ord
noncomputable def iX (fs:List S3)(dr:List Int):List Int:=dr.take fs.length
noncomputable def ky (fs ws:List S3)(dr:List Int):List Int:=kn ws (dr.drop fs.length)
noncomputable def Told (g:Int)(hs cs fs ws:List S3)(b:B):Prop:=
  (∃(k:Str) (L:Int),iu g hs cs fs ws (.tup [.str k,.int L])/\b=.p (.tup [.str "short",.str k,.int L])) \/
  (iu g hs cs fs ws .non/\∃(ord:List Int) (l:Int) (W:List Int),uR (dj g fs ws) ord/\iV (dj g fs ws) l/\W.length=250 /\
    ck (dj g fs ws) (iJ g hs cs fs ws ord) (fW g hs cs fs ws (iX fs (iJ g hs cs fs ws ord)) (ky fs ws (iJ g hs cs fs ws ord))) l W /\
    b=.n (.fnd "bought" (aP fs (iX fs (iJ g hs cs fs ws ord))+aP ws (ky fs ws (iJ g hs cs fs ws ord)))) [dA (iX fs (iJ g hs cs fs ws ord)),dA (ky fs ws (iJ g hs cs fs ws ord)),dA W.reverse])
theorem iV.uniq {lots:List S3}{l l':Int}(h:iV lots l)(h':iV lots l'):l=l':=by
  by_cases c:lots = []
  · rw[h.1 c,h'.1 c]
  · obtain ⟨⟨x,hx,e⟩,k⟩:=h.2 c;obtain ⟨⟨y,hy,e'⟩,k'⟩:=h'.2 c;have:=k y hy;have:=k' x hx;lia
theorem ck.uniq {lots:List S3}{dr S:List Int}{l:Int}{W W':List Int}(h:ck lots dr S l W)(h':ck lots dr S l W')(e:W.length=W'.length):W=W':=by
  refine List.ext_getElem? λk=>?_;by_cases c:k<W.length
  · have e1:=getElem?_eq_getElem c;have e2:=getElem?_eq_getElem (l:=W') (i:=k) (by lia);have m1:=h k _ e1;have m2:=h' k _ e2;rw[e1,e2,Int.le_antisymm (m2.2 _ m1.1) (m1.2 _ m2.1)]
  · rw[List.getElem?_eq_none (by lia),List.getElem?_eq_none (by lia)]
theorem Told.uniq {g:Int}{hs cs fs ws:List S3}{b b':B}(h:Told g hs cs fs ws b)(h':Told g hs cs fs ws b'):b=b':=by
  rcases h with ⟨k,L,s,rfl⟩ | ⟨s,ord,l,W,oo,hl,hW,hws,rfl⟩
  · rcases h' with ⟨k',L',s',rfl⟩ | ⟨s',_⟩
    · have:=kP s s';cases this;rfl
    · cases kP s s'
  · rcases h' with ⟨k',L',s',rfl⟩ | ⟨_,ord',l',W',oo',hl',hW',hws',rfl⟩
    · cases kP s s'
    · obtain rfl:=KeyOrd.uniq oo.1 oo'.1 oo.2 oo'.2;obtain rfl:=hl.uniq hl';obtain rfl:=hws.uniq hws' (by rw[hW,hW']);rfl
noncomputable def kL:DR:=λds P=>∃g hs cs fs ws,ds = [dW g hs cs,dS fs ws]/\eT g hs cs/\fs.length<=6/\ws.length<=6/\(∀x∈fs++ws,0<=x.2.1/\x.2.1<=1000000)/\∀b,Told g hs cs fs ws b->P b
theorem tQ (g:Int)(hs cs fs ws:List S3)(as bs:List Int):(fW g hs cs fs ws as bs).length=251:=by unfold fW;simp
theorem jF (g:Int)(fs ws:List S3):(dj g fs ws).length=fs.length+ws.length:=by unfold dj;simp
theorem sS (T:ka mg)(F_shortage:Fn P w K mg base "shortage" 5 ["works","shop"] (bS K kN))(F_lots_of:Fn P w K mg base "lots_of" 2 ["works","shop"] (bS K mH))(F_drawn_of:Fn P w K mg base "drawn_of" 1 ["lots","surpluses"] (kQ K Pt xC kM))(F_buying_of:Fn P w K mg base "buying_of" 1 ["shop","drawn"] (bS K jJ))(F_worths_of:Fn P w K mg base "worths_of" 1 ["lots","drawn","surpluses"] (bS K jM))(F_surpluses_above:Fn P w K mg base "surpluses_above" 4 ["works","shop","buying"] (bS K cB))(F_price_of:Fn P w K mg base "price_of" 1 ["shop","buying"] (bS K jo))(F_nothing:Fn P w K mg base "nothing" 1 ["offers"] (bS K j7))(F_mosts:Fn P w K mg base "mosts" 1 ["offers"] (bS K nv))(F:iT K "cheapest" "cheapest" gy f fd):bO P w K mg base gX 6 f fd ["works","shop"] (kQ K Pt xC kL):=by
  refine BZ F fC (λds Q h=>by obtain ⟨g,hs,cs,fs,ws,rfl,ok,nf,nw,np,q⟩:=h;rfl) λcdv A outer s H E hr hT=>⟨_,(ah (aw (i:=2) fC.nd rfl (Or.inl rfl) (ay F_shortage (hr.mono (by decide)) (by rfl) (aa (dv 0) (aa (dv 1) af))))
      (ah (fq (bJ Al (dv 2) qK (aT _)) (aj (aL (cD (aa ml (aa (ai (dv 2) ae) (aa (ai (dv 2) ae) af)))))) bL)
      (ah (aw (i:=3) fC.nd rfl (Or.inl rfl) (ay F_lots_of (hr.mono (by decide)) (by rfl) (aa (dv 0) (aa (dv 1) af))))
      (ah (aw (i:=4) fC.nd rfl (Or.inl rfl) (qJ hT F_drawn_of (hr.mono (by decide)) (by rfl) (aa (dv 3) (aa (ay F_surpluses_above (hr.mono (by decide)) (by rfl) (aa (dv 0) (aa (dv 1) (aa (cD (aa (ay F_nothing (hr.mono (by decide)) (by rfl) (aa (ai (dv 1) ae) af)) (aa (ay F_mosts (hr.mono (by decide)) (by rfl) (aa (ai (dv 1) ae) af)) af))) af)))) af))))
      (ah (gR (i:=5) fC.nd rfl (Or.inl rfl) (ay F_buying_of (hr.mono (by decide)) (by rfl) (aa (dv 1) (aa (dv 4) af))))
      (ah (vq (i:=6) fC.nd rfl (Or.inl rfl) (ay F_worths_of (hr.mono (by decide)) (by rfl) (aa (dv 3) (aa (dv 4) (aa (ay F_surpluses_above (hr.mono (by decide)) (by rfl) (aa (dv 0) (aa (dv 1) (aa (dv 5) af)))) af)))))
      (aj (zQ (i:=5) (j:=6) ml (ay F_price_of (hr.mono (by decide)) (by rfl) (aa (dv 1) (aa (dv 5) af))) rfl (by walk_at "v") rfl (by walk_at "v"))))))))),λds Q h=>?_⟩
  obtain ⟨g,hs,cs,fs,ws,rfl,ok,nf,nw,np,q⟩:=h;walk_at "rs";refine ⟨g,hs,cs,fs,ws,rfl,ok,by lia,by lia,λd hd=>?_⟩;walk_at "rs";have sh:∀k (i:Nat),d=.tup [.str k,.int (i:Nat)]->Q (.p (.tup [.str "short",.str k,.int (i:Nat)])):=λk i e=>q _ (.inl ⟨k,_,e ▸ hd,rfl⟩);refine ⟨λz=>?_,λz=>?_⟩
  · have hd':=hd;rcases hd' with ⟨rfl,_⟩ | ⟨i,hi,_,⟨rfl,_⟩ | ⟨rfl,_⟩⟩
    · cases z
    · walk_at "rs";exact sh _ i rfl
    · walk_at "rs";exact sh _ i rfl
  have en:d=.non:=by
    have hd':=hd;rcases hd' with ⟨rfl,_⟩ | ⟨i,hi,_,⟨rfl,_⟩ | ⟨rfl,_⟩⟩
    · rfl
    · cases z
    · cases z
  subst en;refine ⟨g,hs,cs,fs,ws,rfl,nf,nw,?_⟩;repeat (first | dsimp only[dS] | walk_at "rs1" | walk_at "rsx")
  refine ⟨fs,rfl,by lia,?_⟩;walk_at "rs";refine ⟨ws,rfl,by lia,?_⟩;walk_at "rs";refine ⟨g,hs,cs,fs,ws,eh fs,cN ws,rfl,ok,by lia,by lia,?_⟩;walk_at "rs";refine ⟨dj g fs ws,_,rfl,by rw[jF];lia,tQ ..,λord hp ho=>?_⟩;have ldr:(iJ g hs cs fs ws ord).length=fs.length+ws.length:=by
    unfold iJ nU;rw[kG,length_map,jF]
  have qq:=λ(l:Int) (W:List Int) (h1:iV (dj g fs ws) l) (h2:W.length=250) h3=>q _ (.inr ⟨hd,ord,l,W,⟨hp,ho⟩,h1,h2,h3,rfl⟩);unfold iJ at qq ldr;generalize nU (dj g fs ws) (fW g hs cs fs ws (eh fs) (cN ws)) ord=dr at qq ldr ⊢;unfold iX ky at qq;walk_at "rs";refine ⟨fs,ws,dr,rfl,nw,?_⟩;walk_at "rs";refine ⟨g,hs,cs,fs,ws,dr.take fs.length,kn ws (dr.drop fs.length),rfl,ok,by lia,by lia,?_⟩;walk_at "rs";refine ⟨dj g fs ws,dr,_,rfl,by rw[jF];lia,tQ ..,λl W hl hW hws=>?_⟩;refine ⟨vZ _,?_⟩;walk_at "rs";refine ⟨_,_,_,rfl,rfl,by decide,?_⟩;walk_at "rs";refine ⟨fs,ws,_,_,rfl,by lia,by lia,by rw[length_take];lia,by unfold kn;rw[length_map,List.length_zip,length_drop];lia,np,?_⟩;walk_at "rs";refine ⟨_,_,rfl,rfl,?_⟩;exact qq l W hl hW hws
set_option tactic.hygienic true in
theorem jT (L:Int):∀(xs:List Int) (n:Nat),fe (xs.zip (List.replicate n 0)) L=0
  | [],_=>by simp[fe]
  | _::_,0=>by simp[fe]
  | x::xs,n+1=>by
    have ih:=jT L xs n;unfold fe at *;rw[List.replicate_succ,List.zip_cons_cons,filterMap_cons];split
    · exact ih
    · rename_i b hb;rw[sum_cons,ih];by_cases z:L<=x
      · rw[if_pos z] at hb;cases hb;rfl
      · rw[if_neg z] at hb;cases hb
theorem oh {α:Type}(xs:List α):xs.map (λ_=>(0:Int))=List.replicate xs.length 0:=by
  induction xs with
  | nil=>rfl
  | cons x xs ih=>rw[map_cons,ih];rfl
theorem vO:∀l:List S3,jw (l.map dO)=true
  | []=>dN
  | x::l=>by rw[map_cons,dU,vO l,show bt (dO x)=true by unfold dO;simp only[j5,dU,dN,j4,Bool.and_true]];rfl
theorem qN:∀l:List S3,iI (l.map dO)<=1
  | []=>by rw[List.map_nil,ed];exact Nat.zero_le _
  | x::l=>by
    have h:=qN l;have e:dep (dO x)=1:=by unfold dO;simp only[jY,dR,ed,jW];rfl
    rw[map_cons,dR,e];lia
theorem mz (fs ws:List S3):bt (dS fs ws)=true:=by
  unfold dS;simp only[j5,dU,dN,jc,vO,Bool.and_true]
theorem yd (fs ws:List S3):dep (dS fs ws)<=3:=by
  have h1:=qN fs;have h2:=qN ws;unfold dS;simp only[jY,dR,ed,jX];lia
theorem Bc {g:Int}{hs cs:List S3}{P:B->Prop}(h:P (.p (.bl false))):EC (dW g hs cs) (dW g hs cs) P:=by
  refine ⟨⟨mB _ _ _,mB _ _ _,by have:=ye g hs cs;lia⟩,?_⟩;rw[gJ _ (mB _ _ _)];exact h
theorem Bb {fs ws:List S3}{P:B->Prop}(h:P (.p (.bl false))):EC (dS fs ws) (dS fs ws) P:=by
  refine ⟨⟨mz _ _,mz _ _,by have:=yd fs ws;lia⟩,?_⟩;rw[gJ _ (mz _ _)];exact h
noncomputable def ji:DR:=λds P=>∃g hs cs fs ws,ds = [dW g hs cs,dS fs ws]/\eT g hs cs/\fs.length<=6/\ws.length<=6/\(∀x∈fs++ws,0<=x.2.1/\x.2.1<=1000000)/\∀b,Told g hs cs fs ws b->P b
theorem pB (T:ka mg)(F_cheapest:Fn P w K mg base "cheapest" 6 ["works","shop"] (kQ K Pt xC kL))(F:iT K "_law_bought" "_law_bought" eI f fd):bO P w K mg base gX 7 f fd ["works","shop"] (kQ K Pt xC ji):=by
  refine BZ F gG (λds Q h=>by obtain ⟨g,hs,cs,fs,ws,rfl,ok,nf,nw,np,q⟩:=h;rfl) λcdv A outer s H E hr hT=>⟨_,(ah (aw (i:=2) gG.nd rfl (Or.inl rfl) (cD (aa (ai (dv 0) ae) (aa (cV fN (by rfl) T.ff boot_list (aa (ai (dv 0) ae) af)) (aa (cV fN (by rfl) T.ff boot_list (aa (ai (dv 0) ae) af)) af)))))
      (ah (aw (i:=3) gG.nd rfl (Or.inl rfl) (cD (aa (cV fN (by rfl) T.ff boot_list (aa (ai (dv 1) ae) af)) (aa (cV fN (by rfl) T.ff boot_list (aa (ai (dv 1) ae) af)) af))))
      (ah (gR (i:=4) gG.nd rfl (Or.inl rfl) (qJ hT F_cheapest (hr.mono (by decide)) (by rfl) (aa (dv 2) (aa (dv 3) af))))
      (ah (fq (DW.dt (jB (bJ (uz hr) (dv 2) (dv 0) (aT _)) (jB (bJ (uz hr) (dv 3) (dv 1) (aT _)) (jC (i7 (iA (nN (T:="tuple") (by simp) (by rfl) T.fM (dv 4) (lI (v:=.ty "tuple") (by rfl) T.uX boot_tuple rfl)))))))) (aj (aL qK)) bL)
      (aj (zP 4)))))),λds Q h=>?_⟩
  obtain ⟨g,hs,cs,fs,ws,rfl,ok,nf,nw,np,q⟩:=h;repeat (first | dsimp only[dW,dS] | walk_at "rs1" | walk_at "rsx")
  refine ⟨g,hs,cs,fs,ws,rfl,ok,nf,nw,np,λb hb=>?_⟩;have qb:=q _ hb;rcases hb with ⟨k,L,_,rfl⟩ | ⟨_,ord,l,W,_,_,_,_,rfl⟩
  · walk_at "rs";exact Bc (g:=g) (hs:=hs) (cs:=cs) ⟨λz=>(nomatch z),λ_=>Bb (fs:=fs) (ws:=ws) ⟨λz=>(nomatch z),λ_=>⟨λz=>(nomatch (show false=true from z)),λ_=>qb⟩⟩⟩
  · walk_at "rs";exact Bc (g:=g) (hs:=hs) (cs:=cs) ⟨λz=>(nomatch z),λ_=>Bb (fs:=fs) (ws:=ws) ⟨λz=>(nomatch z),λ_=>⟨λz=>(nomatch (show false=true from z)),λ_=>qb⟩⟩⟩
theorem vE {α:Type}{l:List α}{x y:α}{j:Nat}(h:y∈l.take j++x::l.drop j):y=x\/y∈l:=by
  rcases mem_append.mp h with h | h
  · exact .inr (mem_of_mem_take h)
  · rcases List.mem_cons.mp h with h | h
    · exact .inl h
    · exact .inr (mem_of_mem_drop h)
theorem vD {α:Type}(l:List α)(x:α)(j:Nat):(l.take j++x::l.drop j).length=l.length+1:=by
  rw[length_append,length_cons,length_take,length_drop];lia
noncomputable def zB (fs ws:List S3):Prop:=(∃x∈fs,x.1=250/\x.2.2=1000000000000000)/\∃x∈ws,x.1=0/\x.2.2=1000000000000000
noncomputable def gU:DR:=λds P=>∃fs ws n,ds = [dS fs ws,.int n]/\nD fs ws/\0<=n/\∀fs' ws',nD fs' ws'->zB fs' ws'->P (.p (dS fs' ws'))
theorem mD (T:ka mg)(F:iT K "_law_with_ends" "_law_with_ends" cn f fd):bO P w K mg base gX 1 f fd ["shop","number"] (bS K gU):=by
  refine lU F gE (λds Q h=>by obtain ⟨fs,ws,n,rfl,so,n0,q⟩:=h;rfl) λcdv A outer s H E hr=>⟨_,(ah (gR (i:=2) gE.nd rfl (Or.inl rfl) (lA (ai (dv 0) ae) nr (bh ae)))
      (ah (gR (i:=3) gE.nd rfl (Or.inl rfl) (lA (ai (dv 0) ae) nr (bh ae)))
      (ah (yi (i:=2) rfl (by walk_at "v") (ak ba (dv 1) (ak az (ax eQ (by rfl) T.gW PySem.boot_len (aa (dv 2) af)) ae)) (cD (aa ae (aa (ak ba (ak lH (dv 1) ae) (ak h9 ae ae)) (aa (ak h9 ae ae) af)))))
      (ah (yi (i:=3) rfl (by walk_at "v") (ak ba (ak lH (dv 1) ae) (ak az (ax eQ (by rfl) T.gW PySem.boot_len (aa (dv 3) af)) ae)) (cD (aa ae (aa (ak ba (ak lH (dv 1) ae) (ak h9 ae ae)) (aa (ak h9 ae ae) af)))))
      (aj (aL (cD (aa (dv 2) (aa (dv 3) af))))))))),λds Q h=>?_⟩
  obtain ⟨fs,ws,n,rfl,so,n0,q⟩:=h;repeat (first | dsimp only[dS] | walk_at "rs1" | walk_at "rsx")
  have cf:gY (fs.map dO) none (some ((5:Nat):Int))=(fs.take 5).map dO:=by rw[ud,map_take]
  have cw:gY (ws.map dO) none (some ((5:Nat):Int))=(ws.take 5).map dO:=by rw[ud,map_take]
  have cf':gY (fs.map dO) none (some 5)=(fs.take 5).map dO:=cf;have cw':gY (ws.map dO) none (some 5)=(ws.take 5).map dO:=cw;rw[cf',cw',length_map,length_map];have e6:((10:Int) ^ (6:Int).toNat)=1000000:=by decide
  have e15:((10:Int) ^ (15:Int).toNat)=1000000000000000:=by decide
  rw[e6,e15];have lf:(fs.take 5).length<=5:=by rw[length_take];lia
  have lw:(ws.take 5).length<=5:=by rw[length_take];lia
  have mf:=Int.emod_nonneg n (b:=((fs.take 5).length:Int)+1) (by lia);have mf':=Int.emod_lt_of_pos n (b:=((fs.take 5).length:Int)+1) (by lia);have mw:=Int.emod_nonneg (n / 7) (b:=((ws.take 5).length:Int)+1) (by lia);have mw':=Int.emod_lt_of_pos (n / 7) (b:=((ws.take 5).length:Int)+1) (by lia);refine ⟨by lia,⟨by decide,by decide⟩,⟨by decide,by decide,by decide⟩,by decide,⟨by decide,by decide,by decide⟩,⟨mf,by lia⟩,bV (by lia),⟨by decide,by decide⟩,by lia,⟨by decide,by decide⟩,⟨by decide,by decide,by decide⟩,by decide,⟨by decide,by decide,by decide⟩,⟨mw,by lia⟩,bV (by lia),?_⟩;generalize (n % (((fs.take 5).length:Int)+1)).toNat=a;generalize (n / 7 % (((ws.take 5).length:Int)+1)).toNat=b;have p6:0<=n / 6 % 1000000/\n / 6 % 1000000<1000000:=⟨Int.emod_nonneg _ (by decide),Int.emod_lt_of_pos _ (by decide)⟩
  have p42:0<=n / 42 % 1000000/\n / 42 % 1000000<1000000:=⟨Int.emod_nonneg _ (by decide),Int.emod_lt_of_pos _ (by decide)⟩
  have z:=q ((fs.take 5).take a++(250,n / 6 % 1000000,1000000000000000)::(fs.take 5).drop a) ((ws.take 5).take b++(0,n / 42 % 1000000,1000000000000000)::(ws.take 5).drop b)
    ⟨by rw[vD];lia,by rw[vD];lia,λx hx=>?_,λx hx=>?_⟩ ⟨⟨_,mem_append_right _ mem_cons_self,rfl,rfl⟩,⟨_,mem_append_right _ mem_cons_self,rfl,rfl⟩⟩
  · unfold dS at z;have mt:∀(l:List S3) (x:S3) (j:Nat),(l.take j++x::l.drop j).map dO=(l.map dO).take j++dO x::(l.map dO).drop j:=λl x j=>by rw[map_append,map_cons,map_take,map_drop]
    rw[mt,mt] at z;exact z
  · rcases vE hx with rfl | h
    · exact ⟨by show (1:Int)<=250;decide,by show (250:Int)<=250;decide,p6.1,by show n / 6 % 1000000<=1000000;lia,by show (0:Int)<=1000000000000000;decide,by show (1000000000000000:Int)<=1000000000000000;decide⟩
    · exact so.f x (mem_of_mem_take h)
  · rcases vE hx with rfl | h
    · exact ⟨by show (0:Int)<=0;decide,by show (0:Int)<=199;decide,p42.1,by show n / 42 % 1000000<=1000000;lia,by show (0:Int)<=1000000000000000;decide,by show (1000000000000000:Int)<=1000000000000000;decide⟩
    · exact so.w x (mem_of_mem_take h)
theorem nE (L:Int):∀(xs:List S3) (d:List Int),ab L xs d=fe ((xs.map λx=>x.1).zip d) L
  | [],_=>rfl
  | _::_,[]=>rfl
  | x::xs,a::d=>by
    have ih:=nE L xs d;unfold fe at *;rw[map_cons,List.zip_cons_cons,filterMap_cons];simp only[ab];rw[ih];by_cases z:L<=x.1
    · rw[if_pos z,if_pos z,sum_cons]
    · rw[if_neg z,if_neg z,Int.zero_add]
theorem md (L:Int):∀(xs ys:List S3) (d e:List Int),d.length=xs.length->ab L (xs++ys) (d++e)=ab L xs d+ab L ys e
  | [],_,[],_,_=>by simp[ab]
  | [],_,_::_,_,h=>by simp at h
  | x::xs,_,[],_,h=>by simp at h
  | x::xs,ys,a::d,e,h=>by
    have ih:=md L xs ys d e (by simpa using h);simp only[List.cons_append,ab];rw[ih,Int.add_assoc]
theorem rM (L g:Int):∀(ws:List S3) (e:List Int),e.length=ws.length->fe ((lQ g ws).zip (kn ws e)) L=fe ((lQ g ws).zip (cN ws)) L - fe ((lQ g ws).zip e) L
  | [],_,_=>rfl
  | w::ws,[],h=>by simp at h
  | w::ws,a::e,h=>by
    have ih:=rM L g ws e (by simpa using h);unfold fe lQ kn cN at *;rw[map_cons,List.zip_cons_cons,map_cons,List.zip_cons_cons,map_cons,List.zip_cons_cons,List.zip_cons_cons,filterMap_cons,filterMap_cons,filterMap_cons];dsimp only;by_cases z:L<=w.1+g
    · rw[if_pos z,if_pos z,if_pos z];dsimp only;rw[sum_cons,sum_cons,sum_cons,ih];lia
    · rw[if_neg z,if_neg z,if_neg z];exact ih
noncomputable def dM (fs:List S3):List S3:=fs.map λx=>(x.1 - 1,x.2.1,x.2.2)
noncomputable def hG (g:Int)(ws:List S3):List S3:=ws.map λx=>(x.1+g,-x.2.1,x.2.2)
theorem nu (g:Int)(fs ws:List S3):dj g fs ws=dM fs++hG g ws:=rfl
theorem mS (fs:List S3):(dM fs).map (λx=>x.1)=lT fs:=by unfold dM lT;rw[map_map];rfl
theorem lP (g:Int)(ws:List S3):(hG g ws).map (λx=>x.1)=lQ g ws:=by unfold hG lQ;rw[map_map];rfl
theorem xw (g:Int)(hs cs fs ws:List S3)(dr:List Int)(L:Int)(hl:dr.length=fs.length+ws.length) :
    dP g hs cs fs ws (iX fs dr) (ky fs ws dr) L=d9 g hs cs fs ws L+ab L (dj g fs ws) dr:=by
  have e1:dr=iX fs dr++dr.drop fs.length:=(take_append_drop fs.length dr).symm;have l1:(iX fs dr).length=(dM fs).length:=by unfold iX dM;rw[length_take,length_map];lia
  have l2:(dr.drop fs.length).length=ws.length:=by rw[length_drop];lia
  have e2:ab L (dj g fs ws) dr=fe ((lT fs).zip (iX fs dr)) L+fe ((lQ g ws).zip (dr.drop fs.length)) L:=by
    rw[nu];rw[show ab L (dM fs++hG g ws) dr=ab L (dM fs++hG g ws) (iX fs dr++dr.drop fs.length) by rw[<-e1]];rw[md L _ _ _ _ l1,nE,nE,mS,lP]
  have e3:=rM L g ws (dr.drop fs.length) l2;have e4:fe ((lT fs).zip (eh fs)) L=0:=by unfold eh;rw[oh];exact jT ..
  rw[e2];unfold d9 dP ky;rw[e3,e4];lia
theorem sN (g:Int)(fs ws:List S3):sL (dj g fs ws)=cN fs++cN ws:=by
  unfold sL dj cN;rw[map_append,map_map,map_map];rfl
theorem zk (g:Int)(hs cs fs ws:List S3)(L:Int):warmF g hs cs fs ws L=d9 g hs cs fs ws L+ab L (dj g fs ws) (sL (dj g fs ws)):=by
  have e4:fe ((lT fs).zip (eh fs)) L=0:=by unfold eh;rw[oh];exact jT ..
  have e5:fe ((lQ g ws).zip (eh ws)) L=0:=by unfold eh;rw[oh];exact jT ..
  rw[sN,nu,md L _ _ _ _ (by unfold cN dM;rw[length_map,length_map]),nE,nE,mS,lP];unfold warmF d9 dP;rw[e4,e5];lia
theorem eO {g:Int}{hs cs fs ws:List S3}{as bs:List Int}{i:Nat}(h:i<251):(fW g hs cs fs ws as bs).getD i 0=dP g hs cs fs ws as bs (i:Nat):=by
  unfold fW;rw[getD_eq_getElem?_getD,getElem?_map,List.getElem?_range h];rfl
theorem yf {g:Int}{hs cs fs ws:List S3}(ok:eT g hs cs)(oi:gM g fs ws)(m0:∀x∈fs++ws,0<=x.2.2)(sh:iu g hs cs fs ws .non):m9 (dj g fs ws) (fW g hs cs fs ws (eh fs) (cN ws)):=by
  have hn:∀i:Nat,i<251->0<=warmF g hs cs fs ws (i:Nat)/\d9 g hs cs fs ws 0<=d9 g hs cs fs ws (i:Nat):=by
    rcases sh with ⟨_,h⟩ | ⟨i,hi,_,⟨e,_⟩ | ⟨e,_⟩⟩
    · exact h
    · cases e
    · cases e
  refine ⟨λn hlt=>?_,λj hj=>?_,λj hj=>?_,?_⟩
  · rw[<-sM,sN,getD_eq_getElem?_getD];cases e:(cN fs++cN ws)[n]? with
    | none=>exact Int.le_refl _
    | some v =>
      have hv:=mem_of_getElem? e;have:cN fs++cN ws=(fs++ws).map λx=>x.2.2:=by unfold cN;rw[map_append]
      rw[this] at hv;obtain ⟨x,hx,rfl⟩:=mem_map.mp hv;exact m0 x hx
  · rw [eO (by lia)];have:=(hn j (by lia)).1;rw[zk] at this;exact this
  · rw [eO (by lia), eO (by lia)];exact (hn j (by lia)).2
  · rw [eO (by lia)];have h1:=(hn 250 (by lia)).2;have h2:d9 g hs cs fs ws 250=0:=wg ok oi;have h3:d9 g hs cs fs ws ((250:Nat):Int)=0:=h2;show d9 g hs cs fs ws 0<=0;lia
theorem yS {lots:List S3}{ord:List Int}(h:uR lots ord):∃o:List Nat,ord=o.map Int.ofNat/\o.Nodup/\(∀n,n∈o↔n<lots.length)/\o.Pairwise λa b=>pr lots a<=pr lots b:=by
  obtain ⟨hp,hk⟩:=h;have nn:∀z∈ord,∃m:Nat,z=Int.ofNat m:=λz hz=>by
    obtain ⟨m,_,e⟩:=mem_map.mp (hp.mem_iff.mp hz);exact ⟨m,e.symm⟩
  have e:ord=(ord.map Int.toNat).map Int.ofNat:=by
    rw[map_map];conv=>lhs;rw[<-List.map_id ord]
    refine map_congr_left λz hz=>?_;obtain ⟨m,rfl⟩:=nn z hz;rfl
  have pm:(ord.map Int.toNat).Perm (List.range lots.length):=by
    have:=hp.map Int.toNat;rw[map_map] at this;have e2:(List.range lots.length).map (Int.toNat∘Int.ofNat)=List.range lots.length:=by
      conv=>rhs;rw[<-List.map_id (List.range lots.length)]
      exact map_congr_left λz _=>rfl
    rw[e2] at this;exact this
  refine ⟨ord.map Int.toNat,e,pm.nodup_iff.mpr nodup_range,λn=>by rw[pm.mem_iff,mem_range],?_⟩;rw[pairwise_map];refine hk.imp λ{a b} hab=>?_;have gd:∀k:Nat,(lots.map λx=>x.2.1).getD k 0=pr lots k:=λk=>by
    unfold pr;rw[getD_eq_getElem?_getD,getElem?_map,getD_eq_getElem?_getD];cases lots[k]?<;>rfl
  rw[gd,gd] at hab;exact hab.1
theorem wK {g:Int}{hs cs fs ws:List S3}{ord:List Int}(ok:eT g hs cs)(oi:gM g fs ws)(m0:∀x∈fs++ws,0<=x.2.2)(sh:iu g hs cs fs ws .non)(oo:uR (dj g fs ws) ord) :
    lZ (dj g fs ws) (fW g hs cs fs ws (eh fs) (cN ws)) 250 (iJ g hs cs fs ws ord):=by
  obtain ⟨o,e,h1,h2,h3⟩:=yS oo;unfold iJ nU;rw[e];exact vL (yf ok oi m0 sh) h1 h2 h3 250 (Nat.le_refl _)
theorem yx (S:List Int):∀k:Nat,249 - (k:Int)<=jv S (k+1)
  | 0 => by unfold jv;split
            · lia
            · unfold jv;lia
  | k+1=>by
    have ih:=yx S k;unfold jv;split
    · lia
    · lia
theorem zV (S:List Int)(k:Nat):jv S (k+2)<=jv S (k+1):=by
  have ih:=yx S k;rw[show jv S (k+2)=if S.getD (250 - (k+1)) 0=0 then 249 - ((k+1:Nat):Int) else jv S (k+1) from rfl];split
  · lia
  · exact Int.le_refl _
set_option tactic.hygienic true in
theorem vC (S:List Int):∀(k:Nat) (t:Nat),k<250->249 - (k:Int)<t->(t:Int)<=jv S (k+1)->S.getD t 0≠0
  | 0,t,_,h1,h2=>by
    rw[show jv S (0+1)=if S.getD (250 - 0) 0=0 then 249 - ((0:Nat):Int) else jv S 0 from rfl] at h2;split at h2
    · lia
    · rename_i z;rw[show jv S 0=250 from rfl] at h2;have:t=250:=by lia
      subst this;exact z
  | k+1,t,hk,h1,h2=>by
    rw[show jv S (k+1+1)=if S.getD (250 - (k+1)) 0=0 then 249 - ((k+1:Nat):Int) else jv S (k+1) from rfl] at h2;split at h2
    · lia
    · rename_i z;by_cases e:t=250 - (k+1)
      · subst e;exact z
      · exact vC S k t (by lia) (by lia) h2
set_option tactic.hygienic true in
theorem jd {lots:List S3}{dr:List Int}{h p:Int}:p∈cR lots dr h↔∃n,n<lots.length/\n<dr.length/\0<dr.getD n 0/\lv lots n<=h/\pr lots n=p:=by
  unfold cR;rw[List.mem_filterMap];constructor
  · rintro ⟨x,hx,e⟩;obtain ⟨n,hn⟩:=mem_iff_getElem?.mp hx;rw[List.getElem?_zip_eq_some] at hn;obtain ⟨l1,e1⟩:=List.getElem?_eq_some_iff.mp hn.1;obtain ⟨l2,e2⟩:=List.getElem?_eq_some_iff.mp hn.2;split at e
    · rename_i c;cases e;refine ⟨n,l1,l2,?_,?_,?_⟩
      · rw[getD_eq_getElem?_getD,hn.2];exact c.1
      · unfold lv;rw[getD_eq_getElem?_getD,hn.1];exact c.2
      · unfold pr;rw[getD_eq_getElem?_getD,hn.1];rfl
    · cases e
  · rintro ⟨n,l1,l2,c1,c2,rfl⟩;have g1:lots[n]?=some (lots.getD n (0,0,0)):=by rw[getD_eq_getElem?_getD,getElem?_eq_getElem l1];rfl
    have g2:dr[n]?=some (dr.getD n 0):=by rw[getD_eq_getElem?_getD,getElem?_eq_getElem l2];rfl
    refine ⟨(lots.getD n (0,0,0),dr.getD n 0),mem_iff_getElem?.mpr ⟨n,List.getElem?_zip_eq_some.mpr ⟨g1,g2⟩⟩,?_⟩;rw[if_pos ⟨c1,c2⟩]
theorem max_le {l:Int}{xs ys:List Int}{a b:Int}(h:∀z∈xs,z∈ys)(ha:uQ (l::xs) a)(hb:uQ (l::ys) b):a<=b:=by
  rcases List.mem_cons.mp ha.1 with z | z
  · rw[z];exact hb.2 l (mem_cons_self ..)
  · exact hb.2 a (mem_cons_of_mem _ (h a z))
theorem uI {lots:List S3}{dr:List Int}{h h':Int}(e:h<=h'):∀z∈cR lots dr h,z∈cR lots dr h':=λz hz=>by
  obtain ⟨n,a,b,c,d,f⟩:=jd.mp hz;exact jd.mpr ⟨n,a,b,c,by lia,f⟩
theorem qm {lots:List S3}{dr S:List Int}{l:Int}{W:List Int}(hW:W.length=250)(h:ck lots dr S l W){L:Nat}(hL:L<250):uQ (l::cR lots dr (jv S (250 - L))) (W.reverse.getD L 0):=by
  have e:W.reverse[L]?=W[249 - L]?:=by rw[List.getElem?_reverse (by lia),hW]
  have g:W[249 - L]?=some (W.reverse.getD L 0):=by
    rw[getD_eq_getElem?_getD,e,getElem?_eq_getElem (by lia)];rfl
  have:=h (249 - L) _ g;rw[show 249 - L+1=250 - L by lia] at this;exact this
theorem CM {lots:List S3}{dr S:List Int}{l:Int}{W:List Int}(hW:W.length=250)(h:ck lots dr S l W){L:Nat}(h1:1<=L)(hL:L<250):W.reverse.getD (L - 1) 0<=W.reverse.getD L 0:=by
  refine max_le (uI ?_) (qm hW h (L:=L - 1) (by lia)) (qm hW h hL);have:=zV S (249 - L);rw[show 250 - (L - 1)=249 - L+2 by lia,show 250 - L=249 - L+1 by lia];exact this
theorem CN {lots:List S3}{dr S:List Int}{l:Int}{W:List Int}(hW:W.length=250)(h:ck lots dr S l W){L:Nat}(h1:1<=L)(hL:L<250)(hs:S.getD L 0≠0):W.reverse.getD (L - 1) 0=W.reverse.getD L 0:=by
  have a:=qm hW h (L:=L - 1) (by lia);have b:=qm hW h hL;have e:jv S (250 - (L - 1))=jv S (250 - L):=by
    rw[show 250 - (L - 1)=(250 - L)+1 by lia];show (if S.getD (250 - (250 - L)) 0=0 then _ else _)=_;rw[show 250 - (250 - L)=L by lia,if_neg hs]
  rw[e] at a;have x:=a.2 _ b.1;have y:=b.2 _ a.1;lia
theorem Bl {lots:List S3}{dr S:List Int}{l:Int}{W:List Int}(hW:W.length=250)(h:ck lots dr S l W){n L:Nat}(hn:n<lots.length)(hd:n<dr.length)(eL:lv lots n=(L:Nat))(hL:L<250)(pos:0<dr.getD n 0):pr lots n<=W.reverse.getD L 0:=by
  refine (qm hW h hL).2 _ (mem_cons_of_mem _ (jd.mpr ⟨n,hn,hd,pos,?_,rfl⟩));have:=yx S (249 - L);rw[show 249 - L+1=250 - L by lia] at this;lia
theorem zi {lots:List S3}{dr S S':List Int}{l:Int}{W:List Int}(hW:W.length=250)(h:ck lots dr S' l W)(hl:iV lots l)(I:lZ lots S 250 dr)(hS:∀t:Nat,t<=249->S'.getD t 0=S.getD t 0+ab (t:Nat) lots dr){n L:Nat}(hn:n<lots.length)(eL:lv lots n=(L:Nat))(hL:L<250)(lt:dr.getD n 0<ms lots n):W.reverse.getD L 0<=pr lots n:=by
  have m:=qm hW h hL;rcases List.mem_cons.mp m.1 with z | z
  · rw[z];have ne:lots≠[]:=λe=>by rw[e] at hn;simp at hn
    have g1:lots.getD n (0,0,0)∈lots:=by
      rw[getD_eq_getElem?_getD,getElem?_eq_getElem hn];exact List.getElem_mem hn
    exact (hl.2 ne).2 _ g1
  · obtain ⟨q,q1,q2,q3,q4,q5⟩:=jd.mp z;rw[<-q5];rcases Int.lt_or_le (pr lots n) (pr lots q) with w | w
    · obtain ⟨t,t1,t2,t3,t4,t5⟩:=I.sep n q hn q1 w lt q3;have ne:=vC S' (249 - L) t (by lia) (by lia) (by rw[show 249 - L+1=250 - L by lia];lia);rw[hS t t1] at ne;exact absurd t5 ne
    · exact w
structure Good (g:Int)(hs cs fs ws:List S3)(as bs:List Int)(V:List Int):Prop where
  la:as.length=fs.length
  lb:bs.length=ws.length
  lV:V.length=250
  a0:∀(n:Nat) (x:S3) (a:Int),fs[n]?=some x->as[n]?=some a->0<=a/\a<=x.2.2
  b0:∀(n:Nat) (x:S3) (b:Int),ws[n]?=some x->bs[n]?=some b->0<=b/\b<=x.2.2
  Ga:∀j:Nat,j<251->0<=dP g hs cs fs ws as bs (j:Nat)
  Fw:dP g hs cs fs ws as bs 0=0
  mono:∀L:Nat,1<=L->L<250->V.getD (L - 1) 0<=V.getD L 0
  same:∀L:Nat,1<=L->L<250->0<dP g hs cs fs ws as bs (L:Nat)->V.getD (L - 1) 0=V.getD L 0
  fa:∀(n L:Nat) (x:S3) (a:Int),fs[n]?=some x->as[n]?=some a->x.1 - 1=(L:Nat)->(0<a->x.2.1<=V.getD L 0)/\(a<x.2.2->V.getD L 0<=x.2.1)
  fb:∀(n L:Nat) (x:S3) (b:Int),ws[n]?=some x->bs[n]?=some b->x.1+g=(L:Nat)->(0<b->V.getD L 0 <= -x.2.1)/\(b<x.2.2->-x.2.1<=V.getD L 0)
theorem og {g:Int}{fs ws:List S3}{n:Nat}{x:S3}(h:fs[n]?=some x):(dj g fs ws).getD n (0,0,0)=(x.1 - 1,x.2.1,x.2.2):=by
  have hn:=(List.getElem?_eq_some_iff.mp h).1;rw[nu,getD_eq_getElem?_getD,List.getElem?_append_left (by unfold dM;rw[length_map];exact hn)];unfold dM;rw[getElem?_map,h];rfl
theorem mv {g:Int}{fs ws:List S3}{n:Nat}{x:S3}(h:ws[n]?=some x):(dj g fs ws).getD (fs.length+n) (0,0,0)=(x.1+g,-x.2.1,x.2.2):=by
  have el:(dM fs).length=fs.length:=by unfold dM;rw[length_map]
  rw[nu,getD_eq_getElem?_getD,List.getElem?_append_right (by lia),el,Nat.add_sub_cancel_left];unfold hG;rw[getElem?_map,h];rfl
theorem zU {g:Int}{hs cs fs ws:List S3}{ord:List Int}{l:Int}{W:List Int}(ok:eT g hs cs)(oi:gM g fs ws)(m0:∀x∈fs++ws,0<=x.2.2)(sh:iu g hs cs fs ws .non)(oo:uR (dj g fs ws) ord)(hl:iV (dj g fs ws) l)(hW:W.length=250)
    (hws:ck (dj g fs ws) (iJ g hs cs fs ws ord) (fW g hs cs fs ws (iX fs (iJ g hs cs fs ws ord)) (ky fs ws (iJ g hs cs fs ws ord))) l W) :
    Good g hs cs fs ws (iX fs (iJ g hs cs fs ws ord)) (ky fs ws (iJ g hs cs fs ws ord)) W.reverse:=by
  have I:=wK ok oi m0 sh oo;have ldr:(iJ g hs cs fs ws ord).length=fs.length+ws.length:=by rw[I.len,jF]
  generalize iJ g hs cs fs ws ord=dr at *;have sd:=λL=>xw g hs cs fs ws dr L ldr;have eS:∀t:Nat,t<=249->(fW g hs cs fs ws (iX fs dr) (ky fs ws dr)).getD t 0=(fW g hs cs fs ws (eh fs) (cN ws)).getD t 0+ab (t:Nat) (dj g fs ws) dr:=λt ht=>by
    rw[eO (by lia),eO (by lia),sd];rfl
  have lN:(dj g fs ws).length=fs.length+ws.length:=jF ..;have fA:∀(n:Nat) (x:S3) (a:Int),fs[n]?=some x->(iX fs dr)[n]?=some a->n<fs.length/\dr.getD n 0=a:=λn x a h1 h2=>by
    have hn:=(List.getElem?_eq_some_iff.mp h1).1;refine ⟨hn,?_⟩;unfold iX at h2;rw[List.getElem?_take_of_lt hn] at h2;rw[getD_eq_getElem?_getD,h2];rfl
  have fB:∀(n:Nat) (x:S3) (b:Int),ws[n]?=some x->(ky fs ws dr)[n]?=some b->n<ws.length/\x.2.2 - dr.getD (fs.length+n) 0=b:=λn x b h1 h2=>by
    have hn:=(List.getElem?_eq_some_iff.mp h1).1;refine ⟨hn,?_⟩;unfold ky kn at h2;rw[getElem?_map] at h2;have g2:(dr.drop fs.length)[n]?=some (dr.getD (fs.length+n) 0):=by
      rw[List.getElem?_drop,getD_eq_getElem?_getD,getElem?_eq_getElem (by lia)];rfl
    rw[List.getElem?_zip_eq_some (z:=(x,dr.getD (fs.length+n) 0)) |>.mpr ⟨h1,g2⟩] at h2;exact Option.some.inj h2
  have sur1:∀j:Nat,j<251->0<=dP g hs cs fs ws (iX fs dr) (ky fs ws dr) (j:Nat):=λj hj=>by
    rcases Nat.lt_or_ge j 250 with z | z
    · have := I.ok j (by lia) (by lia);rw[eO (by lia)] at this;rw[sd];exact this
    · have : j = 250 := by lia
      subst this;exact Int.le_of_eq (wg ok oi).symm
  have lvn:∀n,n<(dj g fs ws).length->0<=lv (dj g fs ws) n:=λn hn=>by
    rcases Nat.lt_or_ge n fs.length with z | z
    · have e:=og (g:=g) (ws:=ws) (getElem?_eq_getElem z);unfold lv;rw[e];have:=oi.f0 _ (List.getElem_mem z);show 0<=fs[n].1 - 1;lia
    · have hz : n - fs.length < ws.length := by lia
      have e:=mv (g:=g) (fs:=fs) (getElem?_eq_getElem hz);rw[show fs.length+(n - fs.length)=n by lia] at e;unfold lv;rw[e];have:=oi.w0 _ (List.getElem_mem hz);have:=ok.g0;show 0<=ws[n - fs.length].1+g;lia
  have abs:ab (0:Nat) (dj g fs ws) dr=dr.sum:=ub I.len λn hn h=>absurd (lvn n hn) (by simpa using h);refine ⟨by unfold iX;rw[length_take];lia,by unfold ky kn;rw[length_map,List.length_zip,length_drop];lia,by rw[List.length_reverse];exact hW,λn x a h1 h2=>?_,λn x b h1 h2=>?_,sur1,?_,λL h1 h2=>CM hW hws h1 h2,λL h1 h2 h3=>CN hW hws h1 h2 (by rw[eO (by lia)];lia),λn L x a h1 h2 h3=>?_,λn L x b h1 h2 h3=>?_⟩
  · obtain ⟨hn,e⟩:=fA n x a h1 h2;have:=I.bd n (by lia);unfold ms at this;rw[og h1,e] at this;exact this
  · obtain ⟨hn,e⟩:=fB n x b h1 h2;have:=I.bd (fs.length+n) (by lia);unfold ms at this;rw[mv h1] at this;have t2:dr.getD (fs.length+n) 0<=x.2.2:=this.2;have t1:=this.1;lia
  · have a1 := sur1 0 (by lia);have a2:=I.sum;have a3:=sd 0;rw[eO (by lia)] at a2;have a4:ab 0 (dj g fs ws) dr=dr.sum:=abs;have a5:dP g hs cs fs ws (eh fs) (cN ws) ((0:Nat):Int)=d9 g hs cs fs ws 0:=rfl;have a6:(0:Int)<=dP g hs cs fs ws (iX fs dr) (ky fs ws dr) 0:=a1;lia
  · obtain ⟨hn,e⟩:=fA n x a h1 h2;have el:=og (g:=g) (ws:=ws) h1;have e1:lv (dj g fs ws) n=x.1 - 1:=by unfold lv;rw[el]
    have e2:pr (dj g fs ws) n=x.2.1:=by unfold pr;rw[el]
    have e3:ms (dj g fs ws) n=x.2.2:=by unfold ms;rw[el]
    have hx:=oi.f0 x (mem_of_getElem? h1);refine ⟨λz=>?_,λz=>?_⟩
    · have := Bl hW hws (n := n) (L := L) (by lia) (by lia) (by lia) (by lia) (by lia);lia
    · have := zi hW hws hl I eS (n := n) (L := L) (by lia) (by lia) (by lia) (by lia);lia
  · obtain ⟨hn,e⟩:=fB n x b h1 h2;have el:=mv (g:=g) (fs:=fs) h1;have e1:lv (dj g fs ws) (fs.length+n)=x.1+g:=by unfold lv;rw[el]
    have e2:pr (dj g fs ws) (fs.length+n) = -x.2.1:=by unfold pr;rw[el]
    have e3:ms (dj g fs ws) (fs.length+n)=x.2.2:=by unfold ms;rw[el]
    have hx:=oi.w0 x (mem_of_getElem? h1);refine ⟨λz=>?_,λz=>?_⟩
    · have := zi hW hws hl I eS (n := fs.length + n) (L := L) (by lia) (by lia) (by lia) (by lia);lia
    · have := Bl hW hws (n := fs.length + n) (L := L) (by lia) (by lia) (by lia) (by lia) (by lia);lia
noncomputable def dh (as bs:List Int)(p:Int)(V:List Int):D:=.tup [.str "bought",.tup [dA as,dA bs],.int p,.lst (V.map D.int)]
noncomputable def jn:DR:=λds P=>∃(ns:List Int) (n:Int),ds = [.lst (ns.map D.int),.int n]/\n=(ns.length:Int)/\ns.length<=1000/\P (.p (.bl true))
theorem pG (T:ka mg)(F:iT K "_law_wholes" "_law_wholes" dq f fd):bO P w K mg base gX 1 f fd ["found","many"] (bS K jn):=by
  refine lU F pK (λds Q h=>by obtain ⟨ns,n,rfl,rfl,hl,q⟩:=h;rfl) λcdv A outer s H E hr=>⟨_,(ah (fq (DW.dt (jB (i7 (iA (nN (T:="list") (by simp) (by rfl) T.fM (dv 0) (lI (v:=.ty "list") (by rfl) T.ff boot_list rfl)))) (jC (bJ sQ (ax eQ (by rfl) T.gW PySem.boot_len (aa (dv 0) af)) (dv 1) (aT _))))) (aj (aL iH)) bL)
      (aj (aL (iZ (qY hr) (ju (g:=(.n 0)) (tc:=(kR (fS (eE (fG "int" (aO 0)))) (eE (fG "bool" (aO 0))))) (te:=(aO 0)) (sc0:=ag dq) (N0:=["found","many"]) ["one"] [none] rfl (dY (dv 0)) (λ_ _ _ _ _=>(aq (i:=0) (show (["one"]:List Str).Nodup by decide +kernel) rfl (Or.inl rfl))) (λ_ _ _ _ _=>(nR (DW.dt (jB (i7 (iA (nN (T:="int") (by simp) (by rfl) T.fM (dv 0) (lI (v:=.ty "int") (by rfl) T.Dc boot_int rfl)))) (jC (iA (nN (T:="bool") (by simp) (by rfl) T.fM (dv 0) (lI (v:=.ty "bool") (by rfl) T.By boot_bool rfl)))))))) (λ_ _ _ _ _=>(dv 0))) (cW af) (aT _))))),λds Q h=>?_⟩
  obtain ⟨ns,n,rfl,rfl,hl,q⟩:=h;walk_at "rs";have b1:zY "list" (D.lst (ns.map D.int))=true:=rfl;have b2:decide ((((ns.map D.int).length:Nat):Int)=((ns.length:Nat):Int))=true:=decide_eq_true (by rw[length_map]);rw[b1,b2];refine ⟨λz=>(nomatch z),λ_=>⟨λz=>(nomatch z),λ_=>?_⟩⟩;refine nt (λd=>none) (λ_=>none) (λ_ _=>rfl) (by lia) (λx hx=>?_) ?_
  · walk_at "rs";have c1:zY "int" (D.int x)=true:=rfl;have c2:zY "bool" (D.int x)=false:=rfl;rw[c1,c2];exact ⟨λz=>(nomatch z),λ_=>⟨λz=>(nomatch z),λ_=>trivial⟩⟩
  have e0:ns.filterMap (λ_=>(none:Option D)) = []:=by simp
  rw[e0];walk_at "rs";exact ⟨⟨by simp only[jc,dN],by simp only[jc,dN],by simp only[jX,ed];decide⟩,q⟩
noncomputable def jj:DR:=λds P=>∃as bs p V fs ws,ds = [dh as bs p V,dS fs ws]/\as.length=fs.length/\bs.length=ws.length/\V.length=250/\fs.length<=6/\ws.length<=6/\P (.p (.bl true))
theorem pC (T:ka mg)(F_law_wholes:Fn P w K mg base "_law_wholes" 1 ["found","many"] (bS K jn))(F:iT K "_law_formed" "_law_formed" eJ f fd):bO P w K mg base gX 2 f fd ["found","shop"] (bS K jj):=by
  refine lU F pJ (λds Q h=>by obtain ⟨as,bs,p,V,fs,ws,rfl,la,lb,lV,nf,nw,q⟩:=h;rfl) λcdv A outer s H E hr=>⟨_,(ah (fq (DW.dt (jB (bJ sQ (ax eQ (by rfl) T.gW PySem.boot_len (aa (dv 0) af)) ae (aT _)) (jB (bJ sQ (ai (dv 0) ae) ml (aT _)) (jB (i7 (iA (nN (T:="tuple") (by simp) (by rfl) T.fM (ai (dv 0) ae) (lI (v:=.ty "tuple") (by rfl) T.uX boot_tuple rfl)))) (jC (bJ sQ (ax eQ (by rfl) T.gW PySem.boot_len (aa (ai (dv 0) ae) af)) ae (aT _))))))) (aj (aL iH)) bL)
      (ah (fq (DW.dt (jB (i7 (iA (ay F_law_wholes (hr.mono (by decide)) (by rfl) (aa (cW (aa (ai (dv 0) ae) af)) (aa ae af))))) (jC (i7 (iA (ay F_law_wholes (hr.mono (by decide)) (by rfl) (aa (ai (dv 0) ae) (aa ae af)))))))) (aj (aL iH)) bL)
      (aj (aL (nM (ay F_law_wholes (hr.mono (by decide)) (by rfl) (aa (ai (ai (dv 0) ae) ae) (aa (ax eQ (by rfl) T.gW PySem.boot_len (aa (ai (dv 1) ae) af)) af))) (qL (ay F_law_wholes (hr.mono (by decide)) (by rfl) (aa (ai (ai (dv 0) ae) ae) (aa (ax eQ (by rfl) T.gW PySem.boot_len (aa (ai (dv 1) ae) af)) af))))))))),λds Q h=>?_⟩
  obtain ⟨as,bs,p,V,fs,ws,rfl,la,lb,lV,nf,nw,q⟩:=h;repeat (first | dsimp only[dh,dS] | walk_at "rs1" | walk_at "rsx")
  have b1:decide (((0+1+1+1+1:Nat):Int)=4)=true:=by decide
  have b2:decide (((0+1+1:Nat):Int)=2)=true:=by decide
  have b3:zY "tuple" (D.tup [dA as,dA bs])=true:=rfl;simp only[b1,b2,b3,decide_true,decide_false,Bool.not_true,Bool.not_false,Bool.false_eq_true,Bool.true_eq_false,false_implies,true_implies,and_true,true_and,forall_const];refine ⟨[p],1,rfl,rfl,by show 1<=1000;decide,?_⟩;walk_at "rs";simp only[decide_true,decide_false,Bool.not_true,Bool.not_false,Bool.false_eq_true,Bool.true_eq_false,false_implies,true_implies,and_true,true_and,forall_const];refine ⟨V,250,rfl,by lia,by lia,?_⟩;walk_at "rs";simp only[decide_true,decide_false,Bool.not_true,Bool.not_false,Bool.false_eq_true,Bool.true_eq_false,false_implies,true_implies,and_true,true_and,forall_const];refine ⟨as,_,rfl,by rw[length_map,la],by lia,?_⟩;walk_at "rs";simp only[decide_true,decide_false,Bool.not_true,Bool.not_false,Bool.false_eq_true,Bool.true_eq_false,false_implies,true_implies,and_true,true_and,forall_const];exact ⟨bs,_,rfl,by rw[length_map,lb],by lia,q⟩
theorem tu {os:List S3}{am:List Int}{k:Nat}{x:S3}{a:Int}(c:Int)(h1:os[k]?=some x)(h2:am[k]?=some a):c+aP (os.take (k+1)) (am.take (k+1))=c+aP (os.take k) (am.take k)+a*x.2.1:=by
  unfold aP;rw[take_snoc h1,take_snoc h2,List.zip_append (by rw[length_take,length_take];have:=(List.getElem?_eq_some_iff.mp h1).1;have:=(List.getElem?_eq_some_iff.mp h2).1;lia),map_append,sum_append];simp[Int.add_assoc,Int.mul_comm]
theorem uH {os:List S3}{am:List Int}(h:am.length=os.length):aP (os.take os.length) (am.take os.length)=aP os am:=by
  rw[List.take_length,<-h,List.take_length]
noncomputable def Cr (fs ws:List S3)(as bs:List Int)(i:Nat):Int:=if i=0 then 0 else if i=1 then aP fs as else aP fs as+aP ws bs
structure Fits (fs ws:List S3)(as bs:List Int):Prop where
  la:as.length=fs.length
  lb:bs.length=ws.length
  nf:fs.length<=6
  nw:ws.length<=6
  a0:∀(n:Nat) (x:S3) (a:Int),fs[n]?=some x->as[n]?=some a->0<=a/\a<=x.2.2
  b0:∀(n:Nat) (x:S3) (b:Int),ws[n]?=some x->bs[n]?=some b->0<=b/\b<=x.2.2
  pr:∀x∈fs++ws,0<=x.2.1/\x.2.1<=1000000
theorem Fits.side {fs ws:List S3}{as bs:List Int}(f:Fits fs ws as bs){i:Nat}(hi:i<2):∃(os:List S3) (am:List Int),fm [D.lst (fs.map dO),D.lst (ws.map dO)] ((i:Nat):Int)=some (.lst (os.map dO))/\fm [D.lst (as.map D.int),D.lst (bs.map D.int)] ((i:Nat):Int)=some (.lst (am.map D.int))/\os.length<=6/\am.length=os.length /\
    (∀(n:Nat) (x:S3) (a:Int),os[n]?=some x->am[n]?=some a->0<=a/\a<=x.2.2)/\(∀x∈os,0<=x.2.1/\x.2.1<=1000000)/\Cr fs ws as bs (i+1)=Cr fs ws as bs i+aP os am:=by
  have:i=0\/i=1:=by lia
  rcases this with rfl | rfl
  · exact ⟨fs,as,rfl,rfl,f.nf,f.la,f.a0,λx hx=>f.pr x (mem_append_left _ hx),by unfold Cr;simp⟩
  · exact ⟨ws,bs,rfl,rfl,f.nw,f.lb,f.b0,λx hx=>f.pr x (mem_append_right _ hx),by unfold Cr;simp⟩
noncomputable def jL:DR:=λds P=>∃g hs cs fs ws as bs p V,ds = [dW g hs cs,dS fs ws,dh as bs p V]/\eT g hs cs/\gM g fs ws/\Fits fs ws as bs/\V.length=250/\ma g hs cs fs ws as bs/\p=aP fs as+aP ws bs/\P (.p (.bl true))
theorem ra (T:ka mg)(F_law_spares:Fn P w K mg base "_law_spares" 1 ["works","shop","buying"] (bS K jl))(F_law_formed:Fn P w K mg base "_law_formed" 2 ["found","shop"] (bS K jj))(F:iT K "_law_right" "_law_right" fx f fd):bO P w K mg base gX 3 f fd ["works","shop","found"] (bS K jL):=by
  refine lU F du (λds Q h=>by obtain ⟨g,hs,cs,fs,ws,as,bs,p,V,rfl,ok,oi,ft,lV,wd,rfl,q⟩:=h;rfl) λcdv A outer s H E hr=>⟨_,(ah (fq (i7 (iA (ay F_law_formed (hr.mono (by decide)) (by rfl) (aa (dv 2) (aa (dv 1) af))))) (aj (aL iH)) bL)
      (ah (aw (i:=3) du.nd rfl (Or.inl rfl) ae)
      (ah (dZ (g:=(.n 4)) PassesOwn.never rfl (eV (by rfl) T.cP (aa ae af)) (aq (i:=4) du.nd rfl (Or.inl rfl)) (aj (dZ (g:=(.n 5)) PassesOwn.never rfl (eV (by rfl) T.cP (aa (ax eQ (by rfl) T.gW PySem.boot_len (aa (ai (dv 1) (dv 4)) af)) af)) (aq (i:=5) du.nd rfl (Or.inl rfl)) (ah (aw (i:=6) du.nd rfl (Or.inl rfl) (ai (ai (ai (dv 2) ae) (dv 4)) (dv 5)))
      (ah (fq (DW.dt (jB (bJ yQ (dv 6) ae (aT _)) (jC (bJ vQ (dv 6) (ai (ai (ai (dv 1) (dv 4)) (dv 5)) ae) (aT _))))) (aj (aL iH)) bL)
      (aj (aw (i:=3) du.nd rfl (Or.inl rfl) (ak az (dv 3) (ak dc (dv 6) (ai (ai (ai (dv 1) (dv 4)) (dv 5)) ae))))))))))
      (ah (aw (i:=7) du.nd rfl (Or.inl rfl) (ay F_law_spares (hr.mono (by decide)) (by rfl) (aa (dv 0) (aa (dv 1) (aa (ai (dv 2) ae) af)))))
      (aj (aL (nM (iZ vP (ax (u5 rfl) (by rfl) T.uW boot_min (aa (dv 7) af)) ae (aT _)) (nM (iZ oq (ai (dv 7) ae) ae (aT _)) (qL (iZ oq (dv 3) (ai (dv 2) ae) (aT _))))))))))),λds Q h=>?_⟩
  obtain ⟨g,hs,cs,fs,ws,as,bs,p,V,rfl,ok,oi,ft,lV,wd,rfl,q⟩:=h;have la:=ft.la;have lb:=ft.lb;have nf:=ft.nf;have nw:=ft.nw;refine iG (λρ=>ρ = [some (B.p (dW g hs cs)),some (B.p (dS fs ws)),some (B.p (dh as bs (aP fs as+aP ws bs) V)),none,none,none,none,none]) ?_ λN hN=>?_;rotate_left
  · walk_at "rs";refine ⟨as,bs,_,V,fs,ws,rfl,la,lb,lV,nf,nw,?_⟩;walk_at "rs";simp only[decide_true,decide_false,Bool.not_true,Bool.not_false,Bool.false_eq_true,Bool.true_eq_false,false_implies,true_implies,and_true,true_and,forall_const];exact hN _ rfl
  rintro ρ rfl;walk_at "rs";refine ⟨by decide,?_⟩;refine bR (λi ρ=>∃a4 a5 a6 a7,ρ = [some (B.p (dW g hs cs)),some (B.p (dS fs ws)),some (B.p (dh as bs (aP fs as+aP ws bs) V)),some (B.p (.int (Cr fs ws as bs i))),a4,a5,a6,a7]) ⟨none,none,none,none,rfl⟩ ?_ ?_
  · rintro i x ρ hx ⟨a4,a5,a6,a7,rfl⟩;obtain ⟨hi,rfl⟩:=bH hx;rw[Int.zero_add];obtain ⟨os,am,g1,g2,no,lam,h0,hp,ep⟩:=ft.side hi;repeat (first | dsimp only[dS,dh] | walk_at "rs1" | walk_at "rsx" | set_option simprocs false in simp only[g1])
    refine ⟨⟨by lia,by rw[length_map];lia⟩,?_⟩;refine bR (λk ρ=>∃b5 b6,ρ = [some (B.p (dW g hs cs)),some (B.p (D.tup [D.lst (fs.map dO),D.lst (ws.map dO)])),some (B.p (D.tup [D.str "bought",D.tup [dA as,dA bs],D.int (aP fs as+aP ws bs),D.lst (V.map D.int)])),some (B.p (.int (Cr fs ws as bs i+aP (os.take k) (am.take k)))),some (B.p (.int (i:Nat))),b5,b6,a7]) ⟨a5,a6,?_⟩ ?_ ?_
    · rw[show aP (os.take 0) (am.take 0)=0 from rfl,Int.add_zero]
    · rintro k x ρ hx ⟨b5,b6,rfl⟩;obtain ⟨hk,rfl⟩:=bH hx;rw[Int.zero_add];have hk':k<os.length:=by rw[length_map] at hk;lia
      have e1:=getElem?_eq_getElem (l:=os) (i:=k) hk';have e2:=getElem?_eq_getElem (l:=am) (i:=k) (by lia);generalize os[k]=x at e1;generalize am[k]'(by lia)=a at e2;have hh:=h0 k x a e1 e2;have hp':=hp x (mem_of_getElem? e1);rw[tu _ e1 e2];have g3:fm (os.map dO) ((k:Nat):Int)=some (dO x):=iz e1;have g4:fm (am.map D.int) ((k:Nat):Int)=some (.int a):=iz e2;repeat (first | dsimp only[dA,dO] | walk_at "rs1" | walk_at "rsx" | set_option simprocs false in simp only[g1,g2,g3,g4])
      refine ⟨λz=>absurd (of_decide_eq_true z) (by lia),λ_=>⟨λz=>absurd (of_decide_eq_true z) (by lia),λ_=>⟨.inr ⟨by lia,by lia⟩,_,_,rfl⟩⟩⟩
    · rintro ρ ⟨b5,b6,rfl⟩;rw[bZ,length_map,Int.toNat_natCast,uH lam,<-ep];exact ⟨_,_,_,_,rfl⟩
  · rintro ρ ⟨a4,a5,a6,a7,rfl⟩;repeat (first | dsimp only[dh] | walk_at "rs1" | walk_at "rsx")
    refine ⟨g,hs,cs,fs,ws,as,bs,_,rfl,BB as bs,ok,oi,?_⟩;walk_at "rs";refine ⟨fW g hs cs fs ws as bs,rfl,λz=>by have:=congrArg List.length z;unfold fW at this;simp at this,λm hm hle=>?_⟩;have g0:fm ((fW g hs cs fs ws as bs).map D.int) 0=some (.int (dP g hs cs fs ws as bs 0)):=oQ (i:=0) (by decide);repeat (first | walk_at "rs1" | walk_at "rsx" | set_option simprocs false in simp only[g0])
    have m0:0<=m:=by
      obtain ⟨j,hj,e⟩:=mem_map.mp hm;rw[<-e];exact wd.1 j (mem_range.mp hj)
    rw[bZ];have ep:Cr fs ws as bs (Int.toNat 2)=aP fs as+aP ws bs:=rfl;refine ⟨λ_=>⟨λ_=>?_,λz=>absurd wd.2 (of_decide_eq_false z)⟩,λz=>absurd m0 (of_decide_eq_false z)⟩;rw[ep,decide_eq_true rfl];exact q
theorem hV:∀{lv am:List Int},(∀l∈lv,0<=l)->am.length=lv.length->fe (lv.zip am) 0=am.sum
  | [],[],_,_=>rfl
  | l::lv,a::am,h,e=>by
    have ih:=hV (lv:=lv) (am:=am) (λx hx=>h x (mem_cons_of_mem _ hx)) (by simpa using e);unfold fe at ih ⊢;rw[List.zip_cons_cons,filterMap_cons,if_pos (h l mem_cons_self)];rw[sum_cons,sum_cons,ih]
theorem oP:∀{am:List Int} {k:Nat} {a v:Int},am[k]?=some a->(am.set k v).sum=am.sum - a+v
  | [],_,_,_,h=>by simp at h
  | x::am,0,a,v,h=>by
    cases h;rw[List.set_cons_zero,sum_cons,sum_cons];lia
  | x::am,k+1,a,v,h=>by
    have ih:=oP (am:=am) (k:=k) (a:=a) (v:=v) (by simpa using h);rw[List.set_cons_succ,sum_cons,sum_cons,ih];lia
theorem set_same:∀{am:List Int} {k:Nat} {a:Int},am[k]?=some a->am.set k a=am
  | [],_,_,h=>by simp at h
  | x::am,0,a,h=>by cases h;rfl
  | x::am,k+1,a,h=>by rw[List.set_cons_succ,set_same (am:=am) (by simpa using h)]
noncomputable def pa (as:List Int)(i:Nat)(am:List Int):List Int:=if i=0 then am else as
noncomputable def pb (bs:List Int)(i:Nat)(am:List Int):List Int:=if i=0 then bs else am
structure ES (g:Int)(hs cs fs ws:List S3)(as bs:List Int)(i:Nat)(os:List S3)(am:List Int):Prop where
  g1:fm [D.lst (fs.map dO),D.lst (ws.map dO)] ((i:Nat):Int)=some (.lst (os.map dO))
  g2:fm [D.lst (as.map D.int),D.lst (bs.map D.int)] ((i:Nat):Int)=some (.lst (am.map D.int))
  no:os.length<=6
  lam:am.length=os.length
  set:∀am',[D.lst (as.map D.int),D.lst (bs.map D.int)].set i (.lst (am'.map D.int)) = [.lst ((pa as i am').map D.int),.lst ((pb bs i am').map D.int)]
  get:∀am',[D.lst ((pa as i am').map D.int),D.lst ((pb bs i am').map D.int)][i]?=some (.lst (am'.map D.int))
  again:∀am' am'',[D.lst ((pa as i am').map D.int),D.lst ((pb bs i am').map D.int)].set i (.lst (am''.map D.int)) = [.lst ((pa as i am'').map D.int),.lst ((pb bs i am'').map D.int)]
  ea:pa as i am=as
  eb:pb bs i am=bs
  more:∀(k:Nat) (a:Int),am[k]?=some a->¬ma g hs cs fs ws (pa as i (am.set k (a+1))) (pb bs i (am.set k (a+1)))
theorem AM {g:Int}{hs cs fs ws:List S3}{as bs:List Int}{i:Nat}(hi:i<2)(g0:0<=g)(oi:gM g fs ws)(f:Fits fs ws as bs)(wd:ma g hs cs fs ws as bs):∃os am,ES g hs cs fs ws as bs i os am:=by
  have lf:∀l∈lT fs,0<=l:=λl hl=>by
    obtain ⟨x,hx,rfl⟩:=mem_map.mp hl;have:=(oi.1 x hx).1;lia
  have lw:∀l∈lQ g ws,0<=l:=λl hl=>by
    obtain ⟨x,hx,rfl⟩:=mem_map.mp hl;have:=(oi.2 x hx).1;lia
  have nf:(lT fs).length=fs.length:=by unfold lT;rw[length_map]
  have nw:(lQ g ws).length=ws.length:=by unfold lQ;rw[length_map]
  have s0:=wd.2;unfold dP at s0;rw[hV lf (by rw[nf];exact f.la),hV lw (by rw[nw];exact f.lb)] at s0;have:i=0\/i=1:=by lia
  rcases this with rfl | rfl
  · refine ⟨fs,as,rfl,rfl,f.nf,f.la,λ_=>rfl,λ_=>rfl,λ_ _=>rfl,rfl,rfl,λk a e w=>?_⟩;have w0:=w.2;unfold dP at w0;rw[show pa as 0 (as.set k (a+1))=as.set k (a+1) from rfl,show pb bs 0 (as.set k (a+1))=bs from rfl,hV lf (by rw[length_set,nf];exact f.la),hV lw (by rw[nw];exact f.lb),oP e] at w0;lia
  · refine ⟨ws,bs,rfl,rfl,f.nw,f.lb,λ_=>rfl,λ_=>rfl,λ_ _=>rfl,rfl,rfl,λk a e w=>?_⟩;have w0:=w.2;unfold dP at w0;rw[show pa as 1 (bs.set k (a+1))=as from rfl,show pb bs 1 (bs.set k (a+1))=bs.set k (a+1) from rfl,hV lf (by rw[nf];exact f.la),hV lw (by rw[length_set,nw];exact f.lb),oP e] at w0;lia
theorem lG {n k:Nat}(h:k<n):qf n ((k:Nat):Int)=some k:=by
  unfold qf;rw[if_pos (by lia),if_pos (by lia)];simp
theorem xI {x y z:D}{i:Nat}(hi:i<2)(h:fm [x,y] ((i:Nat):Int)=some z):[x,y][i]?=some z:=by
  unfold fm at h;rw[lG (show i < [x,y].length from hi)] at h;exact h
theorem Dl {fs ws:List S3}{P:B->Prop}(h:P (.p (.bl true))):Dj (dS fs ws) (dS fs ws) P:=by
  refine ⟨⟨mz _ _,mz _ _,by have:=yd fs ws;lia⟩,?_⟩;rw[gJ _ (mz _ _)];exact h
theorem mC:∀l:List Int,jw (l.map D.int)=true
  | []=>dN
  | x::l=>by rw[map_cons,dU,mC l,j4];rfl
theorem mm:∀l:List Int,iI (l.map D.int)=0
  | []=>ed
  | x::l=>by rw[map_cons,dR,mm l,jW];rfl
theorem BJ {as bs:List Int}{P:B->Prop}(h:P (.p (.bl true))):Dj (.tup [.lst (as.map D.int),.lst (bs.map D.int)]) (.tup [.lst (as.map D.int),.lst (bs.map D.int)]) P:=by
  have n:bt (.tup [.lst (as.map D.int),.lst (bs.map D.int)])=true:=by simp only[j5,dU,dN,jc,mC,Bool.and_true]
  refine ⟨⟨n,n,?_⟩,?_⟩
  · simp only[jY,dR,ed,jX,mm];decide
  rw[gJ _ n];exact h
noncomputable def jk:DR:=λds P=>∃g hs cs fs ws as bs p V,ds = [dW g hs cs,dS fs ws,dh as bs p V]/\eT g hs cs/\gM g fs ws/\Fits fs ws as bs/\V.length=250/\ma g hs cs fs ws as bs/\p=aP fs as+aP ws bs/\P (.p (.bl true))
noncomputable def zz (g:Int)(hs cs fs ws:List S3)(as bs V:List Int)(a5 a6:Option B):aH:=[some (B.p (dW g hs cs)),some (B.p (dS fs ws)),some (B.p (dh as bs (aP fs as+aP ws bs) V)),some (B.n .tup [.lst (as.map D.int),.lst (bs.map D.int)]),some (B.p (dS fs ws)),a5,a6]
theorem pD (T:ka mg)(F_will_do:Fn P w K mg base "will_do" 5 ["works","shop","buying"] (bS K mI))(F_price_of:Fn P w K mg base "price_of" 1 ["shop","buying"] (bS K jo))(F:iT K "_law_looked" "_law_looked" eK f fd):bO P w K mg base gX 6 f fd ["works","shop","found"] (bS K jk):=by
  refine lU F eW (λds Q h=>by obtain ⟨g,hs,cs,fs,ws,as,bs,p,V,rfl,ok,oi,ft,lV,wd,rfl,q⟩:=h;rfl) λcdv A outer s H E hr=>⟨_,(ah (gR (i:=3) eW.nd rfl (Or.inl rfl) (vg (cV fN (by rfl) T.ff boot_list (aa (ai (ai (dv 2) ae) ae) af)) (cV fN (by rfl) T.ff boot_list (aa (ai (ai (dv 2) ae) ae) af))))
      (ah (aw (i:=4) eW.nd rfl (Or.inl rfl) (cD (aa (cV fN (by rfl) T.ff boot_list (aa (ai (dv 1) ae) af)) (aa (cV fN (by rfl) T.ff boot_list (aa (ai (dv 1) ae) af)) af))))
      (ah (fq (DW.dt (jB (bJ vR (ay F_will_do (hr.mono (by decide)) (by rfl) (aa (dv 0) (aa (dv 4) (aa (dv 3) af)))) iH (aT _)) (jC (bJ sQ (ay F_price_of (hr.mono (by decide)) (by rfl) (aa (dv 4) (aa (dv 3) af))) (ai (dv 2) ae) (aT _))))) (aj (aL iH)) bL)
      (ah (dZ (g:=(.n 5)) PassesOwn.never rfl (eV (by rfl) T.cP (aa ae af)) (aq (i:=5) eW.nd rfl (Or.inl rfl)) (aj (dZ (g:=(.n 6)) PassesOwn.never rfl (eV (by rfl) T.cP (aa (ax eQ (by rfl) T.gW PySem.boot_len (aa (ai (dv 1) (dv 5)) af)) af)) (aq (i:=6) eW.nd rfl (Or.inl rfl)) (aj (fq (bJ yQ (ai (ai (dv 3) (dv 5)) (dv 6)) (ai (ai (ai (dv 1) (dv 5)) (dv 6)) ae) (aT _)) (ah (vn (i:=3) rfl (by walk_at "v") (dv 5) (dv 6) ae ja)
      (ah (fq (bJ vR (ay F_will_do (hr.mono (by decide)) (by rfl) (aa (dv 0) (aa (dv 4) (aa (dv 3) af)))) iH (aT _)) (aj (aL iH)) bL)
      (aj (vn (i:=3) rfl (by walk_at "v") (dv 5) (dv 6) ae mq)))) bL)))))
      (aj (aL (nM (iZ (qY hr) (dv 4) (dv 1) (aT _)) (qL (iZ (qY hr) (dv 3) (ai (dv 2) ae) (aT _)))))))))),λds Q h=>?_⟩
  obtain ⟨g,hs,cs,fs,ws,as,bs,p,V,rfl,ok,oi,ft,lV,wd,rfl,q⟩:=h;have la:=ft.la;have lb:=ft.lb;have nf:=ft.nf;have nw:=ft.nw;refine iG (λρ=>ρ = [some (B.p (dW g hs cs)),some (B.p (dS fs ws)),some (B.p (dh as bs (aP fs as+aP ws bs) V)),some (B.n .tup [.lst (as.map D.int),.lst (bs.map D.int)]),none,none,none]) ?_ λN hN=>?_;rotate_left
  · repeat (first | dsimp only[dh,dA] | walk_at "rs1" | walk_at "rsx")
    exact ⟨_,_,rfl,rfl,hN _ rfl⟩
  rintro ρ rfl;refine iG (λρ=>ρ=zz g hs cs fs ws as bs V none none) ?_ λN hN=>?_;rotate_left
  · repeat (first | dsimp only[dS] | walk_at "rs1" | walk_at "rsx")
    exact hN _ rfl
  rintro ρ rfl;refine iG (λρ=>ρ=zz g hs cs fs ws as bs V none none) ?_ λN hN=>?_;rotate_left
  · repeat (first | dsimp only[zz] | walk_at "rs1" | walk_at "rsx")
    refine ⟨g,hs,cs,fs,ws,as,bs,rfl,ok,by lia,by lia,λc hc=>?_⟩;obtain rfl:c=true:=hc.mpr wd;walk_at "rs";refine ⟨_,_,rfl,rfl,?_⟩;walk_at "rs";refine ⟨λz=>(nomatch (show (!decide True)=true from z)),λ_=>⟨fs,ws,as,bs,rfl,by lia,by lia,la,lb,ft.pr,?_⟩⟩;repeat (first | dsimp only[dh] | walk_at "rs1" | walk_at "rsx")
    exact ⟨λz=>(nomatch (show (!decide True)=true from z)),λ_=>hN _ rfl⟩
  rintro ρ rfl;refine iG (λρ=>∃a5 a6,ρ=zz g hs cs fs ws as bs V a5 a6) ?_ λN hN=>?_;rotate_left
  · repeat (first | dsimp only[zz] | walk_at "rs1" | walk_at "rsx")
    refine ⟨by decide,?_⟩;refine bR (λi ρ=>∃a5 a6,ρ=zz g hs cs fs ws as bs V a5 a6) ⟨none,none,rfl⟩ ?_ ?_
    · rintro i x ρ hx ⟨a5,a6,rfl⟩;obtain ⟨hi,rfl⟩:=bH hx;rw[Int.zero_add];obtain ⟨os,am,sd⟩:=AM hi ok.g0 oi ft wd;have g1:=sd.g1;have g2:=sd.g2;have no:=sd.no;have lam:=sd.lam;repeat (first | dsimp only[zz,dS] | walk_at "rs1" | walk_at "rsx" | set_option simprocs false in simp only[g1])
      refine ⟨⟨by lia,by rw[length_map];lia⟩,?_⟩;refine bR (λk ρ=>∃b6,ρ=zz g hs cs fs ws as bs V (some (.p (.int (i:Nat)))) b6) ⟨a6,rfl⟩ ?_ ?_
      · rintro k x ρ hx ⟨b6,rfl⟩;obtain ⟨hk,rfl⟩:=bH hx;rw[Int.zero_add];have hk':k<os.length:=by rw[length_map] at hk;lia
        have e1:=getElem?_eq_getElem (l:=os) (i:=k) hk';have e2:=getElem?_eq_getElem (l:=am) (i:=k) (by lia);generalize os[k]=x at e1;generalize am[k]'(by lia)=a at e2;have g3:fm (os.map dO) ((k:Nat):Int)=some (dO x):=iz e1;have g4:fm (am.map D.int) ((k:Nat):Int)=some (.int a):=iz e2;repeat (first | dsimp only[zz,dS,dO] | walk_at "rs2" | walk_at "rsx" | set_option simprocs false in simp only[g1,g2,g3,g4])
        refine ⟨λz=>?_,λz=>⟨_,rfl⟩⟩;have hkm:k<am.length:=by lia
        refine iG (λρ=>ρ = [some (B.p (dW g hs cs)),some (B.p (dS fs ws)),some (B.p (dh as bs (aP fs as+aP ws bs) V)),some (B.n .tup [.lst ((pa as i (am.set k (a+1))).map D.int),.lst ((pb bs i (am.set k (a+1))).map D.int)]),some (B.p (dS fs ws)),some (.p (.int (i:Nat))),some (.p (.int (k:Nat)))]) ?_ λN hN=>?_;rotate_left
        · walk_at "rs";refine ⟨_,rfl,(i:Nat),i,am.map D.int,rfl,lG hi,xI hi g2,(k:Nat),k,a,rfl,lG (by rw[length_map];exact hkm),by rw[getElem?_map,e2];rfl,1,rfl,?_⟩;rw[<-map_set,sd.set];exact hN _ rfl
        rintro ρ rfl;refine iG (λρ=>ρ = [some (B.p (dW g hs cs)),some (B.p (dS fs ws)),some (B.p (dh as bs (aP fs as+aP ws bs) V)),some (B.n .tup [.lst ((pa as i (am.set k (a+1))).map D.int),.lst ((pb bs i (am.set k (a+1))).map D.int)]),some (B.p (dS fs ws)),some (.p (.int (i:Nat))),some (.p (.int (k:Nat)))]) ?_ λN hN=>?_;rotate_left
        · walk_at "rs";refine ⟨g,hs,cs,fs,ws,pa as i (am.set k (a+1)),pb bs i (am.set k (a+1)),rfl,ok,by lia,by lia,λc hc=>?_⟩;obtain rfl:c=false:=by
            cases c with
            | false=>rfl
            | true=>exact absurd (hc.mp rfl) (sd.more k a e2)
          walk_at "rs";refine ⟨_,_,rfl,rfl,?_⟩;walk_at "rs";exact ⟨λz=>(nomatch (show (!decide True)=true from z)),λ_=>hN _ rfl⟩
        rintro ρ rfl;walk_at "rs";refine ⟨_,rfl,(i:Nat),i,(am.set k (a+1)).map D.int,rfl,lG hi,sd.get _,(k:Nat),k,a+1,rfl,lG (by rw[length_map,length_set];exact hkm),by rw[getElem?_map,List.getElem?_set_self hkm];rfl,1,rfl,?_⟩;have e3:(am.set k (a+1)).set k (a+1 - 1)=am:=by rw[List.set_set,Int.add_sub_cancel];exact set_same e2
        rw[<-map_set,e3,sd.again,sd.ea,sd.eb];exact ⟨_,rfl⟩
      · rintro ρ ⟨b6,rfl⟩;exact ⟨_,_,rfl⟩
    · rintro ρ ⟨a5,a6,rfl⟩;exact hN _ ⟨a5,a6,rfl⟩
  rintro ρ ⟨a5,a6,rfl⟩;repeat (first | dsimp only[zz] | walk_at "rs1" | walk_at "rsx")
  refine Dl ?_;repeat (first | dsimp only[dh,dA] | walk_at "rs1" | walk_at "rsx")
  refine ⟨λ_=>BJ q,λz=>(nomatch (show true=false from z))⟩
theorem BX (l:List Int):bt (dA l)=true:=by unfold dA;rw[jc];exact mC l
theorem BG (l:List Int):dep (dA l)=1:=by unfold dA;rw[jX,mm]
theorem uh {as bs V:List Int}{p:Int}{P:B->Prop}(h:P (.p (.bl true))):Dj (.tup [.str "bought",.tup [dA as,dA bs],.int p,dA V]) (.tup [.str "bought",.tup [dA as,dA bs],.int p,dA V]) P:=by
  have n:bt (.tup [.str "bought",.tup [dA as,dA bs],.int p,dA V])=true:=by simp only[j5,dU,dN,BX,j4,Ak,Bool.and_true]
  refine ⟨⟨n,n,?_⟩,?_⟩
  · simp only[jY,dR,ed,BG,jW,zO];decide
  rw[gJ _ n];exact h
theorem Fe {a b c:Int}{P:B->Prop}(h:P (.p (.bl false))):EC (.lst [.int a,.int b,.int c]) (.lst [.int a,.int b,.int c]) P:=by
  have n:bt (.lst [.int a,.int b,.int c])=true:=by simp only[jc,dU,dN,j4,Bool.and_true]
  refine ⟨⟨n,n,?_⟩,?_⟩
  · simp only[jX,dR,ed,jW];decide
  rw[gJ _ n];exact h
theorem zR (l:List Int):(dA l).flat=true:=vZ l
theorem yo {x:Str}{p:Int}{as bs V:List Int}:(B.n (.fnd x p) [dA as,dA bs,dA V]).flat=true:=by
  show (true && [dA as,dA bs,dA V].all D.flat)=true;simp only[List.all_cons,List.all_nil,zR,Bool.and_true]
noncomputable def mR (ns:List Int)(g:Int)(hs cs fs ws:List S3)(n:Int)(r:List (Option B)):aH:=some (B.p (D.scr ns))::some (B.p (dW g hs cs))::some (B.p (dS fs ws))::some (B.p (D.int n))::r
theorem B5 (T:ka mg)(F_law_works:Fn P w K mg base "_law_works" 3 ["script"] (bS K fu))(F_law_shop:Fn P w K mg base "_law_shop" 3 ["script"] (bS K gw))(F_law_stir:Fn P w K mg base "_law_stir" 1 ["cell","k"] (bS K aJ))(F_law_bought:Fn P w K mg base "_law_bought" 7 ["works","shop"] (kQ K Pt xC ji))(F_law_with_ends:Fn P w K mg base "_law_with_ends" 1 ["shop","number"] (bS K gU))(F_law_right:Fn P w K mg base "_law_right" 3 ["works","shop","found"] (bS K jL))(F_law_looked:Fn P w K mg base "_law_looked" 6 ["works","shop","found"] (bS K jk))(F:iT K "law" "law" lL f fd):bO P w K mg base gX 8 f fd ["script"] (kQ K Pt xC Bi):=by
  refine BZ F jN (λds Q h=>by obtain ⟨ns,rfl,hl,q⟩:=h;rfl) λcdv A outer s H E hr hT=>⟨_,(ah (aw (i:=1) jN.nd rfl (Or.inl rfl) (ay F_law_works (hr.mono (by decide)) (by rfl) (aa (dv 0) af)))
      (ah (aw (i:=2) jN.nd rfl (Or.inl rfl) (ay F_law_shop (hr.mono (by decide)) (by rfl) (aa (dv 0) af)))
      (ah (aw (i:=3) jN.nd rfl (Or.inl rfl) (ay F_law_stir (hr.mono (by decide)) (by rfl) (aa (ax (gN rfl) (by rfl) T.jt boot_sum (aa (gp (dv 0) (bh ae) (bh ae) (bh ae)) af)) (aa ae af))))
      (ah (fq (bJ oq (ak ba (dv 3) ae) ae (aT _)) (aj (aw (i:=2) jN.nd rfl (Or.inl rfl) (ay F_law_with_ends (hr.mono (by decide)) (by rfl) (aa (dv 2) (aa (ak lH (dv 3) ae) af))))) bL)
      (ah (gR (i:=4) jN.nd rfl (Or.inl rfl) (qJ hT F_law_bought (hr.mono (by decide)) (by rfl) (aa (dv 1) (aa (dv 2) af))))
      (ah (fq (bJ BY (dv 4) qK (aT _)) (aj (aL iH)) bL)
      (ah (fq (bJ oq (ai (dv 4) ae) ml (aT _)) (aj (aL iH)) bL)
      (ah (fq (DW.dt (jB (i7 (iA (ay F_law_right (hr.mono (by decide)) (by rfl) (aa (dv 1) (aa (dv 2) (aa (dv 4) af)))))) (jC (i7 (iA (ay F_law_looked (hr.mono (by decide)) (by rfl) (aa (dv 1) (aa (dv 2) (aa (dv 4) af))))))))) (aj (aL iH)) bL)
      (ah (vq (i:=5) jN.nd rfl (Or.inl rfl) (zN (ai (dv 4) ae) (vg (cV fN (by rfl) T.ff boot_list (aa (ai (ai (dv 4) ae) ae) af)) (cV fN (by rfl) T.ff boot_list (aa (ai (ai (dv 4) ae) ae) af))) (ai (dv 4) ae) (cV fN (by rfl) T.ff boot_list (aa (ai (dv 4) ae) af))))
      (ah (wL (i:=4) (m:=6) PassesOwn.never rfl rfl (by walk_at "v") rfl (by walk_at "v") (aq (i:=6) jN.nd rfl (Or.inl rfl)) (λ_ _ _=>(λ_ _=>rfl)))
      (ah (fq (bJ (uz hr) (cW (aa (ax eQ (by rfl) T.gW PySem.boot_len (aa (ai (ai (dv 4) ae) ae) af)) (aa (ax eQ (by rfl) T.gW PySem.boot_len (aa (ai (ai (dv 4) ae) ae) af)) (aa (ax eQ (by rfl) T.gW PySem.boot_len (aa (ai (dv 4) ae) af)) af)))) (cW (aa (ak az (ax eQ (by rfl) T.gW PySem.boot_len (aa (ai (dv 2) ae) af)) ae) (aa (ak az (ax eQ (by rfl) T.gW PySem.boot_len (aa (ai (dv 2) ae) af)) ae) (aa ae af)))) (aT _)) (aj (aL iH)) bL)
      (aj (aL (iZ (qY hr) (qJ hT F_law_bought (hr.mono (by decide)) (by rfl) (aa (dv 1) (aa (dv 2) af))) (dv 5) (aT _))))))))))))))),λds Q h=>?_⟩
  obtain ⟨ns,rfl,hl,q⟩:=h;refine iG (λρ=>∃g hs cs,eT g hs cs/\ρ = [some (B.p (D.scr ns)),some (B.p (dW g hs cs)),none,none,none,none,none]) ?_ λN hN=>?_;rotate_left
  · repeat (first | dsimp only[fu] | walk_at "rs1" | walk_at "rsx")
    exact λg hs cs ok=>hN _ ⟨g,hs,cs,ok,rfl⟩
  rintro ρ ⟨g,hs,cs,ok,rfl⟩;refine iG (λρ=>∃fs ws,nD fs ws/\ρ = [some (B.p (D.scr ns)),some (B.p (dW g hs cs)),some (B.p (dS fs ws)),none,none,none,none]) ?_ λN hN=>?_;rotate_left
  · repeat (first | dsimp only[gw] | walk_at "rs1" | walk_at "rsx")
    exact hN _ ⟨_,_,AL ns,rfl⟩
  rintro ρ ⟨fs,ws,so,rfl⟩;refine iG (λρ=>∃n,0<=n/\ρ=mR ns g hs cs fs ws n [none,none,none]) ?_ λN hN=>?_;rotate_left
  · walk_at "rs";refine ⟨by decide,eY ?_⟩;repeat (first | dsimp only[aJ] | walk_at "rs1" | walk_at "rsx")
    exact hN _ ⟨_,aA _ _,rfl⟩
  rintro ρ ⟨n,n0,rfl⟩;refine iG (λρ=>∃fs ws,nD fs ws/\ρ=mR ns g hs cs fs ws n [none,none,none]) ?_ λN hN=>?_;rotate_left
  · repeat (first | dsimp only[mR] | walk_at "rs1" | walk_at "rsx")
    refine ⟨by decide,λz=>?_,λz=>hN _ ⟨fs,ws,so,rfl⟩⟩;exact ⟨⟨by decide,by decide⟩,_,_,_,rfl,so,Int.ediv_nonneg n0 (by decide),λfs ws so _=>hN _ ⟨fs,ws,so,rfl⟩⟩
  clear so fs ws;rintro ρ ⟨fs,ws,so,rfl⟩;have nf:=so.nf;have nw:=so.nw;have g0:=ok.g0;have g1:=ok.g1;have np:∀x∈fs++ws,0<=x.2.1/\x.2.1<=1000000:=λx hx=>by
    rcases mem_append.mp hx with z | z
    · exact ⟨(so.f x z).p0,(so.f x z).p1⟩
    · exact ⟨(so.w x z).p0,(so.w x z).p1⟩
  have m0:∀x∈fs++ws,0<=x.2.2:=λx hx=>by
    rcases mem_append.mp hx with z | z
    · exact (so.f x z).m0
    · exact (so.w x z).m0
  have oi:gM g fs ws:=⟨λx hx=>⟨(so.f x hx).d0,(so.f x hx).d1⟩,λx hx=>⟨(so.w x hx).d0,by have:=(so.w x hx).d1;lia⟩⟩
  refine iG (λρ=>∃b,Told g hs cs fs ws b/\ρ=mR ns g hs cs fs ws n [some b,none,none]) ?_ λN hN=>?_;rotate_left
  · repeat (first | dsimp only[mR] | walk_at "rs1" | walk_at "rsx")
    exact ⟨g,hs,cs,fs,ws,rfl,ok,nf,nw,np,λb hb=>hN _ ⟨b,hb,rfl⟩⟩
  rintro ρ ⟨b,hb,rfl⟩;have hb0:=hb;rcases hb with ⟨k,L,_,rfl⟩ | ⟨sh,ord,l,W,oo,hl,hW,hws,rfl⟩
  · refine iG (λρ=>ρ=mR ns g hs cs fs ws n [some (.p (.tup [.str "short",.str k,.int L])),none,none]) ?_ λN hN=>?_;rotate_left
    · repeat (first | dsimp only[mR] | walk_at "rs1" | walk_at "rsx")
      exact ⟨λz=>(nomatch z),λ_=>hN _ rfl⟩
    rintro ρ rfl;refine iG (λ_=>False) (λ_ z=>z.elim) λN hN=>?_;repeat (first | dsimp only[mR] | walk_at "rs1" | walk_at "rsx")
    exact ⟨λ_=>q,λz=>(nomatch (show true=false from z))⟩
  have gd:=zU ok oi m0 sh oo hl hW hws;generalize iJ g hs cs fs ws ord=dr at hb0 gd ⊢;generalize iX fs dr=as at hb0 gd ⊢;generalize ky fs ws dr=bs at hb0 gd ⊢;generalize W.reverse=V at hb0 gd ⊢;have ft:Fits fs ws as bs:=⟨gd.la,gd.lb,nf,nw,gd.a0,gd.b0,np⟩
  have wd:ma g hs cs fs ws as bs:=⟨gd.Ga,gd.Fw⟩
  have la:=gd.la;have lb:=gd.lb;have lV:=gd.lV;generalize hp:aP fs as+aP ws bs=p at hb0 ⊢;refine iG (λρ=>ρ=mR ns g hs cs fs ws n [some (.n (.fnd "bought" p) [dA as,dA bs,dA V]),none,none]) ?_ λN hN=>?_;rotate_left
  · repeat (first | dsimp only[mR] | walk_at "rs1" | walk_at "rsx")
    exact ⟨λz=>(nomatch z),λ_=>hN _ rfl⟩
  rintro ρ rfl;refine iG (λρ=>ρ=mR ns g hs cs fs ws n [some (.n (.fnd "bought" p) [dA as,dA bs,dA V]),none,none]) ?_ λN hN=>?_;rotate_left
  · repeat (first | dsimp only[mR] | walk_at "rs1" | walk_at "rsx")
    have b1:decide ((Str.ofString "bought")=Str.ofString "short")=false:=by decide
    rw[b1];exact ⟨λz=>(nomatch z),λ_=>hN _ rfl⟩
  rintro ρ rfl;refine iG (λρ=>ρ=mR ns g hs cs fs ws n [some (.n (.fnd "bought" p) [dA as,dA bs,dA V]),none,none]) ?_ λN hN=>?_;rotate_left
  · repeat (first | dsimp only[mR] | walk_at "rs1" | walk_at "rsx")
    refine ⟨g,hs,cs,fs,ws,as,bs,p,V,rfl,ok,oi,ft,lV,wd,hp.symm,?_⟩;walk_at "rs";refine ⟨λz=>(nomatch z),λ_=>⟨g,hs,cs,fs,ws,as,bs,p,V,rfl,ok,oi,ft,lV,wd,hp.symm,?_⟩⟩;walk_at "rs";exact ⟨λz=>(nomatch z),λ_=>hN _ rfl⟩
  rintro ρ rfl;refine iG (λρ=>ρ=mR ns g hs cs fs ws n [some (.n (.fnd "bought" p) [dA as,dA bs,dA V]),some (.n (.fnd "bought" p) [dA as,dA bs,dA V]),none]) ?_ λN hN=>?_;rotate_left
  · repeat (first | dsimp only[mR,dA] | walk_at "rs1" | walk_at "rsx")
    refine ⟨_,_,rfl,rfl,?_⟩;walk_at "rs";exact ⟨_,_,_,_,_,rfl,rfl,rfl,rfl,yo (as:=as) (bs:=bs) (V:=V),hN _ rfl⟩
  rintro ρ rfl;refine iG (λρ=>ρ=mR ns g hs cs fs ws n [some (.n (.fnd "bought" p) [dA (as++[1]),dA (bs++[1]),dA (V++[1])]),some (.n (.fnd "bought" p) [dA as,dA bs,dA V]),none]) ?_ λN hN=>?_;rotate_left
  · repeat (first | dsimp only[mR] | walk_at "rs1" | walk_at "rsx")
    refine ⟨_,_,as.map D.int,bs.map D.int,V.map D.int,rfl,trivial,by decide,by decide,?_,?_,?_,hN _ ?_⟩
    · exact lt1000 (by rw[length_map];lia)
    · exact lt1000 (by rw[length_map];lia)
    · exact lt1000 (by rw[length_map];lia)
    unfold mR dA;rw[map_append,map_append,map_append];rfl
  rintro ρ rfl;refine iG (λρ=>ρ=mR ns g hs cs fs ws n [some (.n (.fnd "bought" p) [dA (as++[1]),dA (bs++[1]),dA (V++[1])]),some (.n (.fnd "bought" p) [dA as,dA bs,dA V]),none]) ?_ λN hN=>?_;rotate_left
  · repeat (first | dsimp only[mR,dA,dS] | walk_at "rs1" | walk_at "rsx")
    have e1:((((as++[1]).map D.int).length:Nat):Int)=(((fs.map dO).length:Nat):Int)+1:=by rw[length_map,length_append,length_map,la];rfl
    have e2:((((bs++[1]).map D.int).length:Nat):Int)=(((ws.map dO).length:Nat):Int)+1:=by rw[length_map,length_append,length_map,lb];rfl
    have e3:((((V++[1]).map D.int).length:Nat):Int)=251:=by rw[length_map,length_append,lV];rfl
    rw[e1,e2,e3];exact Fe ⟨λz=>(nomatch z),λ_=>hN _ rfl⟩
  rintro ρ rfl;repeat (first | dsimp only[mR] | walk_at "rs1" | walk_at "rsx")
  refine ⟨g,hs,cs,fs,ws,rfl,ok,nf,nw,np,λb hb=>?_⟩;obtain rfl:=hb.uniq hb0;walk_at "rs";exact uh q
end
end WS
namespace WS
open PySem L2 DL
theorem gZ {α:Type}{P:List α->Prop}(h:∀x0,P [x0]):∀us:List α,us.length=1->P us:=λus hl=>match us,hl with | [x0],_=>h x0
theorem cz {α:Type}{P:List α->Prop}(h:∀x0 x1,P [x0,x1]):∀us:List α,us.length=2->P us:=λus hl=>match us,hl with | [x0,x1],_=>h x0 x1
theorem j6 {α:Type}{P:List α->Prop}(h:∀x0 x1 x2,P [x0,x1,x2]):∀us:List α,us.length=3->P us:=λus hl=>match us,hl with | [x0,x1,x2],_=>h x0 x1 x2
theorem all_mk {l:PySem.W.OpenLaw}{w:World}{K:Frag}{h:Heap}{mg:Str->Option Value}{fa:Addr}(X:K.In h)(G:h.Ns mainGlobals mg)(hfa:mg "law" = some (.ref fa))
    {f1:Addr} {od1 an1:Option Addr} {sl1:Array (Option Value)} {oc1 kV1 dc1 pm1 cd1 ct1:Value}
    {f2:Addr} {od2 an2:Option Addr} {sl2:Array (Option Value)} {oc2 kV2 dc2 pm2 cd2 ct2:Value}
    {f3:Addr} {od3 an3:Option Addr} {sl3:Array (Option Value)} {oc3 kV3 dc3 pm3 cd3 ct3:Value}
    {f4:Addr} {od4 an4:Option Addr} {sl4:Array (Option Value)} {oc4 kV4 dc4 pm4 cd4 ct4:Value}
    {f5:Addr} {od5 an5:Option Addr} {sl5:Array (Option Value)} {oc5 kV5 dc5 pm5 cd5 ct5:Value}
    {f6:Addr} {od6 an6:Option Addr} {sl6:Array (Option Value)} {oc6 kV6 dc6 pm6 cd6 ct6:Value}
    {f7:Addr} {od7 an7:Option Addr} {sl7:Array (Option Value)} {oc7 kV7 dc7 pm7 cd7 ct7:Value}
    {f8:Addr} {od8 an8:Option Addr} {sl8:Array (Option Value)} {oc8 kV8 dc8 pm8 cd8 ct8:Value}
    {f9:Addr} {od9 an9:Option Addr} {sl9:Array (Option Value)} {oc9 kV9 dc9 pm9 cd9 ct9:Value}
    {f10:Addr} {od10 an10:Option Addr} {sl10:Array (Option Value)} {oc10 kV10 dc10 pm10 cd10 ct10:Value}
    {f11:Addr} {od11 an11:Option Addr} {sl11:Array (Option Value)} {oc11 kV11 dc11 pm11 cd11 ct11:Value}
    {f12:Addr} {od12 an12:Option Addr} {sl12:Array (Option Value)} {oc12 kV12 dc12 pm12 cd12 ct12:Value}
    {f13:Addr} {od13 an13:Option Addr} {sl13:Array (Option Value)} {oc13 kV13 dc13 pm13 cd13 ct13:Value}
    {f14:Addr} {od14 an14:Option Addr} {sl14:Array (Option Value)} {oc14 kV14 dc14 pm14 cd14 ct14:Value}
    {f15:Addr} {od15 an15:Option Addr} {sl15:Array (Option Value)} {oc15 kV15 dc15 pm15 cd15 ct15:Value}
    {f16:Addr} {od16 an16:Option Addr} {sl16:Array (Option Value)} {oc16 kV16 dc16 pm16 cd16 ct16:Value}
    {f17:Addr} {od17 an17:Option Addr} {sl17:Array (Option Value)} {oc17 kV17 dc17 pm17 cd17 ct17:Value}
    {f18:Addr} {od18 an18:Option Addr} {sl18:Array (Option Value)} {oc18 kV18 dc18 pm18 cd18 ct18:Value}
    {f19:Addr} {od19 an19:Option Addr} {sl19:Array (Option Value)} {oc19 kV19 dc19 pm19 cd19 ct19:Value}
    {f20:Addr} {od20 an20:Option Addr} {sl20:Array (Option Value)} {oc20 kV20 dc20 pm20 cd20 ct20:Value}
    {f21:Addr} {od21 an21:Option Addr} {sl21:Array (Option Value)} {oc21 kV21 dc21 pm21 cd21 ct21:Value}
    {f22:Addr} {od22 an22:Option Addr} {sl22:Array (Option Value)} {oc22 kV22 dc22 pm22 cd22 ct22:Value}
    {mR:Addr} {od23 an23:Option Addr} {sl23:Array (Option Value)} {oc23 kV23 dc23 pm23 cd23 ct23:Value}
    {f24:Addr} {od24 an24:Option Addr} {sl24:Array (Option Value)} {oc24 kV24 dc24 pm24 cd24 ct24:Value}
    {f25:Addr} {od25 an25:Option Addr} {sl25:Array (Option Value)} {oc25 kV25 dc25 pm25 cd25 ct25:Value}
    {f26:Addr} {od26 an26:Option Addr} {sl26:Array (Option Value)} {oc26 kV26 dc26 pm26 cd26 ct26:Value}
    {f27:Addr} {od27 an27:Option Addr} {sl27:Array (Option Value)} {oc27 kV27 dc27 pm27 cd27 ct27:Value}
    {f28:Addr} {od28 an28:Option Addr} {sl28:Array (Option Value)} {oc28 kV28 dc28 pm28 cd28 ct28:Value}
    {f29:Addr} {od29 an29:Option Addr} {sl29:Array (Option Value)} {oc29 kV29 dc29 pm29 cd29 ct29:Value}
    {f30:Addr} {od30 an30:Option Addr} {sl30:Array (Option Value)} {oc30 kV30 dc30 pm30 cd30 ct30:Value}
    {f31:Addr} {od31 an31:Option Addr} {sl31:Array (Option Value)} {oc31 kV31 dc31 pm31 cd31 ct31:Value}
    {f32:Addr} {od32 an32:Option Addr} {sl32:Array (Option Value)} {oc32 kV32 dc32 pm32 cd32 ct32:Value}
    {tk1:Tok}
    {Pt mc:Addr}
    (a1:nsIn K mainGlobals "_law_stir" = some (some (.ref f1))) (l1:K.lookup f1=some ⟨oc1,od1,.func (fnOf "_law_stir" "_law_stir" (aB gA) (av gA) (ag gA) .none kV1 dc1 pm1 an1 cd1 ct1),sl1⟩) (c1:codeIn K cd1 "_law_stir" = true) (k1:keepIn K (.ref f1)=true)
    (a2:nsIn K mainGlobals "_law_stream" = some (some (.ref f2))) (l2:K.lookup f2=some ⟨oc2,od2,.func (fnOf "_law_stream" "_law_stream" (aB eN) (av eN) (ag eN) .none kV2 dc2 pm2 an2 cd2 ct2),sl2⟩) (c2:codeIn K cd2 "_law_stream" = true) (k2:keepIn K (.ref f2)=true)
    (a3:nsIn K mainGlobals "_law_works" = some (some (.ref f3))) (l3:K.lookup f3=some ⟨oc3,od3,.func (fnOf "_law_works" "_law_works" (aB fy) (av fy) (ag fy) .none kV3 dc3 pm3 an3 cd3 ct3),sl3⟩) (c3:codeIn K cd3 "_law_works" = true) (k3:keepIn K (.ref f3)=true)
    (a4:nsIn K mainGlobals "_law_offer" = some (some (.ref f4))) (l4:K.lookup f4=some ⟨oc4,od4,.func (fnOf "_law_offer" "_law_offer" (aB fw) (av fw) (ag fw) .none kV4 dc4 pm4 an4 cd4 ct4),sl4⟩) (c4:codeIn K cd4 "_law_offer" = true) (k4:keepIn K (.ref f4)=true)
    (a5:nsIn K mainGlobals "_law_shop" = some (some (.ref f5))) (l5:K.lookup f5=some ⟨oc5,od5,.func (fnOf "_law_shop" "_law_shop" (aB gz) (av gz) (ag gz) .none kV5 dc5 pm5 an5 cd5 ct5),sl5⟩) (c5:codeIn K cd5 "_law_shop" = true) (k5:keepIn K (.ref f5)=true)
    (a6:nsIn K mainGlobals "heat_above" = some (some (.ref f6))) (l6:K.lookup f6=some ⟨oc6,od6,.func (fnOf "heat_above" "heat_above" (aB dm) (av dm) (ag dm) .none kV6 dc6 pm6 an6 cd6 ct6),sl6⟩) (c6:codeIn K cd6 "heat_above" = true) (k6:keepIn K (.ref f6)=true)
    (a7:nsIn K mainGlobals "cold_bands" = some (some (.ref f7))) (l7:K.lookup f7=some ⟨oc7,od7,.func (fnOf "cold_bands" "cold_bands" (aB dk) (av dk) (ag dk) .none kV7 dc7 pm7 an7 cd7 ct7),sl7⟩) (c7:codeIn K cd7 "cold_bands" = true) (k7:keepIn K (.ref f7)=true)
    (a8:nsIn K mainGlobals "hot_bands" = some (some (.ref f8))) (l8:K.lookup f8=some ⟨oc8,od8,.func (fnOf "hot_bands" "hot_bands" (aB eC) (av eC) (ag eC) .none kV8 dc8 pm8 an8 cd8 ct8),sl8⟩) (c8:codeIn K cd8 "hot_bands" = true) (k8:keepIn K (.ref f8)=true)
    (a9:nsIn K mainGlobals "lack_above" = some (some (.ref f9))) (l9:K.lookup f9=some ⟨oc9,od9,.func (fnOf "lack_above" "lack_above" (aB eG) (av eG) (ag eG) .none kV9 dc9 pm9 an9 cd9 ct9),sl9⟩) (c9:codeIn K cd9 "lack_above" = true) (k9:keepIn K (.ref f9)=true)
    (a10:nsIn K mainGlobals "lacks_above" = some (some (.ref f10))) (l10:K.lookup f10=some ⟨oc10,od10,.func (fnOf "lacks_above" "lacks_above" (aB cG) (av cG) (ag cG) .none kV10 dc10 pm10 an10 cd10 ct10),sl10⟩) (c10:codeIn K cd10 "lacks_above" = true) (k10:keepIn K (.ref f10)=true)
    (a11:nsIn K mainGlobals "fire_levels" = some (some (.ref f11))) (l11:K.lookup f11=some ⟨oc11,od11,.func (fnOf "fire_levels" "fire_levels" (aB cF) (av cF) (ag cF) .none kV11 dc11 pm11 an11 cd11 ct11),sl11⟩) (c11:codeIn K cd11 "fire_levels" = true) (k11:keepIn K (.ref f11)=true)
    (a12:nsIn K mainGlobals "water_levels" = some (some (.ref f12))) (l12:K.lookup f12=some ⟨oc12,od12,.func (fnOf "water_levels" "water_levels" (aB bY) (av bY) (ag bY) .none kV12 dc12 pm12 an12 cd12 ct12),sl12⟩) (c12:codeIn K cd12 "water_levels" = true) (k12:keepIn K (.ref f12)=true)
    (a13:nsIn K mainGlobals "amount_above" = some (some (.ref f13))) (l13:K.lookup f13=some ⟨oc13,od13,.func (fnOf "amount_above" "amount_above" (aB bX) (av bX) (ag bX) .none kV13 dc13 pm13 an13 cd13 ct13),sl13⟩) (c13:codeIn K cd13 "amount_above" = true) (k13:keepIn K (.ref f13)=true)
    (a14:nsIn K mainGlobals "surpluses_above" = some (some (.ref f14))) (l14:K.lookup f14=some ⟨oc14,od14,.func (fnOf "surpluses_above" "surpluses_above" (aB bz) (av bz) (ag bz) .none kV14 dc14 pm14 an14 cd14 ct14),sl14⟩) (c14:codeIn K cd14 "surpluses_above" = true) (k14:keepIn K (.ref f14)=true)
    (a15:nsIn K mainGlobals "mosts" = some (some (.ref f15))) (l15:K.lookup f15=some ⟨oc15,od15,.func (fnOf "mosts" "mosts" (aB jq) (av jq) (ag jq) .none kV15 dc15 pm15 an15 cd15 ct15),sl15⟩) (c15:codeIn K cd15 "mosts" = true) (k15:keepIn K (.ref f15)=true)
    (a16:nsIn K mainGlobals "nothing" = some (some (.ref f16))) (l16:K.lookup f16=some ⟨oc16,od16,.func (fnOf "nothing" "nothing" (aB gB) (av gB) (ag gB) .none kV16 dc16 pm16 an16 cd16 ct16),sl16⟩) (c16:codeIn K cd16 "nothing" = true) (k16:keepIn K (.ref f16)=true)
    (a17:nsIn K mainGlobals "shortage" = some (some (.ref f17))) (l17:K.lookup f17=some ⟨oc17,od17,.func (fnOf "shortage" "shortage" (aB gC) (av gC) (ag gC) .none kV17 dc17 pm17 an17 cd17 ct17),sl17⟩) (c17:codeIn K cd17 "shortage" = true) (k17:keepIn K (.ref f17)=true)
    (a18:nsIn K mainGlobals "lots_of" = some (some (.ref f18))) (l18:K.lookup f18=some ⟨oc18,od18,.func (fnOf "lots_of" "lots_of" (aB fz) (av fz) (ag fz) .none kV18 dc18 pm18 an18 cd18 ct18),sl18⟩) (c18:codeIn K cd18 "lots_of" = true) (k18:keepIn K (.ref f18)=true)
    (a19:nsIn K mainGlobals "drawn_of" = some (some (.ref f19))) (l19:K.lookup f19=some ⟨oc19,od19,.func (fnOf "drawn_of" "drawn_of" (aB eB) (av eB) (ag eB) .none kV19 dc19 pm19 an19 cd19 ct19),sl19⟩) (c19:codeIn K cd19 "drawn_of" = true) (k19:keepIn K (.ref f19)=true)
    (a20:nsIn K mainGlobals "buying_of" = some (some (.ref f20))) (l20:K.lookup f20=some ⟨oc20,od20,.func (fnOf "buying_of" "buying_of" (aB eA) (av eA) (ag eA) .none kV20 dc20 pm20 an20 cd20 ct20),sl20⟩) (c20:codeIn K cd20 "buying_of" = true) (k20:keepIn K (.ref f20)=true)
    (a21:nsIn K mainGlobals "worths_of" = some (some (.ref f21))) (l21:K.lookup f21=some ⟨oc21,od21,.func (fnOf "worths_of" "worths_of" (aB dg) (av dg) (ag dg) .none kV21 dc21 pm21 an21 cd21 ct21),sl21⟩) (c21:codeIn K cd21 "worths_of" = true) (k21:keepIn K (.ref f21)=true)
    (a22:nsIn K mainGlobals "price_of" = some (some (.ref f22))) (l22:K.lookup f22=some ⟨oc22,od22,.func (fnOf "price_of" "price_of" (aB eD) (av eD) (ag eD) .none kV22 dc22 pm22 an22 cd22 ct22),sl22⟩) (c22:codeIn K cd22 "price_of" = true) (k22:keepIn K (.ref f22)=true)
    (a23:nsIn K mainGlobals "cheapest" = some (some (.ref mR))) (l23:K.lookup mR=some ⟨oc23,od23,.func (fnOf "cheapest" "cheapest" (aB gy) (av gy) (ag gy) .none kV23 dc23 pm23 an23 cd23 ct23),sl23⟩) (c23:codeIn K cd23 "cheapest" = true) (k23:keepIn K (.ref mR)=true)
    (a24:nsIn K mainGlobals "_law_bought" = some (some (.ref f24))) (l24:K.lookup f24=some ⟨oc24,od24,.func (fnOf "_law_bought" "_law_bought" (aB eI) (av eI) (ag eI) .none kV24 dc24 pm24 an24 cd24 ct24),sl24⟩) (c24:codeIn K cd24 "_law_bought" = true) (k24:keepIn K (.ref f24)=true)
    (a25:nsIn K mainGlobals "_law_with_ends" = some (some (.ref f25))) (l25:K.lookup f25=some ⟨oc25,od25,.func (fnOf "_law_with_ends" "_law_with_ends" (aB cn) (av cn) (ag cn) .none kV25 dc25 pm25 an25 cd25 ct25),sl25⟩) (c25:codeIn K cd25 "_law_with_ends" = true) (k25:keepIn K (.ref f25)=true)
    (a26:nsIn K mainGlobals "_law_spares" = some (some (.ref f26))) (l26:K.lookup f26=some ⟨oc26,od26,.func (fnOf "_law_spares" "_law_spares" (aB eM) (av eM) (ag eM) .none kV26 dc26 pm26 an26 cd26 ct26),sl26⟩) (c26:codeIn K cd26 "_law_spares" = true) (k26:keepIn K (.ref f26)=true)
    (a27:nsIn K mainGlobals "_law_wholes" = some (some (.ref f27))) (l27:K.lookup f27=some ⟨oc27,od27,.func (fnOf "_law_wholes" "_law_wholes" (aB dq) (av dq) (ag dq) .none kV27 dc27 pm27 an27 cd27 ct27),sl27⟩) (c27:codeIn K cd27 "_law_wholes" = true) (k27:keepIn K (.ref f27)=true)
    (a28:nsIn K mainGlobals "_law_formed" = some (some (.ref f28))) (l28:K.lookup f28=some ⟨oc28,od28,.func (fnOf "_law_formed" "_law_formed" (aB eJ) (av eJ) (ag eJ) .none kV28 dc28 pm28 an28 cd28 ct28),sl28⟩) (c28:codeIn K cd28 "_law_formed" = true) (k28:keepIn K (.ref f28)=true)
    (a29:nsIn K mainGlobals "_law_right" = some (some (.ref f29))) (l29:K.lookup f29=some ⟨oc29,od29,.func (fnOf "_law_right" "_law_right" (aB fx) (av fx) (ag fx) .none kV29 dc29 pm29 an29 cd29 ct29),sl29⟩) (c29:codeIn K cd29 "_law_right" = true) (k29:keepIn K (.ref f29)=true)
    (a30:nsIn K mainGlobals "will_do" = some (some (.ref f30))) (l30:K.lookup f30=some ⟨oc30,od30,.func (fnOf "will_do" "will_do" (aB g7) (av g7) (ag g7) .none kV30 dc30 pm30 an30 cd30 ct30),sl30⟩) (c30:codeIn K cd30 "will_do" = true) (k30:keepIn K (.ref f30)=true)
    (a31:nsIn K mainGlobals "_law_looked" = some (some (.ref f31))) (l31:K.lookup f31=some ⟨oc31,od31,.func (fnOf "_law_looked" "_law_looked" (aB eK) (av eK) (ag eK) .none kV31 dc31 pm31 an31 cd31 ct31),sl31⟩) (c31:codeIn K cd31 "_law_looked" = true) (k31:keepIn K (.ref f31)=true)
    (a32:nsIn K mainGlobals "law" = some (some (.ref f32))) (l32:K.lookup f32=some ⟨oc32,od32,.func (fnOf "law" "law" (aB lL) (av lL) (ag lL) .none kV32 dc32 pm32 an32 cd32 ct32),sl32⟩) (c32:codeIn K cd32 "law" = true) (k32:keepIn K (.ref f32)=true)
    (z1:nsIn K mainGlobals "sum" = some none)
    (z2:nsIn K mainGlobals "range" = some none)
    (z3:nsIn K mainGlobals "max" = some none)
    (z4:nsIn K mainGlobals "list" = some none)
    (z5:nsIn K mainGlobals "zip" = some none)
    (z6:nsIn K mainGlobals "enumerate" = some none)
    (z7:nsIn K mainGlobals "sorted" = some none)
    (z8:nsIn K mainGlobals "len" = some none)
    (z9:nsIn K mainGlobals "min" = some none)
    (z10:nsIn K mainGlobals "reversed" = some none)
    (z11:nsIn K mainGlobals "isinstance" = some none)
    (z12:nsIn K mainGlobals "tuple" = some none)
    (z13:nsIn K mainGlobals "bool" = some none)
    (z14:nsIn K mainGlobals "int" = some none)
    (y1:nsIn K mainGlobals "LEVELS" = some (some (.int 250 tk1)))
    (m1:cd19=.ref mc) (m2:PySem.W.codeHdIn K mc Pt=true) (m3:K.lookup Pt=none)
    : ∃(fd:FuncData) (c:Addr),K.lookup Pt=none/\PySem.W.codeHdIn K c Pt=true/\(∀(s:Shared) (v:Value),BindsTo s fd ⟨[v],[]⟩ [("script",v)])/\∀base:Heap,K.In base->base.Ns mainGlobals mg->bp mg base->bO l.prog w K mg base gX 8 fa fd ["script"] (oM K Pt xC):=by
  have e:=hfa.symm.trans (mg_of X G a32);cases e;have F1:=aZ (st:=gA) l1 c1 k1;have b1:=F1.binds (ps:=["cell","k"]) λ_ _ _ _ _ _=>cz λ_ _=>rfl;have F2:=aZ (st:=eN) l2 c2 k2;have b2:=F2.binds (ps:=["cell","least"]) λ_ _ _ _ _ _=>cz λ_ _=>rfl;have F3:=aZ (st:=fy) l3 c3 k3;have b3:=F3.binds (ps:=["script"]) λ_ _ _ _ _ _=>gZ λ_=>rfl;have F4:=aZ (st:=fw) l4 c4 k4;have b4:=F4.binds (ps:=["cell","least"]) λ_ _ _ _ _ _=>cz λ_ _=>rfl;have F5:=aZ (st:=gz) l5 c5 k5;have b5:=F5.binds (ps:=["script"]) λ_ _ _ _ _ _=>gZ λ_=>rfl;have F6:=aZ (st:=dm) l6 c6 k6;have b6:=F6.binds (ps:=["bands","level"]) λ_ _ _ _ _ _=>cz λ_ _=>rfl;have F7:=aZ (st:=dk) l7 c7 k7;have b7:=F7.binds (ps:=["works"]) λ_ _ _ _ _ _=>gZ λ_=>rfl;have F8:=aZ (st:=eC) l8 c8 k8;have b8:=F8.binds (ps:=["works"]) λ_ _ _ _ _ _=>gZ λ_=>rfl;have F9:=aZ (st:=eG) l9 c9 k9;have b9:=F9.binds (ps:=["works","level"]) λ_ _ _ _ _ _=>cz λ_ _=>rfl;have F10:=aZ (st:=cG) l10 c10 k10;have b10:=F10.binds (ps:=["works"]) λ_ _ _ _ _ _=>gZ λ_=>rfl;have F11:=aZ (st:=cF) l11 c11 k11;have b11:=F11.binds (ps:=["shop"]) λ_ _ _ _ _ _=>gZ λ_=>rfl;have F12:=aZ (st:=bY) l12 c12 k12;have b12:=F12.binds (ps:=["works","shop"]) λ_ _ _ _ _ _=>cz λ_ _=>rfl;have F13:=aZ (st:=bX) l13 c13 k13;have b13:=F13.binds (ps:=["bought","level"]) λ_ _ _ _ _ _=>cz λ_ _=>rfl;have F14:=aZ (st:=bz) l14 c14 k14;have b14:=F14.binds (ps:=["works","shop","buying"]) λ_ _ _ _ _ _=>j6 λ_ _ _=>rfl;have F15:=aZ (st:=jq) l15 c15 k15;have b15:=F15.binds (ps:=["offers"]) λ_ _ _ _ _ _=>gZ λ_=>rfl;have F16:=aZ (st:=gB) l16 c16 k16;have b16:=F16.binds (ps:=["offers"]) λ_ _ _ _ _ _=>gZ λ_=>rfl;have F17:=aZ (st:=gC) l17 c17 k17;have b17:=F17.binds (ps:=["works","shop"]) λ_ _ _ _ _ _=>cz λ_ _=>rfl;have F18:=aZ (st:=fz) l18 c18 k18;have b18:=F18.binds (ps:=["works","shop"]) λ_ _ _ _ _ _=>cz λ_ _=>rfl;have F19:=aZ (st:=eB) l19 c19 k19;have b19:=F19.binds (ps:=["lots","surpluses"]) λ_ _ _ _ _ _=>cz λ_ _=>rfl;have F20:=aZ (st:=eA) l20 c20 k20;have b20:=F20.binds (ps:=["shop","drawn"]) λ_ _ _ _ _ _=>cz λ_ _=>rfl;have F21:=aZ (st:=dg) l21 c21 k21;have b21:=F21.binds (ps:=["lots","drawn","surpluses"]) λ_ _ _ _ _ _=>j6 λ_ _ _=>rfl;have F22:=aZ (st:=eD) l22 c22 k22;have b22:=F22.binds (ps:=["shop","buying"]) λ_ _ _ _ _ _=>cz λ_ _=>rfl;have F23:=aZ (st:=gy) l23 c23 k23;have b23:=F23.binds (ps:=["works","shop"]) λ_ _ _ _ _ _=>cz λ_ _=>rfl;have F24:=aZ (st:=eI) l24 c24 k24;have b24:=F24.binds (ps:=["works","shop"]) λ_ _ _ _ _ _=>cz λ_ _=>rfl;have F25:=aZ (st:=cn) l25 c25 k25;have b25:=F25.binds (ps:=["shop","number"]) λ_ _ _ _ _ _=>cz λ_ _=>rfl;have F26:=aZ (st:=eM) l26 c26 k26;have b26:=F26.binds (ps:=["works","shop","buying"]) λ_ _ _ _ _ _=>j6 λ_ _ _=>rfl;have F27:=aZ (st:=dq) l27 c27 k27;have b27:=F27.binds (ps:=["found","many"]) λ_ _ _ _ _ _=>cz λ_ _=>rfl;have F28:=aZ (st:=eJ) l28 c28 k28;have b28:=F28.binds (ps:=["found","shop"]) λ_ _ _ _ _ _=>cz λ_ _=>rfl;have F29:=aZ (st:=fx) l29 c29 k29;have b29:=F29.binds (ps:=["works","shop","found"]) λ_ _ _ _ _ _=>j6 λ_ _ _=>rfl;have F30:=aZ (st:=g7) l30 c30 k30;have b30:=F30.binds (ps:=["works","shop","buying"]) λ_ _ _ _ _ _=>j6 λ_ _ _=>rfl;have F31:=aZ (st:=eK) l31 c31 k31;have b31:=F31.binds (ps:=["works","shop","found"]) λ_ _ _ _ _ _=>j6 λ_ _ _=>rfl;have F32:=aZ (st:=lL) l32 c32 k32;have b32:=F32.binds (ps:=["script"]) λ_ _ _ _ _ _=>gZ λ_=>rfl;have T:ka mg:=⟨mg_none_of X G z1,mg_none_of X G z2,mg_none_of X G z3,mg_none_of X G z4,mg_none_of X G z5,mg_none_of X G z6,mg_none_of X G z7,mg_none_of X G z8,mg_none_of X G z9,mg_none_of X G z10,mg_none_of X G z11,mg_none_of X G z12,mg_none_of X G z13,mg_none_of X G z14,⟨_,mg_of X G y1⟩⟩
  subst m1;have FC:=zT (st:=eB) l19 c19 m2;have G1:∀base:Heap,K.In base/\bp mg base->Fn l.prog w K mg base "_law_stir" 1 ["cell","k"] (bS K aJ):=λbase B=>bW F1 (mg_of X G a1) b1 (sV T F1);have G2:∀base:Heap,K.In base/\bp mg base->Fn l.prog w K mg base "_law_stream" 2 ["cell","least"] (bS K jm):=λbase B=>bW F2 (mg_of X G a2) b2 (pF T (G1 base B) F2);have G3:∀base:Heap,K.In base/\bp mg base->Fn l.prog w K mg base "_law_works" 3 ["script"] (bS K fu):=λbase B=>bW F3 (mg_of X G a3) b3 (rb T (G2 base B) (G1 base B) F3);have G4:∀base:Heap,K.In base/\bp mg base->Fn l.prog w K mg base "_law_offer" 2 ["cell","least"] (bS K bB):=λbase B=>bW F4 (mg_of X G a4) b4 (q9 T (G1 base B) F4);have G5:∀base:Heap,K.In base/\bp mg base->Fn l.prog w K mg base "_law_shop" 3 ["script"] (bS K gw):=λbase B=>bW F5 (mg_of X G a5) b5 (sU T (G1 base B) (G4 base B) F5);have G6:∀base:Heap,K.In base/\bp mg base->Fn l.prog w K mg base "heat_above" 1 ["bands","level"] (bS K jg):=λbase B=>bW F6 (mg_of X G a6) b6 (pz T F6);have G7:∀base:Heap,K.In base/\bp mg base->Fn l.prog w K mg base "cold_bands" 1 ["works"] (bS K jf):=λbase B=>bW F7 (mg_of X G a7) b7 (pk T F7);have G8:∀base:Heap,K.In base/\bp mg base->Fn l.prog w K mg base "hot_bands" 1 ["works"] (bS K jK):=λbase B=>bW F8 (mg_of X G a8) b8 (q8 T F8);have G9:∀base:Heap,K.In base/\bp mg base->Fn l.prog w K mg base "lack_above" 2 ["works","level"] (bS K jh):=λbase B=>bW F9 (mg_of X G a9) b9 (pA T (G6 base B) (G7 base B) (G8 base B) F9);have G10:∀base:Heap,K.In base/\bp mg base->Fn l.prog w K mg base "lacks_above" 3 ["works"] (bS K iC):=λbase B=>bW F10 (mg_of X G a10) b10 (ow T (G9 base B) F10);have G11:∀base:Heap,K.In base/\bp mg base->Fn l.prog w K mg base "fire_levels" 1 ["shop"] (bS K gF):=λbase B=>bW F11 (mg_of X G a11) b11 (ou T F11);have G12:∀base:Heap,K.In base/\bp mg base->Fn l.prog w K mg base "water_levels" 1 ["works","shop"] (bS K fU):=λbase B=>bW F12 (mg_of X G a12) b12 (mZ T F12);have G13:∀base:Heap,K.In base/\bp mg base->Fn l.prog w K mg base "amount_above" 1 ["bought","level"] (bS K ij):=λbase B=>bW F13 (mg_of X G a13) b13 (mY T F13);have G14:∀base:Heap,K.In base/\bp mg base->Fn l.prog w K mg base "surpluses_above" 4 ["works","shop","buying"] (bS K cB):=λbase B=>bW F14 (mg_of X G a14) b14 (kI T (G10 base B) (G11 base B) (G12 base B) (G13 base B) F14);have G15:∀base:Heap,K.In base/\bp mg base->Fn l.prog w K mg base "mosts" 1 ["offers"] (bS K nv):=λbase B=>bW F15 (mg_of X G a15) b15 (yR T F15);have G16:∀base:Heap,K.In base/\bp mg base->Fn l.prog w K mg base "nothing" 1 ["offers"] (bS K j7):=λbase B=>bW F16 (mg_of X G a16) b16 (uC T F16);have G17:∀base:Heap,K.In base/\bp mg base->Fn l.prog w K mg base "shortage" 5 ["works","shop"] (bS K kN):=λbase B=>bW F17 (mg_of X G a17) b17 (sX T (G14 base B) (G15 base B) (G16 base B) F17);have G18:∀base:Heap,K.In base/\bp mg base->Fn l.prog w K mg base "lots_of" 2 ["works","shop"] (bS K mH):=λbase B=>bW F18 (mg_of X G a18) b18 (uB T (G11 base B) (G12 base B) F18);have G19:∀base:Heap,K.In base/\bp mg base->Fn l.prog w K mg base "drawn_of" 1 ["lots","surpluses"] (kQ K Pt xC kM):=λbase B=>bW F19 (mg_of X G a19) b19 (sT B.1 B.2 T FC);have G20:∀base:Heap,K.In base/\bp mg base->Fn l.prog w K mg base "buying_of" 1 ["shop","drawn"] (bS K jJ):=λbase B=>bW F20 (mg_of X G a20) b20 (qZ T F20);have G21:∀base:Heap,K.In base/\bp mg base->Fn l.prog w K mg base "worths_of" 1 ["lots","drawn","surpluses"] (bS K jM):=λbase B=>bW F21 (mg_of X G a21) b21 (rd T F21);have G22:∀base:Heap,K.In base/\bp mg base->Fn l.prog w K mg base "price_of" 1 ["shop","buying"] (bS K jo):=λbase B=>bW F22 (mg_of X G a22) b22 (sW T F22);have G23:∀base:Heap,K.In base/\bp mg base->Fn l.prog w K mg base "cheapest" 6 ["works","shop"] (kQ K Pt xC kL):=λbase B=>bW F23 (mg_of X G a23) b23 (sS T (G17 base B) (G18 base B) (G19 base B) (G20 base B) (G21 base B) (G14 base B) (G22 base B) (G16 base B) (G15 base B) F23);have G24:∀base:Heap,K.In base/\bp mg base->Fn l.prog w K mg base "_law_bought" 7 ["works","shop"] (kQ K Pt xC ji):=λbase B=>bW F24 (mg_of X G a24) b24 (pB T (G23 base B) F24);have G25:∀base:Heap,K.In base/\bp mg base->Fn l.prog w K mg base "_law_with_ends" 1 ["shop","number"] (bS K gU):=λbase B=>bW F25 (mg_of X G a25) b25 (mD T F25);have G26:∀base:Heap,K.In base/\bp mg base->Fn l.prog w K mg base "_law_spares" 1 ["works","shop","buying"] (bS K jl):=λbase B=>bW F26 (mg_of X G a26) b26 (pE T F26);have G27:∀base:Heap,K.In base/\bp mg base->Fn l.prog w K mg base "_law_wholes" 1 ["found","many"] (bS K jn):=λbase B=>bW F27 (mg_of X G a27) b27 (pG T F27);have G28:∀base:Heap,K.In base/\bp mg base->Fn l.prog w K mg base "_law_formed" 2 ["found","shop"] (bS K jj):=λbase B=>bW F28 (mg_of X G a28) b28 (pC T (G27 base B) F28);have G29:∀base:Heap,K.In base/\bp mg base->Fn l.prog w K mg base "_law_right" 3 ["works","shop","found"] (bS K jL):=λbase B=>bW F29 (mg_of X G a29) b29 (ra T (G26 base B) (G28 base B) F29);have G30:∀base:Heap,K.In base/\bp mg base->Fn l.prog w K mg base "will_do" 5 ["works","shop","buying"] (bS K mI):=λbase B=>bW F30 (mg_of X G a30) b30 (uD T (G14 base B) F30);have G31:∀base:Heap,K.In base/\bp mg base->Fn l.prog w K mg base "_law_looked" 6 ["works","shop","found"] (bS K jk):=λbase B=>bW F31 (mg_of X G a31) b31 (pD T (G30 base B) (G22 base B) F31);exact ⟨fnOf "law" "law" (aB lL) (av lL) (ag lL) .none kV32 dc32 pm32 an32 cd32 ct32,_,m3,m2,λs v=>.of_eq rfl,λbase kb _ B=>(λB=>Ag (B5 T (G3 base B) (G5 base B) (G1 base B) (G24 base B) (G25 base B) (G29 base B) (G31 base B) F32)) ⟨kb,B⟩⟩
end WS
open PySem PySem.W PyProof.Rows
set_option maxRecDepth 100000 in
set_option maxHeartbeats 0 in
theorem PySem.Challenge.cw_warmshare_k23_what_is_bought_holds : PySem.Challenge.rw_warmshare_k23_what_is_bought.Holds := by
  w_on;o_law;z_head;(case hw=>w_witness2)
  k_fill
  refine DL.AX (l:=PySem.Challenge.rw_warmshare_k23_what_is_bought) (k:=8) (x:="script") (qn:=WS.xC) 109 rfl rfl ⟨rfl,by decide,by decide,rfl⟩ (λ_=>by kernel_rfl) (λ_=>by kernel_rfl) ?F
  case F =>
    intro w mg fa h KX G hmg
    refine' WS.all_mk KX G hmg ?a1 ?l1 ?c1 ?k1 ?a2 ?l2 ?c2 ?k2 ?a3 ?l3 ?c3 ?k3 ?a4 ?l4 ?c4 ?k4 ?a5 ?l5 ?c5 ?k5 ?a6 ?l6 ?c6 ?k6 ?a7 ?l7 ?c7 ?k7 ?a8 ?l8 ?c8 ?k8 ?a9 ?l9 ?c9 ?k9 ?a10 ?l10 ?c10 ?k10 ?a11 ?l11 ?c11 ?k11 ?a12 ?l12 ?c12 ?k12 ?a13 ?l13 ?c13 ?k13 ?a14 ?l14 ?c14 ?k14 ?a15 ?l15 ?c15 ?k15 ?a16 ?l16 ?c16 ?k16 ?a17 ?l17 ?c17 ?k17 ?a18 ?l18 ?c18 ?k18 ?a19 ?l19 ?c19 ?k19 ?a20 ?l20 ?c20 ?k20 ?a21 ?l21 ?c21 ?k21 ?a22 ?l22 ?c22 ?k22 ?a23 ?l23 ?c23 ?k23 ?a24 ?l24 ?c24 ?k24 ?a25 ?l25 ?c25 ?k25 ?a26 ?l26 ?c26 ?k26 ?a27 ?l27 ?c27 ?k27 ?a28 ?l28 ?c28 ?k28 ?a29 ?l29 ?c29 ?k29 ?a30 ?l30 ?c30 ?k30 ?a31 ?l31 ?c31 ?k31 ?a32 ?l32 ?c32 ?k32 ?z1 ?z2 ?z3 ?z4 ?z5 ?z6 ?z7 ?z8 ?z9 ?z10 ?z11 ?z12 ?z13 ?z14 ?y1 ?m1 ?m2 ?m3
    (case a1=>exact DL.aW (by k_is) rfl)
    (case l1=>exact DL.bT (by k_is) rfl)
    (case c1=>kernel_rfl)
    (case k1=>kernel_rfl)
    (case a2=>exact DL.aW (by k_is) rfl)
    (case l2=>exact DL.bT (by k_is) rfl)
    (case c2=>kernel_rfl)
    (case k2=>kernel_rfl)
    (case a3=>exact DL.aW (by k_is) rfl)
    (case l3=>exact DL.bT (by k_is) rfl)
    (case c3=>kernel_rfl)
    (case k3=>kernel_rfl)
    (case a4=>exact DL.aW (by k_is) rfl)
    (case l4=>exact DL.bT (by k_is) rfl)
    (case c4=>kernel_rfl)
    (case k4=>kernel_rfl)
    (case a5=>exact DL.aW (by k_is) rfl)
    (case l5=>exact DL.bT (by k_is) rfl)
    (case c5=>kernel_rfl)
    (case k5=>kernel_rfl)
    (case a6=>exact DL.aW (by k_is) rfl)
    (case l6=>exact DL.bT (by k_is) rfl)
    (case c6=>kernel_rfl)
    (case k6=>kernel_rfl)
    (case a7=>exact DL.aW (by k_is) rfl)
    (case l7=>exact DL.bT (by k_is) rfl)
    (case c7=>kernel_rfl)
    (case k7=>kernel_rfl)
    (case a8=>exact DL.aW (by k_is) rfl)
    (case l8=>exact DL.bT (by k_is) rfl)
    (case c8=>kernel_rfl)
    (case k8=>kernel_rfl)
    (case a9=>exact DL.aW (by k_is) rfl)
    (case l9=>exact DL.bT (by k_is) rfl)
    (case c9=>kernel_rfl)
    (case k9=>kernel_rfl)
    (case a10=>exact DL.aW (by k_is) rfl)
    (case l10=>exact DL.bT (by k_is) rfl)
    (case c10=>kernel_rfl)
    (case k10=>kernel_rfl)
    (case a11=>exact DL.aW (by k_is) rfl)
    (case l11=>exact DL.bT (by k_is) rfl)
    (case c11=>kernel_rfl)
    (case k11=>kernel_rfl)
    (case a12=>exact DL.aW (by k_is) rfl)
    (case l12=>exact DL.bT (by k_is) rfl)
    (case c12=>kernel_rfl)
    (case k12=>kernel_rfl)
    (case a13=>exact DL.aW (by k_is) rfl)
    (case l13=>exact DL.bT (by k_is) rfl)
    (case c13=>kernel_rfl)
    (case k13=>kernel_rfl)
    (case a14=>exact DL.aW (by k_is) rfl)
    (case l14=>exact DL.bT (by k_is) rfl)
    (case c14=>kernel_rfl)
    (case k14=>kernel_rfl)
    (case a15=>exact DL.aW (by k_is) rfl)
    (case l15=>exact DL.bT (by k_is) rfl)
    (case c15=>kernel_rfl)
    (case k15=>kernel_rfl)
    (case a16=>exact DL.aW (by k_is) rfl)
    (case l16=>exact DL.bT (by k_is) rfl)
    (case c16=>kernel_rfl)
    (case k16=>kernel_rfl)
    (case a17=>exact DL.aW (by k_is) rfl)
    (case l17=>exact DL.bT (by k_is) rfl)
    (case c17=>kernel_rfl)
    (case k17=>kernel_rfl)
    (case a18=>exact DL.aW (by k_is) rfl)
    (case l18=>exact DL.bT (by k_is) rfl)
    (case c18=>kernel_rfl)
    (case k18=>kernel_rfl)
    (case a19=>exact DL.aW (by k_is) rfl)
    (case l19=>exact DL.bT (by k_is) rfl)
    (case c19=>kernel_rfl)
    (case k19=>kernel_rfl)
    (case a20=>exact DL.aW (by k_is) rfl)
    (case l20=>exact DL.bT (by k_is) rfl)
    (case c20=>kernel_rfl)
    (case k20=>kernel_rfl)
    (case a21=>exact DL.aW (by k_is) rfl)
    (case l21=>exact DL.bT (by k_is) rfl)
    (case c21=>kernel_rfl)
    (case k21=>kernel_rfl)
    (case a22=>exact DL.aW (by k_is) rfl)
    (case l22=>exact DL.bT (by k_is) rfl)
    (case c22=>kernel_rfl)
    (case k22=>kernel_rfl)
    (case a23=>exact DL.aW (by k_is) rfl)
    (case l23=>exact DL.bT (by k_is) rfl)
    (case c23=>kernel_rfl)
    (case k23=>kernel_rfl)
    (case a24=>exact DL.aW (by k_is) rfl)
    (case l24=>exact DL.bT (by k_is) rfl)
    (case c24=>kernel_rfl)
    (case k24=>kernel_rfl)
    (case a25=>exact DL.aW (by k_is) rfl)
    (case l25=>exact DL.bT (by k_is) rfl)
    (case c25=>kernel_rfl)
    (case k25=>kernel_rfl)
    (case a26=>exact DL.aW (by k_is) rfl)
    (case l26=>exact DL.bT (by k_is) rfl)
    (case c26=>kernel_rfl)
    (case k26=>kernel_rfl)
    (case a27=>exact DL.aW (by k_is) rfl)
    (case l27=>exact DL.bT (by k_is) rfl)
    (case c27=>kernel_rfl)
    (case k27=>kernel_rfl)
    (case a28=>exact DL.aW (by k_is) rfl)
    (case l28=>exact DL.bT (by k_is) rfl)
    (case c28=>kernel_rfl)
    (case k28=>kernel_rfl)
    (case a29=>exact DL.aW (by k_is) rfl)
    (case l29=>exact DL.bT (by k_is) rfl)
    (case c29=>kernel_rfl)
    (case k29=>kernel_rfl)
    (case a30=>exact DL.aW (by k_is) rfl)
    (case l30=>exact DL.bT (by k_is) rfl)
    (case c30=>kernel_rfl)
    (case k30=>kernel_rfl)
    (case a31=>exact DL.aW (by k_is) rfl)
    (case l31=>exact DL.bT (by k_is) rfl)
    (case c31=>kernel_rfl)
    (case k31=>kernel_rfl)
    (case a32=>exact DL.aW (by k_is) rfl)
    (case l32=>exact DL.bT (by k_is) rfl)
    (case c32=>kernel_rfl)
    (case k32=>kernel_rfl)
    (case z1=>kernel_rfl)
    (case z2=>kernel_rfl)
    (case z3=>kernel_rfl)
    (case z4=>kernel_rfl)
    (case z5=>kernel_rfl)
    (case z6=>kernel_rfl)
    (case z7=>kernel_rfl)
    (case z8=>kernel_rfl)
    (case z9=>kernel_rfl)
    (case z10=>kernel_rfl)
    (case z11=>kernel_rfl)
    (case z12=>kernel_rfl)
    (case z13=>kernel_rfl)
    (case z14=>kernel_rfl)
    (case y1=>exact DL.aW (by k_is) rfl)
    (case m1=>rfl)
    (case m2=>kernel_rfl)
    (case m3=>exact DL.nK _)
#print axioms PySem.Challenge.cw_warmshare_k23_what_is_bought_holds
