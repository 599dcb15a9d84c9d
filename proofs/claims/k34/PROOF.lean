import PyProof.Rows.All
import Wide.All
import OpenK.AllK
import Wide.FinOn
import Lean
import PyProof.EqAt
import PyProof.EqKinds
import PyProof.TupleCall
import KE.KSortKey
import KE.KLam
import KE.KMinKey
import KE.KDictList
import KE.KSortTup
import KE.KEqDict
import PySem.Challenge.RW_warmshare_k34_whole_text_to_sharing
open PySem.W (Frag nsIn fnOf keepIn codeIn kia_one mg_of mg_none_of findIn kitx_list instObj methodObj lookIn kitx_dict plainGet specialIn isFn kitOne kitx_tuple cellsFrom_some tabObj codeHd_of_K)
open PyProof.Rows (boot_all boot_bool boot_enumerate boot_int boot_isinstance boot_list boot_max boot_min boot_sorted boot_str boot_sum boot_tuple)
open List (length_map mem_map map_cons map_append length_append mem_append length_cons map_map length_take append_assoc mem_range filter_cons mem_singleton length_drop nodup_cons length_range filter_append sum_cons sum_append nodup_append getElem?_map getElem?_eq_getElem mem_of_getElem? mem_cons_of_mem mem_cons_self size_toArray filterMap_cons take_append_drop pairwise_append mem_append_left mem_append_right mem_of_mem_take mem_of_mem_drop perm_append_comm pairwise_map getD_eq_getElem?_getD map_congr_left filter_sublist map_take map_drop take_of_length_le drop_eq_getElem_cons map_set pairwise_iff_getElem mem_iff_getElem? length_set lookup_cons nodup_range append_nil length_eq_zero_iff eq_nil_or_concat concat_eq_append)
open Array (length_toList)
theorem aZa (h:True:=by rfl):True:=h
theorem aZb (h:True:=by decide):True:=h
theorem aZc (h:True:=by intro _;rfl):True:=h
theorem aZd (h:True:=by first | exact .inl rfl | exact .inr rfl | assumption):True:=h
theorem aZe (h:True:=by first | exact Or.inl rfl | exact Or.inr (Or.inl rfl) | exact Or.inr (Or.inr rfl)):True:=h
theorem aZf (h:True:=by decide +kernel):True:=h
theorem aZg (h:True:=by exact Nat.le_of_ble_eq_true rfl):True:=h
theorem aZh (h:True:=by exact λ_ _=>rfl):True:=h
set_option maxHeartbeats 4000000
set_option bootstrap.genMatcherCode false
set_option tactic.hygienic false
set_option genSizeOfSpec false
noncomputable section
set_option Elab.async false
set_option linter.all false
set_option maxRecDepth 100000
namespace L2
open PySem PySem.Spec PyProof.Rows
noncomputable abbrev Key:=Sum Int Str
noncomputable def qP:Key->Value->Bool
 | .inl k,v=>Value.isInt k v
 | .inr x,v=>Value.isStrOf x v
noncomputable def Jd (w:World):Key->Int
 | .inl k=>hashInt k
 | .inr x=>hashStr w x
theorem bR:∀{k:Key} {v:Value},qP k v=true->(∃i t,k=Sum.inl i/\v=Value.int i t)\/(∃x t,k=Sum.inr x/\v=Value.str x t)
 | .inl i,v,h=>by
  obtain ⟨t,e⟩:=Value.isInt_shape (k:=i) (v:=v) h;exact .inl ⟨i,t,rfl,e⟩
 | .inr x,v,h=>by
  obtain ⟨t,e⟩:=Value.isStrOf_shape (x:=x) (v:=v) h;exact .inr ⟨x,t,rfl,e⟩
theorem yB (i:Int)(t:Tok):qP (.inl i) (.int i t)=true:=by simp[qP,Value.isInt]
theorem yC (x:Str)(t:Tok):qP (.inr x) (.str x t)=true:=by simp[qP,Value.isStrOf]
theorem EY (a b:Int):decide ((Sum.inl a:Key)=Sum.inl b)=(a == b):=by
 by_cases e:a=b
 .subst e;simp
 .have h:¬(Sum.inl a:Key)=Sum.inl b:=λq=>e (Sum.inl.inj q);rw[decide_eq_false h];exact (beq_eq_false_iff_ne.mpr e).symm
theorem E3 (a b:Str):decide ((Sum.inr a:Key)=Sum.inr b)=decide (a=b):=by
 by_cases e:a=b
 .subst e;simp
 .have h:¬(Sum.inr a:Key)=Sum.inr b:=λq=>e (Sum.inr.inj q);rw[decide_eq_false h,decide_eq_false e]
theorem EZ (a:Int)(b:Str):decide ((Sum.inl a:Key)=Sum.inr b)=false:=decide_eq_false (λq=>nomatch q)
theorem E2 (a:Str)(b:Int):decide ((Sum.inr a:Key)=Sum.inl b)=false:=decide_eq_false (λq=>nomatch q)
noncomputable def cq (prog:Program)(w:World):PySem.KeyKind prog w Key where
 is:=qP
 hash:=Jd w
 inj:=λv a b ha hb=>by
  rcases bR ha with ⟨i,t,rfl,rfl⟩ | ⟨x,t,rfl,rfl⟩
  .rcases bR hb with ⟨j,u,rfl,e⟩ | ⟨y,u,rfl,e⟩
   .injection e with e1 _;rw[e1]
   .exact nomatch e
  .rcases bR hb with ⟨j,u,rfl,e⟩ | ⟨y,u,rfl,e⟩
   .exact nomatch e
   .injection e with e1 _;rw[e1]
 byValue:=λk v h=>by
  rcases bR h with ⟨i,t,rfl,rfl⟩ | ⟨x,t,rfl,rfl⟩<;>rfl
 pyHash:=λhv h=>by
  rcases bR hv with ⟨i,t,rfl,rfl⟩ | ⟨x,t,rfl,rfl⟩
  .exact wpAny_pyHash_int h
  .exact wpAny_pyHash_str h
 eqBool:=λhu hv h=>by
  rcases bR hu with ⟨i,t,rfl,rfl⟩ | ⟨x,t,rfl,rfl⟩
  .rcases bR hv with ⟨j,u,rfl,rfl⟩ | ⟨y,u,rfl,rfl⟩
   .rw[EY] at h;exact wpAny_eqBool_int h
   .rw[EZ] at h;exact SeqAt.EqAt.int_str i t y u _ _ _ _ h
  .rcases bR hv with ⟨j,u,rfl,rfl⟩ | ⟨y,u,rfl,rfl⟩
   .rw[E2] at h;exact SeqAt.EqAt.str_int x t j u _ _ _ _ h
   .rw[E3] at h;exact wpAny_eqBool_str h
 «strs»:=λk x t v h=>by
  rcases bR h with ⟨i,u,rfl,e⟩ | ⟨y,u,rfl,e⟩
  .exact nomatch e
  .injection e with e1 _
   subst e1;cases v<;>rfl
theorem ux (prog:Program)(w:World)(i:Int)(t:Tok):(cq prog w).is (.inl i) (.int i t)=true:=yB i t
theorem uy (prog:Program)(w:World)(x:Str)(t:Tok):(cq prog w).is (.inr x) (.str x t)=true:=yC x t
end L2
namespace L2
open PySem PySem.Spec PyProof.Rows
inductive V where
 | non | bl (b:Bool) | int (i:Int) | str (x:Str) | byt (b:Array UInt8) | flt (b:UInt64) | ref (a:Addr) | ty (n:String)
 deriving DecidableEq
noncomputable def RelV:V->Value->Prop
 | .non,u=>u=Value.none
 | .bl b,u=>u=Value.bool b
 | .int i,u=>∃t,u=Value.int i t
 | .str x,u=>∃t,u=Value.str x t
 | .byt b,u=>∃t,u=Value.bytes b t
 | .flt b,u=>∃t,u=Value.float b t
 | .ref a,u=>u=Value.ref a
 | .ty n,u=>u=Value.type n
noncomputable abbrev Vals:List V->List Value->Prop:=Paired RelV
theorem Vals.length {xs:List V}{us:List Value}(r:Vals xs us):xs.length=us.length:=Paired.length r
theorem Vals.get:∀{xs:List V} {us:List Value} {i:Nat} {x:V},Vals xs us->xs[i]?=some x->∃u,us[i]?=some u/\RelV x u
 | _,_,_,_,.nil,e=>by simp at e
 | _,_,0,_,.cons r _,e=>by simp at e;subst e;exact ⟨_,rfl,r⟩
 | _,_,i+1,x,.cons _ t,e=>by
  obtain ⟨u,h1,h2⟩:=Vals.get (i:=i) (x:=x) t (by simpa using e);exact ⟨u,by simpa using h1,h2⟩
theorem Vals.append:∀{xs ys:List V} {us ws:List Value},Vals xs us->Vals ys ws->Vals (xs++ys) (us++ws)
 | _,_,_,_,.nil,s=>s
 | _,_,_,_,.cons r t,s=>.cons r (Vals.append t s)
theorem Vals.take:∀{xs:List V} {us:List Value} (n:Nat),Vals xs us->Vals (xs.take n) (us.take n)
 | _,_,0,_=>.nil
 | _,_,_+1,.nil=>.nil
 | _,_,n+1,.cons r t=>.cons r (Vals.take n t)
theorem Vals.drop:∀{xs:List V} {us:List Value} (n:Nat),Vals xs us->Vals (xs.drop n) (us.drop n)
 | _,_,0,r=>r
 | _,_,_+1,.nil=>.nil
 | _,_,n+1,.cons _ t=>Vals.drop n t
theorem Vals.none_of:∀{xs:List V} {us:List Value} {i:Nat},Vals xs us->xs[i]?=none->us[i]?=none:=λ{xs us i} r e=>by
 have h1:=r.length;have h2:xs.length<=i:=List.getElem?_eq_none_iff.mp e;exact List.getElem?_eq_none_iff.mpr (by lia)
noncomputable def pP:Option V->Option Value->Prop
 | some v,some u=>RelV v u
 | none,none=>True
 | _,_=>False
noncomputable def KV {κ:Type}:List (κ×V)->List (κ×Value)->Prop:=Paired λ(p:κ×V) (q:κ×Value)=>p.1=q.1/\RelV p.2 q.2
noncomputable def kV:Key->V
 | .inl i=>.int i
 | .inr x=>.str x
inductive HO where
 | lst (xs:List V)
 | tup (xs:List V)
 | dK (kvs:List (Key×V)) | dT (kvs:List (List Key×V))
 | set (S:Int->Bool) (n:Nat)
 | ins (C dx:Addr) (fs:List (Str×V))
 | own (x:Addr)
 | xd (fs:List (Str×V))
 | met (f x:Addr)
 | rng (lo hi:Int)
 | bu (o:Obj) (u:HO)
 | tbl (ps:Array Value)
 | ext (φ:Heap->Prop)
noncomputable abbrev Hp:=Addr->Option HO
noncomputable def upd (H:Hp)(a:Addr)(o:HO):Hp:=λb=>if b=a then some o else H b
theorem ao {H:Hp}{a:Addr}{o:HO}:upd H a o a=some o:=by unfold upd;rw[if_pos rfl]
theorem aj {H:Hp}{a b:Addr}{o:HO}(h:b≠a):upd H a o b=H b:=by unfold upd;rw[if_neg h]
theorem xp {H:Hp}{a b:Addr}{o u:HO}(h:H a=some o)(h':H b=some u)(d:o≠u):a≠b:=by
 intro e;subst e;rw[h] at h';exact d (Option.some.inj h')
theorem aZ {H:Hp}{a b:Addr}{o:HO}(h:H a=some o)(h':H b=none):a≠b:=by
 intro e;subst e;rw[h] at h';cases h'
section
variable (P:Program) (w:World)
noncomputable def bZ (H:Hp)(h:Heap)(a:Addr):HO->Prop
 | .lst xs=>xs.length<=sizeLine/\∃(its:List Value) (n:Nat),Vals xs its/\h.get? a=some { cls:=.type "list",data:=.seq its.toArray n }
 | .tup xs=>xs.length<=sizeLine/\∃its:List Value,Vals xs its/\IsTup h a its.toArray
 | .dK kvs=>kvs.length<=sizeLine/\(a == sysModules)=false/\∃vs,KV kvs vs/\h.DictOf (cq P w) a vs
 | .dT kvs=>kvs.length<=sizeLine/\(a == sysModules)=false/\∃xs:List (List Key×Addr×Value),
   Paired (λ(p:List Key×V) (q:List Key×Addr×Value)=>p.1=q.1/\H q.2.1=some (.tup (p.1.map kV))/\RelV p.2 q.2.2) kvs xs /\
   ∃o es ep,h.get? a=some o/\o.ExactDict/\o.data=.dict es ep/\es.toList=xs.map (entryOfKey (tupleKind (cq P w)))/\(xs.map (·.1)).Nodup
 | .set S n=>h.SetOf (intKind P w) a S n
 | .ins C dx fs=>H dx=some (.own a)/\fs.length<=1000/\dx≠a/\h.get? a=some (instObj C dx) /\
   ∃mA,h.Ns1 dx mA/\(∀f,pP (fs.lookup f) (mA f))/\PySem.Within mA (fs.map (·.1))
 | .own _=>∃o,h.get? a=some o
 | .xd fs=>∃mA,h.Ns1 a mA/\∀f,pP (fs.lookup f) (mA f)
 | .rng lo hi=>∃t u v,h.get? a=some { cls:=.type "range",data:=.fields #[.int lo t,.int hi u,.int 1 v] }
 | .bu o u=>h.get? a=some o/\bZ H h a u
 | .tbl qs=>∃tb:Array Value,h.get? a=some { cls:=.none,data:=.fields tb }/\TriplesOk tb.toList /\
   ∀pos cv,codeAmong pos tb.toList=some cv->∃c q t,cv=.ref c/\qs[0]?=some (.str q t)/\H c=some (.own a)/\h.CodeRec (.ref c) q
 | .met f x=>h.get? a=some (methodObj (.ref f) (.ref x))
 | .ext φ=>φ h/\(∃o,h.get? a=some o)/\∀h1 h2:Heap,φ h1->(∀o,h1.get? a=some o->h2.get? a=some o)->φ h2
noncomputable def j3 (H:Hp)(h:Heap):Prop:=∀a o,H a=some o->bZ P w H h a o
end
section
variable {P:Program} {w:World} {H H':Hp} {h h':Heap} {a:Addr} {o:HO}
theorem bZ.lt (x:bZ P w H h a o):a<h.objs.size:=by
 cases o with
 | lst xs=>obtain ⟨_,_,_,_,e⟩:=x;exact Heap.lt_size e
 | tup xs=>obtain ⟨_,_,_,p⟩:=x;exact p.lt
 | dK kvs=>obtain ⟨_,_,_,_,o,_,_,e,_⟩:=x;exact Heap.lt_size e
 | dT kvs=>obtain ⟨_,_,_,_,o,_,_,e,_⟩:=x;exact Heap.lt_size e
 | set S n=>obtain ⟨o,_,_,_,e,_⟩:=x;exact Heap.lt_size e
 | ins C dx fs=>obtain ⟨_,_,_,e,_⟩:=x;exact Heap.lt_size e
 | own y=>obtain ⟨_,e⟩:=x;exact Heap.lt_size e
 | xd fs=>obtain ⟨_,⟨_,_,_,e,_⟩,_⟩:=x;exact Heap.lt_size e
 | rng lo hi=>obtain ⟨_,_,_,e⟩:=x;exact Heap.lt_size e
 | bu ob u=>obtain ⟨e,_⟩:=x;exact Heap.lt_size e
 | tbl qs=>obtain ⟨_,e,_⟩:=x;exact Heap.lt_size e
 | met f y=>exact Heap.lt_size (show h.get? a=some _ from x)
 | ext φ=>obtain ⟨_,⟨_,e⟩,_⟩:=x;exact Heap.lt_size e
theorem Paired.CL {α β:Type}{F G:α->β->Prop}:∀{l₁:List α} {l₂:List β},Paired F l₁ l₂->(∀a b,F a b->G a b)->Paired G l₁ l₂
 | _,_,.nil,_=>.nil
 | _,_,.cons r t,f=>.cons (f _ _ r) (Paired.CL t f)
theorem Paired.imp' {α β:Type}{F G:α->β->Prop}(f:∀a b,F a b->G a b){l₁:List α}{l₂:List β}(r:Paired F l₁ l₂):Paired G l₁ l₂:=Paired.CL r f
theorem bZ.fS (x:bZ P w H h a o)(k:∀b u,(b=a\/H b=some (.own a))->h.get? b=some u->h'.get? b=some u)
  (ho:∀b,H b=some (.own a)->H' b=some (.own a)) (ht:∀b xs,H b=some (.tup xs)->H' b=some (.tup xs)):bZ P w H' h' a o:=by
 induction o with
 | lst xs=>obtain ⟨z,its,n,r,e⟩:=x;exact ⟨z,its,n,r,k _ _ (.inl rfl) e⟩
 | tup xs=>obtain ⟨z,its,r,ob,e,c⟩:=x;exact ⟨z,its,r,ob,k _ _ (.inl rfl) e,c⟩
 | dK kvs=>obtain ⟨z,y,vs,r,ob,es,ep,e,c⟩:=x;exact ⟨z,y,vs,r,ob,es,ep,k _ _ (.inl rfl) e,c⟩
 | dT kvs =>
  obtain ⟨z,y,xs,r,ob,es,ep,e,c⟩:=x;exact ⟨z,y,xs,Paired.CL r λp q z=>⟨z.1,ht _ _ z.2.1,z.2.2⟩,ob,es,ep,k _ _ (.inl rfl) e,c⟩
 | set S n=>obtain ⟨ob,es,ep,t,e,c⟩:=x;exact ⟨ob,es,ep,t,k _ _ (.inl rfl) e,c⟩
 | ins C dx fs =>
  obtain ⟨d,z,ne,e,mA,⟨od,es,ep,e2,c⟩,r⟩:=x;exact ⟨ho _ d,z,ne,k _ _ (.inl rfl) e,mA,⟨od,es,ep,k _ _ (.inr d) e2,c⟩,r⟩
 | own y=>obtain ⟨ob,e⟩:=x;exact ⟨ob,k _ _ (.inl rfl) e⟩
 | xd fs=>obtain ⟨mA,⟨od,es,ep,e,c⟩,r⟩:=x;exact ⟨mA,⟨od,es,ep,k _ _ (.inl rfl) e,c⟩,r⟩
 | rng lo hi=>obtain ⟨t,u,v,e⟩:=x;exact ⟨t,u,v,k _ _ (.inl rfl) e⟩
 | bu ob u ih=>obtain ⟨e,q⟩:=x;exact ⟨k _ _ (.inl rfl) e,ih q⟩
 | tbl qs =>
  obtain ⟨m,e,t,f⟩:=x;refine ⟨m,k _ _ (.inl rfl) e,t,λpos cv z=>?_⟩;obtain ⟨c,q,u,r,r2,o,c2,ob,vs,tk,e2,g,rest⟩:=f pos cv z;cases e2;exact ⟨c,q,u,r,r2,ho _ o,c,ob,vs,tk,rfl,k _ _ (.inr o) g,rest⟩
 | met f y =>
  have e:h.get? a=some (methodObj (.ref f) (.ref y)):=x;show h'.get? a=some (methodObj (.ref f) (.ref y));exact k a _ (.inl rfl) e
 | ext φ=>obtain ⟨p,⟨o,e⟩,st⟩:=x;exact ⟨st _ _ p λo q=>k _ _ (.inl rfl) q,⟨o,k _ _ (.inl rfl) e⟩,st⟩
theorem j3.lt (x:j3 P w H h)(e:H a=some o):a<h.objs.size:=(x a o e).lt
theorem j3.fresh (x:j3 P w H h)(e:h.objs.size<=a):H a=none:=by
 cases q:H a with
 | none=>rfl
 | some u=>exact absurd (Nat.lt_of_lt_of_le (x.lt q) e) (Nat.lt_irrefl _)
theorem j3.kept (x:j3 P w H h)(k:∀b u,h.get? b=some u->h'.get? b=some u):j3 P w H h':=λa o e =>
 (x a o e).fS (λb u _ q=>k b u q) (λ_ q=>q) λ_ _ q=>q
theorem j3.laid (x:j3 P w H h)(k:∀b u,h.get? b=some u->h'.get? b=some u)(hp:h.objs.size<=a)(new:bZ P w (upd H a o) h' a o):j3 P w (upd H a o) h':=λb u e=>by
 have hn:=x.fresh hp;by_cases hb:b=a
 .subst hb;rw[ao] at e;cases e;exact new
 .rw[aj hb] at e;exact (x b u e).fS (λc v _ q=>k c v q) (λc q=>by rw[aj (aZ q hn)];exact q) λc xs q=>by rw[aj (aZ q hn)];exact q
end
noncomputable def Rd (H:Hp)(a:Addr)(u:HO):Prop:=H a=some u\/∃o,H a=some (.bu o u)
theorem Rd.ok {P:Program}{w:World}{H:Hp}{h:Heap}{a:Addr}{u:HO}(r:Rd H a u)(x:j3 P w H h):bZ P w H h a u:=by
 rcases r with r | ⟨o,r⟩
 .exact x a u r
 .obtain ⟨_,q⟩:=x a _ r;exact q
noncomputable def Gz:Option HO->Prop
 | some (.lst _)=>True
 | some (.dK _)=>True
 | some (.dT _)=>True
 | some (.set _ _)=>True
 | some (.ins _ _ _)=>True
 | some (.ext _)=>True
 | _=>False
section
variable {P:Program} {w:World} {H:Hp} {h h':Heap} {x e:Addr} {o':HO}
theorem j3.write (ok:j3 P w H h)(mu:Gz (H x))(he:e=x\/H e=some (.own x))(k:∀b u,b≠e->h.get? b=some u->h'.get? b=some u)(heo:∃u,h'.get? e=some u)
    (new:bZ P w (upd H x o') h' x o'):j3 P w (upd H x o') h':=λb u q=>by
  have nown:∀c y,H c=some (.own y)->c≠x:=λc y r z=>by subst z;rw[r] at mu;exact mu
  have ntup:∀c xs,H c=some (.tup xs)->c≠x:=λc xs r z=>by subst z;rw[r] at mu;exact mu
  by_cases hb:b=x
  · subst hb;rw[ao] at q;cases q;exact new
  · rw[aj hb] at q;by_cases hbe:b=e
    · have q':H b=some (.own x):=by
        rcases he with z | z
        · exact absurd (hbe.trans z) hb
        · rw[hbe];exact z
      rw[q] at q';cases q';obtain ⟨v,hv⟩:=heo;exact ⟨v,by rw[hbe];exact hv⟩
    · refine (ok b u q).fS (λc v hc r => k c v ?_ r) (λc r => by rw [aj (nown c b r)];exact r) λc xs r => by rw [aj (ntup c xs r)];exact r
      rcases hc with rfl | hc
      · exact hbe
      · rintro rfl;rcases he with z | z
        · exact nown c b hc z
        · rw[hc] at z;cases z;exact hb rfl
end
structure Un (fs ex:List Addr)(H H':Hp)(h h':Heap):Prop where
 keep:∀b o,h.get? b=some o->H b=none->b∉fs->b∉ex->h'.get? b=some o
 slot:∀b o,h.get? b=some o->H b=none->b∈fs->b∉ex->∃sl,h'.get? b=some { o with slots:=sl }
 free:∀b o,h.get? b=some o->H b=none->b∉ex->H' b=none
 there:∀b o,h.get? b=some o->b∉ex->∃o',h'.get? b=some o'
 qk:∀b xs,H b=some (.tup xs)->H' b=some (.tup xs)
 nE:∀b o u,H b=some (.bu o u)->H' b=some (.bu o u)
 nL:∀b ps,H b=some (.tbl ps)->∃more,H' b=some (.tbl (ps++more))
section
variable {fs fs' ex ex':List Addr} {H H1 H2:Hp} {h h1 h2 h':Heap} {a x e:Addr} {o:HO}
theorem Un.any (u:Un fs ex H H1 h h1){b:Addr}{ob:Obj}(q:h.get? b=some ob)(n:H b=none)(hx:b∉ex):∃sl,h1.get? b=some { ob with slots:=sl }:=by
 by_cases hb:b∈fs
 .exact u.slot b ob q n hb hx
 .exact ⟨ob.slots,u.keep b ob q n hb hx⟩
theorem Un.kept (k:∀b u,h.get? b=some u->h'.get? b=some u):Un fs ex H H h h':=
 ⟨λb ob q _ _ _=>k b ob q,λb ob q _ _ _=>⟨ob.slots,k b ob q⟩,λ_ _ _ n _=>n,λb ob q _=>⟨ob,k b ob q⟩,λ_ _ q=>q,λ_ _ _ q=>q,λ_ ps q=>⟨#[],by rw[q];simp⟩⟩
theorem Un.refl:Un fs ex H H h h:=Un.kept λ_ _ q=>q
theorem Un.laid (k:∀b u,h.get? b=some u->h'.get? b=some u)(hp:h.objs.size<=a)(hn:H a=none):Un fs ex H (upd H a o) h h' where
 keep:=λb u q _ _ _=>k b u q
 slot:=λb u q _ _ _=>⟨u.slots,k b u q⟩
 free:=λb u q n _=>by rw[aj (Nat.ne_of_lt (Nat.lt_of_lt_of_le (Heap.lt_size q) hp))];exact n
 there:=λb u q _=>⟨u,k b u q⟩
 qk:=λb xs q=>by rw[aj (aZ q hn)];exact q
 nE:=λb u xs q=>by rw[aj (aZ q hn)];exact q
 nL:=λb ps q=>⟨#[],by rw[aj (aZ q hn),q];simp⟩
theorem Un.write (mu:Gz (H x))(he:e=x\/H e=some (.own x))(k:∀b u,b≠e->h.get? b=some u->h'.get? b=some u)(heo:∃u,h'.get? e=some u):Un fs ex H (upd H x o) h h':=by
 have hx:∀b,H b=none->b≠x:=λb n z=>by subst z;rw[n] at mu;exact mu
 have hb:∀b,H b=none->b≠e:=λb n z=>by
  subst z;rcases he with r | r
  .exact hx b n r
  .rw[n] at r;cases r
 have hm:∀b u,H b=some u->¬Gz (some u)->b≠x:=λb u q nm z=>by subst z;rw[q] at mu;exact nm mu
 refine ⟨λb u q n _ _=>k b u (hb b n) q,λb u q n _ _=>⟨u.slots,k b u (hb b n) q⟩,λb u q n _=>by rw[aj (hx b n)];exact n,λb u q _=>?_,
  λb xs q=>by rw[aj (hm b _ q λz=>z)];exact q,λb u xs q=>by rw[aj (hm b _ q λz=>z)];exact q,λb ps q=>⟨#[],by rw[aj (hm b _ q λz=>z),q];simp⟩⟩
 by_cases hbe:b=e
 .subst hbe;exact heo
 .exact ⟨u,k b u hbe q⟩
end
noncomputable def Iy (h:Heap)(H:Hp):List Addr:=(List.range h.objs.size).filter λa=>(H a).isSome
noncomputable def rW (h:Heap)(H:Hp):Heap:=PySem.W.hideAll h (Iy h H)
theorem yx (h:Heap)(H:Hp):(rW h H).objs.size=h.objs.size:=PySem.W.hideAll_size _ _
theorem oI {h:Heap}{H:Hp}{b:Addr}{o:Obj}(e:h.get? b=some o)(n:H b=none):(rW h H).get? b=some o:=
 PySem.W.hideAll_get _ e λhm=>by
  have q:(H b).isSome=true:=(List.mem_filter.mp hm).2;rw[n] at q;simp at q
theorem CP {h:Heap}{H:Hp}{b:Addr}{o:Obj}(e:(rW h H).get? b=some o):h.get? b=some o/\H b=none:=by
 have e':h.get? b=some o:=PySem.W.of_hideAll (Iy h H) e;refine ⟨e',?_⟩;cases q:H b with
 | none=>rfl
 | some x =>
  have hm:b∈Iy h H:=List.mem_filter.mpr ⟨mem_range.mpr (Heap.lt_size e'),by simp[q]⟩;have z:(rW h H).get? b=none:=PySem.W.hideAll_none (Iy h H) hm;rw[z] at e;cases e
noncomputable def BH (g h:Heap)(L:Addr):List (Addr×Obj):=(List.range h.objs.size).filterMap λa=>if a=L\/(g.get? a).isSome=true then none else (h.get? a).map λo=>(a,o)
noncomputable def rest (g h:Heap)(L d:Addr):List (Addr×Obj):=(BH g h L).filter λp=>decide (p.1≠d)
end L2
namespace L2
open PySem PySem.Spec PyProof.Rows
structure Mod (K:Frag)(mg:Str->Option Value)(base:Heap):Prop where
 Cu:K.In base
 glob:base.Ns mainGlobals mg
 blt:∃mb,base.Ns builtinsNs mb/\∀x:Str,x≠"__name__"->mb x=bootBuiltins x
 nolimit:base.NoLimit
structure Cx where
 prog:Program
 w:World
 K:Frag
 mg:Str->Option Value
 base:Heap
 A:Around
 N:List Str
 s₀:Shared
 H₀:Hp
 env:Env
 outer:List Env
 stack:List Env
 ex:List Addr
 fn:Str->Bool
 calm:Bool
 pn:List (Addr×Obj)
 xe:Value->Shared->Prop
noncomputable def zt (l:List Env):List Addr:=l.filterMap (·.frame)
noncomputable abbrev Cx.fs (X:Cx):List Addr:=zt X.outer
noncomputable def vj (sc:Scope)(x:Str):Prop:=sc.names.lookup x=some .local\/sc.names.lookup x=some .cell\/sc.names.lookup x=some .free
noncomputable def Loc (sc:Scope)(x:Str):Prop:=sc.names.lookup x=some .local\/sc.names.lookup x=some .cell
noncomputable def Look (env:Env)(h:Heap)(m:Str->Option Value)(x:Str)(u:Value):Prop:=
 (env.kindOf x=some .local/\m x=some u)\/((env.kindOf x=some .cell\/env.kindOf x=some .free)/\∃c,env.cells.lookup x=some c/\h.IsCell c (some u))
structure Cx.Ok (X:Cx):Prop where
 mod:Mod X.K X.mg X.base
 kind:X.env.scope.kind=.function
 glob:X.env.globals=mainGlobals
 blt:X.env.builtins=builtinsNs
 above:X.s₀.heap.objs.size<=X.env.locals
 inj:∀x y c,X.env.cells.lookup x=some c->X.env.cells.lookup y=some c->x=y
 has:∀x,(X.env.kindOf x=some .cell\/X.env.kindOf x=some .free)->∃c,X.env.cells.lookup x=some c
 GG:∀x c,X.fn x=true->X.env.cells.lookup x=some c->X.s₀.heap.objs.size<=c
 hd:X.calm=true->X.A.handled=none
 frames:X.A.frames=some X.stack
 Iv:X.stack=X.outer\/(X.stack=X.env::X.outer/\X.env.frame=some X.env.locals)
 Il:∀b∈X.ex,b≠X.env.locals/\∀x c,X.env.cells.lookup x=some c->c≠b
 bs:∀b o,X.base.get? b=some o->X.s₀.heap.get? b=some o/\X.H₀ b=none
 DN:X.base.objs.size<=X.s₀.heap.objs.size
 AR:∀b o,X.base.get? b=some o->b∉X.ex
 Ae:∀b∈X.ex,b∉X.fs
 oE:X.s₀.heap.FunFrames X.base X.outer
 Gk:∀b∈X.fs,X.H₀ b=none
structure Inv (X:Cx)(pins:List (Addr×Obj))(σ:List (Option V))(H:Hp)(s:Shared):Prop where
 ok:X.Ok
 os:s.os=X.s₀.os
 bare:AllBare s.gens
 base:Un X.fs X.ex X.H₀ H X.s₀.heap s.heap
 loc:∃m,s.heap.Ns X.env.locals m/\∀(i:Nat) (x:Str) (v:V),X.N[i]?=some x->σ[i]?=some (some v)->vj X.env.scope x->∃u,RelV v u/\Look X.env s.heap m x u
 cell:∀x c,X.env.cells.lookup x=some c->∃v,s.heap.IsCell c v
 free:H X.env.locals=none
 jf:∀x c,X.env.cells.lookup x=some c->H c=none
 pin:∀p∈X.pn++pins,s.heap.get? p.1=some p.2/\H p.1=none/\p.1≠X.env.locals/\p.1∉X.fs/\∀v,p.2.data≠.cell v
 bp:j3 X.prog X.w H s.heap
 len:σ.length=X.N.length
section
variable {X:Cx} {pins:List (Addr×Obj)} {σ:List (Option V)} {H H':Hp} {s:Shared} {h':Heap}
theorem Cx.Ok.Ji (ok:X.Ok){b:Addr}{o:Obj}(e:X.base.get? b=some o):b∉X.fs:=λhb=>by
 have:=(ok.oE.mem hb).1;rw[e] at this;cases this
theorem Inv.bs (I:Inv X pins σ H s):∀b o,X.base.get? b=some o->s.heap.get? b=some o/\H b=none:=λb o e =>
 ⟨I.base.keep b o (I.ok.bs b o e).1 (I.ok.bs b o e).2 (I.ok.Ji e) (I.ok.AR b o e),I.base.free b o (I.ok.bs b o e).1 (I.ok.bs b o e).2 (I.ok.AR b o e)⟩
theorem Inv.bk (I:Inv X pins σ H s):∀b o,X.base.get? b=some o->s.heap.get? b=some o:=λb o e=>(I.bs b o e).1
theorem Inv.mod (I:Inv X pins σ H s):Mod X.K X.mg X.base:=I.ok.mod
theorem Inv.pM (I:Inv X pins σ H s):X.K.In s.heap:=I.ok.mod.Cu.keeps I.bk
theorem Inv.nolimit (I:Inv X pins σ H s):s.heap.NoLimit:=I.ok.mod.nolimit.keeps I.bk
theorem Inv.lt (I:Inv X pins σ H s):X.env.locals<s.heap.objs.size:=let ⟨_,hn,_⟩:=I.loc;hn.lt
theorem Inv.sz (I:Inv X pins σ H s):X.s₀.heap.objs.size<=s.heap.objs.size:=Nat.le_trans I.ok.above (Nat.le_of_lt I.lt)
theorem Inv.Jj (I:Inv X pins σ H s){a:Addr}(h:s.heap.objs.size<=a):a∉X.fs:=λhb=>by
 obtain ⟨_,o,ho,_⟩:=I.ok.oE.mem hb;exact absurd (Nat.lt_of_lt_of_le (Heap.lt_size ho) (Nat.le_trans I.sz h)) (Nat.lt_irrefl _)
theorem Inv.EC (I:Inv X pins σ H s):∀x c,X.env.cells.lookup x=some c->c≠X.env.locals:=λx c e z=>by
 obtain ⟨v,o,ho,hd⟩:=I.cell x c e;obtain ⟨m,⟨o',es,ep,ho',hd',_⟩,_⟩:=I.loc;rw[z,ho'] at ho;cases ho;rw[hd'] at hd;cases hd
theorem Inv.oE (I:Inv X pins σ H s):s.heap.FunFrames X.base X.outer:=by
 have all:∀(l:List Env),(∀b∈zt l,b∈X.fs)->X.s₀.heap.FunFrames X.base l->s.heap.FunFrames X.base l:=by
  intro l;induction l with
  | nil=>intro _ _;trivial
  | cons env r ih =>
   intro hs hl;obtain ⟨hk,⟨L,o,hf,hn,ho,hd⟩,hr⟩:=hl;have hL:L∈X.fs:=hs L (by unfold zt;rw[filterMap_cons,hf];exact mem_cons_self);obtain ⟨sl,e⟩:=I.base.slot L o ho (I.ok.Gk L hL) hL λz=>I.ok.Ae L z hL;exact ⟨hk,⟨L,_,hf,hn,e,hd⟩,ih (λb hb=>hs b (by unfold zt;rw[filterMap_cons,hf];exact mem_cons_of_mem _ hb)) hr⟩
 exact all X.outer (λ_ hb=>hb) I.ok.oE
theorem Inv.stack (I:Inv X pins σ H s):s.heap.FunFrames X.base X.stack:=by
 rcases I.ok.Iv with e | ⟨e,hf⟩
 .rw[e];exact I.oE
 .rw[e];obtain ⟨m,hn,_⟩:=I.loc;refine .cons (by rw[I.ok.kind];decide) hf hn ?_ I.oE;exact Heap.get?_none_of_le (Nat.le_trans I.ok.DN I.ok.above)
theorem Inv.vW (I:Inv X pins σ H s):∀b∈zt X.stack,b∈X.env.locals::X.fs:=λb hb=>by
 rcases I.ok.Iv with e | ⟨e,hf⟩
 .rw[e] at hb;exact mem_cons_of_mem _ hb
 .rw[e] at hb;unfold zt at hb;rw[filterMap_cons,hf] at hb;exact hb
theorem Inv.xQ (I:Inv X pins σ H s):∀b∈zt X.stack,H b=none:=λb hb=>by
 rcases List.mem_cons.mp (I.vW b hb) with e | hb
 .rw[e];exact I.free
 .obtain ⟨_,o,ho,_⟩:=I.ok.oE.mem hb;exact I.base.free b o ho (I.ok.Gk b hb) λz=>I.ok.Ae b z hb
theorem Inv.step {g':Array GenState}{t':Nat}{d':Drawn}{ch:List Addr}(I:Inv X pins σ H s)
  (hch:∀b∈ch,(b∈X.ex\/X.s₀.heap.objs.size<=b)/\b≠X.env.locals/\(∀x c,X.env.cells.lookup x=some c->c≠b)/\∀p∈X.pn++pins,p.1≠b)
  (keep:∀b o,b≠X.env.locals->b∉X.fs->b∉ch->s.heap.get? b=some o->H b=none->h'.get? b=some o)
  (slot:∀b o,b≠X.env.locals->b∈X.fs->b∉ch->s.heap.get? b=some o->H b=none->∃sl,h'.get? b=some { o with slots:=sl }) (free:∀b o,b∉ch->s.heap.get? b=some o->H b=none->H' b=none)
  (there:∀b o,b∉ch->s.heap.get? b=some o->∃o',h'.get? b=some o')
  (qk:∀b xs,H b=some (.tup xs)->H' b=some (.tup xs)) (nE:∀b o u,H b=some (.bu o u)->H' b=some (.bu o u)) (nL:∀b ps,H b=some (.tbl ps)->∃more,H' b=some (.tbl (ps++more)))
  (ns:∀m,s.heap.Ns X.env.locals m->h'.Ns X.env.locals m) (bp:j3 X.prog X.w H' h') (hg:AllBare g') :
  Inv X pins σ H' { s with heap:=h',gens:=g',drawn:=d',toks:=t' }:=by
 have neL:∀b o,X.s₀.heap.get? b=some o->b≠X.env.locals:=λb o e=>Nat.ne_of_lt (Nat.lt_of_lt_of_le (Heap.lt_size e) I.ok.above);have neC:∀b o,X.s₀.heap.get? b=some o->b∉X.ex->b∉ch:=λb o e hx hb=>by
  rcases (hch b hb).1 with z | z
  .exact hx z
  .exact absurd (Nat.lt_of_lt_of_le (Heap.lt_size e) z) (Nat.lt_irrefl _)
 have cellK:∀x c,X.env.cells.lookup x=some c->∀v,s.heap.IsCell c v->h'.IsCell c v:= by
  rintro x c e v ⟨o,ho,hd⟩;have nch:c∉ch:=λz=>(hch c z).2.2.1 x c e rfl;by_cases hc:c∈X.fs
  .obtain ⟨sl,q⟩:=slot c o (I.EC x c e) hc nch ho (I.jf x c e);exact ⟨_,q,hd⟩
  .exact ⟨o,keep c o (I.EC x c e) hc nch ho (I.jf x c e),hd⟩
 refine ⟨I.ok,I.os,hg,⟨λb o e n hb hx=>?_,λb o e n hb hx=>?_,λb o e n hx=>?_,λb o e hx=>?_,λb xs e=>qk b xs (I.base.qk b xs e),λb o xs e=>nE b o xs (I.base.nE b o xs e),λb ps e=>?_⟩,?_,λx c e=>?_,?_,λx c e=>?_,λp hp=>?_,bp,I.len⟩
 .exact keep b o (neL b o e) hb (neC b o e hx) (I.base.keep b o e n hb hx) (I.base.free b o e n hx)
 .obtain ⟨sl,e1⟩:=I.base.slot b o e n hb hx;obtain ⟨sl',e2⟩:=slot b _ (neL b o e) hb (neC b o e hx) e1 (I.base.free b o e n hx);exact ⟨sl',e2⟩
 .obtain ⟨o',e1⟩:=I.base.there b o e hx;exact free b o' (neC b o e hx) e1 (I.base.free b o e n hx)
 .obtain ⟨o',e1⟩:=I.base.there b o e hx;exact there b o' (neC b o e hx) e1
 .obtain ⟨m1,e1⟩:=I.base.nL b ps e;obtain ⟨m2,e2⟩:=nL b _ e1;exact ⟨m1++m2,by rw[e2,Array.append_assoc]⟩
 .obtain ⟨m,hn,hl⟩:=I.loc;refine ⟨m,ns m hn,λi x v e1 e2 e3=>?_⟩;obtain ⟨u,r,l⟩:=hl i x v e1 e2 e3;refine ⟨u,r,?_⟩;rcases l with l | ⟨k,c,e,z⟩
  .exact .inl l
  .exact .inr ⟨k,c,e,cellK x c e _ z⟩
 .obtain ⟨v,z⟩:=I.cell x c e;exact ⟨v,cellK x c e v z⟩
 .obtain ⟨m,⟨o,_,_,ho,_⟩,_⟩:=I.loc;exact free _ o (λz=>(hch _ z).2.1 rfl) ho I.free
 .obtain ⟨v,o,ho,hd⟩:=I.cell x c e;exact free c o (λz=>(hch c z).2.2.1 x c e rfl) ho (I.jf x c e)
 .obtain ⟨e,n,ne,nf,d⟩:=I.pin p hp;have nch:p.1∉ch:=λz=>(hch p.1 z).2.2.2 p hp rfl;exact ⟨keep p.1 p.2 ne nf nch e n,free p.1 p.2 nch e n,ne,nf,d⟩
theorem Inv.un {t':Nat}(I:Inv X pins σ H s)(u:Un X.fs [] H H' s.heap h')(bp:j3 X.prog X.w H' h'):Inv X pins σ H' { s with heap:=h',toks:=t' }:=by
 obtain ⟨m,⟨o,es,ep,ho,r⟩,_⟩:=id I.loc;obtain ⟨sl,hL⟩:=u.any ho I.free (by simp);exact I.step (g':=s.gens) (d':=s.drawn) (ch:=[]) (λ_ z=>nomatch z) (λb o _ hb _ e n=>u.keep b o e n hb (by simp)) (λb o _ hb _ e n=>u.slot b o e n hb (by simp)) (λb o _ e n=>u.free b o e n (by simp)) (λb o _ e=>u.there b o e (by simp)) u.qk u.nE u.nL (λm' hm=>by
  obtain ⟨o',es',ep',ho',r'⟩:=hm;rw[ho] at ho';cases ho';exact ⟨_,es',ep',hL,r'⟩) bp I.bare
theorem Inv.call {g':Array GenState}{t':Nat}{d':Drawn}{ch:List Addr}(I:Inv X pins σ H s)(u:Un (zt X.stack) ch H H' s.heap h')(bp:j3 X.prog X.w H' h')(hg:AllBare g')
  (hch:∀b∈ch,(b∈X.ex\/X.s₀.heap.objs.size<=b)/\b≠X.env.locals/\(∀x c,X.env.cells.lookup x=some c->c≠b)/\∀p∈X.pn++pins,p.1≠b) :
  Inv X pins σ H' { s with heap:=h',gens:=g',drawn:=d',toks:=t' }:=by
 obtain ⟨m,⟨o,es,ep,ho,r⟩,_⟩:=id I.loc;obtain ⟨sl,hL⟩:=u.any ho I.free λz=>(hch _ z).2.1 rfl;exact I.step (ch:=ch) hch (λb o hL hb hc e n=>u.keep b o e n (λz=>(List.mem_cons.mp (I.vW b z)).elim hL hb) hc) (λb o _ _ hc e n=>u.any e n hc) (λb o hc e n=>u.free b o e n hc) (λb o hc e=>u.there b o e hc) u.qk u.nE u.nL (λm' hm=>by
  obtain ⟨o',es',ep',ho',r'⟩:=hm;rw[ho] at ho';cases ho';exact ⟨_,es',ep',hL,r'⟩) bp hg
theorem Inv.turned {t':Nat}{it:Addr}(I:Inv X pins σ H s)(k:∀b o,b≠it->s.heap.get? b=some o->h'.get? b=some o)(hn:H it=none)(hL:it≠X.env.locals)
    (h1:it∈X.ex\/X.s₀.heap.objs.size<=it) (h2:∀x c,X.env.cells.lookup x=some c->c≠it) (h3:∀p∈X.pn++pins,p.1≠it):Inv X pins σ H { s with heap:=h',toks:=t' }:=by
  have nit:∀b u,H b=some u->b≠it:=λb u e z=>by rw[z,hn] at e;cases e
  refine I.step (g':=s.gens) (d':=s.drawn) (ch:=[it]) (λb hb=>?_) (λb o _ _ hc e _=>k b o (λz=>hc (by simp[z])) e) (λb o _ _ hc e _=>⟨o.slots,k b o (λz=>hc (by simp[z])) e⟩) (λ_ _ _ _ n=>n)
    (λb o hc e=>⟨o,k b o (λz=>hc (by simp[z])) e⟩) (λ_ _ e=>e) (λ_ _ _ e=>e) (λb ps e=>⟨#[],by rw[e];simp⟩) (λm hm=>?_) (λb u e=>?_) I.bare
  · have e : b = it := by simpa using hb
    subst e;exact ⟨h1,hL,h2,h3⟩
  · obtain ⟨o,es,ep,ho,r⟩:=hm;exact ⟨o,es,ep,k _ o (Ne.symm hL) ho,r⟩
  · refine (I.bp b u e).fS (λc v hc q=>k c v ?_ q) (λ_ q=>q) λ_ _ q=>q;rcases hc with z | z
    · rw[z];exact nit b u e
    · exact nit c _ z
theorem Inv.tok (I:Inv X pins σ H s)(t:Nat):Inv X pins σ H { s with toks:=t }:=I.un (h':=s.heap) (t':=t) Un.refl I.bp
theorem Inv.kept {t':Nat}(I:Inv X pins σ H s)(k:∀b u,s.heap.get? b=some u->h'.get? b=some u):Inv X pins σ H { s with heap:=h',toks:=t' }:=I.un (Un.kept k) (I.bp.kept k)
theorem Inv.laid {a:Addr}{o:HO}{t':Nat}(I:Inv X pins σ H s)(k:∀b u,s.heap.get? b=some u->h'.get? b=some u)(hp:s.heap.objs.size<=a)(new:bZ X.prog X.w (upd H a o) h' a o) :
  Inv X pins σ (upd H a o) { s with heap:=h',toks:=t' }:=I.un (Un.laid k hp (I.bp.fresh hp)) (I.bp.laid k hp new)
theorem Inv.write {x e:Addr}{o:HO}{t':Nat}(I:Inv X pins σ H s)(mu:Gz (H x))(he:e=x\/H e=some (.own x))(k:∀b u,b≠e->s.heap.get? b=some u->h'.get? b=some u)(heo:∃u,h'.get? e=some u)
  (new:bZ X.prog X.w (upd H x o) h' x o):Inv X pins σ (upd H x o) { s with heap:=h',toks:=t' }:=I.un (Un.write mu he k heo) (I.bp.write mu he k heo new)
theorem Inv.xC {pins':List (Addr×Obj)}(I:Inv X pins σ H s)(h:∀p∈pins',s.heap.get? p.1=some p.2/\H p.1=none/\p.1≠X.env.locals/\p.1∉X.fs/\∀v,p.2.data≠.cell v):Inv X pins' σ H s:=
 ⟨I.ok,I.os,I.bare,I.base,I.loc,I.cell,I.free,I.jf,λp hp=>(mem_append.mp hp).elim (λz=>I.pin p (mem_append_left _ z)) (h p),I.bp,I.len⟩
theorem uA {N:List Str}(hN:N.Nodup){i j:Nat}{x:Str}(a:N[i]?=some x)(b:N[j]?=some x):i=j:=by
 obtain ⟨h1,e1⟩:=List.getElem?_eq_some_iff.mp a;obtain ⟨h2,e2⟩:=List.getElem?_eq_some_iff.mp b;exact (List.getElem_inj hN).mp (e1.trans e2.symm)
theorem zf {M:Model}{A:Around}{E:Value->Shared->Prop}{i:Nat}{x:Str}{v:V}{u:Value}{Q:Unit->Shared->Prop}(I:Inv X pins σ H s)(hN:X.N.Nodup)(hi:X.N[i]?=some x)(hx:Loc X.env.scope x)(r:RelV v u)
  (h:∀s',Inv X pins (σ.set i (some v)) H s'->(∃a,Heap.SameBut a s.heap s'.heap/\(a=X.env.locals\/X.env.cells.lookup x=some a))->Q () s') (hf:autoParam (X.fn x=true\/X.env.scope.names.lookup x=some .local) aZd._auto_1):wpAny M A (storeName X.env x u) Q E s:=by
 obtain ⟨m,hn,hl⟩:=id I.loc;have hcls:(X.env.scope.kind == .class || (X.env.scope.kind == .module && X.env.locals != X.env.globals))=false:=by rw[I.ok.kind];rfl
 have hiσ:i<σ.length:=by rw[I.len];exact (List.getElem?_eq_some_iff.mp hi).1
 have EC:=I.EC;have tracked:∀{a:Addr} {h':Heap},(∃o,s.heap.get? a=some o/\H a=none)->Heap.SameBut a s.heap h'->j3 X.prog X.w H h':=λ{a h'} ha hs b ob e=>by
  obtain ⟨_,_,hfree⟩:=ha;refine (I.bp b ob e).fS (λc w' hc q=>(hs.2 c ?_).trans q) (λ_ q=>q) λ_ _ q=>q;rintro rfl;rcases hc with rfl | hc
  .rw[hfree] at e;cases e
  .rw[hfree] at hc;cases hc
 rcases hx with hk | hk
 .refine wpAny_storeName_local hk hn (λh' hn' hs=>?_) hcls;obtain ⟨oL,_,_,hoL,_⟩:=id hn;refine h _ ⟨I.ok,I.os,I.bare,⟨λb o e n hb hx=>?_,λb o e n hb hx=>?_,I.base.free,λb o e hx=>?_,I.base.qk,I.base.nE,I.base.nL⟩,⟨_,hn',λj y v' e1 e2 e3=>?_⟩,λy c e=>?_,I.free,I.jf,λp hp=>?_,tracked ⟨oL,hoL,I.free⟩ hs,by simpa using I.len⟩ ⟨_,hs,.inl rfl⟩
  .exact (hs.2 b (Nat.ne_of_lt (Nat.lt_of_lt_of_le (Heap.lt_size e) I.ok.above))).trans (I.base.keep b o e n hb hx)
  .obtain ⟨sl,e1⟩:=I.base.slot b o e n hb hx;exact ⟨sl,(hs.2 b (Nat.ne_of_lt (Nat.lt_of_lt_of_le (Heap.lt_size e) I.ok.above))).trans e1⟩
  .obtain ⟨o',e1⟩:=I.base.there b o e hx;exact ⟨o',(hs.2 b (Nat.ne_of_lt (Nat.lt_of_lt_of_le (Heap.lt_size e) I.ok.above))).trans e1⟩
  .by_cases hj:j=i
   .subst hj;rw[hi] at e1;cases e1;rw[List.getElem?_set_self hiσ] at e2;cases e2;exact ⟨u,r,.inl ⟨hk,by simp⟩⟩
   .rw[List.getElem?_set_ne (Ne.symm hj)] at e2;obtain ⟨u',r',q⟩:=hl j y v' e1 e2 e3;refine ⟨u',r',?_⟩;rcases q with ⟨k,e⟩ | ⟨k,c,e,z⟩
    .refine .inl ⟨k,?_⟩;have:y≠x:=λe=>hj (uA hN e1 (e ▸ hi));simp[this,e]
    .exact .inr ⟨k,c,e,z.sameBut hs (EC y c e)⟩
  .obtain ⟨w',z⟩:=I.cell y c e;exact ⟨w',z.sameBut hs (EC y c e)⟩
  .obtain ⟨e,n,ne,nf,d⟩:=I.pin p hp;exact ⟨(hs.2 p.1 ne).trans e,n,ne,nf,d⟩
 .have hfn:X.fn x=true:=by
   rcases hf with z | z
   .exact z
   .rw[z] at hk;cases hk
  obtain ⟨c,hc⟩:=I.ok.has x (.inl hk);obtain ⟨w',z⟩:=I.cell x c hc;refine wpAny_storeName_cell I.ok.kind hk hc z (λh' hc' hs=>?_);obtain ⟨oc,hoc,hocd⟩:=id z;refine h { s with heap:=h' } ⟨I.ok,I.os,I.bare,⟨λb o e n hb hx=>?_,λb o e n hb hx=>?_,I.base.free,λb o e hx=>?_,I.base.qk,I.base.nE,I.base.nL⟩,⟨m,hn.sameBut hs (Ne.symm (EC x c hc)),λj y v' e1 e2 e3=>?_⟩,λy c' e=>?_,I.free,I.jf,λp hp=>?_,tracked ⟨oc,hoc,I.jf x c hc⟩ hs,by simpa using I.len⟩ ⟨c,hs,.inr hc⟩
  .exact (hs.2 b (Nat.ne_of_lt (Nat.lt_of_lt_of_le (Heap.lt_size e) (I.ok.GG x c hfn hc)))).trans (I.base.keep b o e n hb hx)
  .obtain ⟨sl,e1⟩:=I.base.slot b o e n hb hx;exact ⟨sl,(hs.2 b (Nat.ne_of_lt (Nat.lt_of_lt_of_le (Heap.lt_size e) (I.ok.GG x c hfn hc)))).trans e1⟩
  .obtain ⟨o',e1⟩:=I.base.there b o e hx;exact ⟨o',(hs.2 b (Nat.ne_of_lt (Nat.lt_of_lt_of_le (Heap.lt_size e) (I.ok.GG x c hfn hc)))).trans e1⟩
  .by_cases hj:j=i
   .subst hj;rw[hi] at e1;cases e1;rw[List.getElem?_set_self hiσ] at e2;cases e2;exact ⟨u,r,.inr ⟨.inl hk,c,hc,hc'⟩⟩
   .rw[List.getElem?_set_ne (Ne.symm hj)] at e2;obtain ⟨u',r',q⟩:=hl j y v' e1 e2 e3;refine ⟨u',r',?_⟩;rcases q with q | ⟨k,c',e,z'⟩
    .exact .inl q
    .refine .inr ⟨k,c',e,z'.sameBut hs ?_⟩;rintro rfl;exact hj (uA hN e1 (I.ok.inj _ _ _ e hc ▸ hi))
  .by_cases hcc:c'=c
   .subst hcc;exact ⟨_,hc'⟩
   .obtain ⟨w2,z2⟩:=I.cell y c' e;exact ⟨w2,z2.sameBut hs hcc⟩
  .obtain ⟨e,n,ne,nf,d⟩:=I.pin p hp;refine ⟨(hs.2 p.1 ?_).trans e,n,ne,nf,d⟩;intro q;rw[q,hoc] at e;have q':oc=p.2:=Option.some.inj e;exact d w' (by rw[<-q'];exact hocd)
theorem pH {M:Model}{A:Around}{E:Value->Shared->Prop}{i:Nat}{x:Str}{v:V}{u:Value}{Q:Unit->Shared->Prop}(I:Inv X pins σ H s)(hN:X.N.Nodup)(hi:X.N[i]?=some x)(hx:Loc X.env.scope x)(r:RelV v u)
  (h:∀s',Inv X pins (σ.set i (some v)) H s'->Q () s') (hf:autoParam (X.fn x=true\/X.env.scope.names.lookup x=some .local) aZd._auto_1):wpAny M A (storeName X.env x u) Q E s:=
 zf I hN hi hx r (λs' I' _=>h s' I') hf
theorem Inv.GH {s':Shared}{ch:List Addr}(I:Inv X pins σ H s)(ho:s'.os=s.os)(u:Un (zt X.stack) ch H H' s.heap s'.heap)(bp:j3 X.prog X.w H' s'.heap)(hg:AllBare s'.gens)
  (hch:∀b∈ch,(b∈X.ex\/X.s₀.heap.objs.size<=b)/\b≠X.env.locals/\(∀x c,X.env.cells.lookup x=some c->c≠b)/\∀p∈X.pn++pins,p.1≠b):Inv X pins σ H' s':=by
 obtain ⟨h',g',d',t',o'⟩:=s';have e:o'=s.os:=ho;subst e;exact I.call (g':=g') (t':=t') (d':=d') u bp hg hch
end
noncomputable abbrev XK:=Value->Option Addr->Hp->Prop
noncomputable abbrev St:=List (Option V)
noncomputable abbrev VK:=V->Hp->Prop
noncomputable abbrev TE:=St->Hp->VK->Prop
noncomputable abbrev TT:=St->Hp->(Bool->Hp->Prop)->Prop
noncomputable abbrev TA:=St->Hp->(List V->Hp->Prop)->Prop
structure Ends where
 nx:St->Hp->Prop
 rt:VK
 bk:St->Hp->Prop:=λ_ _=>False
 ct:St->Hp->Prop:=λ_ _=>False
noncomputable abbrev TS:=Ends->St->Hp->Prop
noncomputable def EP (X:Cx)(pins:List (Addr×Obj))(σ:St)(Q:VK)(u:Value)(s':Shared):Prop:=∃v H',Inv X pins σ H' s'/\RelV v u/\Q v H'
noncomputable def TP (X:Cx)(pins:List (Addr×Obj))(σ:St)(Q:Bool->Hp->Prop)(b:Bool)(s':Shared):Prop:=∃H',Inv X pins σ H' s'/\Q b H'
noncomputable def AP (X:Cx)(pins:List (Addr×Obj))(σ:St)(Q:List V->Hp->Prop)(us:List Value)(s':Shared):Prop:=∃vs H',Inv X pins σ H' s'/\Vals vs us/\Q vs H'
noncomputable def SP (X:Cx)(pins:List (Addr×Obj))(D:Ends)(f:Flow)(s':Shared):Prop:=
 match f with
 | .next=>∃σ' H',Inv X pins σ' H' s'/\D.nx σ' H'
 | .brk=>∃σ' H',Inv X pins σ' H' s'/\D.bk σ' H'
 | .cont=>∃σ' H',Inv X pins σ' H' s'/\D.ct σ' H'
 | .ret u=>∃v σ' H',Inv X pins σ' H' s'/\RelV v u/\D.rt v H'
noncomputable def PE (X:Cx)(e:Expr)(t:TE):Prop:=
 ∀(pins:List (Addr×Obj)) (s:Shared) (σ:St) (H:Hp) (Q:VK),Inv X pins σ H s->t σ H Q->wpAny (model X.prog X.w) X.A (eval e X.env) (EP X pins σ Q) X.xe s
noncomputable def PT (X:Cx)(e:Expr)(t:TT):Prop:=
 ∀(pins:List (Addr×Obj)) (s:Shared) (σ:St) (H:Hp) (Q:Bool->Hp->Prop),Inv X pins σ H s->t σ H Q->wpAny (model X.prog X.w) X.A (isTrue e X.env (eval e X.env)) (TP X pins σ Q) X.xe s
noncomputable def PW (X:Cx)(e:Expr)(t:TT):Prop:=
 ∀(whole:Sem Value) (pins:List (Addr×Obj)) (s:Shared) (σ:St) (H:Hp) (Q:Bool->Hp->Prop),Inv X pins σ H s->t σ H Q->wpAny (model X.prog X.w) X.A (isTrue e X.env whole) (TP X pins σ Q) X.xe s
theorem PW.pt {X:Cx}{e:Expr}{t:TT}(h:PW X e t):PT X e t:=h _
noncomputable def PA (X:Cx)(es:List Expr)(t:TA):Prop:=
 ∀(pos:Pos) (pins:List (Addr×Obj)) (s:Shared) (σ:St) (H:Hp) (Q:List V->Hp->Prop),Inv X pins σ H s->t σ H Q->wpAny (model X.prog X.w) X.A (spliced (backTo pos (starEach es X.env))) (AP X pins σ Q) X.xe s
noncomputable def PS (X:Cx)(st:Stmt)(t:TS):Prop:=
 ∀(pins:List (Addr×Obj)) (s:Shared) (σ:St) (H:Hp) (D:Ends),Inv X pins σ H s->t D σ H->wpAny (model X.prog X.w) X.A (exec st X.env) (SP X pins D) X.xe s
noncomputable def qp (X:Cx)(st:List Stmt)(t:TS):Prop:=
 ∀(pins:List (Addr×Obj)) (s:Shared) (σ:St) (H:Hp) (D:Ends),Inv X pins σ H s->t D σ H->wpAny (model X.prog X.w) X.A (execs st X.env) (SP X pins D) X.xe s
theorem bV {α:Type}{t:Sem α}{Q Q':α->Shared->Prop}{M:Model}{A:Around}{E:Value->Shared->Prop}{s:Shared}(h:wpAny M A t Q E s)(hQ:∀a s,Q a s->Q' a s):wpAny M A t Q' E s:=wpAny_mono h hQ λ_ _ x=>x
end L2
namespace L2
open PySem PySem.Spec PyProof.Rows
section
variable {X:Cx}
theorem bin {a b:Expr}{ta tb:TE}(ha:PE X a ta)(hb:PE X b tb){pins:List (Addr×Obj)}{s:Shared}{σ:St}{H:Hp}{R:V->V->Hp->Prop}(I:Inv X pins σ H s)(h:ta σ H λx H1=>tb σ H1 λy H2=>R x y H2)
  {α:Type} {Q:α->Shared->Prop} {f:Value->Value->Sem α}
  (hf:∀v u s2 x y H2,Inv X pins σ H2 s2->RelV x v->RelV y u->R x y H2->wpAny (model X.prog X.w) X.A (f v u) Q X.xe s2) :
  wpAny (model X.prog X.w) X.A (eval a X.env) (λv s₁=>wpAny (model X.prog X.w) X.A (eval b X.env) (λu s₂=>wpAny (model X.prog X.w) X.A (f v u) Q X.xe s₂) X.xe s₁) X.xe s:=by
 refine bV (ha pins s σ H _ I h) ?_;rintro v s1 ⟨x,H1,I1,r1,q1⟩;refine bV (hb pins s1 σ H1 _ I1 q1) ?_;rintro u s2 ⟨y,H2,I2,r2,q2⟩;exact hf v u s2 x y H2 I2 r1 r2 q2
noncomputable def Ds (i:Nat):TE:=λσ H Q=>∃v,σ[i]?=some (some v)/\Q v H
noncomputable def tC (v:V):TE:=λ_ H Q=>Q v H
theorem gz {i:Nat}{x:Str}{pos:Pos}(hN:X.N[i]?=some x)(hv:vj X.env.scope x)(hd:autoParam ((x == ("__debug__" : Str))=false) aZb._auto_1)(hcd:autoParam ((x == ("__classdict__" : Str))=false) aZb._auto_1):PE X (.Name x pos) (Ds i):=by
 intro pins s σ H Q I h;obtain ⟨v,e,h⟩:=h;obtain ⟨m,hn,hl⟩:=I.loc;obtain ⟨u,r,l⟩:=hl i x v hN e hv;have fin:EP X pins σ Q u s:=⟨v,H,I,r,h⟩
 rcases l with ⟨hk,hm⟩ | ⟨hk,c,hc,hcell⟩
 .exact wpAny_Name (wpAny_loadName_local I.ok.kind hk hn hm fin) hd
 .rcases hk with hk | hk
  .exact wpAny_Name (wpAny_loadName_cell I.ok.kind hk hc hcell fin) hd
  .exact wpAny_Name (wpAny_loadName_free I.ok.kind hk hc hcell fin hcd) hd
theorem Fv {i j pos}:PE X (.Constant (.int i) j pos) (tC (.int i)):=λ_ _ _ H _ I h=>wpAny_Constant_int ⟨.int i,H,I.tok _,⟨_,rfl⟩,h⟩
theorem AX {b j pos}:PE X (.Constant (.bool b) j pos) (tC (.bl b)):=λ_ _ _ H _ I h=>Constant_bool ⟨.bl b,H,I,rfl,h⟩
theorem Fx {j pos}:PE X (.Constant .none j pos) (tC .non):=λ_ _ _ H _ I h=>Constant_none ⟨.non,H,I,rfl,h⟩
theorem FA {x j pos}:PE X (.Constant (.str x) j pos) (tC (.str x)):=λ_ _ _ H _ I h=>Calls.Constant_str ⟨.str x,H,I.tok _,⟨_,rfl⟩,h⟩
noncomputable def Gl (X:Cx)(x:Str):Prop:=X.env.kindOf x=some .globalImplicit
theorem xi {E:Value->Shared->Prop}{pins:List (Addr×Obj)}{s:Shared}{σ:St}{H:Hp}{x:Str}{u:Value}{pos:Pos}{Q:Value->Shared->Prop}(I:Inv X pins σ H s)(hg:Gl X x)(hm:X.mg x=some u)(h:Q u s)
  (hd:autoParam ((x == ("__debug__" : Str))=false) aZb._auto_1):wpAny (model X.prog X.w) X.A (eval (.Name x pos) X.env) Q E s:=
 Calls.Name_function_global I.ok.kind hg (Calls.loadGlobal_global (by rw[I.ok.glob];exact I.mod.glob.keeps I.bk) hm h) hd
theorem kL {E:Value->Shared->Prop}{pins:List (Addr×Obj)}{s:Shared}{σ:St}{H:Hp}{x:Str}{u:Value}{pos:Pos}{Q:Value->Shared->Prop}(I:Inv X pins σ H s)(hg:Gl X x)(hm:X.mg x=none)(hv:bootBuiltins x=some u)(h:Q u s)
  (hn:autoParam (x≠"__name__") aZb._auto_1) (hd:autoParam ((x == ("__debug__" : Str))=false) aZb._auto_1):wpAny (model X.prog X.w) X.A (eval (.Name x pos) X.env) Q E s:=by
 obtain ⟨mb,h1,h2⟩:=I.mod.blt;exact Calls.Name_function_global I.ok.kind hg (Calls.loadGlobal_builtin (by rw[I.ok.glob];exact I.mod.glob.keeps I.bk) hm (by rw[I.ok.blt];exact h1.keeps I.bk) ((h2 x hn).trans hv) h) hd
theorem nW {x:Str}{v:V}{u:Value}{pos:Pos}(hg:Gl X x)(hm:X.mg x=some u)(r:RelV v u)(hd:autoParam ((x == ("__debug__" : Str))=false) aZb._auto_1):PE X (.Name x pos) (tC v):=
 λ_ _ _ H _ I h=>xi I hg hm ⟨v,H,I,r,h⟩ hd
theorem nV {x:Str}{v:V}{u:Value}{pos:Pos}(hg:Gl X x)(hm:X.mg x=none)(hv:bootBuiltins x=some u)(r:RelV v u)(hn:autoParam (x≠"__name__") aZb._auto_1)(hd:autoParam ((x == ("__debug__" : Str))=false) aZb._auto_1):PE X (.Name x pos) (tC v):=
 λ_ _ _ H _ I h=>kL I hg hm hv ⟨v,H,I,r,h⟩ hn hd
noncomputable def J6 (ta tb:TE)(k:Int->Int->Hp->Prop):St->Hp->Prop:=λσ H=>ta σ H λx H1=>tb σ H1 λy H2=>∃i j,x=.int i/\y=.int j/\k i j H2
variable {a b:Expr} {ta tb:TE} {pos:Pos}
noncomputable def PC (X:Cx)(op:CmpOp)(a b:Expr)(t:TE):Prop:=
 ∀(pins:List (Addr×Obj)) (s:Shared) (σ:St) (H:Hp) (Q:VK),Inv X pins σ H s->t σ H Q ->
  wpAny (model X.prog X.w) X.A (eval a X.env) (λv s₁=>wpAny (model X.prog X.w) X.A (eval b X.env) (λu s₂=>wpAny (model X.prog X.w) X.A (compareOp op v u) (EP X pins σ Q) X.xe s₂) X.xe s₁) X.xe s
theorem AO (b:Expr){op:CmpOp}(h:op≠.In)(h2:op≠.NotIn):behindInMarks op b=false:=by
 have e1:(op == CmpOp.In)=false:=by cases op<;>first | rfl | exact absurd rfl h
 have e2:(op == CmpOp.NotIn)=false:=by cases op<;>first | rfl | exact absurd rfl h2
 cases b<;>simp[behindInMarks,e1,e2]
noncomputable def HS (p:Int->Int->Bool)(ta tb:TE):TE:=λσ H Q=>J6 ta tb (λi j H2=>Q (.bl (p i j)) H2) σ H
noncomputable abbrev J8:TE->TE->TE:=HS λi j=>decide (i<j)
theorem Ft {op:CmpOp}{p:Int->Int->Bool}(ha:PE X a ta)(hb:PE X b tb)
  (rule:∀(i j:Int) (t u:Tok) (Q:Value->Shared->Prop) (s:Shared),Q (.bool (p i j)) s->wpAny (model X.prog X.w) X.A (compareOp op (.int i t) (.int j u)) Q X.xe s):PC X op a b (HS p ta tb):=by
 intro pins s σ H Q I h;refine bin ha hb I h λv u s2 x y H2 I2 rx ry q=>?_;obtain ⟨i,j,rfl,rfl,q⟩:=q;obtain ⟨t,rfl⟩:=rx;obtain ⟨t',rfl⟩:=ry;exact rule i j t t' _ s2 ⟨.bl _,H2,I2,rfl,q⟩
theorem Hr (ha:PE X a ta)(hb:PE X b tb):PC X .Lt a b (J8 ta tb):=Ft ha hb λ_ _ _ _ _ _ h=>lt_int h
noncomputable def tB (t:TE):TT:=λσ H Q=>t σ H λx H1=>∃c,x=.bl c/\Q c H1
theorem Be {op:CmpOp}{t:TE}(h:PC X op a b t)(h1:behindInMarks op b=false:=by first | exact AO _ (by decide) (by decide) | rfl):PT X (.Compare a [op] [b] pos) (tB t):=by
 intro pins s σ H Q I hw;refine wpAny_isTrue_Compare1 (bV (h pins s σ H _ I hw) λv s1 h1=>bV h1 λu s2 h2=>bV h2 ?_) h1;rintro c s3 ⟨x,H1,I1,r1,q1⟩;obtain ⟨d,rfl,q⟩:=q1;cases r1;exact wpAny_truthy_bool ⟨H1,I1,q⟩
theorem Bg {e:Expr}{t:TE}(h:PE X e t)(he:autoParam (∀whole,isTrue e X.env whole=(do let v <-whole;standAt e.pos;holding [v] (truthy v))) aZc._auto_1):PT X e (tB t):=by
  intro pins s σ H Q I hw;refine isTrue_plain (bV (h pins s σ H _ I hw) ?_) (he _);rintro v s1 ⟨x,H1,I1,r1,q1⟩;obtain ⟨d,rfl,q⟩:=q1;cases r1;exact wpAny_truthy_bool ⟨H1,I1,q⟩
variable {tA tB':TT} {rest:List Expr}
noncomputable def HP (t u:TT):TT:=λσ H Q=>t σ H λc H1=>if c=true then u σ H1 Q else Q false H1
noncomputable def JW (t u:TT):TT:=λσ H Q=>t σ H λc H1=>if c=true then Q true H1 else u σ H1 Q
noncomputable def JA (t:TT):TT:=λσ H Q=>t σ H λc H1=>Q (!c) H1
theorem C8 (ha:PT X a tA):PW X (.BoolOp .And [a] pos) tA:=by
 intro wh pins s σ H Q I h;refine isTrue_and (bV (ha pins s σ H Q I h) λc s1 e=>?_);cases c with
 | true=>exact isTrue_and_nil e
 | false=>exact e
theorem Bj (ha:PT X a tA):PW X (.BoolOp .Or [a] pos) tA:=by
 intro wh pins s σ H Q I h;refine isTrue_or (bV (ha pins s σ H Q I h) λc s1 e=>?_);cases c with
 | false=>exact isTrue_or_nil e
 | true=>exact e
theorem FI (ha:PT X a tA)(hb:PW X (.BoolOp .And (b::rest) pos) tB'):PW X (.BoolOp .And (a::b::rest) pos) (HP tA tB'):=by
 intro wh pins s σ H Q I h;refine isTrue_and (bV (ha pins s σ H _ I h) ?_);rintro c s1 ⟨H1,I1,q1⟩;cases c with
 | true=>exact hb wh pins s1 σ H1 Q I1 q1
 | false=>exact ⟨H1,I1,q1⟩
theorem Ee (ha:PT X a tA)(hb:PW X (.BoolOp .Or (b::rest) pos) tB'):PW X (.BoolOp .Or (a::b::rest) pos) (JW tA tB'):=by
 intro wh pins s σ H Q I h;refine isTrue_or (bV (ha pins s σ H _ I h) ?_);rintro c s1 ⟨H1,I1,q1⟩;cases c with
 | true=>exact ⟨H1,I1,q1⟩
 | false=>exact hb wh pins s1 σ H1 Q I1 q1
theorem Bf (ha:PT X a tA):PT X (.UnaryOp .Not a pos) (JA tA):=by
 intro pins s σ H Q I h;exact isTrue_not (ha pins s σ H (λc H1=>Q (!c) H1) I h)
noncomputable def HQ (ta tb:TE):TE:=λσ H Q=>ta σ H λx H1=>∃c,x=.bl c/\if c=true then tb σ H1 Q else Q (.bl false) H1
noncomputable def HX (ta:TE):TE:=λσ H Q=>ta σ H λx H1=>∃c,x=.bl c/\Q (.bl (!c)) H1
theorem Fz {op}{t:TE}(h:PE X a t):PE X (.BoolOp op [a] pos) t:=λpins s σ H Q I hw=>BoolOp_one (h pins s σ H Q I hw)
theorem Fu (ha:PE X a ta)(hb:PE X (.BoolOp .And (b::rest) pos) tb):PE X (.BoolOp .And (a::b::rest) pos) (HQ ta tb):=by
 intro pins s σ H Q I h;refine BoolOp_and (bV (ha pins s σ H _ I h) ?_);rintro v s1 ⟨x,H1,I1,r1,q1⟩;obtain ⟨c,rfl,q1⟩:=q1;cases r1;refine wpAny_truthy_bool ?_;cases c with
 | true=>exact hb pins s1 σ H1 Q I1 q1
 | false=>exact ⟨.bl false,H1,I1,rfl,q1⟩
theorem Fy (ha:PE X a ta):PE X (.UnaryOp .Not a pos) (HX ta):=by
 intro pins s σ H Q I h;refine UnaryOp_ (bV (ha pins s σ H _ I h) ?_);rintro v s1 ⟨x,H1,I1,r1,q1⟩;obtain ⟨c,rfl,q1⟩:=q1;cases r1;exact not_of (wpAny_truthy_bool ⟨.bl (!c),H1,I1,rfl,q1⟩)
end
end L2
namespace L2
open PySem PySem.Spec PyProof.Rows
noncomputable def fV (K:Frag)(H:Hp)(a:Addr)(xs:List V):Prop:=
 Rd H a (.lst xs) \/
  ∃(o:Obj) (its:Array Value) (n:Nat),K.lookup a=some o/\o.cls=.type "list"/\o.dict=none/\o.data=.seq its n/\its.size<=sizeLine/\Vals xs its.toList
noncomputable def jR (K:Frag)(H:Hp)(a:Addr)(xs:List V):Prop:=
 Rd H a (.tup xs) \/
  ∃(o:Obj) (its:Array Value) (n:Nat),K.lookup a=some o/\o.cls=.type "tuple"/\o.data=.seq its n/\its.size<=sizeLine/\Vals xs its.toList
noncomputable def IL:Value->Option V
 | .none=>some .non
 | .bool b=>some (.bl b)
 | .int i _=>some (.int i)
 | .str x _=>some (.str x)
 | .bytes b _=>some (.byt b)
 | .float b _=>some (.flt b)
 | .ref a=>some (.ref a)
 | .type n=>some (.ty n)
 | _=>none
theorem RelV.abs {x:V}{u:Value}(r:RelV x u):IL u=some x:=by
 cases x with
 | non=>cases r;rfl
 | bl _=>cases r;rfl
 | int _=>obtain ⟨t,rfl⟩:=r;rfl
 | str _=>obtain ⟨t,rfl⟩:=r;rfl
 | byt _=>obtain ⟨t,rfl⟩:=r;rfl
 | flt _=>obtain ⟨t,rfl⟩:=r;rfl
 | ref _=>cases r;rfl
 | ty _=>cases r;rfl
theorem RelV.inj {x y:V}{u:Value}(r:RelV x u)(q:RelV y u):x=y:=Option.some.inj (r.abs.symm.trans q.abs)
theorem Vals.inj:∀{xs ys:List V} {us:List Value},Vals xs us->Vals ys us->xs=ys
 | _,_,_,.nil,.nil=>rfl
 | _,_,_,.cons r t,.cons r' t'=>by rw[r.inj r',Vals.inj t t']
section
variable {X:Cx} {pins:List (Addr×Obj)} {σ:St} {H:Hp} {s:Shared} {a:Addr} {xs ys:List V}
theorem fV.of {K:Frag}(h:H a=some (.lst xs)):fV K H a xs:=.inl (.inl h)
theorem Inv.list (I:Inv X pins σ H s)(h:fV X.K H a xs):∃its:List Value,Vals xs its/\PlainL s.heap a its.toArray/\xs.length<=sizeLine:=by
  rcases h with h | ⟨o,its,n,hk,hc,hd,hs,hz,r⟩
  · obtain ⟨z,its,n,r,e⟩:=h.ok I.bp;exact ⟨its,r,⟨_,n,e,rfl,rfl,rfl⟩,z⟩
  · refine ⟨its.toList, r, ⟨o, n, I.pM a o hk, hc, hd, by simpa using hs⟩, ?_⟩;have e:=r.length;simp only[length_toList] at e;lia
theorem Inv.tuple (I:Inv X pins σ H s)(h:jR X.K H a xs):∃its:List Value,Vals xs its/\IsTup s.heap a its.toArray/\xs.length<=sizeLine:=by
  rcases h with h | ⟨o,its,n,hk,hc,hs,hz,r⟩
  · obtain ⟨z,its,r,p⟩:=h.ok I.bp;exact ⟨its,r,p,z⟩
  · refine ⟨its.toList, r, ⟨o, I.pM a o hk, hc, n, by simpa using hs⟩, ?_⟩;have e:=r.length;simp only[length_toList] at e;lia
theorem Inv.AF (I:Inv X pins σ H s)(h:fV X.K H a xs)(h':fV X.K H a ys):xs=ys:=by
 obtain ⟨its,r,⟨o,n,e,_,_,d⟩,_⟩:=I.list h;obtain ⟨its',r',⟨o',n',e',_,_,d'⟩,_⟩:=I.list h';rw[e] at e';cases e';rw[d] at d';injection d' with d1 _
 have:its=its':=by simpa using congrArg Array.toList d1
 subst this;exact r.inj r'
theorem Inv.zi (I:Inv X pins σ H s)(h:jR X.K H a xs)(h':jR X.K H a ys):xs=ys:=by
 obtain ⟨its,r,⟨o,e,_,n,d⟩,_⟩:=I.tuple h;obtain ⟨its',r',⟨o',e',_,n',d'⟩,_⟩:=I.tuple h';rw[e] at e';cases e';rw[d] at d';injection d' with d1 _
 have:its=its':=by simpa using congrArg Array.toList d1
 subst this;exact r.inj r'
end
noncomputable abbrev Cx.ql (X:Cx)(E:Value->Shared->Prop):Cx:={ X with xe:=E }
noncomputable abbrev Cx.Eb (X:Cx):Cx:=X.ql λ_ _=>False
theorem Cx.Ok.ql {X:Cx}(ok:X.Ok)(E:Value->Shared->Prop):(X.ql E).Ok:=
 ⟨ok.mod,ok.kind,ok.glob,ok.blt,ok.above,ok.inj,ok.has,ok.GG,ok.hd,ok.frames,ok.Iv,ok.Il,ok.bs,ok.DN,ok.AR,ok.Ae,ok.oE,ok.Gk⟩
theorem Cx.Ok.jP {X:Cx}{E:Value->Shared->Prop}(ok:(X.ql E).Ok):X.Ok:=
 ⟨ok.mod,ok.kind,ok.glob,ok.blt,ok.above,ok.inj,ok.has,ok.GG,ok.hd,ok.frames,ok.Iv,ok.Il,ok.bs,ok.DN,ok.AR,ok.Ae,ok.oE,ok.Gk⟩
section
variable {X:Cx} {pins:List (Addr×Obj)} {σ:St} {H:Hp} {s:Shared} {E:Value->Shared->Prop}
theorem Inv.ql (I:Inv X pins σ H s)(E:Value->Shared->Prop):Inv (X.ql E) pins σ H s:=⟨I.ok.ql E,I.os,I.bare,I.base,I.loc,I.cell,I.free,I.jf,I.pin,I.bp,I.len⟩
theorem Inv.jP (I:Inv (X.ql E) pins σ H s):Inv X pins σ H s:=⟨I.ok.jP,I.os,I.bare,I.base,I.loc,I.cell,I.free,I.jf,I.pin,I.bp,I.len⟩
theorem SP.jP {D:Ends}{f:Flow}{s':Shared}(h:SP (X.ql E) pins D f s'):SP X pins D f s':=by
 cases f with
 | next=>obtain ⟨σ',H',I,q⟩:=h;exact ⟨σ',H',I.jP,q⟩
 | brk=>obtain ⟨σ',H',I,q⟩:=h;exact ⟨σ',H',I.jP,q⟩
 | cont=>obtain ⟨σ',H',I,q⟩:=h;exact ⟨σ',H',I.jP,q⟩
 | ret u=>obtain ⟨v,σ',H',I,r,q⟩:=h;exact ⟨v,σ',H',I.jP,r,q⟩
theorem qp.Eb {st:List Stmt}{t:TS}(h:qp X.Eb st t):qp X st t:=λpins s σ H D I hw =>
 wpAny_mono (h pins s σ H D (I.ql _) hw) (λ_ _ q=>q.jP) λ_ _ z=>False.elim z
end
section
variable {X:Cx} {st:Stmt} {rest:List Stmt} {t u:TS} {e:Expr} {te:TE} {pos:Pos}
noncomputable def HV:TS:=λD σ H=>D.nx σ H
noncomputable def JC (t u:TS):TS:=λD σ H=>t { D with nx:=u D } σ H
theorem sE:qp X [] HV:=λ_ _ σ H _ I h=>wpAny_execs_nil ⟨σ,H,I,h⟩
theorem o6 (h1:PS X st t)(h2:qp X rest u):qp X (st::rest) (JC t u):=by
 intro pins s σ H D I h;refine wpAny_execs_cons (bV (h1 pins s σ H { D with nx:=u D } I h) λf s1 q=>?_);cases f with
 | next =>
  obtain ⟨σ',H',I',q⟩:=q;exact h2 pins s1 σ' H' D I' q
 | ret v=>exact q
 | brk=>exact q
 | cont=>exact q
theorem sF (h1:PS X st t):qp X [st] t:=by
 intro pins s σ H D I h;refine wpAny_execs_cons (bV (h1 pins s σ H D I h) λf s1 q=>?_);cases f with
 | next=>exact wpAny_execs_nil q
 | ret v=>exact q
 | brk=>exact q
 | cont=>exact q
theorem Inv.quiet {pins:List (Addr×Obj)}{σ:St}{H:Hp}{s:Shared}(I:Inv X pins σ H s):interactive X.env=false:=by simp[interactive,I.ok.kind]
noncomputable def HU (te:TE):TS:=λD σ H=>te σ H λ_ H1=>D.nx σ H1
theorem sC (he:PE X e te)(hs:autoParam (swapsWith e none pos.line X.env=pure false) aZa._auto_1):PS X (.Expr e pos) (HU te):=by
 intro pins s σ H D I h;exact wpAny_Expr_any (bV (he pins s σ H _ I h) (by rintro v s1 ⟨x,H1,I1,r1,q1⟩;exact ⟨σ,H1,I1,q1⟩)) I.quiet hs
noncomputable def JB (te:TE):TS:=λD σ H=>te σ H D.rt
theorem oZ (he:PE X e te):PS X (.Return (some e) pos) (JB te):=by
 intro pins s σ H D I h;exact wpAny_Return_some (bV (he pins s σ H _ I h) (by rintro v s1 ⟨x,H1,I1,r1,q1⟩;exact ⟨x,σ,H1,I1,r1,q1⟩))
noncomputable def Jx (c:TT)(t u:TS):TS:=λD σ H=>c σ H λb H1=>if b=true then t D σ H1 else u D σ H1
theorem Bb {c:Expr}{a b:List Stmt}{tc:TT}(hc:PT X c tc)(ha:qp X a t)(hb:qp X b u):PS X (.If c a b pos) (Jx tc t u):=by
 intro pins s σ H D I h;refine wpAny_If (bV (hc pins s σ H _ I h) ?_);rintro d s1 ⟨H1,I1,q1⟩;cases d with
 | true=>exact ha pins s1 σ H1 D I1 q1
 | false=>exact hb pins s1 σ H1 D I1 q1
noncomputable def FY:TS:=λ_ _ _=>False
theorem Bc:PS X st FY:=λ_ _ _ _ _ _ h=>h.elim
end
noncomputable abbrev TG:=V->St->Hp->(St->Hp->Prop)->Prop
noncomputable abbrev DD:=List V->St->Hp->(St->Hp->Prop)->Prop
noncomputable def PG (X:Cx)(target:Expr)(t:TG):Prop:=
 ∀(pins:List (Addr×Obj)) (s:Shared) (σ:St) (H:Hp) (v:V) (u:Value) (Q:St->Hp->Prop),Inv X pins σ H s->RelV v u->t v σ H Q ->
  wpAny (model X.prog X.w) X.A (assign target X.env u) (λ_ s'=>∃σ' H',Inv X pins σ' H' s'/\Q σ' H') X.xe s
noncomputable def Ij (X:Cx)(ts:List Expr)(t:DD):Prop:=
 ∀(pins:List (Addr×Obj)) (s:Shared) (σ:St) (H:Hp) (vs:List V) (us:List Value) (Q:St->Hp->Prop),Inv X pins σ H s->Vals vs us->t vs σ H Q ->
  wpAny (model X.prog X.w) X.A (assignInOrder ((assignEach ts X.env).map (·.2)) us) (λ_ s'=>∃σ' H',Inv X pins σ' H' s'/\Q σ' H') X.xe s
noncomputable abbrev xZ:=V->V->V->Hp->(Hp->Prop)->Prop
noncomputable def Eu (X:Cx)(t:xZ):Prop:=
 ∀(pins:List (Addr×Obj)) (s:Shared) (σ:St) (H:Hp) (o i v:V) (ov iv u:Value) (Q:Hp->Prop),Inv X pins σ H s->RelV o ov->RelV i iv->RelV v u->t o i v H Q ->
  wpAny (model X.prog X.w) X.A (setItem ov iv u) (λ_ s'=>∃H',Inv X pins σ H' s'/\Q H') X.xe s
noncomputable abbrev Gh:=V->V->Hp->VK->Prop
noncomputable def GB (X:Cx)(op:Operator)(t:Gh):Prop:=
 ∀(pins:List (Addr×Obj)) (s:Shared) (σ:St) (H:Hp) (x y:V) (v u:Value) (Q:VK),Inv X pins σ H s->RelV x v->RelV y u->t x y H Q ->
  wpAny (model X.prog X.w) X.A (inplaceOp op v u) (EP X pins σ Q) X.xe s
section
variable {X:Cx} {pos:Pos}
noncomputable def wR (i:Nat):TG:=λv σ H Q=>Q (σ.set i (some v)) H
theorem ak {i:Nat}{x:Str}(hN:X.N.Nodup)(hi:X.N[i]?=some x)(hx:Loc X.env.scope x)(hf:autoParam (X.fn x=true\/X.env.scope.names.lookup x=some .local) aZd._auto_1):PG X (.Name x pos) (wR i):=by
 intro pins s σ H v u Q I r h;exact wpAny_assign_Name (pH I hN hi hx r (λs' I'=>⟨_,H,I',h⟩) hf)
noncomputable def GR:DD:=λvs σ H Q=>vs = []/\Q σ H
noncomputable def D4 (t:TG)(u:DD):DD:=λvs σ H Q=>∃v r,vs=v::r/\t v σ H λσ' H'=>u r σ' H' Q
theorem fm:Ij X [] GR:=by
 intro pins s σ H vs us Q I r h;obtain ⟨e,h⟩:=h;subst e;cases r;exact assignInOrder_nil ⟨σ,H,I,h⟩
theorem aH {e:Expr}{es:List Expr}{t:TG}{u:DD}(h1:PG X e t)(h2:Ij X es u)
  (hs:autoParam ((assignEach (e::es) X.env).map (·.2)=assign e X.env::(assignEach es X.env).map (·.2)) aZa._auto_1):Ij X (e::es) (D4 t u):=by
 intro pins s σ H vs us Q I r h;obtain ⟨v,vr,e1,h⟩:=h;subst e1;cases r with
 | cons r rr =>
  rw[hs];refine assignInOrder_cons (bV (h1 pins s σ H _ _ _ I r h) ?_);rintro _ s1 ⟨σ1,H1,I1,q1⟩;exact h2 pins s1 σ1 H1 _ _ Q I1 rr q1
noncomputable def IQ (to ti:TE)(t:xZ):TG:=λv σ H Q=>to σ H λo H1=>ti σ H1 λi H2=>t o i v H2 λH3=>Q σ H3
theorem A5 {o i:Expr}{to ti:TE}{t:xZ}(ho:PE X o to)(hi:PE X i ti)(hs:Eu X t)
    (ha:autoParam (∀v,assign (.Subscript o i pos) X.env v=(do
      let ov <-holding [v] (eval o X.env)
      let iv <-holding [v,ov] (eval i X.env)
      standAt pos
      holding [v,ov,iv] (setItem ov iv v)
      release [v,ov,iv] [])) aZc._auto_1):PG X (.Subscript o i pos) (IQ to ti t):=by
  intro pins s σ H v u Q I r h;rw[ha];refine wpAny_bind (wpAny_holding (bV (ho pins s σ H _ I h) ?_));rintro ov s1 ⟨x,H1,I1,r1,q1⟩;refine wpAny_bind (wpAny_holding (bV (hi pins s1 σ H1 _ I1 q1) ?_));rintro iv s2 ⟨y,H2,I2,r2,q2⟩;refine wpAny_bind (wpAny_standAt (wpAny_bind (wpAny_holding (bV (hs pins s2 σ H2 x y v ov iv u _ I2 r1 r2 r q2) ?_))));rintro _ s3 ⟨H3,I3,q3⟩;exact wpAny_release ⟨σ,H3,I3,q3⟩
noncomputable def HR (te:TE)(g:TG):TS:=λD σ H=>te σ H λx H1=>g x σ H1 D.nx
theorem sA {tg e:Expr}{te:TE}{g:TG}(he:PE X e te)(hg:PG X tg g)(hs:autoParam (swapsWithSole [tg] e pos.line X.env=pure false) aZa._auto_1)(hw:autoParam (swappedStores [tg] e X.env=pure none) aZa._auto_1)
  (h1:autoParam ((assignEach [tg] X.env).map (·.2) = [assign tg X.env]) aZa._auto_1):PS X (.Assign [tg] e pos) (HR te g):=by
 intro pins s σ H D I h;refine wpAny_Assign_stores (bV (he pins s σ H _ I h) ?_) hs hw;rintro v s1 ⟨x,H1,I1,r1,q1⟩;rw[h1];exact bV (hg pins s1 σ H1 x v _ I1 r1 q1) λ_ s2 q=>q
theorem sD {i:Nat}{x:Str}{e:Expr}{te:TE}{pos':Pos}(hN:X.N.Nodup)(hi:X.N[i]?=some x)(hx:Loc X.env.scope x)(he:PE X e te)(hs:autoParam (swapsWith e (some (.Name x pos')) pos.line X.env=pure false) aZa._auto_1)(hf:autoParam (X.fn x=true\/X.env.scope.names.lookup x=some .local) aZd._auto_1) :
  PS X (.Assign [.Name x pos'] e pos) (HR te (wR i)):=by
 intro pins s σ H D I h;refine wpAny_Assign_Name (bV (he pins s σ H _ I h) ?_) hs;rintro v s1 ⟨y,H1,I1,r1,q1⟩;exact pH I1 hN hi hx r1 (λs2 I2=>⟨_,H1,I2,q1⟩) hf
noncomputable def Jv (i:Nat)(te:TE)(ti:Gh):TS:=λD σ H=>∃x,σ[i]?=some (some x)/\te σ H λy H1=>ti x y H1 λz H2=>D.nx (σ.set i (some z)) H2
theorem FH {i:Nat}{x:Str}{e:Expr}{te:TE}{op:Operator}{ti:Gh}{pos':Pos}(hN:X.N.Nodup)(hi:X.N[i]?=some x)(hx:Loc X.env.scope x)(he:PE X e te)(ho:GB X op ti)(hf:autoParam (X.fn x=true\/X.env.scope.names.lookup x=some .local) aZd._auto_1) :
  PS X (.AugAssign (.Name x pos') op e pos) (Jv i te ti):=by
 intro pins s σ H D I h;obtain ⟨v,e1,h⟩:=h;obtain ⟨m,hn,hl⟩:=I.loc;have vis:vj X.env.scope x:=by rcases hx with k | k;exact .inl k;exact .inr (.inl k)
 obtain ⟨u,r,l⟩:=hl i x v hi e1 vis;refine wpAny_AugAssign_Name ?_;have go:wpAny (model X.prog X.w) X.A (eval e X.env) (λw s₂=>wpAny (model X.prog X.w) X.A (inplaceOp op u w) (λr s₃=>wpAny (model X.prog X.w) X.A (storeName X.env x r) (λ_=>SP X pins D .next) X.xe s₃) X.xe s₂) X.xe s:=by
  refine bV (he pins s σ H _ I h) ?_;rintro w s1 ⟨y,H1,I1,r1,q1⟩;refine bV (ho pins s1 σ H1 v y u w _ I1 r r1 q1) ?_;rintro z s2 ⟨zv,H2,I2,r2,q2⟩;exact pH I2 hN hi hx r2 (λs3 I3=>⟨_,H2,I3,q2⟩) hf
 rcases l with ⟨hk,hm⟩ | ⟨hk,c,hc,hcell⟩
 .exact wpAny_loadName_local I.ok.kind hk hn hm go
 .rcases hk with hk | hk
  .exact wpAny_loadName_cell I.ok.kind hk hc hcell go
  .rcases hx with k | k
   .have:X.env.scope.names.lookup x=some .free:=hk;rw[k] at this;cases this
   .have:X.env.scope.names.lookup x=some .free:=hk;rw[k] at this;cases this
noncomputable def Ei (to ti te:TE)(tget:V->V->Hp->VK->Prop)(tip:Gh)(tset:xZ):TS:=λD σ H=>to σ H λo H1=>ti σ H1 λi H2=>tget o i H2 λx H3=>te σ H3 λy H4=>tip x y H4 λz H5=>tset o i z H5 λH6=>D.nx σ H6
noncomputable def GA (X:Cx)(t:V->V->Hp->VK->Prop):Prop:=
 ∀(pins:List (Addr×Obj)) (s:Shared) (σ:St) (H:Hp) (o i:V) (ov iv:Value) (Q:VK),Inv X pins σ H s->RelV o ov->RelV i iv->t o i H Q ->
  wpAny (model X.prog X.w) X.A (getItem ov iv) (EP X pins σ Q) X.xe s
theorem xD {o i e:Expr}{to ti te:TE}{tget:V->V->Hp->VK->Prop}{tip:Gh}{tset:xZ}{op:Operator}{tpos:Pos}(ho:PE X o to)(hi:PE X i ti)(hg:GA X tget)(he:PE X e te)(hp:GB X op tip)(hs:Eu X tset)
    (ha:∀ov iv new,augStore i ov iv new=(do holding [new,ov,iv] (setItem ov iv new);release [new,ov,iv] [];pure .next):=by intros;rfl):PS X (.AugAssign (.Subscript o i tpos) op e pos) (Ei to ti te tget tip tset):=by
  intro pins s σ H D I h;refine wpAny_AugAssign_SubscriptAny (bV (ho pins s σ H _ I h) ?_) ha;rintro ov s1 ⟨x1,H1,I1,r1,q1⟩;refine bV (hi pins s1 σ H1 _ I1 q1) ?_;rintro iv s2 ⟨x2,H2,I2,r2,q2⟩;refine bV (hg pins s2 σ H2 x1 x2 ov iv _ I2 r1 r2 q2) ?_;rintro old s3 ⟨x3,H3,I3,r3,q3⟩;refine bV (he pins s3 σ H3 _ I3 q3) ?_;rintro v s4 ⟨x4,H4,I4,r4,q4⟩;refine bV (hp pins s4 σ H4 x3 x4 old v _ I4 r3 r4 q4) ?_;rintro new s5 ⟨x5,H5,I5,r5,q5⟩;exact bV (hs pins s5 σ H5 x1 x2 x5 ov iv new _ I5 r1 r2 r5 q5) (by rintro _ s6 ⟨H6,I6,q6⟩;exact ⟨σ,H6,I6,q6⟩)
noncomputable def Im (f:Int->Int->Int):Gh:=λx y H Q=>∃i j,x=.int i/\y=.int j/\Q (.int (f i j)) H
theorem rY:GB X .Add (Im λi j=>i+j):=by
 intro pins s σ H x y v u Q I r1 r2 h;obtain ⟨i,j,e1,e2,q⟩:=h;subst e1;subst e2;obtain ⟨t,rfl⟩:=r1;obtain ⟨t',rfl⟩:=r2;exact iadd_int ⟨.int _,H,I.tok _,⟨_,rfl⟩,q⟩
theorem rZ:GB X .Sub (Im λi j=>i - j):=by
 intro pins s σ H x y v u Q I r1 r2 h;obtain ⟨i,j,e1,e2,q⟩:=h;subst e1;subst e2;obtain ⟨t,rfl⟩:=r1;obtain ⟨t',rfl⟩:=r2;exact isub_int ⟨.int _,H,I.tok _,⟨_,rfl⟩,q⟩
end
section
variable {X:Cx} {pos:Pos}
noncomputable def F0 (c:TT)(tb:TS):TS:=λD σ H=>∃W:Nat->St->Hp->Prop,(∃m,W m σ H)/\∀m σ H,W m σ H ->
 c σ H λb H1=>if b=true then ∃N:St->Hp->Prop,(∀σ' H',N σ' H'->∃m',m'<m/\W m' σ' H')/\tb { D with nx:=N,ct:=N,bk:=D.nx } σ H1 else D.nx σ H1
theorem Bd {c:Expr}{body:List Stmt}{tc:TT}{tb:TS}(hp:PassesOwn (model X.prog X.w) X.A X.env X.xe)(hc:PT X c tc)(hb:qp X body tb):PS X (.While c body [] pos) (F0 tc tb):=by
 intro pins s σ H D I h;obtain ⟨W,⟨m0,w0⟩,turn⟩:=h;refine wpAny_While (codeAny_whileLoop (λn s'=>∃σ' H',Inv X pins σ' H' s'/\W n σ' H') ?_ m0 ⟨σ,H,I,w0⟩);rintro n s1 ⟨σ1,H1,I1,w1⟩;refine wpAny_passesOwn hp (bV (hc pins s1 σ1 H1 _ I1 (turn n σ1 H1 w1)) ?_);rintro b s2 ⟨H2,I2,q2⟩;cases b with
 | true =>
  obtain ⟨N,hN,q2⟩:=q2;rw[if_pos rfl];refine wpAny_passesOwn hp (bV (hb pins s2 σ1 H2 _ I2 q2) λf s3 q3=>?_);cases f with
  | next =>
   obtain ⟨σ3,H3,I3,n3⟩:=q3;obtain ⟨m',hm,w3⟩:=hN σ3 H3 n3;exact ⟨m',hm,σ3,H3,I3,w3⟩
  | cont =>
   obtain ⟨σ3,H3,I3,n3⟩:=q3;obtain ⟨m',hm,w3⟩:=hN σ3 H3 n3;exact ⟨m',hm,σ3,H3,I3,w3⟩
  | brk=>exact q3
  | ret v=>exact q3
 | false =>
  rw[if_neg Bool.false_ne_true];exact wpAny_execs_nil ⟨σ1,H2,I2,q2⟩
end
structure It where
 go:Nat->Hp->Prop
 zr:Nat->Hp->V->Hp->Prop
 stop:Nat->Hp->Prop
noncomputable def ku (X:Cx)(pins:List (Addr×Obj))(H:Hp)(b:Addr):Prop:=
 H b=none/\b≠X.env.locals/\b∉X.fs/\(b∈X.ex\/X.s₀.heap.objs.size<=b)/\(∀x c,X.env.cells.lookup x=some c->c≠b)/\∀p∈X.pn++pins,p.1≠b
theorem Inv.vC {X:Cx}{pins:List (Addr×Obj)}{σ:St}{H H':Hp}{s:Shared}{b:Addr}(I:Inv X pins σ H s)(hb:s.heap.objs.size<=b)(hn:H' b=none):ku X pins H' b:=by
 refine ⟨hn,Nat.ne_of_gt (Nat.lt_of_lt_of_le I.lt hb),I.Jj hb,.inr (Nat.le_trans I.sz hb),λx c e z=>?_,λp hp z=>?_⟩
 .obtain ⟨v,q⟩:=I.cell x c e;exact absurd (Nat.lt_of_lt_of_le q.lt (by rw[z];exact hb)) (Nat.lt_irrefl _)
 .exact absurd (Nat.lt_of_lt_of_le (Heap.lt_size (I.pin p hp).1) (by rw[z];exact hb)) (Nat.lt_irrefl _)
structure Turn (P:Program)(w:World)(K:Frag)(tg:Expr)(J:It)(fp:List Addr)(it:Addr)(tn:Nat->Heap->Prop):Prop where
 mem:it∈fp
 obj:∀i h,tn i h->∀b∈fp,∃o,h.get? b=some o/\∀v,o.data≠.cell v
 keep:∀i h h',tn i h->(∀b∈fp,∀o,h.get? b=some o->h'.get? b=some o)->tn i h'
 item:∀(X:Cx),X.prog=P->X.w=w->X.K=K->X.calm=true->∀(i:Nat) (pins:List (Addr×Obj)) (s:Shared) (σ:St) (H:Hp) (E:Value->Shared->Prop),Inv X pins σ H s->(∀b∈fp,ku X pins H b)->tn i s.heap->J.go i H ->
  wpAny (model P w) X.A (pyNext (.ref it)) (λr s1=>∃u,r=some u /\
   wpAny (model P w) X.A (letOwnedTupleGo tg (.ref it) u) (λ_ s2=>∃x H',Inv X pins σ H' s2/\RelV x u/\J.zr i H x H'/\tn (i+1) s2.heap/\∀b∈fp,H' b=none) E s1) E s
 done:∀(X:Cx),X.prog=P->X.w=w->X.K=K->X.calm=true->∀(i:Nat) (pins:List (Addr×Obj)) (s:Shared) (σ:St) (H:Hp) (E:Value->Shared->Prop),Inv X pins σ H s->(∀b∈fp,ku X pins H b)->tn i s.heap->J.stop i H ->
  wpAny (model P w) X.A (pyNext (.ref it)) (λr s1=>r=none/\Inv X pins σ H s1) E s
 self:∀(A:Around) (i:Nat) (s:Shared) (Q:Value->Shared->Prop) (E:Value->Shared->Prop),tn i s.heap->Q (.ref it) s->wpAny (model P w) A (pyIter (.ref it)) Q E s
noncomputable abbrev TI:=St->Hp->(It->Hp->Prop)->Prop
noncomputable def JL (X:Cx)(pins:List (Addr×Obj))(σ:St)(tg:Expr)(R:It->Hp->Prop)(itv:Value)(s2:Shared):Prop:=
 ∃(it:Addr) (fp:List Addr) (tn:Nat->Heap->Prop) (J:It) (H':Hp),itv=.ref it/\Inv X pins σ H' s2/\Turn X.prog X.w X.K tg J fp it tn/\tn 0 s2.heap/\(∀b∈fp,ku X pins H' b)/\R J H'
noncomputable def PI (X:Cx)(tg iter:Expr)(wi:TI):Prop:=
 ∀(pins:List (Addr×Obj)) (s:Shared) (σ:St) (H:Hp) (R:It->Hp->Prop),Inv X pins σ H s->wi σ H R ->
  wpAny (model X.prog X.w) X.A (eval iter X.env) (λv s1=>wpAny (model X.prog X.w) X.A (pyIter v) (JL X pins σ tg R) X.xe s1) X.xe s
theorem qL {M:Model}{A:Around}{E:Value->Shared->Prop}{s:Shared}{tg:Expr}{it:Addr}{u:Value}{o:Obj}{n:String}{vs:Array Value}{Q:Unit->Shared->Prop}(ho:s.heap.get? it=some o)(hc:o.cls=.type n)(hd:o.data=.fields vs)
    (hn:["enumerate","zip","dict_itemiterator","dict_reverseitemiterator","odict_iterator","itertools.zip_longest","itertools.pairwise"].contains n=false) (hQ:Q () s):wpAny M A (letOwnedTupleGo tg (.ref it) u) Q E s:=by
  unfold letOwnedTupleGo;cases tg<;>first
    | exact wpAny_pure hQ
    | (cases u<;>first
        | exact wpAny_pure hQ
        | (refine wpAny_bind (wpAny_load ho ?_)
           rw[hc,hd];show wpAny M A (if (["enumerate","zip","dict_itemiterator","dict_reverseitemiterator","odict_iterator","itertools.zip_longest","itertools.pairwise"].contains n && vs[0]? == some (rawInt _))=true then _ else _) Q E s;rw[if_neg (by intro h;rw[hn,Bool.false_and] at h;cases h)];exact wpAny_pure hQ))
noncomputable def IB (K:Frag)(a:Addr):It:=
 ⟨λi H=>∃xs x,fV K H a xs/\xs[i]?=some x,λi H x H'=>H'=H/\∀xs,fV K H a xs->xs[i]?=some x,λi H=>∃xs,fV K H a xs/\xs.length<=i⟩
noncomputable def IC (K:Frag)(a:Addr):It:=
 ⟨λi H=>∃xs x,jR K H a xs/\xs[i]?=some x,λi H x H'=>H'=H/\∀xs,jR K H a xs->xs[i]?=some x,λi H=>∃xs,jR K H a xs/\xs.length<=i⟩
noncomputable def Gu (lo:Int)(n:Nat):It:=⟨λi _=>i<n,λi H x H'=>H'=H/\x=.int (lo+i),λi _=>n<=i⟩
theorem zm {P:Program}{w:World}{K:Frag}{tg:Expr}(a it:Addr):Turn P w K tg (IB K a) [it] it (λi h=>h.IsListIter it a i) where
 mem:=by simp
 obj:=λi h st b hb=>by
  have e:b=it:=by simpa using hb
  subst e;obtain ⟨o,e,c,d⟩:=st;exact ⟨o,e,λv z=>by rw[d] at z;cases z⟩
 keep:=λi h h' st k=>st.at λo e=>k it (by simp) o e
 item:=by
  intro X hP hw hK hc i pins s σ H E I hf st hg;subst hP hw hK;obtain ⟨xs,x,hq,hx⟩:=hg;obtain ⟨its,rv,p,hz⟩:=I.list hq;obtain ⟨u,hu,ru⟩:=rv.get hx;obtain ⟨f0,f1,f2,f3,f4,f5⟩:=hf it (by simp);refine wpAny_pyNext_list_item st p.isList (x:=u) (by simpa using hu) λh' st' sb=>?_;have I1:Inv X pins σ H { s with heap:=h' }:=I.turned (t':=s.toks) (λb o hb e=>(sb.2 b hb).trans e) f0 f1 f3 f4 f5;obtain ⟨o,e,c,d⟩:=id st';exact ⟨u,rfl,qL (s:={ s with heap:=h' }) e c d (by decide) ⟨x,H,I1,ru,⟨rfl,λys hy=>by rw[I.AF hy hq];exact hx⟩,st',λb hb=>(hf b hb).1⟩⟩
 done:=by
  intro X hP hw hK hc i pins s σ H E I hf st hg;subst hP hw hK;obtain ⟨xs,hq,hx⟩:=hg;obtain ⟨its,rv,p,hz⟩:=I.list hq;obtain ⟨f0,f1,f2,f3,f4,f5⟩:=hf it (by simp);have hl:=rv.length;exact wpAny_pyNext_list_end (I.ok.hd hc) st p.isList (by simp;lia) λh' eb=>⟨rfl,I.turned (t':=s.toks) (λb o hb e=>eb b o hb e) f0 f1 f3 f4 f5⟩
 self:=λ_ _ _ _ _ st h=>wpAny_pyIter_listiter st h
theorem v8 {P:Program}{w:World}{K:Frag}{tg:Expr}(a it:Addr):Turn P w K tg (IC K a) [it] it (λi h=>h.IsTupleIter it a i) where
 mem:=by simp
 obj:=λi h st b hb=>by
  have e:b=it:=by simpa using hb
  subst e;obtain ⟨o,e,c,d⟩:=st;exact ⟨o,e,λv z=>by rw[d] at z;cases z⟩
 keep:=λi h h' st k=>st.at λo e=>k it (by simp) o e
 item:=by
  intro X hP hw hK hc i pins s σ H E I hf st hg;subst hP hw hK;obtain ⟨xs,x,hq,hx⟩:=hg;obtain ⟨its,rv,p,hz⟩:=I.tuple hq;obtain ⟨u,hu,ru⟩:=rv.get hx;obtain ⟨f0,f1,f2,f3,f4,f5⟩:=hf it (by simp);refine wpAny_pyNext_tuple_item st (show s.heap.IsTuple a its.toArray from p) (x:=u) (by simpa using hu) λh' st' sb=>?_;have I1:Inv X pins σ H { s with heap:=h' }:=I.turned (t':=s.toks) (λb o hb e=>(sb.2 b hb).trans e) f0 f1 f3 f4 f5;obtain ⟨o,e,c,d⟩:=id st';exact ⟨u,rfl,qL (s:={ s with heap:=h' }) e c d (by decide) ⟨x,H,I1,ru,⟨rfl,λys hy=>by rw[I.zi hy hq];exact hx⟩,st',λb hb=>(hf b hb).1⟩⟩
 done:=by
  intro X hP hw hK hc i pins s σ H E I hf st hg;subst hP hw hK;obtain ⟨xs,hq,hx⟩:=hg;obtain ⟨its,rv,p,hz⟩:=I.tuple hq;obtain ⟨f0,f1,f2,f3,f4,f5⟩:=hf it (by simp);have hl:=rv.length;exact wpAny_pyNext_tuple_end (I.ok.hd hc) st (show s.heap.IsTuple a its.toArray from p) (by simp;lia) λh' eb=>⟨rfl,I.turned (t':=s.toks) (λb o hb e=>eb b o hb e) f0 f1 f3 f4 f5⟩
 self:=λ_ _ _ _ _ st h=>wpAny_pyIter_tupleiter st h
theorem v7 {P:Program}{w:World}{K:Frag}{tg:Expr}(it:Addr)(lo:Int)(n:Nat):Turn P w K tg (Gu lo n) [it] it (λi h=>IsRangeIter h it (lo+(i:Nat)*1) ((n:Int) - (i:Nat)) 1) where
 mem:=by simp
 obj:=λi h st b hb=>by
  have e:b=it:=by simpa using hb
  subst e;exact ⟨_,st,λv z=>by
   have z':Data.fields _=Data.cell v:=z;cases z'⟩
 keep:=λi h h' st k=>k it (by simp) _ st
 item:=by
  intro X hP hw hK hc i pins s σ H E I hf st hg;subst hP hw hK;obtain ⟨f0,f1,f2,f3,f4,f5⟩:=hf it (by simp);have W:=Walks.range (prog:=X.prog) (w:=X.w) (I.ok.hd hc) it lo 1 n;refine W.item i s _ _ hg st λv h' tk hv st' kk=>?_;obtain ⟨t,rfl⟩:=hv;have I1:Inv X pins σ H { s with heap:=h',toks:=tk }:=I.turned (λb o hb e=>kk b o (by simpa using hb) e) f0 f1 f3 f4 f5;refine ⟨_,rfl,qL (s:={ s with heap:=h',toks:=tk }) (n:="range_iterator") st' rfl rfl (by decide) ⟨.int (lo+i),H,I1,⟨t,?_⟩,⟨rfl,rfl⟩,st',λb hb=>(hf b hb).1⟩⟩;rw[Int.mul_one]
 done:=by
  intro X hP hw hK hc i pins s σ H E I hf st hg;subst hP hw hK;obtain ⟨f0,f1,f2,f3,f4,f5⟩:=hf it (by simp);exact wpAny_pyNext_range_end (I.ok.hd hc) st (by have:n<=i:=hg;lia) λh' eb=>⟨rfl,I.turned (t':=s.toks) (λb o hb e=>eb b o hb e) f0 f1 f3 f4 f5⟩
 self:=λ_ _ _ _ _ st h=>wpAny_pyIter_rangeiter st h
end L2
namespace L2
open PySem PySem.Spec PyProof.Rows
section
variable {X:Cx} {tg:Expr}
noncomputable def GX (K:Frag)(tl:TE):TI:=λσ H R=>tl σ H λx H1=>∃a,x=.ref a/\(∃xs,fV K H1 a xs)/\R (IB K a) H1
noncomputable def IX (K:Frag)(tl:TE):TI:=λσ H R=>tl σ H λx H1=>∃a,x=.ref a/\(∃xs,jR K H1 a xs)/\R (IC K a) H1
theorem C2 {l:Expr}{tl:TE}(hl:PE X l tl):PI X tg l (GX X.K tl):=by
 intro pins s σ H R I h;refine bV (hl pins s σ H _ I h) ?_;rintro v s1 ⟨x,H1,I1,r1,q1⟩;obtain ⟨a,e,⟨xs,hq⟩,q⟩:=q1;subst e;cases r1;obtain ⟨its,rv,p,hz⟩:=I1.list hq;refine wpAny_pyIter_list p.isList ?_;refine ⟨s1.heap.objs.size,[s1.heap.objs.size],_,_,H1,rfl,I1.kept (t':=s1.toks) λb o e=>Heap.get?_push_of_some _ e,zm a _,⟨_,Heap.get?_push_size _ rfl,rfl,rfl⟩,λb hb=>?_,q⟩;have e:b=s1.heap.objs.size:=by simpa using hb
 subst e;exact I1.vC (Nat.le_refl _) (I1.bp.fresh (Nat.le_refl _))
theorem FE {l:Expr}{tl:TE}(hl:PE X l tl):PI X tg l (IX X.K tl):=by
 intro pins s σ H R I h;refine bV (hl pins s σ H _ I h) ?_;rintro v s1 ⟨x,H1,I1,r1,q1⟩;obtain ⟨a,e,⟨xs,hq⟩,q⟩:=q1;subst e;cases r1;obtain ⟨its,rv,p,hz⟩:=I1.tuple hq;refine wpAny_pyIter_tuple (show s1.heap.IsTuple a its.toArray from p) ?_;refine ⟨s1.heap.objs.size,[s1.heap.objs.size],_,_,H1,rfl,I1.kept (t':=s1.toks) λb o e=>Heap.get?_push_of_some _ e,v8 a _,⟨_,Heap.get?_push_size _ rfl,rfl,rfl⟩,λb hb=>?_,q⟩;have e:b=s1.heap.objs.size:=by simpa using hb
 subst e;exact I1.vC (Nat.le_refl _) (I1.bp.fresh (Nat.le_refl _))
theorem uQ {pins:List (Addr×Obj)}{σ:St}{H:Hp}{s:Shared}{R:It->Hp->Prop}{E:Value->Shared->Prop}{lo hi:Int}{t u v:Tok}{tk:Nat}(I:Inv X pins σ H s)(h1 : -(2 ^ 62)<=lo)(h2:lo<2 ^ 62)(h3 : -(2 ^ 62)<=hi)(h4:hi<2 ^ 62)
    (q:R (Gu lo (hi - lo).toNat) H):wpAny (model X.prog X.w) X.A (pyIter (.ref s.heap.objs.size)) (JL X pins σ tg R) E { s with heap:=s.heap.push { cls:=.type "range",data:=.fields #[.int lo t,.int hi u,.int 1 v] },toks:=tk }:=by
  refine wpAny_pyIter_range (IsRange.new ..) (small_one h1 h2 h3 h4) ?_;have I1:Inv X pins σ H { s with heap:=s.heap.push { cls:=.type "range",data:=.fields #[.int lo t,.int hi u,.int 1 v] },toks:=tk }:=I.kept λb o e=>Heap.get?_push_of_some _ e;refine ⟨(s.heap.push { cls:=.type "range",data:=.fields #[.int lo t,.int hi u,.int 1 v] }).objs.size,[(s.heap.push { cls:=.type "range",data:=.fields #[.int lo t,.int hi u,.int 1 v] }).objs.size],_,_,H,rfl,
    I1.kept (t':=tk) λb o e=>Heap.get?_push_of_some _ e,v7 _ lo (hi - lo).toNat,?_,λb hb=>?_,q⟩
  · have e1 : lo + ((0 : Nat):Int) * 1 = lo := by simp
    have e2:(((hi - lo).toNat:Nat):Int) - ((0:Nat):Int)=Builtin.Range.rangeSize lo hi 1:=by rw[rangeSize_one];split<;>lia
    show IsRangeIter _ _ (lo+((0:Nat):Int)*1) ((((hi - lo).toNat:Nat):Int) - ((0:Nat):Int)) 1;rw[e1,e2];exact Heap.get?_push_size _ rfl
  · have e : b = (s.heap.push { cls := .type "range", data := .fields #[.int lo t, .int hi u, .int 1 v] }).objs.size := by simpa using hb
    subst e;exact I1.vC (Nat.le_refl _) (I1.bp.fresh (Nat.le_refl _))
noncomputable def GY (ta:TA):TI:=λσ H R=>ta σ H λvs H1=>∃j:Int,vs = [.int j]/\-(2 ^ 62)<=j/\j<2 ^ 62/\R (Gu 0 j.toNat) H1
noncomputable def GZ (ta:TA):TI:=λσ H R=>ta σ H λvs H1=>∃i j:Int,vs = [.int i,.int j]/\(-(2 ^ 62)<=i/\i<2 ^ 62/\-(2 ^ 62)<=j/\j<2 ^ 62)/\R (Gu i (j - i).toNat) H1
theorem yS {a:Expr}{ta:TA}{p pos:Pos}(hg:Gl X "range")(hm:X.mg "range" = none)(ha:PA X [a] ta)(hs:autoParam (starEach [a] X.env = [(false,eval a X.env)]) aZa._auto_1):PI X tg (.Call (.Name "range" p) [a] [] pos) (GY ta):=by
 intro pins s σ H R I h;refine Call_ (kL I hg hm boot_range (PyProof.Rows.callWith_type1 (bV (ha pos pins s σ H _ I h) ?_) hs rfl));rintro us s1 ⟨vs,H1,I1,r1,q1⟩;obtain ⟨j,e,q1,q2,q⟩:=q1;subst e;cases r1 with
 | cons r rr =>
  cases rr;obtain ⟨t,rfl⟩:=r;exact call_range_1 (uQ I1 (by lia) (by lia) q1 q2 (by simpa using q))
theorem yT {a b:Expr}{ta:TA}{p pos:Pos}(hg:Gl X "range")(hm:X.mg "range" = none)(ha:PA X [a,b] ta)(hs:autoParam (starEach [a,b] X.env = [(false,eval a X.env),(false,eval b X.env)]) aZa._auto_1)(hs2:autoParam (starEach [b] X.env = [(false,eval b X.env)]) aZa._auto_1) :
  PI X tg (.Call (.Name "range" p) [a,b] [] pos) (GZ ta):=by
 intro pins s σ H R I h;refine Call_ (kL I hg hm boot_range (PyProof.Rows.callWith_type1 (bV (ha pos pins s σ H _ I h) ?_) (by rw[hs,hs2]) (by rw[hs2];rfl)));rintro us s1 ⟨vs,H1,I1,r1,q1⟩;obtain ⟨i,j,e,⟨q1,q2,q3,q4⟩,q⟩:=q1;subst e;cases r1 with
 | cons r rr =>
  cases rr with
  | cons r' rr =>
   cases rr;obtain ⟨t,rfl⟩:=r;obtain ⟨t',rfl⟩:=r';exact call_range_2 (uQ I1 q1 q2 q3 q4 q)
noncomputable def Jw (wi:TI)(g:TG)(tb:TS):TS:=λD σ H=>wi σ H λJ H1=>∃W:Nat->Nat->St->Hp->Prop,(∃m,W 0 m σ H1)/\∀i m σ H,W i m σ H ->
 (J.stop i H/\D.nx σ H)\/(J.go i H/\∃N:St->Hp->Prop,(∀σ' H',N σ' H'->∃m',m'<m/\W (i+1) m' σ' H')/\∀x H',J.zr i H x H'->g x σ H' λσ2 H2=>tb { D with nx:=N,ct:=N,bk:=D.nx } σ2 H2)
noncomputable def oW (fp:List Addr)(h:Heap):List (Addr×Obj):=fp.filterMap λb=>(h.get? b).map λo=>(b,o)
theorem iQ {fp:List Addr}{h:Heap}{b:Addr}{o:Obj}(hb:b∈fp)(e:h.get? b=some o):(b,o)∈oW fp h:=List.mem_filterMap.mpr ⟨b,hb,by rw[e];rfl⟩
theorem yM {fp:List Addr}{h:Heap}{p:Addr×Obj}(hp:p∈oW fp h):p.1∈fp/\h.get? p.1=some p.2:=by
 obtain ⟨b,hb,e⟩:=List.mem_filterMap.mp hp;cases q:h.get? b with
 | none=>rw[q] at e;cases e
 | some o =>
  rw[q] at e;have e':(b,o)=p:=Option.some.inj e;subst e';exact ⟨hb,q⟩
theorem Inv.pinned {pins:List (Addr×Obj)}{σ:St}{H:Hp}{s:Shared}{fp:List Addr}(I:Inv X pins σ H s)(hf:∀b∈fp,ku X pins H b)(ho:∀b∈fp,∃o,s.heap.get? b=some o/\∀v,o.data≠.cell v):Inv X (pins++oW fp s.heap) σ H s:=
 I.xC λp hp=>(mem_append.mp hp).elim (λz=>I.pin p (mem_append_right _ z)) λz=>by
  obtain ⟨hb,e⟩:=yM z;obtain ⟨f0,f1,f2,_⟩:=hf p.1 hb;obtain ⟨o,e',d⟩:=ho p.1 hb;rw[e] at e';cases e';exact ⟨e,f0,f1,f2,d⟩
theorem Inv.md {pins pl:List (Addr×Obj)}{σ:St}{H:Hp}{s:Shared}(I:Inv X (pins++pl) σ H s):Inv X pins σ H s:=I.xC λp hp=>I.pin p (mem_append_right _ (mem_append_left _ hp))
theorem Ba {iter:Expr}{body:List Stmt}{wi:TI}{g:TG}{tb:TS}{pos:Pos}(hp:PassesOwn (model X.prog X.w) X.A X.env X.xe)(hc:X.calm=true)(hi:PI X tg iter wi)(hg:PG X tg g)(hb:qp X body tb)
  (hs:autoParam (∀x,foldedSetIterable iter X.env x=pure x) aZc._auto_1):PS X (.For tg iter body [] pos) (Jw wi g tb):=by
 intro pins s σ H D I h;refine wpAny_For (bV (hi pins s σ H _ I h) λv s1 h1=>bV h1 λitv s2 h2=>?_) hs;obtain ⟨it,fp,tn,J,H2,e,I2,T,st2,f2,W,⟨m0,w0⟩,turn⟩:=h2;subst e;have stat:∀{H':Hp},(∀b∈fp,H' b=none)->∀b∈fp,ku X pins H' b:=λhn b hb=>⟨hn b hb,(f2 b hb).2⟩
 refine codeAny_forLoop_any (λn s'=>∃i σ' H',Inv X pins σ' H' s'/\tn i s'.heap/\(∀b∈fp,H' b=none)/\W i n σ' H') ?_ m0 ⟨0,σ,H2,I2,st2,λb hb=>(f2 b hb).1,w0⟩;rintro n s3 ⟨i,σ3,H3,I3,st3,fr3,w3⟩;rcases turn i n σ3 H3 w3 with ⟨stop,qn⟩ | ⟨go,N,hN,step⟩
 .refine wpAny_passesOwn hp (bV (T.done X rfl rfl rfl hc i pins s3 σ3 H3 X.xe I3 (stat fr3) st3 stop) ?_);rintro r s4 ⟨hr,I4⟩;subst hr;exact wpAny_execs_nil ⟨σ3,H3,I4,qn⟩
 .refine wpAny_passesOwn hp (bV (T.item X rfl rfl rfl hc i pins s3 σ3 H3 X.xe I3 (stat fr3) st3 go) ?_);rintro r s4 ⟨u,hr,h4⟩;subst hr;refine wpAny_passesOwn hp (bV h4 ?_);rintro _ s5 ⟨x,H5,I5,r5,y5,st5,fr5⟩;have I5':=I5.pinned (stat fr5) (T.obj _ _ st5);refine wpAny_passesOwn hp (bV (hg _ s5 σ3 H5 x u _ I5' r5 (step x H5 y5)) ?_);rintro _ s6 ⟨σ6,H6,I6,q6⟩;refine wpAny_passesOwn hp (bV (hb _ s6 σ6 H6 _ I6 q6) λf s7 q7=>?_);have again:∀{σ7:St} {H7:Hp},Inv X (pins++oW fp s5.heap) σ7 H7 s7->N σ7 H7->∃m,m<n/\∃i σ' H',Inv X pins σ' H' s7/\tn i s7.heap/\(∀b∈fp,H' b=none)/\W i m σ' H':=λ{σ7 H7} I7 n7=>by
   obtain ⟨m',hm,w7⟩:=hN σ7 H7 n7;refine ⟨m',hm,i+1,σ7,H7,I7.md,T.keep _ _ _ st5 λb hb o e=>(I7.pin (b,o) (mem_append_right _ (mem_append_right _ (iQ hb e)))).1,λb hb=>?_,w7⟩;obtain ⟨o,e,d⟩:=T.obj _ _ st5 b hb;exact (I7.pin (b,o) (mem_append_right _ (mem_append_right _ (iQ hb e)))).2.1
  cases f with
  | next=>obtain ⟨σ7,H7,I7,n7⟩:=q7;exact again I7 n7
  | cont=>obtain ⟨σ7,H7,I7,n7⟩:=q7;exact again I7 n7
  | brk=>obtain ⟨σ7,H7,I7,q7⟩:=q7;exact ⟨σ7,H7,I7.md,q7⟩
  | ret v=>obtain ⟨x7,σ7,H7,I7,r7,q7⟩:=q7;exact ⟨x7,σ7,H7,I7.md,r7,q7⟩
end
end L2
namespace L2
open PySem PySem.Spec PyProof.Rows
noncomputable abbrev R2:=V->V->Hp->VK->Prop
noncomputable def j4 (X:Cx)(f:Value->Value->Sem Value)(r:R2):Prop:=
 ∀(pins:List (Addr×Obj)) (s:Shared) (σ:St) (H:Hp) (x y:V) (v u:Value) (Q:VK),Inv X pins σ H s->RelV x v->RelV y u->r x y H Q ->
  wpAny (model X.prog X.w) X.A (f v u) (EP X pins σ Q) X.xe s
noncomputable def IJ (X:Cx)(f:Value->Sem Value)(r:V->Hp->VK->Prop):Prop:=
 ∀(pins:List (Addr×Obj)) (s:Shared) (σ:St) (H:Hp) (x:V) (v:Value) (Q:VK),Inv X pins σ H s->RelV x v->r x H Q ->
  wpAny (model X.prog X.w) X.A (f v) (EP X pins σ Q) X.xe s
noncomputable def eD (X:Cx)(f:Value)(r:List V->Hp->VK->Prop):Prop:=
 ∀(pins:List (Addr×Obj)) (s:Shared) (σ:St) (H:Hp) (xs:List V) (us:List Value) (Q:VK),Inv X pins σ H s->Vals xs us->r xs H Q ->
  wpAny (model X.prog X.w) X.A (call f us) (EP X pins σ Q) X.xe s
noncomputable def IH (X:Cx)(r:V->Hp->(Bool->Hp->Prop)->Prop):Prop:=
 ∀(pins:List (Addr×Obj)) (s:Shared) (σ:St) (H:Hp) (x:V) (v:Value) (Q:Bool->Hp->Prop),Inv X pins σ H s->RelV x v->r x H Q ->
  wpAny (model X.prog X.w) X.A (truthy v) (TP X pins σ Q) X.xe s
noncomputable def Gm (r:R2)(ta tb:TE):TE:=λσ H Q=>ta σ H λx H1=>tb σ H1 λy H2=>r x y H2 Q
noncomputable def Ka (r:V->Hp->VK->Prop)(ta:TE):TE:=λσ H Q=>ta σ H λx H1=>r x H1 Q
noncomputable def rI (C:Int->Int->Prop)(g:Int->Int->V):R2:=λx y H Q=>∃i j,x=.int i/\y=.int j/\C i j/\Q (g i j) H
noncomputable def Dd (g:Int->Int->V):R2:=λx y H Q=>∃i j,x=.int i/\y=.int j/\Q (g i j) H
noncomputable def rU (g:Int->V):V->Hp->VK->Prop:=λx H Q=>∃i,x=.int i/\Q (g i) H
section
variable {X:Cx} {a b c:Expr} {ta tb tc:TE} {pos:Pos}
theorem Ez (ha:PE X a ta)(hb:PE X b tb){pins:List (Addr×Obj)}{s:Shared}{σ:St}{H:Hp}{R:V->V->Hp->Prop}(I:Inv X pins σ H s)
  (h:ta σ H λx H1=>tb σ H1 λy H2=>R x y H2) {Q:Value->Shared->Prop} {f:Value->Value->Sem Value}
  (hf:∀v u s2 x y H2,Inv X pins σ H2 s2->RelV x v->RelV y u->R x y H2->wpAny (model X.prog X.w) X.A (f v u) Q X.xe s2) :
  wpAny (model X.prog X.w) X.A (eval a X.env) (λv s₁=>wpAny (model X.prog X.w) X.A (eval b X.env) (λu s₂=>wpAny (model X.prog X.w) X.A (f v u) Q X.xe s₂) X.xe s₁) X.xe s:=by
 refine bV (ha pins s σ H _ I h) ?_;rintro v s1 ⟨x,H1,I1,r1,q1⟩;refine bV (hb pins s1 σ H1 _ I1 q1) ?_;rintro u s2 ⟨y,H2,I2,r2,q2⟩;exact hf v u s2 x y H2 I2 r1 r2 q2
theorem A0 {op:Operator}{r:R2}(ho:j4 X (binaryOp op) r)(ha:PE X a ta)(hb:PE X b tb):PE X (.BinOp a op b pos) (Gm r ta tb):=by
 intro pins s σ H Q I h;exact wpAny_BinOp (Ez ha hb I h λv u s2 x y H2 I2 rx ry q=>ho pins s2 σ H2 x y v u Q I2 rx ry q)
theorem Hv {op:UnaryOp}{r:V->Hp->VK->Prop}(ho:IJ X (unaryOp op) r)(ha:PE X a ta):PE X (.UnaryOp op a pos) (Ka r ta):=by
 intro pins s σ H Q I h;exact UnaryOp_ (bV (ha pins s σ H _ I h) (by rintro v s1 ⟨x,H1,I1,r1,q1⟩;exact ho pins s1 σ H1 x v Q I1 r1 q1))
theorem Iq {f:Value->Value->Sem Value}{C:Int->Int->Prop}{g:Int->Int->Int}
  (rule:∀(i j:Int) (t u:Tok) (s:Shared) (Q:Value->Shared->Prop) (E:Value->Shared->Prop),C i j->Q (.int (g i j) s.toks) { s with toks:=s.toks+1 }->wpAny (model X.prog X.w) X.A (f (.int i t) (.int j u)) Q E s) :
  j4 X f (rI C λi j=>.int (g i j)):=by
 intro pins s σ H x y v u Q I rx ry h;obtain ⟨i,j,rfl,rfl,hc,q⟩:=h;obtain ⟨t,rfl⟩:=rx;obtain ⟨t',rfl⟩:=ry;exact rule i j t t' s _ _ hc ⟨.int (g i j),H,I.tok _,⟨_,rfl⟩,q⟩
theorem Hk {f:Value->Value->Sem Value}{g:Int->Int->Int}
  (rule:∀(i j:Int) (t u:Tok) (s:Shared) (Q:Value->Shared->Prop) (E:Value->Shared->Prop),Q (.int (g i j) s.toks) { s with toks:=s.toks+1 }->wpAny (model X.prog X.w) X.A (f (.int i t) (.int j u)) Q E s) :
  j4 X f (Dd λi j=>.int (g i j)):=by
 intro pins s σ H x y v u Q I rx ry h;obtain ⟨i,j,rfl,rfl,q⟩:=h;obtain ⟨t,rfl⟩:=rx;obtain ⟨t',rfl⟩:=ry;exact rule i j t t' s _ _ ⟨.int (g i j),H,I.tok _,⟨_,rfl⟩,q⟩
theorem CU {f:Value->Value->Sem Value}{g:Int->Int->Bool}
  (rule:∀(i j:Int) (t u:Tok) (s:Shared) (Q:Value->Shared->Prop) (E:Value->Shared->Prop),Q (.bool (g i j)) s->wpAny (model X.prog X.w) X.A (f (.int i t) (.int j u)) Q E s) :
  j4 X f (Dd λi j=>.bl (g i j)):=by
 intro pins s σ H x y v u Q I rx ry h;obtain ⟨i,j,rfl,rfl,q⟩:=h;obtain ⟨t,rfl⟩:=rx;obtain ⟨t',rfl⟩:=ry;exact rule i j t t' s _ _ ⟨.bl (g i j),H,I,rfl,q⟩
noncomputable def Gp (i j:Int):Prop:=0<j/\j<1073741824
noncomputable def Gq (i j:Int):Prop:=0<=j/\j<=1000000/\i.natAbs<2 ^ 64
noncomputable def sZ (i j:Int):Prop:=(-(2 ^ 64)<i/\i<2 ^ 64)\/(-(2 ^ 64)<j/\j<2 ^ 64)
theorem sZ.ok {i j:Int}(h:sZ i j):IntMulOk i j:=by
 rcases h with ⟨h1,h2⟩ | ⟨h1,h2⟩
 .exact .of_left (intBits_le_64 h1 h2)
 .exact .of_right (intBits_le_64 h1 h2)
theorem Fg:j4 X (binaryOp .Add) (Dd λi j=>.int (i+j)):=Hk λ_ _ _ _ _ _ _ q=>add_int q
theorem Fs:j4 X (binaryOp .Sub) (Dd λi j=>.int (i - j)):=Hk λ_ _ _ _ _ _ _ q=>sub_int q
theorem Fm:j4 X (binaryOp .Mult) (rI sZ λi j=>.int (i*j)):=Iq λ_ _ _ _ _ _ _ hc q=>mul_int q hc.ok
theorem CV:j4 X (binaryOp .FloorDiv) (rI Gp λi j=>.int (i / j)):=Iq λi j _ _ _ _ _ hc q=>by
 have h1:(0:Int)<j:=hc.1;have h2:j<1073741824:=hc.2;exact floordiv_int (by lia) (by rw[Int.fdiv_eq_ediv_of_nonneg i (by lia)];exact q) (.inl (PyProof.noPylong_small (by lia)))
theorem Fl:j4 X (binaryOp .Mod) (rI (λ_ j=>0<j) λi j=>.int (i % j)):=Iq λi j _ _ _ _ _ hc q=>by
 have h1:(0:Int)<j:=hc;exact mod_int' (by lia) (by rw[Int.fmod_eq_emod_of_nonneg i (by lia)];exact q)
theorem Fp:j4 X (binaryOp .Pow) (rI Gq λi j=>.int (i ^ j.toNat)):=Iq λ_ _ _ _ _ _ _ hc q=>pow_int_small hc.1 hc.2.1 hc.2.2 q
theorem Kc {f:Value->Sem Value}{g:Int->Int}
  (rule:∀(i:Int) (t:Tok) (s:Shared) (Q:Value->Shared->Prop) (E:Value->Shared->Prop),Q (.int (g i) s.toks) { s with toks:=s.toks+1 }->wpAny (model X.prog X.w) X.A (f (.int i t)) Q E s) :
  IJ X f (rU λi=>.int (g i)):=by
 intro pins s σ H x v Q I rx h;obtain ⟨i,rfl,q⟩:=h;obtain ⟨t,rfl⟩:=rx;exact rule i t s _ _ ⟨.int (g i),H,I.tok _,⟨_,rfl⟩,q⟩
theorem Gf:IJ X (unaryOp .USub) (rU λi=>.int (-i)):=Kc λ_ _ _ _ _ q=>neg_int q
end
theorem wI {i j:Int}:decide (V.int i=V.int j)=(i == j):=by
 rw[Bool.eq_iff_iff];simp
theorem zW {i j:Bool}:decide (V.bl i=V.bl j)=(i == j):=by
 rw[Bool.eq_iff_iff];simp
theorem wJ {i j:Str}:decide (V.str i=V.str j)=(i == j):=by
 rw[Bool.eq_iff_iff];simp
section
variable {X:Cx} {a b c:Expr} {ta tb tc:TE} {pos:Pos}
theorem kG {pins:List (Addr×Obj)}{σ:St}{H:Hp}{s:Shared}{Q:VK}{k k':Bool}(I:Inv X pins σ H s)(q:Q (.bl k) H)(e:k=k'):EP X pins σ Q (.bool k') s:=by
 subst e;exact ⟨.bl k,H,I,rfl,q⟩
theorem Ho:j4 X (compareOp .Lt) (Dd λi j=>.bl (decide (i<j))):=CU λ_ _ _ _ _ _ _ q=>lt_int q
theorem Hn:j4 X (compareOp .LtE) (Dd λi j=>.bl (decide (i<=j))):=CU λ_ _ _ _ _ _ _ q=>le_int q
theorem Hm:j4 X (compareOp .Gt) (Dd λi j=>.bl (decide (j<i))):=CU λ_ _ _ _ _ _ _ q=>gt_int q
theorem Hl:j4 X (compareOp .GtE) (Dd λi j=>.bl (decide (j<=i))):=CU λ_ _ _ _ _ _ _ q=>ge_int q
theorem yO:j4 X (compareOp .In) (λx y H Q=>∃i j,x=.str i/\y=.str j/\Q (.bl (!(Builtin.Str.occurrences j i 0 j.length 1).isEmpty)) H):=by
 intro pins s σ H x y v u Q I rx ry h;obtain ⟨i,j,rfl,rfl,q⟩:=h;obtain ⟨t,rfl⟩:=rx;obtain ⟨t',rfl⟩:=ry;exact in_str (kG I q rfl)
theorem j4.or {f:Value->Value->Sem Value}{r r':R2}(h:j4 X f r)(h':j4 X f r'):j4 X f (λx y H Q=>r x y H Q\/r' x y H Q):=by
 intro pins s σ H x y v u Q I rx ry q;rcases q with q | q
 .exact h pins s σ H x y v u Q I rx ry q
 .exact h' pins s σ H x y v u Q I rx ry q
theorem ax (b:Expr){op:CmpOp}(h:autoParam (op≠.In) aZb._auto_1)(h2:autoParam (op≠.NotIn) aZb._auto_1):behindInMarks op b=false:=by
 have e1:(op == CmpOp.In)=false:=by cases op<;>first | rfl | exact absurd rfl h
 have e2:(op == CmpOp.NotIn)=false:=by cases op<;>first | rfl | exact absurd rfl h2
 cases b<;>simp[behindInMarks,e1,e2]
theorem CZ {op:CmpOp}{r:R2}(ho:j4 X (compareOp op) r)(ha:PE X a ta)(hb:PE X b tb)(hm:behindInMarks op b=false):PE X (.Compare a [op] [b] pos) (Gm r ta tb):=by
 intro pins s σ H Q I h;exact wpAny_Compare1 (Ez ha hb I h λv u s2 x y H2 I2 rx ry q=>ho pins s2 σ H2 x y v u Q I2 rx ry q) hm
noncomputable def HZ (t:TE):TT:=λσ H Q=>t σ H λx H'=>∃k,x=.bl k/\Q k H'
theorem C6 {op:CmpOp}{r:R2}(ho:j4 X (compareOp op) r)(ha:PE X a ta)(hb:PE X b tb)(hm:behindInMarks op b=false):PT X (.Compare a [op] [b] pos) (HZ (Gm r ta tb)):=by
 intro pins s σ H Q I h;refine wpAny_isTrue_Compare1 (bV (ha pins s σ H _ I h) λv s1 ⟨x,H1,I1,r1,q1⟩=>bV (hb pins s1 σ H1 _ I1 q1) λu s2 ⟨y,H2,I2,r2,q2⟩ =>
  bV (ho pins s2 σ H2 x y v u _ I2 r1 r2 q2) λc s3 ⟨z,H3,I3,r3,k,e,q3⟩=>?_) hm
 subst e;cases r3;exact wpAny_truthy_bool ⟨H3,I3,q3⟩
noncomputable def II (K:Frag)(x:V)(H:Hp)(k:Bool):Prop:=
 match x with
 | .non=>k=false
 | .bl b=>k=b
 | .int i=>k=(i != 0)
 | .str y=>y.length<=sizeLine/\k=((y.length:Int) != 0)
 | .byt y=>y.size<=sizeLine/\k=((y.size:Int) != 0)
 | .ref p=>(∃xs,fV K H p xs/\k = !xs.isEmpty)\/(∃xs,jR K H p xs/\k = !xs.isEmpty)\/∃kvs,H p=some (.dK kvs)/\k = !kvs.isEmpty
 | _=>False
theorem vG {κ:Type}{kvs:List (κ×V)}{vs:List (κ×Value)}(r:KV kvs vs):(!vs.isEmpty) = !kvs.isEmpty:=by
 cases r<;>rfl
theorem oJ {xs:List V}{its:List Value}(r:Vals xs its):(!its.toArray.isEmpty) = !xs.isEmpty:=by
 cases r<;>simp
theorem mH:(sizeLine:Nat)<2 ^ 63:=by rw[sizeLine_eq];decide
theorem JF:IH X (λx H Q=>∃k,II X.K x H k/\Q k H):=by
 intro pins s σ H x v Q I rx h;obtain ⟨k,e,q⟩:=h;have hl:=mH;have hs:sizeLine=16777216:=sizeLine_eq;cases x with
 | non =>
  cases rx;have e':k=false:=e;subst e';exact truthy_none ⟨H,I,q⟩
 | bl b =>
  cases rx;have e':k=b:=e;subst e';exact wpAny_truthy_bool ⟨H,I,q⟩
 | int i =>
  obtain ⟨t,rfl⟩:=rx;have e':k=(i != 0):=e;subst e';exact PySem.P.truthy_int ⟨H,I,q⟩
 | str y =>
  obtain ⟨t,rfl⟩:=rx;obtain ⟨hy,e'⟩ : y.length<=sizeLine/\k=((y.length:Int) != 0):=e;subst e';exact PySem.P.truthy_str (by lia) ⟨H,I.tok _,q⟩
 | byt y =>
  obtain ⟨t,rfl⟩:=rx;obtain ⟨hy,e'⟩ : y.size<=sizeLine/\k=((y.size:Int) != 0):=e;subst e';exact PySem.W.truthy_bytes (by lia) ⟨H,I.tok _,q⟩
 | ref p =>
  cases rx;have e':(∃xs,fV X.K H p xs/\k = !xs.isEmpty)\/(∃xs,jR X.K H p xs/\k = !xs.isEmpty)\/∃kvs,H p=some (.dK kvs)/\k = !kvs.isEmpty:=e;rcases e' with ⟨xs,hx,e'⟩ | ⟨xs,hx,e'⟩ | ⟨kvs,hx,e'⟩
  .subst e';obtain ⟨its,r,pl,hz⟩:=I.list hx;have hlen:=r.length;exact wpAny_truthy_list pl.isList (by simp only[size_toArray];lia) ⟨H,I.tok _,by rw[oJ r];exact q⟩
  .subst e';obtain ⟨its,r,pl,hz⟩:=I.tuple hx;have hlen:=r.length;exact truthy_tuple pl (by simp only[size_toArray];lia) ⟨H,I.tok _,by rw[oJ r];exact q⟩
  .subst e';obtain ⟨hz,hS,vs,r,m⟩ : kvs.length<=sizeLine/\(p == sysModules)=false/\∃vs,KV kvs vs/\s.heap.DictOf (cq X.prog X.w) p vs:=I.bp p _ hx;have hlen:kvs.length=vs.length:=Paired.length r;exact wpAny_truthy_dict hS m (by lia) ⟨H,I.tok _,by rw[vG r];exact q⟩
 | _=>exact (show False from e).elim
theorem vN:j4 X (binaryOp .Add) (λx y H Q=>∃i j,x=.str i/\y=.str j/\i.length+j.length<=sizeLine/\Q (.str (i++j)) H):=by
 intro pins s σ H x y v u Q I rx ry h;obtain ⟨i,j,rfl,rfl,hz,q⟩:=h;obtain ⟨t,rfl⟩:=rx;obtain ⟨t',rfl⟩:=ry;exact add_str (λt' tk=>⟨.str (i++j),H,I.tok _,⟨_,rfl⟩,q⟩) hz
theorem vals1 {x:V}{us:List Value}(r:Vals [x] us):∃u,us = [u]/\RelV x u:=by
 cases r with
 | cons r1 r2=>cases r2;exact ⟨_,rfl,r1⟩
theorem vals2 {x y:V}{us:List Value}(r:Vals [x,y] us):∃u w',us = [u,w']/\RelV x u/\RelV y w':=by
 cases r with
 | cons r1 r2 =>
  cases r2 with
  | cons r3 r4=>cases r4;exact ⟨_,_,rfl,r1,r3⟩
theorem yd (hc:X.calm=true):eD X (.builtin "max") (λxs H Q=>∃i j,xs = [.int i,.int j]/\Q (.int (if j>i then j else i)) H):=by
 intro pins s σ H xs us Q I r h;obtain ⟨i,j,rfl,q⟩:=h;obtain ⟨u,w',rfl,⟨t,rfl⟩,⟨t',rfl⟩⟩:=vals2 r;refine max_two_ints (I.ok.hd hc) λh' tk k=>⟨_,H,I.kept k,?_,q⟩
 by_cases hj:j>i
 .rw[if_pos hj,if_pos hj];exact ⟨_,rfl⟩
 .rw[if_neg hj,if_neg hj];exact ⟨_,rfl⟩
theorem yg (hc:X.calm=true):eD X (.builtin "min") (λxs H Q=>∃i j,xs = [.int i,.int j]/\Q (.int (if j<i then j else i)) H):=by
 intro pins s σ H xs us Q I r h;obtain ⟨i,j,rfl,q⟩:=h;obtain ⟨u,w',rfl,⟨t,rfl⟩,⟨t',rfl⟩⟩:=vals2 r;refine min_two_ints (I.ok.hd hc) λh' tk k=>⟨_,H,I.kept k,?_,q⟩
 by_cases hj:j<i
 .rw[if_pos hj,if_pos hj];exact ⟨_,rfl⟩
 .rw[if_neg hj,if_neg hj];exact ⟨_,rfl⟩
theorem ya:eD X (.type "int") (λxs H Q=>(∃i,xs = [.int i]/\Q (.int i) H)\/∃k,xs = [.bl k]/\Q (.int (if k then 1 else 0)) H):=by
 intro pins s σ H xs us Q I r h;rcases h with ⟨i,rfl,q⟩ | ⟨k,rfl,q⟩
 .obtain ⟨u,rfl,t,rfl⟩:=vals1 r;exact call_int_int ⟨.int i,H,I,⟨_,rfl⟩,q⟩
 .obtain ⟨u,rfl,r1⟩:=vals1 r;cases r1;exact call_int_bool ⟨.int (if k then 1 else 0),H,I.tok _,⟨_,rfl⟩,q⟩
theorem rC:eD X (.type "str") (λxs H Q=>∃i,xs = [.int i]/\i.natAbs.log2<1920/\Q (.str (toString i)) H):=by
 intro pins s σ H xs us Q I r h;obtain ⟨i,rfl,hz,q⟩:=h;obtain ⟨u,rfl,t,rfl⟩:=vals1 r;exact PySem.P.str_of_int hz ⟨.str _,H,I.tok _,⟨_,rfl⟩,q⟩
noncomputable def Gx (K:Frag)(x:V)(H:Hp)(n:Nat):Prop:=
 match x with
 | .str y=>y.length<=sizeLine/\n=y.length
 | .byt y=>y.size<=sizeLine/\n=y.size
 | .ref p=>(∃xs,fV K H p xs/\n=xs.length)\/∃xs,jR K H p xs/\n=xs.length
 | _=>False
theorem zE:eD X (.builtin "len") (λxs H Q=>∃x n,xs = [x]/\Gx X.K x H n/\Q (.int n) H):=by
 intro pins s σ H xs us Q I r h;obtain ⟨x,n,rfl,e,q⟩:=h;obtain ⟨u,rfl,rx⟩:=vals1 r;have hl:=mH;have hs:sizeLine=16777216:=sizeLine_eq;cases x with
 | str y =>
  obtain ⟨t,rfl⟩:=rx;obtain ⟨hy,e'⟩ : y.length<=sizeLine/\n=y.length:=e;subst e';exact len_str (by lia) ⟨.int _,H,I.tok _,⟨_,rfl⟩,q⟩
 | byt y =>
  obtain ⟨t,rfl⟩:=rx;obtain ⟨hy,e'⟩ : y.size<=sizeLine/\n=y.size:=e;subst e';exact PySem.W.len_bytes (by lia) ⟨.int _,H,I.tok _,⟨_,rfl⟩,q⟩
 | ref p =>
  cases rx;have e':(∃xs,fV X.K H p xs/\n=xs.length)\/∃xs,jR X.K H p xs/\n=xs.length:=e;rcases e' with ⟨xs,hx,e'⟩ | ⟨xs,hx,e'⟩
  .subst e';obtain ⟨its,r',pl,hz⟩:=I.list hx;have hlen:=r'.length;exact Calls.call_len_list pl.isList (by simp only[size_toArray];lia) ⟨.int xs.length,H,I.tok _,⟨_,by simp only[size_toArray];rw[hlen]⟩,q⟩
  .subst e';obtain ⟨its,r',pl,hz⟩:=I.tuple hx;have hlen:=r'.length;exact len_tuple pl (by simp only[size_toArray];lia) ⟨.int xs.length,H,I.tok _,⟨_,by simp only[size_toArray];rw[hlen]⟩,q⟩
 | _=>exact (show False from e).elim
end
end L2
namespace L2
open PySem PySem.Spec PyProof.Rows
structure Et (h:Heap)(x dx C:Addr)(mA:Str->Option Value):Prop where
 obj:h.get? x=some (instObj C dx)
 ns:h.Ns1 dx mA
 ne:dx≠x
set_option tactic.hygienic true in
theorem yG {h:Heap}{dx:Addr}{mA:Str->Option Value}(n:h.Ns1 dx mA):∃od,h.get? dx=some od/\∀name,lookIn name od=some (mA name):=by
 obtain ⟨o,es,ep,ho,hd,hk,_,hm⟩:=n;refine ⟨o,ho,λname=>?_⟩;have e:=hm name;unfold nsFind findBy at e;rw[<-Array.find?_toList] at e;unfold lookIn;rw[hd];dsimp only;split
 .rename_i y q;rw[q] at e;exact congrArg some e
 .rename_i q;rw[q] at e;have a:es.toList.any (·.refKey)=false:=by
   rw[List.any_eq_false];intro y hy;obtain ⟨z,t,hkey⟩:=hk y (Array.mem_toList_iff.mp hy);simp[DictEntry.refKey,hkey]
  have a':¬es.toList.any (·.refKey)=true:=by rw[a];exact Bool.false_ne_true
  rw[if_neg a'];exact congrArg some e
theorem Et.look {h:Heap}{x dx C:Addr}{mA:Str->Option Value}(I:Et h x dx C mA):∃od,PySem.W.InstAt h x (instObj C dx) C (some od)/\∀name,lookIn name od=some (mA name):=
 let ⟨od,ho,hl⟩:=yG I.ns
 ⟨od,⟨I.obj,rfl,rfl,ho⟩,hl⟩
section
variable {prog:Program} {w:World} {A:Around} {E:Value->Shared->Prop} {s:Shared} {K:Frag} {x dx C f:Addr} {mA:Str->Option Value} {name:Str} {v:Value}
end
theorem pP.some_of {v:V}{o:Option Value}(r:pP (some v) o):∃u,o=some u/\RelV v u:=by
 cases o with
 | none=>exact (show False from r).elim
 | some u=>exact ⟨u,rfl,r⟩
section
variable {P:Program} {w:World} {H H':Hp} {h h':Heap} {a C dx:Addr} {fs fs':List (Str×V)}
theorem Cp (bp:j3 P w H h)(e:H a=some (.ins C dx fs)):∃mA,Et h a dx C mA/\(∀f,pP (fs.lookup f) (mA f))/\PySem.Within mA (fs.map (·.1))/\fs.length<=1000/\H dx=some (.own a):=by
 obtain ⟨d,z,ne,ob,mA,n,r,q⟩:=(show bZ P w H h a (.ins C dx fs) from bp a _ e)
 exact ⟨mA,⟨ob,n,ne⟩,r,q,z,d⟩
end
structure Iz (K:Frag)(C:Addr):Prop where
 pg:plainGet K C Str.empty=true
 hd:PySem.W.hasDictIn K C=true
 po:PySem.W.plainOver K C=true
 sa:findIn K (.ref C) "__setattr__" = some (some (.builtin "object.__setattr__"))
theorem Iz.get {K:Frag}{C:Addr}(c:Iz K C)(f:Str):plainGet K C f=true:=c.pg
structure Kd (K:Frag)(C:Addr)(f:Str)(v:V)(u:Value):Prop where
 at_:findIn K (.ref C) f=some (some u)
 rel:RelV v u
 get:specialIn K u "__get__" = some none
 cp:PySem.W.copiedNames.contains f=false
structure Meth (K:Frag)(C:Addr)(m:Str)(f:Addr):Prop where
 at_:findIn K (.ref C) m=some (some (.ref f))
 fn:isFn K (.ref f)=true
 kp:keepIn K (.ref f)=true
section
variable {X:Cx} {pins:List (Addr×Obj)} {σ:St} {H:Hp} {s:Shared} {a C dx:Addr} {fs:List (Str×V)} {f:Str} {v:V} {A:Around} {E:Value->Shared->Prop}
end
section
variable {X:Cx} {o e value:Expr} {f:Str} {pos pos' tpos:Pos} {ta tv:TE}
end
section
variable {X:Cx} {pins:List (Addr×Obj)} {σ:St} {H:Hp} {s:Shared} {A:Around} {E:Value->Shared->Prop} {Q:Value->Shared->Prop} {c:Value} {b:Bool}
inductive nA (K:Frag)(H:Hp):V->Value->Prop where
 | non:nA K H .non (.type "NoneType")
 | bl (x:Bool):nA K H (.bl x) (.type "bool")
 | int (i:Int):nA K H (.int i) (.type "int")
 | str (x:Str):nA K H (.str x) (.type "str")
 | flt (x:UInt64):nA K H (.flt x) (.type "float")
 | lst {a:Addr} {xs:List V} (e:H a=some (.lst xs)):nA K H (.ref a) (.type "list")
 | bu {a:Addr} {o:Obj} {xs:List V} (e:H a=some (.bu o (.lst xs))):nA K H (.ref a) (.type "list")
 | tup {a:Addr} {xs:List V} (e:H a=some (.tup xs)):nA K H (.ref a) (.type "tuple")
 | dK {a:Addr} {kvs:List (Key×V)} (e:H a=some (.dK kvs)):nA K H (.ref a) (.type "dict")
 | dT {a:Addr} {kvs:List (List Key×V)} (e:H a=some (.dT kvs)):nA K H (.ref a) (.type "dict")
 | ins {a C dx:Addr} {fs:List (Str×V)} (e:H a=some (.ins C dx fs)) (cl:Iz K C) (ha:findIn K (.ref C) "__class__" = some (some (.builtin "object.__class__")))
   (hn:specialIn K (.builtin "object.__class__") "__get__" = some (some (.builtin "getset_descriptor.__get__"))) (htk:PySem.W.takesIn K (.builtin "object.__class__")=some true)
   (hm:PySem.W.mroIn K C (.type "object")=some true):nA K H (.ref a) (.ref C)
theorem jX {x:V}{u t:Value}(I:Inv X pins σ H s)(rx:RelV x u)(ty:nA X.K H x t)(e:kitOne X.K t c=some b)(h:∀tk,Q (.bool b) { s with toks:=tk }) :
  wpAny (model X.prog X.w) A (call (.builtin "isinstance") [u,c]) Q E s:=by
 cases ty with
 | non=>cases (show u=Value.none from rx);exact kia_one PySem.W.kitx_none I.pM True.intro e (λz=>nomatch z) h
 | bl y=>cases (show u=Value.bool y from rx);exact kia_one PySem.W.kitx_bool I.pM True.intro e (λz=>nomatch z) h
 | int i=>obtain ⟨t,q⟩:=(show ∃t,u=Value.int i t from rx);cases q;exact kia_one PySem.W.kitx_int I.pM True.intro e (λz=>nomatch z) h
 | str y=>obtain ⟨t,q⟩:=(show ∃t,u=Value.str y t from rx);cases q;exact kia_one PySem.W.kitx_str I.pM True.intro e (λz=>nomatch z) h
 | flt y=>obtain ⟨t,q⟩:=(show ∃t,u=Value.float y t from rx);cases q;exact kia_one PySem.W.kitx_float I.pM True.intro e (λz=>nomatch z) h
 | @lst a xs ea =>
  cases (show u=Value.ref a from rx);obtain ⟨_,_,n,_,h1⟩:=(show bZ X.prog X.w H s.heap a (.lst xs) from I.bp a _ ea)
  exact kia_one kitx_list I.pM ⟨_,h1,rfl⟩ e (λz=>nomatch z) h
 | @bu a ob xs ea =>
  cases (show u=Value.ref a from rx);obtain ⟨_,_,_,n,_,h1⟩:=(show bZ X.prog X.w H s.heap a (.bu ob (.lst xs)) from I.bp a _ ea)
  exact kia_one kitx_list I.pM ⟨_,h1,rfl⟩ e (λz=>nomatch z) h
 | @tup a xs ea =>
  cases (show u=Value.ref a from rx);obtain ⟨_,_,_,p⟩:=(show bZ X.prog X.w H s.heap a (.tup xs) from I.bp a _ ea)
  obtain ⟨o,h1,h2,_⟩:=p;exact kia_one kitx_tuple I.pM ⟨o,h1,h2⟩ e (λz=>nomatch z) h
 | @dK a kvs ea =>
  cases (show u=Value.ref a from rx);obtain ⟨_,_,vs,_,p⟩:=(show bZ X.prog X.w H s.heap a (.dK kvs) from I.bp a _ ea)
  obtain ⟨o,es,ep,h1,h2,_⟩:=p;exact kia_one kitx_dict I.pM ⟨o,h1,h2.1⟩ e (λz=>nomatch z) h
 | @dT a kvs ea =>
  cases (show u=Value.ref a from rx);obtain ⟨_,_,xs,_,o,es,ep,h1,h2,_⟩:=(show bZ X.prog X.w H s.heap a (.dT kvs) from I.bp a _ ea)
  exact kia_one kitx_dict I.pM ⟨o,h1,h2.1⟩ e (λz=>nomatch z) h
 | @ins a C dx fs ea cl ha hn htk hm =>
  cases (show u=Value.ref a from rx);obtain ⟨mA,O,_⟩:=Cp I.bp ea;obtain ⟨od,J,_⟩:=O.look;exact kia_one (PySem.W.kitx_own (cl.get _) cl.hd ha hn htk hm) I.pM J e (λz=>nomatch z) h
end
end L2
namespace L2
open PySem PySem.Spec PyProof.Rows
structure cY (k:Nat)(A:Around):Prop where
 hd:A.handled=none
 dp:A.depth+3*k+5<recursionLimit
 un:A.units+16*k+200<cLine
 gs:A.guards=some []
theorem cY.mono {j k:Nat}{A:Around}(r:cY k A)(h:j<=k):cY j A:=⟨r.hd,by have:=r.dp;lia,by have:=r.un;lia,r.gs⟩
theorem cY.deeper {k:Nat}{A:Around}(r:cY (k+1) A)(env:Env):cY k (A.deeper env):=
 ⟨r.hd,by have:=r.dp;show A.depth+1+3*k+5<_;lia,by have:=r.un;show A.units+3+16*k+200<_;lia,r.gs⟩
theorem cY.depth {k:Nat}{A:Around}(r:cY k A):A.depth<recursionLimit:=by have:=r.dp;lia
theorem cY.units {k:Nat}{A:Around}(r:cY k A):A.units+64<cLine:=by have:=r.un;lia
noncomputable def HW:TA:=λ_ H Q=>Q [] H
noncomputable def Ek (ta:TE)(tr:TA):TA:=λσ H Q=>ta σ H λx H1=>tr σ H1 λxs H2=>Q (x::xs) H2
section
variable {X:Cx} {e:Expr} {es:List Expr} {te:TE} {t:TA} {pos:Pos}
theorem kO:PA X [] HW:=λ_ _ _ _ H Q I h=>Calls.spliced_nil ⟨[],H,I,.nil,h⟩
theorem eT (ha:PE X e te)(hr:PA X es t)(hs:autoParam (starEach (e::es) X.env=(false,eval e X.env)::starEach es X.env) aZa._auto_1):PA X (e::es) (Ek te t):=by
 intro pos pins s σ H Q I h;rw[hs];show wpAny _ _ (spliced ((false,eval e X.env)::backTo pos (starEach es X.env))) _ _ s;refine Calls.spliced_cons (bV (ha pins s σ H _ I h) ?_);rintro u s1 ⟨x,H1,I1,r1,q1⟩;exact bV (hr pos pins s1 σ H1 _ I1 q1) (by rintro us s2 ⟨xs,H2,I2,r2,q2⟩;exact ⟨x::xs,H2,I2,.cons r1 r2,q2⟩)
noncomputable def JE (t:TA):TE:=λσ H Q=>t σ H λxs H1=>xs.length<=sizeLine/\∀p,H1 p=none->Q (.ref p) (upd H1 p (.tup xs))
noncomputable def Jz (t:TA):TE:=λσ H Q=>t σ H λxs H1=>xs.length<=sizeLine/\∀p,H1 p=none->Q (.ref p) (upd H1 p (.lst xs))
theorem vP {x1}(h:PA X es t):PE X (.Tuple es x1 pos) (JE t):=by
 intro pins s σ H Q I hq;refine wpAny_Tuple_spliced (bV (h pos pins s σ H _ I hq) λus s1 ⟨xs,H1,I1,r,z,q⟩=>⟨by rw[<-r.length];exact z,?_⟩);have hf:H1 s1.heap.objs.size=none:=I1.bp.fresh (Nat.le_refl _);refine ⟨.ref s1.heap.objs.size,upd H1 s1.heap.objs.size (.tup xs),I1.laid (t':=s1.toks) (λb u e=>Heap.get?_push_of_some _ e) (Nat.le_refl _) ?_,rfl,q _ hf⟩;exact ⟨z,us,r,⟨_,Heap.get?_push_size _ rfl,rfl,_,rfl⟩⟩
theorem Fw (h:PA X es t):PE X (.List es pos) (Jz t):=by
 intro pins s σ H Q I hq;refine wpAny_List_spliced (bV (h pos pins s σ H _ I hq) λus s1 ⟨xs,H1,I1,r,z,q⟩=>⟨by rw[<-r.length];exact z,?_⟩);have hf:H1 s1.heap.objs.size=none:=I1.bp.fresh (Nat.le_refl _);refine ⟨.ref s1.heap.objs.size,upd H1 s1.heap.objs.size (.lst xs),I1.laid (t':=s1.toks) (λb u e=>Heap.get?_push_of_some _ e) (Nat.le_refl _) ?_,rfl,q _ hf⟩;exact ⟨z,us,0,r,Heap.get?_push_size _ rfl⟩
end
noncomputable abbrev Sp:=List V->Hp->VK->XK->Prop
noncomputable abbrev Bz:=List Env->Hp->Shared->XK->Value->Shared->Prop
structure BC (P:Program)(w:World)(K:Frag)(mg:Str->Option Value)(base:Heap)(A:Around)(outer:List Env)(s:Shared)(H:Hp):Prop where
 frames:A.frames=some outer
 mod:Mod K mg base
 bs:∀b o,base.get? b=some o->s.heap.get? b=some o/\H b=none
 DN:base.objs.size<=s.heap.objs.size
 oE:s.heap.FunFrames base outer
 Gk:∀b∈zt outer,H b=none
 bp:j3 P w H s.heap
 bare:AllBare s.gens
noncomputable def CE (outer:List Env)(P:Program)(w:World)(H:Hp)(s:Shared)(Q:VK)(u:Value)(s':Shared):Prop:=
 ∃v H',s'.os=s.os/\AllBare s'.gens/\Un (zt outer) [] H H' s.heap s'.heap/\j3 P w H' s'.heap/\RelV v u/\Q v H'
noncomputable def CR (CX:Bz)(outer:List Env)(P:Program)(w:World)(H:Hp)(s:Shared)(Q:VK)(E:XK)(r:Result)(s':Shared):Prop:=
 match r with
 | .ok (.ret u)=>CE outer P w H s Q u s'
 | .ok _=>False
 | .error e=>CX outer H s E e s'
structure bx (P:Program)(w:World)(K:Frag)(mg:Str->Option Value)(base:Heap)(CX:Bz)(k:Nat)(f:Addr)(fd:FuncData)(ps:List Str)(sp:Sp):Prop where
 len:∀vs H Q E,sp vs H Q E->vs.length=ps.length
 run:∀(A:Around) (outer:List Env) (s:Shared) (H:Hp) (args:Args) (us:List Value) (vs:List V) (Q:VK) (E:XK),cY k A->BC P w K mg base A outer s H->BindsTo s fd args (ps.zip us)->Vals vs us->sp vs H Q E ->
  codeAny (model P w) A (.call (.ref f) args) (CR CX outer P w H s Q E) s
theorem bx.imp {P:Program}{w:World}{K:Frag}{mg:Str->Option Value}{base:Heap}{CX:Bz}{k:Nat}{f:Addr}{fd:FuncData}{ps:List Str}{sp sp':Sp}(F:bx P w K mg base CX k f fd ps sp)
  (h:∀vs H Q E,sp' vs H Q E->sp vs H Q E):bx P w K mg base CX k f fd ps sp':=
 ⟨λvs H Q E q=>F.len vs H Q E (h _ _ _ _ q),λA outer s H args us vs Q E hr he hb hv hs=>F.run A outer s H args us vs Q E hr he hb hv (h _ _ _ _ hs)⟩
section
variable {X:Cx} {pins:List (Addr×Obj)} {σ:St} {H:Hp} {s s':Shared}
theorem Inv.IP (I:Inv X pins σ H s):BC X.prog X.w X.K X.mg X.base X.A X.stack s H:=
 ⟨I.ok.frames,I.ok.mod,I.bs,Nat.le_trans I.ok.DN I.sz,I.stack,I.xQ,I.bp,I.bare⟩
theorem Inv.after {Q:VK}{u:Value}(I:Inv X pins σ H s)(h:CE X.stack X.prog X.w H s Q u s'):EP X pins σ Q u s':=by
 obtain ⟨v,H',os,bare,un,bp,r,q⟩:=h;obtain ⟨hh,g,d,t,os'⟩:=s';obtain rfl:os'=s.os:=os;exact ⟨v,H',I.call (h':=hh) (g':=g) (d':=d) (t':=t) (ch:=[]) un bp bare (λb z=>absurd z (by simp)),r,q⟩
end
noncomputable def Ej (sp:Sp)(dvs:List V)(E:XK)(t:TA):TE:=λσ H Q=>t σ H λvs H1=>sp (vs++dvs) H1 Q E
noncomputable def Binds (K:Frag)(fd:FuncData)(ps:List Str)(ds:List Value):Prop:=
 ∀(s:Shared) (us:List Value),K.In s.heap->(us++ds).length=ps.length->BindsTo s fd ⟨us,[]⟩ (ps.zip (us++ds))
theorem Binds.all {K:Frag}{fd:FuncData}{ps:List Str}(h:∀us:List Value,us.length=ps.length->bindArgs fd ⟨us,[]⟩=pure (ps.zip us)):Binds K fd ps []:=λs us _ hl=>by
 rw[append_nil] at hl ⊢;exact .of_eq (h us hl)
noncomputable def Passes (CX:Bz)(X:Cx)(E:XK):Prop:=∀(pins:List (Addr×Obj)) (σ:St) (H:Hp) (s:Shared) (e:Value) (s':Shared),Inv X pins σ H s->CX X.stack H s E e s'->X.xe e s'
section
variable {X:Cx} {CX:Bz} {k:Nat} {f C:Addr} {fd:FuncData} {ps:List Str} {sp:Sp} {dvs:List V} {ds:List Value} {E:XK} {x m:Str} {p pos apos:Pos} {e o:Expr} {es:List Expr} {ta:TE} {t:TA}
theorem FQ {pins:List (Addr×Obj)}{σ:St}{H:Hp}{s:Shared}{Q:VK}{us:List Value}{vs:List V}(F:bx X.prog X.w X.K X.mg X.base CX k f fd ps sp)(hr:cY k X.A)(hb:Binds X.K fd ps ds)(hd:Vals dvs ds)(hx:Passes CX X E)
  (I:Inv X pins σ H s) (r:Vals vs us) (h:sp (vs++dvs) H Q E):wpAny (model X.prog X.w) X.A (call (.ref f) us) (EP X pins σ Q) X.xe s:=by
 have r2:Vals (vs++dvs) (us++ds):=r.append hd;have hl:(us++ds).length=ps.length:=by rw[<-r2.length];exact F.len _ _ _ _ h
 refine wpAny_call (codeAny_mono (F.run X.A X.stack s H ⟨us,[]⟩ (us++ds) (vs++dvs) Q E hr I.IP (hb s us I.pM hl) r2 h) λr s' hq=>?_);cases r with
 | error e=>exact hx pins σ H s e s' I hq
 | ok fl =>
  cases fl with
  | ret u=>exact I.after hq
  | next=>exact False.elim hq
  | brk=>exact False.elim hq
  | cont=>exact False.elim hq
theorem CY (F:bx X.prog X.w X.K X.mg X.base CX k f fd ps sp)(hr:cY k X.A)(hg:Gl X x)(hm:X.mg x=some (.ref f))(hk:keepIn X.K (.ref f)=true)(hb:Binds X.K fd ps ds)(hd:Vals dvs ds)(hx:Passes CX X E)
  (ha:PA X (e::es) t) (hdb:autoParam ((x == ("__debug__" : Str))=false) aZb._auto_1) (he:autoParam (starEach (e::es) X.env=(false,eval e X.env)::starEach es X.env) aZa._auto_1) (hpl:autoParam ((backTo pos (starEach es X.env)).any (·.1)=false) aZa._auto_1) :
  PE X (.Call (.Name x p) (e::es) [] pos) (Ej sp dvs E t):=by
 intro pins s σ H Q I h;refine wpAny_Call_Name_kw (xi I hg hm ?_ hdb);refine PySem.W.callWith_K (h₀:=X.base) I.ok.mod.Cu hk (bV (ha pos pins s σ H _ I h) λus s1 ⟨vs,H1,I1,r,q⟩=>⟨I1.pM,?_⟩) he hpl;exact FQ F hr hb hd hx I1 r q
structure Mk (K:Frag)(C f:Addr):Prop where
 makes:PySem.W.makesIn K C=true
 init:findIn K (.ref C) "__init__" = some (some (.ref f))
 fn:isFn K (.ref f)=true
 kp:keepIn K (.ref C)=true
end
section
variable {X:Cx} {CX:Bz} {k:Nat} {f C:Addr} {fd:FuncData} {ps ks:List Str} {sp:Sp} {E:XK} {x m:Str} {p pos apos kpos:Pos} {e o:Expr} {es:List Expr} {kws:List Keyword} {te ta:TE} {t tk:TA} {nm:Option Str}
structure ID (K:Frag)(fd:FuncData)(ps ks:List Str)(g:List Value->List Value->List Value)(gV:List V->List V->List V):Prop where
 to:∀(s:Shared) (us ws:List Value),K.In s.heap->(g us ws).length=ps.length->BindsTo s fd ⟨us,ks.zip ws⟩ (ps.zip (g us ws))
 rel:∀{vs:List V} {us:List Value} {zs:List V} {ws:List Value},Vals vs us->Vals zs ws->Vals (gV vs zs) (g us ws)
variable {g:List Value->List Value->List Value} {gV:List V->List V->List V}
end
structure aC (N P:List Str)(sc:Scope):Prop where
 kind:sc.kind=.function
 co:sc.isCoroutine=false
 gen:sc.isGenerator=false
 nd:N.Nodup
 pre:N.take P.length=P
 par:∀x∈P,sc.names.lookup x=some .local\/sc.names.lookup x=some .cell
 E8:∀y∈sc.names,y.2≠.free
theorem qv {kindOf:Str->Option NameKind}{x:Str}:∀{binds:List (Str×Value)} {m:Str->Option Value},(∀v,(x,v)∉binds)->bindL kindOf binds m x=m x
  | [],_,_=>rfl
  | (n,v)::r,m,h=>by
    unfold bindL;rw[qv λw hw=>h w (mem_cons_of_mem _ hw)];split
    · have : x ≠ n := by rintro rfl;exact h v mem_cons_self
      simp[this]
    · rfl
theorem qt {kindOf:Str->Option NameKind}{x:Str}:∀{binds:List (Str×Value)} {m:Str->Option Value},(∀v,(x,v)∉binds)->bindC kindOf binds m x=m x
  | [],_,_=>rfl
  | (n,v)::r,m,h=>by
    unfold bindC;rw[qt λw hw=>h w (mem_cons_of_mem _ hw)];split
    · rfl
    · have : x ≠ n := by rintro rfl;exact h v mem_cons_self
      simp[this]
theorem qu {kindOf:Str->Option NameKind}{x:Str}{v:Value}:∀{P:List Str} {vs:List Value} {i:Nat} {m:Str->Option Value},P.Nodup->P[i]?=some x->vs[i]?=some v->kindOf x=some .local ->
  bindL kindOf (P.zip vs) m x=some v
 | [],_,_,_,_,h,_,_=>by simp at h
 | _::_,[],_,_,_,_,h,_=>by simp at h
 | p::P,w::vs,0,m,nd,h1,h2,hk=>by
  simp at h1 h2;subst h1;subst h2;show bindL kindOf ((p,w)::P.zip vs) m p=_;unfold bindL;rw[qv λv hv=>(nodup_cons.mp nd).1 (List.of_mem_zip hv).1,if_pos hk];simp
 | p::P,w::vs,i+1,m,nd,h1,h2,hk=>by
  show bindL kindOf ((p,w)::P.zip vs) m x=_;unfold bindL;exact qu (i:=i) (nodup_cons.mp nd).2 (by simpa using h1) (by simpa using h2) hk
theorem qr {kindOf:Str->Option NameKind}{x:Str}{v:Value}:∀{P:List Str} {vs:List Value} {i:Nat} {m:Str->Option Value},P.Nodup->P[i]?=some x->vs[i]?=some v->kindOf x≠some .local ->
  bindC kindOf (P.zip vs) m x=some v
 | [],_,_,_,_,h,_,_=>by simp at h
 | _::_,[],_,_,_,_,h,_=>by simp at h
 | p::P,w::vs,0,m,nd,h1,h2,hk=>by
  simp at h1 h2;subst h1;subst h2;show bindC kindOf ((p,w)::P.zip vs) m p=_;unfold bindC;rw[qt λv hv=>(nodup_cons.mp nd).1 (List.of_mem_zip hv).1,if_neg hk];simp
 | p::P,w::vs,i+1,m,nd,h1,h2,hk=>by
  show bindC kindOf ((p,w)::P.zip vs) m x=_;unfold bindC;exact qr (i:=i) (nodup_cons.mp nd).2 (by simpa using h1) (by simpa using h2) hk
noncomputable def start (N:List Str)(vs:List V):St:=vs.map some++List.replicate (N.length - vs.length) none
noncomputable def rG (CX:Bz)(P:Program)(w:World)(K:Frag)(mg:Str->Option Value)(base:Heap)(N:List Str)(qual:Str)(scope:Scope)(f:Addr)(cd:Value)(A:Around)(outer:List Env)(s:Shared)(H:Hp)(E:XK):Cx where
 prog:=P
 w:=w
 K:=K
 mg:=mg
 base:=base
 A:=A.deeper (envOfC qual scope s.heap.objs.size f cd)
 N:=N
 s₀:=s
 H₀:=H
 env:=envOfC qual scope s.heap.objs.size f cd
 outer:=outer
 stack:=envOfC qual scope s.heap.objs.size f cd::outer
 ex:=[]
 calm:=true
 fn:=λ_=>true
 pn:=[]
 xe:=λe s'=>wpAny (model P w) (A.deeper (envOfC qual scope s.heap.objs.size f cd)) (leaving (envOfC qual scope s.heap.objs.size f cd) e) (λ_ s''=>CX outer H s E e s'') (λe' s''=>CX outer H s E e' s'') s'
theorem tG {sc:Scope}{n:Nat}{x:Str}(h:sc.names.lookup x=some .cell):∃c,(cellsFrom n sc.names []).lookup x=some c:=by
 have q:=cellsFrom_some sc.names n [] (.inl h);exact Option.isSome_iff_exists.mp q
theorem yA {CX:Bz}{P:Program}{w:World}{K:Frag}{mg:Str->Option Value}{base:Heap}{N ps:List Str}{qual:Str}{scope:Scope}{f:Addr}{cd:Value}{A:Around}{outer:List Env}{s s1:Shared}{H:Hp}{E:XK}{us:List Value}{vs:List V}
    (S:aC N ps scope) (hd:A.handled=none) (e0:BC P w K mg base A outer s H) (hl:vs.length=ps.length) (r:Vals vs us)
    (x:InCallC s s.heap.objs.size (bindL (envOfC qual scope s.heap.objs.size f cd).kindOf (ps.zip us) λ_=>none) (cellsFrom (s.heap.objs.size+1) scope.names []) (bindC (envOfC qual scope s.heap.objs.size f cd).kindOf (ps.zip us) λ_=>none) s1) :
    Inv (rG CX P w K mg base N qual scope f cd A outer s H E) [] (start N vs) H s1:=by
  have hpl:ps.length<=N.length:=by have:=congrArg List.length S.pre;rw[length_take] at this;lia
  obtain ⟨h1,tk,rfl,hk⟩:=x.done;have Ea:∀b:Addr,b∉(rG CX P w K mg base N qual scope f cd A outer s H E).ex:=λb z=>absurd (show b∈([]:List Addr) from z) (by simp);refine ⟨⟨e0.mod,S.kind,rfl,rfl,Nat.le_refl _,λy z c h1 h2=>?_,λy hy=>?_,λy c _ h=>?_,λ_=>hd,Around.frames_deeper e0.frames,.inr ⟨rfl,rfl⟩,λb z=>absurd z (Ea b),e0.bs,e0.DN,λb _ _=>Ea b,λb z=>absurd z (Ea b),e0.oE,e0.Gk⟩,
    rfl,e0.bare,Un.kept hk,⟨_,x.toInCall.ns,λi y v h1 h2 h3=>?_⟩,λy c h=>⟨_,x.cell y c h⟩,e0.bp.fresh (Nat.le_refl _),λy c h=>?_,λp hp=>absurd (show p∈([]:List (Addr×Obj)) from hp) (by simp),e0.bp.kept hk,?_⟩
  · exact name_of_addr x.apart (PySem.mem_of_lookup h1) (PySem.mem_of_lookup h2)
  · have hy:scope.names.lookup y=some .cell\/scope.names.lookup y=some .free:=hy;rcases hy with hy | hy
    · exact tG hy
    · exact absurd rfl (S.E8 _ (PySem.mem_of_lookup hy))
  · exact Nat.le_of_lt (x.above y c (PySem.mem_of_lookup h))
  · have hi:i<vs.length:=by
      unfold start at h2;by_cases hi:i<vs.length
      · exact hi
      · rw [List.getElem?_append_right (by simpa using hi)] at h2;rw[List.getElem?_replicate] at h2;split at h2<;>cases h2
    have ha:vs[i]?=some v:=by
      unfold start at h2;rw[List.getElem?_append_left (by simpa using hi),getElem?_map] at h2;cases e:vs[i]? with
      | none=>rw[e] at h2;cases h2
      | some a=>rw[e] at h2;cases h2;rfl
    obtain ⟨u,hu,rv⟩:=r.get ha;have hp:ps[i]?=some y:=by
      rw[<-S.pre,List.getElem?_take_of_lt (by lia)];exact h1
    have ndP:ps.Nodup:=by rw[<-S.pre];exact S.nd.sublist (List.take_sublist _ _)
    refine ⟨u,rv,?_⟩;rcases S.par y (mem_of_getElem? hp) with k | k
    · exact .inl ⟨k,qu ndP hp hu k⟩
    · obtain ⟨c,e⟩:=tG (n:=s.heap.objs.size+1) k;refine .inr ⟨.inl k,c,e,?_⟩;have q:=x.cell y c e;rw[qr ndP hp hu (by show scope.names.lookup y≠_;rw[k];decide)] at q;exact q
  · exact e0.bp.fresh (Nat.le_of_lt (x.above y c (PySem.mem_of_lookup h)))
  · unfold start;show _=N.length;rw[length_append,length_map,List.length_replicate];lia
theorem D3 {CX:Bz}{P:Program}{w:World}{K:Frag}{mg:Str->Option Value}{base:Heap}{k:Nat}{f:Addr}{name qual:Str}{params:Arguments}{body:List Stmt}{scope:Scope}{dV kV doc pm cdv ct oc:Value}{an od:Option Addr}
  {osl:Array (Option Value)} {N ps:List Str} {sp:Sp} (lk:K.lookup f=some ⟨oc,od,.func (fnOf name qual params body scope dV kV doc pm an cdv ct),osl⟩) (hcd:codeIn K cdv qual=true) (S:aC N ps scope)
  (len:∀vs H Q E,sp vs H Q E->vs.length=ps.length)
  (hbody:∀(A:Around) (outer:List Env) (s:Shared) (H:Hp) (vs:List V) (Q:VK) (E:XK),cY k (A.deeper (envOfC qual scope s.heap.objs.size f cdv))->sp vs H Q E ->
   ∃t,qp (rG CX P w K mg base N qual scope f cdv A outer s H E) body t/\t { nx:=λ_ H'=>Q .non H',rt:=Q } (start N vs) H) :
  bx P w K mg base CX (k+1) f (fnOf name qual params body scope dV kV doc pm an cdv ct) ps sp:=by
 refine ⟨len,λA outer s H args us vs Q E hr e0 hb r hsp=>?_⟩;have hl:=len _ _ _ _ hsp;have KX:K.In s.heap:=e0.mod.Cu.keeps λb o e=>(e0.bs b o e).1;have lim:s.heap.NoLimit:=e0.mod.nolimit.keeps λb o e=>(e0.bs b o e).1;have hkind:∀y∈ps.zip us,scope.names.lookup y.1=some .local\/(scope.names.lookup y.1=some .cell/\((cellsFrom (s.heap.objs.size+1) scope.names []).lookup y.1).isSome=true):= by
  rintro ⟨n,v⟩ hy;rcases S.par n (List.of_mem_zip hy).1 with q | q
  .exact .inl q
  .exact .inr ⟨q,cellsFrom_some _ _ _ (.inl q)⟩
 refine codeAny_call_function hr.depth (KX _ _ lk) rfl S.co S.gen rfl (PySem.W.codeRec_of KX hcd) (hb _ _ _ _ ?_);refine wpAny_newFunctionEnv_cells S.kind hkind λenv he s1 x=>?_;subst he;refine ⟨lim.keeps x.toInCall.keep,codeAny_func ?_⟩;obtain ⟨t,ht,hq⟩:=hbody A outer s H vs Q E (hr.deeper _) hsp;have I:Inv (rG CX P w K mg base N qual scope f cdv A outer s H E) [] (start N vs) H s1:=yA S hr.hd e0 hl r x;refine wpAny_mono (ht [] s1 (start N vs) H _ I hq) (λfl s' hs=>?_) λe s' hs=>hs;have fin:∀{σ':St} {H':Hp} {v:V} {u:Value},Inv (rG CX P w K mg base N qual scope f cdv A outer s H E) [] σ' H' s'->RelV v u->Q v H'->CE outer P w H s Q u s':=
  λ{σ' H' v u} J rv q=>⟨v,H',J.os,J.bare,J.base,J.bp,rv,q⟩
 cases fl with
 | ret u =>
  obtain ⟨v,σ',H',J,rv,q⟩:=hs;exact fin J rv q
 | next =>
  obtain ⟨σ',H',J,q⟩:=hs;exact fin (v:=V.non) (u:=Value.none) J rfl q
 | brk =>
  obtain ⟨_,_,_,q⟩:=hs;exact False.elim q
 | cont =>
  obtain ⟨_,_,_,q⟩:=hs;exact False.elim q
end L2
namespace L2
open PySem PySem.Spec PyProof.Rows
section
variable {X:Cx} {x:Str} {p pos:Pos} {e:Expr} {es:List Expr} {t:TA} {id T:String} {r:List V->Hp->VK->Prop}
noncomputable def Iw (r:List V->Hp->VK->Prop)(t:TA):TE:=λσ H Q=>t σ H λvs H1=>r vs H1 Q
theorem uL (hc:eD X (.builtin id) r)(hg:Gl X x)(hm:X.mg x=none)(hv:bootBuiltins x=some (.builtin id))(ha:PA X (e::es) t)(hn:autoParam (x≠"__name__") aZb._auto_1)(hdb:autoParam ((x == ("__debug__" : Str))=false) aZb._auto_1)
  (he:autoParam (starEach (e::es) X.env=(false,eval e X.env)::starEach es X.env) aZa._auto_1) (hpl:autoParam ((backTo pos (starEach es X.env)).any (·.1)=false) aZa._auto_1):PE X (.Call (.Name x p) (e::es) [] pos) (Iw r t):=by
 intro pins s σ H Q I h;refine wpAny_Call_Name_kw (kL I hg hm hv ?_ hn hdb);exact PyProof.Rows.callWith_builtin1 (bV (ha pos pins s σ H _ I h) (by rintro us s1 ⟨vs,H1,I1,r1,q1⟩;exact hc pins s1 σ H1 vs us Q I1 r1 q1)) he hpl
theorem qX (hc:eD X (.type T) r)(hg:Gl X x)(hm:X.mg x=none)(hv:bootBuiltins x=some (.type T))(ha:PA X (e::es) t)(hn:autoParam (x≠"__name__") aZb._auto_1)(hdb:autoParam ((x == ("__debug__" : Str))=false) aZb._auto_1)
  (he:autoParam (starEach (e::es) X.env=(false,eval e X.env)::starEach es X.env) aZa._auto_1) (hpl:autoParam ((backTo pos (starEach es X.env)).any (·.1)=false) aZa._auto_1):PE X (.Call (.Name x p) (e::es) [] pos) (Iw r t):=by
 intro pins s σ H Q I h;refine wpAny_Call_Name_kw (kL I hg hm hv ?_ hn hdb);exact PyProof.Rows.callWith_type1 (bV (ha pos pins s σ H _ I h) (by rintro us s1 ⟨vs,H1,I1,r1,q1⟩;exact hc pins s1 σ H1 vs us Q I1 r1 q1)) he hpl
end
end L2
namespace HT
open PySem PyProof.Rows
section
open PySem.SeqAt
open PySem.AutoSeq1 (wpAny_loadPart')
open PySem.MeetsSeq PySem.MeetsSeq2 PySem.MeetsSeq3
end
section
variable {prog:Program} {w:World} {A:Around} {E:Value->Shared->Prop} {s:Shared}
theorem BP {t b:Addr}{vs ws:List Value}{Q:Value->Shared->Prop}(ht:IsTup s.heap t vs.toArray)(hb:IsTup s.heap b ws.toArray)(hv:vs≠[])
  (h1:ws = []->Q (.ref t) s) (h2:ws≠[]->Q (.ref s.heap.objs.size) { s with heap:=s.heap.push { cls:=.type "tuple",data:=.seq (vs++ws).toArray } })
  (hsz:vs.length+ws.length<=sizeLine):wpAny (model prog w) A (binaryOp .Add (.ref t) (.ref b)) Q E s:=by
 obtain ⟨⟨cls,dd,data,sl⟩,ho,hc,n,hd⟩:=id ht;obtain ⟨⟨cls2,dd2,data2,sl2⟩,ho2,hc2,n2,hd2⟩:=id hb;simp only at hc hd hc2 hd2;subst hc hd hc2 hd2;have e:vs.toArray++ws.toArray=(vs++ws).toArray:=by simp
 by_cases hw:ws = []
 .exact concat_meets ⟨_,ho,rfl⟩ ⟨_,ho2,rfl⟩ noFill_tuple_add seq_tuple_add PySem.F.slot_tuple_add PySem.F.entry_tuple_add (PySem.F.args_tuple_add_2 _ _)
   (tuple_addW1 t b vs.toArray ws.toArray n n2 dd dd2 sl sl2 (by simpa using hv) (by simp[hw])) ⟨ho,ho2,h1 hw⟩
 .refine concat_meets ⟨_,ho,rfl⟩ ⟨_,ho2,rfl⟩ noFill_tuple_add seq_tuple_add PySem.F.slot_tuple_add PySem.F.entry_tuple_add (PySem.F.args_tuple_add_2 _ _)
   (tuple_addW2 t b vs.toArray ws.toArray n n2 dd dd2 sl sl2 (by simpa using hv) (by simpa using hw) (by rw[size_toArray,size_toArray];exact hsz)) ⟨ho,ho2,?_⟩
  rw[e];exact h2 hw
noncomputable def d8 (n d:Nat):Option Int->Nat
 | none=>d
 | some v=>if v<0 then (v+(n:Int)).toNat else min v.toNat n
theorem Bp (n d:Nat):d8 n d none=d:=rfl
theorem Dh (n d k:Nat):d8 n d (some (k:Int))=min k n:=by
 show (if (k:Int)<0 then ((k:Int)+(n:Int)).toNat else min (k:Int).toNat n)=min k n;rw[if_neg (by lia),Int.toNat_natCast]
theorem FR (n d:Nat)(hd:d<=n)(o:Option Int):d8 n d o<=n:=by
 cases o with
 | none=>exact hd
 | some v =>
  show (if v<0 then (v+(n:Int)).toNat else min v.toNat n)<=n;by_cases hv:v<0
  .rw[if_pos hv];lia
  .rw[if_neg hv];exact Nat.min_le_right _ _
theorem we (v:Int)(n d:Nat):(if v<0 then max (v+(n:Int)) 0 else min v (n:Int))=((d8 n d (some v):Nat):Int):=by
 show (if v<0 then max (v+(n:Int)) 0 else min v (n:Int))=(((if v<0 then (v+(n:Int)).toNat else min v.toNat n):Nat):Int)
 by_cases hv:v<0
 .simp only[if_pos hv];lia
 .simp only[if_neg hv];lia
theorem vk (lo hi:Option Int)(n:Nat):Builtin.Slice.sliceAdjust lo hi 1 (n:Int)=(((d8 n 0 lo:Nat):Int),((d8 n n hi:Nat):Int)):=by
 have h1:¬((1:Int)<0):=by lia
 unfold Builtin.Slice.sliceAdjust;simp only[h1,if_false];refine Prod.ext ?_ ?_
 .cases lo with
  | none=>rfl
  | some v=>exact we v n 0
 .cases hi with
  | none=>rfl
  | some v=>exact we v n n
theorem vQ (i j:Nat):Builtin.Slice.slicePlaces (i:Int) (j:Int) 1=j - i:=by
 unfold Builtin.Slice.slicePlaces;have h1:(1:Int)>0:=by lia
 simp only[h1,if_true,Int.ediv_one];split<;>lia
theorem pF {v:Value}{o:Option Int}{Q:Option Int->Shared->Prop}(p:IsPart v o)(h:Q o s):wpAny (model prog w) A (Builtin.Slice.slicePartIndex v) Q E s:=by
 cases p with
 | none=>exact slicePart_none h
 | int i t=>exact slicePart_int h
theorem mZ {sl:Addr}{vl vu:Value}{lo hi:Option Int}{n:Nat}{Q:Int×Int×Nat->Shared->Prop}(hs:s.heap.IsSliceOf sl vl vu .none)(pl:IsPart vl lo)(pu:IsPart vu hi)
  (h:Q (((d8 n 0 lo:Nat):Int),1,d8 n n hi - d8 n 0 lo) s):wpAny (model prog w) A (Builtin.Slice.sliceApplied (.ref sl) (pure (n:Int))) Q E s:=by
 obtain ⟨os,hos,hcs,hds⟩:=id hs;unfold Builtin.Slice.sliceApplied Builtin.Slice.sliceFields;refine wpAny_bind (wpAny_bind (wpAny_field hos hds (x:=vl) rfl (wpAny_bind (wpAny_field hos hds (x:=vu) rfl (wpAny_bind (wpAny_field hos hds (x:=.none) rfl (wpAny_pure ?_)))))));refine wpAny_bind (slicePart_none ?_);show wpAny _ _ (if ((1:Int) == 0)=true then _ else _) _ _ s;rw[if_neg (by decide)];refine wpAny_bind (pF pl (wpAny_bind (pF pu (wpAny_bind (wpAny_pure ?_)))));show wpAny _ _ (match Builtin.Slice.sliceAdjust lo hi 1 (n:Int) with | (lo,hi)=>pure (lo,(1:Int),Builtin.Slice.slicePlaces lo hi 1)) _ _ s;rw[vk lo hi n];show wpAny _ _ (pure (((d8 n 0 lo:Nat):Int),(1:Int),Builtin.Slice.slicePlaces ((d8 n 0 lo:Nat):Int) ((d8 n n hi:Nat):Int) 1)) _ _ s;rw[vQ];exact wpAny_pure h
theorem A6 (xs:Array Value)(i k:Nat):((List.range k).filterMap λ(m:Nat)=>xs[((i:Int)+(m:Int)*1).toNat]?).toArray=((xs.toList.drop i).take k).toArray:=by
 have e:(λ(m:Nat)=>xs[((i:Int)+(m:Int)*1).toNat]?)=λm=>xs[i+m]?:=by
  funext m
  have:((i:Int)+(m:Int)*1).toNat=i+m:=by lia
  rw[this]
 rw[e];have:=pick_run xs i k;rw[List.filterMap_map] at this;have e2:((λx=>xs[x]?)∘λx=>i+x)=λm=>xs[i+m]?:=rfl;rw[e2] at this;rw[this]
theorem lI {t sl:Addr}{items:Array Value}{vl vu:Value}{lo hi:Option Int}{Q:Value->Shared->Prop}(ht:IsTup s.heap t items)(hs:s.heap.IsSliceOf sl vl vu .none)(pl:IsPart vl lo)(pu:IsPart vu hi)
  (hw:¬(d8 items.size 0 lo=0/\d8 items.size items.size hi=items.size))
  (h:Q (.ref s.heap.objs.size) { s with heap:=s.heap.push { cls:=.type "tuple",data:=.seq ((items.toList.drop (d8 items.size 0 lo)).take (d8 items.size items.size hi - d8 items.size 0 lo)).toArray } })
  (hsz:items.size<=sizeLine):wpAny (model prog w) A (getItem (.ref t) (.ref sl)) Q E s:=by
 have htake:sizeOk (.seq ((items.toList.drop (d8 items.size 0 lo)).take (d8 items.size items.size hi - d8 items.size 0 lo)).toArray):=by
  show ((items.toList.drop (d8 items.size 0 lo)).take (d8 items.size items.size hi - d8 items.size 0 lo)).toArray.size<=sizeLine;rw[size_toArray,length_take,length_drop,length_toList];lia
 have hj:d8 items.size items.size hi<=items.size:=FR _ _ (Nat.le_refl _) hi;obtain ⟨os,hos,hcs,hds⟩:=id hs;have hTs:s.TypeIs (.ref sl) "slice":=⟨os,hos,hcs⟩
 unfold getItem;try with_reducible refine wpAny_holding ?_
 first | refine wpAny_bind (wpAny_pure ?_) | skip
 refine wpAny_bind (wpAny_sequenceKey ht.typeIs (by decide) ?_);refine wpAny_bind (wpAny_callSpecial?_slot (name:=Str.ofString "__getitem__") ht.typeIs PyProof.Rows.slot_tuple_getitem
  (wpAny_call_entry PyProof.Rows.slot_tuple_getitem ht.typeIs entry_tuple_getitem ?_ (args_tuple_getitem _ _)))
 show wpAny _ _ (Builtin.Tuple.tupleItemsOf (.ref t) >>= _) _ _ s;refine wpAny_bind (tupleItemsOf_ ht ?_);refine wpAny_bind (wpAny_typeOf hTs ?_);rw[if_pos (by decide)];refine wpAny_bind (mZ hs pl pu ?_);have hno:¬((((d8 items.size 0 lo:Nat):Int) == 0 && (1:Int) == 1 && (d8 items.size items.size hi - d8 items.size 0 lo) == items.size)=true):=by
  intro q;rw[Bool.and_eq_true,Bool.and_eq_true] at q;have q1:((d8 items.size 0 lo:Nat):Int)=0:=eq_of_beq q.1.1;have q2:d8 items.size items.size hi - d8 items.size 0 lo=items.size:=eq_of_beq q.2;exact hw ⟨by lia,by lia⟩
 show wpAny _ _ (if (((d8 items.size 0 lo:Nat):Int) == 0 && (1:Int) == 1 && (d8 items.size items.size hi - d8 items.size 0 lo) == items.size)=true then _ else _) _ _ s;rw[if_neg hno,A6];first
  | exact wpAny_bind (m:=Builtin.Tuple.tupleExact _) (wpAny_newObj_type (wpAny_pure ⟨_,rfl,wpAny_pure h⟩) htake)
  | exact wpAny_bind (m:=Builtin.Tuple.tupleExact _) (wpAny_newObj_type (wpAny_bind (wpAny_pure (wpAny_pure ⟨_,rfl,wpAny_pure h⟩))) htake)
  | exact wpAny_bind (wpAny_bind (m:=Builtin.Tuple.tupleExact _) (wpAny_newObj_type (wpAny_pure (wpAny_pure ⟨_,rfl,wpAny_pure h⟩)) htake))
  | exact wpAny_bind (wpAny_bind (m:=Builtin.Tuple.tupleExact _) (wpAny_newObj_type (wpAny_pure ⟨_,rfl,wpAny_pure h⟩) htake))
end
end HT
namespace L2
open PySem PySem.Spec PyProof.Rows
noncomputable abbrev TO:=St->Hp->(Option Int->Hp->Prop)->Prop
noncomputable def PO (X:Cx)(e:Option Expr)(t:TO):Prop:=
 ∀(pins:List (Addr×Obj)) (s:Shared) (σ:St) (H:Hp) (Q:Option Int->Hp->Prop),Inv X pins σ H s->t σ H Q ->
  wpAny (model X.prog X.w) X.A (evalPart e X.env) (λu s'=>∃o H',Inv X pins σ H' s'/\IsPart u o/\Q o H') X.xe s
noncomputable def Dr:TO:=λ_ H Q=>Q none H
noncomputable def HY (t:TE):TO:=λσ H Q=>t σ H λx H1=>∃i,x=.int i/\Q (some i) H1
theorem intsAre_of {ns:List Int}:∀{us:List Value},Vals (ns.map V.int) us->IntsAre us ns:=by
 induction ns with
 | nil=>intro us r;rw[List.map_nil] at r;cases r;exact .nil
 | cons n ns ih =>
  intro us r;rw[map_cons] at r;cases r with
  | cons r1 r2 =>
   obtain ⟨t,e⟩:=r1;subst e;exact .cons n t (ih r2)
section
variable {X:Cx} {e:Expr} {te:TE} {lo hi:Option Expr} {tl th:TO} {pos p2:Pos}
theorem C3:PO X none Dr:=by
 intro pins s σ H Q I h;rw[evalPart_none];exact wpAny_pure ⟨none,H,I,.none,h⟩
theorem C4 (h:PE X e te):PO X (some e) (HY te):=by
 intro pins s σ H Q I hw;rw[evalPart_some];refine bV (h pins s σ H _ I hw) ?_;rintro u s1 ⟨x,H1,I1,r1,q1⟩;obtain ⟨i,rfl,q⟩:=q1;obtain ⟨t,rfl⟩:=r1;exact ⟨some i,H1,I1,.int i t,q⟩
noncomputable def Ew (X:Cx)(r:V->Option Int->Option Int->Hp->VK->Prop):Prop:=
 ∀(pins:List (Addr×Obj)) (s:Shared) (σ:St) (H:Hp) (x:V) (v vl vu:Value) (lo hi:Option Int) (sl:Addr) (Q:VK),Inv X pins σ H s->RelV x v->s.heap.IsSliceOf sl vl vu .none->IsPart vl lo->IsPart vu hi->r x lo hi H Q ->
  ∃T id,typeLookup (.type T) "__getitem__" = pure (some (.builtin id))/\s.TypeIs v T/\wpAny (model X.prog X.w) X.A (getItem v (.ref sl)) (EP X pins σ Q) X.xe s
theorem Ew.or {r r':V->Option Int->Option Int->Hp->VK->Prop}(h:Ew X r)(h':Ew X r'):Ew X (λx lo hi H Q=>r x lo hi H Q\/r' x lo hi H Q):=by
 intro pins s σ H x v vl vu lo hi sl Q I rx hs pl pu q;rcases q with q | q
 .exact h pins s σ H x v vl vu lo hi sl Q I rx hs pl pu q
 .exact h' pins s σ H x v vl vu lo hi sl Q I rx hs pl pu q
noncomputable def J9 (r:V->Option Int->Option Int->Hp->VK->Prop)(te:TE)(tl th:TO):TE:=λσ H Q=>te σ H λx H1=>tl σ H1 λl H2=>th σ H2 λu H3=>r x l u H3 Q
theorem A1 {r:V->Option Int->Option Int->Hp->VK->Prop}(hr:Ew X r)(he:PE X e te)(hl:PO X lo tl)(hu:PO X hi th):PE X (.Subscript e (.Slice lo hi none p2) pos) (J9 r te tl th):=by
 intro pins s σ H Q I h;refine Subscript_ (bV (he pins s σ H _ I h) ?_);rintro v s1 ⟨x,H1,I1,r1,q1⟩;refine wpAny_Slice (bV (hl pins s1 σ H1 _ I1 q1) λvl s2 ⟨l,H2,I2,pl,q2⟩=>bV (hu pins s2 σ H2 _ I2 q2) ?_);rintro vu s3 ⟨u,H3,I3,pu,q3⟩;rw[evalPart_none];refine wpAny_pure ?_;have I4:Inv X pins σ H3 { s3 with heap:=s3.heap.push { cls:=.type "slice",data:=.fields #[vl,vu,.none] } }:=I3.kept (t':=s3.toks) λb ob q=>Heap.get?_push_of_some _ q;obtain ⟨T,id,hT,ht,hg⟩:=hr pins { s3 with heap:=s3.heap.push { cls:=.type "slice",data:=.fields #[vl,vu,.none] } } σ H3 x v vl vu l u s3.heap.objs.size Q I4 r1 (Heap.IsSliceOf.new ..) pl pu q3;show wpAny (model X.prog X.w) X.A (subscriptTail e (.Slice lo hi none p2) v (.ref s3.heap.objs.size)) (EP X pins σ Q) X.xe { s3 with heap:=s3.heap.push { cls:=.type "slice",data:=.fields #[vl,vu,.none] } };exact tail_any (ops:=[.ref s3.heap.objs.size,v]) ht hT hg (by with_unfolding_all rfl)
noncomputable def pQ (xs:List V)(lo hi:Option Int):List V:=(xs.drop (HT.d8 xs.length 0 lo)).take (HT.d8 xs.length xs.length hi - HT.d8 xs.length 0 lo)
theorem m7 (xs:List V)(lo hi:Option Int):(pQ xs lo hi).length<=xs.length:=by
 unfold pQ;rw[length_take,length_drop];lia
noncomputable def Jr (K:Frag):V->Option Int->Option Int->Hp->VK->Prop:=λx lo hi H Q=>∃a xs,x=.ref a/\jR K H a xs /\
 ¬(HT.d8 xs.length 0 lo=0/\HT.d8 xs.length xs.length hi=xs.length)/\∀p,H p=none->Q (.ref p) (upd H p (.tup (pQ xs lo hi)))
theorem FU:Ew X (Jr X.K):=by
 intro pins s σ H x v vl vu lo hi sl Q I rx hs pl pu h;obtain ⟨a,xs,rfl,hx,hw,q⟩:=h;cases rx;obtain ⟨its,r,ht,hz⟩:=I.tuple hx;have hlen:its.toArray.size=xs.length:=by rw[size_toArray];exact r.length.symm
 refine ⟨"tuple",_,PyProof.Rows.slot_tuple_getitem.lookup,ht.typeIs,?_⟩;refine HT.lI ht hs pl pu (by rw[hlen];exact hw) ?_ (by rw[hlen];exact hz);rw[hlen];refine ⟨.ref s.heap.objs.size,_,I.laid (t':=s.toks) (o:=.tup (pQ xs lo hi)) (λb ob q=>Heap.get?_push_of_some _ q) (Nat.le_refl _) ?_,rfl,q _ (I.bp.fresh (Nat.le_refl _))⟩;exact ⟨Nat.le_trans (m7 xs lo hi) hz,_,(r.drop (HT.d8 xs.length 0 lo)).take (HT.d8 xs.length xs.length hi - HT.d8 xs.length 0 lo),IsTup.new _ _⟩
noncomputable def Hy (K:Frag):R2:=λx y H Q=>∃a b xs ys,x=.ref a/\y=.ref b/\jR K H a xs/\jR K H b ys/\xs≠[]/\xs.length+ys.length<=sizeLine /\
 (ys = []->Q (.ref a) H)/\(ys≠[]->∀p,H p=none->Q (.ref p) (upd H p (.tup (xs++ys))))
theorem Vals.sh {xs:List V}{us:List Value}(r:Vals xs us):us = []↔xs = []:=by
 cases r with
 | nil=>simp
 | cons _ _=>simp
theorem sx:j4 X (binaryOp .Add) (Hy X.K):=by
 intro pins s σ H x y v u Q I rx ry h;obtain ⟨a,b,xs,ys,rfl,rfl,ha,hb,hx,hz,q1,q2⟩:=h;cases rx;cases ry;obtain ⟨its,r1,p1,_⟩:=I.tuple ha;obtain ⟨its2,r2,p2,_⟩:=I.tuple hb;refine HT.BP p1 p2 (λz=>hx (r1.sh.mp z)) (λz=>⟨.ref a,H,I,rfl,q1 (r2.sh.mp z)⟩) (λz=>?_) (by rw[<-r1.length,<-r2.length];exact hz);refine ⟨.ref s.heap.objs.size,_,I.laid (t':=s.toks) (o:=.tup (xs++ys)) (λb ob q=>Heap.get?_push_of_some _ q) (Nat.le_refl _) ?_,rfl,q2 (λw=>z (r2.sh.mpr w)) _ (I.bp.fresh (Nat.le_refl _))⟩;exact ⟨by rw[length_append];exact hz,_,r1.append r2,IsTup.new _ _⟩
end
end L2
namespace L2
open PySem PySem.Spec PyProof.Rows
noncomputable def w6 (n:Nat)(i:Int):Option Nat:=if 0<=i then (if i<n then some i.toNat else none) else if -(n:Int)<=i then some (i+n).toNat else none
noncomputable def gF {α:Type}(xs:List α)(i:Int):Option α:=(w6 xs.length i).bind λj=>xs[j]?
theorem Cr {n:Nat}{i:Int}{j:Nat}(h:w6 n i=some j):seqIndex? i n=some j/\j<n/\-(n:Int)<=i/\i<n:=by
 unfold w6 at h;by_cases h0:0<=i
 .rw[if_pos h0] at h;by_cases h1:i<n
  .rw[if_pos h1] at h;have e:i.toNat=j:=Option.some.inj h;exact ⟨by rw[seqIndex_of h0 h1,e],by lia,by lia,h1⟩
  .rw[if_neg h1] at h;cases h
 .rw[if_neg h0] at h;by_cases h1 : -(n:Int)<=i
  .rw[if_pos h1] at h;have e:(i+n).toNat=j:=Option.some.inj h;exact ⟨by rw[seqIndex_neg (by lia) h1,e],by lia,h1,by lia⟩
  .rw[if_neg h1] at h;cases h
theorem nO {α:Type}{xs:List α}{i:Int}{v:α}(h:gF xs i=some v):∃j,seqIndex? i xs.length=some j/\xs[j]?=some v/\j<xs.length/\-(xs.length:Int)<=i/\i<xs.length:=by
 unfold gF at h;cases e:w6 xs.length i with
 | none=>rw[e] at h;cases h
 | some j =>
  rw[e] at h;obtain ⟨h1,h2,h3,h4⟩:=Cr e;exact ⟨j,h1,h,h2,h3,h4⟩
theorem iE {α:Type}{xs:List α}{j:Nat}{v:α}(h:xs[j]?=some v):gF xs (j:Int)=some v:=by
 have hj:j<xs.length:=(List.getElem?_eq_some_iff.mp h).1;have e:w6 xs.length (j:Int)=some j:=by
  unfold w6;rw[if_pos (by lia),if_pos (by lia)];simp
 unfold gF;rw[e];exact h
noncomputable def wc (b:Expr):Prop:=∀o i,subscripted b false o i=operate [o,i] (getItem o i)
noncomputable def BE (X:Cx)(r:R2):Prop:=
 ∀(value slice:Expr) (pins:List (Addr×Obj)) (s:Shared) (σ:St) (H:Hp) (x y:V) (v u:Value) (Q:VK),Inv X pins σ H s->RelV x v->RelV y u->r x y H Q ->
  subscripted slice false v u=operate [v,u] (getItem v u)->wpAny (model X.prog X.w) X.A (subscriptTail value slice v u) (EP X pins σ Q) X.xe s
noncomputable def Gy (X:Cx)(id:String)(r:V->List V->Hp->VK->Prop):Prop:=
 ∀(pins:List (Addr×Obj)) (s:Shared) (σ:St) (H:Hp) (x:V) (xs:List V) (v:Value) (us:List Value) (Q:VK),Inv X pins σ H s->RelV x v->Vals xs us->r x xs H Q ->
  wpAny (model X.prog X.w) X.A (call (.builtin id) (v::us)) (EP X pins σ Q) X.xe s
section
variable {X:Cx} {a b:Expr} {ta tb:TE} {pos:Pos}
theorem BE.or {r r':R2}(h:BE X r)(h':BE X r'):BE X (λx y H Q=>r x y H Q\/r' x y H Q):=by
 intro value slice pins s σ H x y v u Q I rx ry q hs;rcases q with q | q
 .exact h value slice pins s σ H x y v u Q I rx ry q hs
 .exact h' value slice pins s σ H x y v u Q I rx ry q hs
theorem Hu {r:R2}(hr:BE X r)(ha:PE X a ta)(hb:PE X b tb)(hs:wc b):PE X (.Subscript a b pos) (Gm r ta tb):=by
 intro pins s σ H Q I h;exact Subscript_ (Ez ha hb I h λv u s2 x y H2 I2 rx ry q=>hr a b pins s2 σ H2 x y v u Q I2 rx ry q (hs _ _))
noncomputable def HA (K:Frag):R2:=λx y H Q=>∃p xs i v,x=.ref p/\y=.int i/\fV K H p xs/\gF xs i=some v/\Q v H
noncomputable def HC (K:Frag):R2:=λx y H Q=>∃p xs i v,x=.ref p/\y=.int i/\jR K H p xs/\gF xs i=some v/\Q v H
noncomputable def HB:R2:=λx y H Q=>∃z i c,x=.str z/\y=.int i/\z.length<=sizeLine/\gF z.cps.toList i=some c/\Q (.str ⟨#[c]⟩) H
theorem Cs:BE X (HA X.K):=by
 intro value slice pins s σ H x y v u Q I rx ry h hs;obtain ⟨p,xs,i,z,rfl,rfl,hq,he,q⟩:=h;cases rx;obtain ⟨t,rfl⟩:=ry;obtain ⟨its,r,pl,hz⟩:=I.list hq;obtain ⟨j,h1,h2,h3,h4,h5⟩:=nO he;obtain ⟨w,ew,rw'⟩:=r.get h2;have hl:=r.length;have hn:=mH;have fin:EP X pins σ Q w s:=⟨z,H,I,rw',q⟩
 by_cases h0:0<=i
 .have hj:i.toNat=j:=by
   rw[seqIndex_of h0 h5] at h1;exact Option.some.inj h1
  exact item_listR pl.isList h0 (by lia) (by rw[hj];simpa using ew) fin hs
 .have hj:(i+(its.toArray.size:Int)).toNat=j:=by
   rw[seqIndex_neg (by lia) h4] at h1;rw[size_toArray,<-hl];exact Option.some.inj h1
  exact subscriptTail_builtinR (x:=w) pl.isList.typeIs slot_list_getitem.lookup
   (wpAny_getItem_list_neg (Q:=λr s'=>r=w/\EP X pins σ Q r s') pl.isList (by lia) (by rw[size_toArray]<;>lia) (by lia) (by rw[hj];simpa using ew) ⟨rfl,fin⟩) hs
theorem EW:BE X (HC X.K):=by
 intro value slice pins s σ H x y v u Q I rx ry h hs;obtain ⟨p,xs,i,z,rfl,rfl,hq,he,q⟩:=h;cases rx;obtain ⟨t,rfl⟩:=ry;obtain ⟨its,r,pl,hz⟩:=I.tuple hq;obtain ⟨j,h1,h2,h3,h4,h5⟩:=nO he;obtain ⟨w,ew,rw'⟩:=r.get h2;have hl:=r.length;have hn:=mH;have fin:EP X pins σ Q w s:=⟨z,H,I,rw',q⟩
 exact subscriptTail_builtinR (x:=w) pl.typeIs slot_tuple_getitem.lookup
  (getItem_tuple (j:=j) (Q:=λr s'=>r=w/\EP X pins σ Q r s') pl (by lia) (by lia) (by rw[size_toArray,<-hl];exact h1) (by simpa using ew) ⟨rfl,fin⟩) hs
theorem EV:BE X HB:=by
 intro value slice pins s σ H x y v u Q I rx ry h hs;obtain ⟨z,i,c,rfl,rfl,hz,he,q⟩:=h;obtain ⟨t,rfl⟩:=rx;obtain ⟨t',rfl⟩:=ry;obtain ⟨j,h1,h2,h3,h4,h5⟩:=nO he;have hl:z.cps.toList.length=z.length:=by simp[Str.length]
 rw[hl] at h1 h4 h5;have hn:=mH;exact tail_any (typeIs_str s z t) slot_str_getitem.lookup (getItem_str (c:=c) (by
  have e1:decide (i < -(2 ^ 63:Int))=false:=decide_eq_false (by lia);have e2:decide (i>=2 ^ 63)=false:=decide_eq_false (by lia);rw[e1,e2,Bool.or_false]) (by rw[h1];simpa using h2) ⟨.str ⟨#[c]⟩,H,I.tok _,⟨_,rfl⟩,q⟩) hs
noncomputable def J5 (K:Frag):R2:=λx y H Q=>HA K x y H Q\/HC K x y H Q\/HB x y H Q
theorem EU:BE X (J5 X.K):=Cs.or (EW.or EV)
theorem sQ (lo hi:Option Int)(n:Nat):(sliceBounds lo hi none n).1=((HT.d8 n 0 lo:Nat):Int)/\(sliceBounds lo hi none n).2.1=((HT.d8 n n hi:Nat):Int)/\(sliceBounds lo hi none n).2.2=1:=by
 refine ⟨?_,?_,rfl⟩
 .cases lo with
  | none=>simp[sliceBounds,HT.d8]
  | some i =>
   simp only[sliceBounds,HT.d8,Option.getD_none,show (1:Int)>0 by decide,if_true];by_cases h:i<0
   .simp only[h,if_true]<;>lia
   .simp only[h,if_false]<;>lia
 .cases hi with
  | none=>simp[sliceBounds,HT.d8]
  | some i =>
   simp only[sliceBounds,HT.d8,Option.getD_none,show (1:Int)>0 by decide,if_true];by_cases h:i<0
   .simp only[h,if_true]<;>lia
   .simp only[h,if_false]<;>lia
theorem qj (its:List Value)(lo hi:Option Int):slicePick its.toArray lo hi none=((its.drop (HT.d8 its.length 0 lo)).take (HT.d8 its.length its.length hi - HT.d8 its.length 0 lo)).toArray:=by
 obtain ⟨h1,h2,h3⟩:=sQ lo hi its.toArray.size;unfold slicePick;rw[h1,h2,h3];simp only[sliceRange_one,pick_run,size_toArray]<;>rfl
noncomputable def Jq (K:Frag):V->Option Int->Option Int->Hp->VK->Prop:=λx lo hi H Q=>∃a xs,x=.ref a/\fV K H a xs/\∀p,H p=none->Q (.ref p) (upd H p (.lst (pQ xs lo hi)))
theorem Dj:Ew X (Jq X.K):=by
 intro pins s σ H x v vl vu lo hi sl Q I rx hs pl pu h;obtain ⟨a,xs,rfl,hx,q⟩:=h;cases rx;obtain ⟨its,r,ht,hz⟩:=I.list hx;have hlen:=r.length;refine ⟨"list",_,slot_list_getitem.lookup,ht.isList.typeIs,?_⟩;refine wpAny_getItem_list_slice ht.isList hs pl pu .none (by simp) ?_ (by rw[size_toArray]<;>lia);rw[qj,<-hlen];refine ⟨.ref s.heap.objs.size,_,I.laid (t':=s.toks) (o:=.lst (pQ xs lo hi)) (λb ob q=>Heap.get?_push_of_some _ q) (Nat.le_refl _) ?_,rfl,q _ (I.bp.fresh (Nat.le_refl _))⟩;exact ⟨Nat.le_trans (m7 xs lo hi) hz,_,0,(r.drop (HT.d8 xs.length 0 lo)).take (HT.d8 xs.length xs.length hi - HT.d8 xs.length 0 lo),Heap.get?_push_size _ rfl⟩
noncomputable def GQ:V->Bool
 | .non=>true
 | .bl _=>true
 | .int _=>true
 | .str _=>true
 | _=>false
noncomputable def JX (K:Frag)(T:String)(x:V)(H:Hp):Prop:=match x with
 | .str _=>T = "str"
 | .int _=>T = "int"
 | .ref p=>(T = "list"/\∃xs,fV K H p xs)\/(T = "tuple"/\∃o,K.lookup p=some o/\o.cls=.type "tuple"/\o.dict=none) \/
   (T = "dict"/\((∃kvs,H p=some (.dK kvs))\/∃kvs,H p=some (.dT kvs)))\/(T = "set"/\∃S n,H p=some (.set S n))
 | _=>False
theorem Ge {pins:List (Addr×Obj)}{σ:St}{H:Hp}{s:Shared}{T:String}{x:V}{v:Value}(I:Inv X pins σ H s)(r:RelV x v)(ty:JX X.K T x H) :
  s.TypeIs v T/\∀a,v=.ref a->∃ob,s.heap.get? a=some ob/\ob.dict=none:=by
 cases x with
 | str z =>
  obtain ⟨t,rfl⟩:=r;cases (show T = "str" from ty);exact ⟨typeIs_str s z t,λ_ e=>nomatch e⟩
 | int i =>
  obtain ⟨t,rfl⟩:=r;cases (show T = "int" from ty);exact ⟨typeIs_int s i t,λ_ e=>nomatch e⟩
 | ref p =>
  cases r;rcases ty with ⟨rfl,xs,hq⟩ | ⟨rfl,o,hk,hc,hd⟩ | ⟨rfl,hk⟩ | ⟨rfl,S,n,hk⟩
  .obtain ⟨its,_,pl,_⟩:=I.list hq;refine ⟨pl.isList.typeIs,λa e=>?_⟩;cases e;obtain ⟨o,n,e,c,hd,_⟩:=pl;exact ⟨o,e,hd⟩
  .refine ⟨⟨o,I.pM p o hk,hc⟩,λa e=>?_⟩;cases e;exact ⟨o,I.pM _ o hk,hd⟩
  .have z:∃o,s.heap.get? p=some o/\o.ExactDict:=by
    rcases hk with ⟨kvs,hk⟩ | ⟨kvs,hk⟩
    .obtain ⟨_,_,_,_,o,_,_,e,ex,_⟩:=I.bp p _ hk;exact ⟨o,e,ex⟩
    .obtain ⟨_,_,_,_,o,_,_,e,ex,_⟩:=I.bp p _ hk;exact ⟨o,e,ex⟩
   obtain ⟨o,e,ex⟩:=z;refine ⟨⟨o,e,ex.1⟩,λa e2=>?_⟩;cases e2;exact ⟨o,e,ex.2.1⟩
  .obtain ⟨o,_,_,_,e,ex,_⟩:=I.bp p _ hk;refine ⟨⟨o,e,ex.1⟩,λa e2=>?_⟩;cases e2;exact ⟨o,e,ex.2.1⟩
 | _=>exact False.elim ty
noncomputable def J7 (K:Frag)(T:String)(r:V->List V->Hp->VK->Prop)(to:TE)(t:TA):TE:=λσ H Q=>to σ H λx H1=>JX K T x H1/\t σ H1 λxs H2=>r x xs H2 Q
variable {o e:Expr} {es:List Expr} {to:TE} {t:TA} {name:Str} {apos cpos:Pos} {T id:String} {r:V->List V->Hp->VK->Prop}
theorem AY (pa:PlainAttrs T)(slot:Slot T name id)(hty:typeOf (.builtin id)=pure (.type "method_descriptor"))(hm:Gy X id r)(ho:PE X o to)(ha:PA X (e::es) t)
  (hbase:autoParam (attributeBase o name X.env (eval o X.env)=eval o X.env) aZa._auto_1)
  (hfew:autoParam (((backTo cpos (starEach (e::es) X.env)).all (λx=>!x.1) && (backToKw cpos (keywordEach [] X.env)).all (λx=>x.1.isSome)
   && decide ((e::es).length+([]:List Keyword).length+(if ([]:List Keyword).isEmpty then 0 else 1)<30))=true) aZa._auto_1)
  (hline:autoParam ((apos.endLine == cpos.line)=true) aZa._auto_1) (hs:autoParam (starEach (e::es) X.env=(false,eval e X.env)::starEach es X.env) aZa._auto_1) (hplain:autoParam ((backTo cpos (starEach es X.env)).any (·.1)=false) aZa._auto_1) :
  PE X (.Call (.Attribute o name apos) (e::es) [] cpos) (J7 X.K T r to t):=by
 intro pins s σ H Q I h;refine wpAny_Call_method_late hbase hfew hline rfl (bV (ho pins s σ H _ I h) ?_);rintro v s1 ⟨x,H1,I1,r1,ty,q1⟩;obtain ⟨h1,h2⟩:=Ge I1 r1 ty;refine ⟨T,id,pa,slot,hty,h1,h2,?_⟩;have hA:=ha cpos pins s1 σ H1 _ I1 q1;rw[hs] at hA ⊢;refine Calls.callWith_builtin (by show (false || (backTo cpos (starEach es X.env)).any (·.1))=false;rw[hplain]<;>rfl) (Calls.evalArgs_plain ?_);exact bV hA (by rintro us s2 ⟨vs,H2,I2,r2,q2⟩;exact hm pins s2 σ H2 x vs v us Q I2 r1 r2 q2)
end
end L2
namespace L2
open PySem PySem.Spec PyProof.Rows
noncomputable def JK (X:Cx)(id:String)(r:V->List V->Hp->VK->Prop):Prop:=
 ∀(pins:List (Addr×Obj)) (s:Shared) (σ:St) (H:Hp) (x:V) (xs:List V) (v:Value) (us:List Value) (Q:VK),Inv X pins σ H s->RelV x v->Vals xs us->r x xs H Q ->
  wpAny (model X.prog X.w) X.A (call (.builtin id) (v::us)) (EP X pins σ Q) X.xe s
theorem Vals.one:∀{x:V} {us:List Value},Vals [x] us->∃u,us = [u]/\RelV x u
 | _,_,.cons r .nil=>⟨_,rfl,r⟩
theorem Vals.rep {xs:List V}{us:List Value}(h:Vals xs us):∀k:Nat,Vals (List.replicate k xs).flatten (List.replicate k us).flatten
 | 0=>.nil
 | k+1=>by
  rw[List.replicate_succ,List.replicate_succ,List.flatten_cons,List.flatten_cons];exact Vals.append h (Vals.rep h k)
theorem foldl_rep (its:List Value):∀(k:Nat) (acc:List Value),
  List.foldl (λx1 x2=>x1++x2) acc.toArray (List.replicate k its.toArray)=(acc++(List.replicate k its).flatten).toArray
 | 0,acc=>by simp
 | k+1,acc=>by
  have e:acc.toArray++its.toArray=(acc++its).toArray:=by simp
  have e2:(acc++its)++(List.replicate k its).flatten=acc++(List.replicate (k+1) its).flatten:=by
   rw[List.replicate_succ,List.flatten_cons,append_assoc]
  rw[<-e2,<-foldl_rep its k (acc++its),<-e,List.replicate_succ,List.foldl_cons]
section
variable {X:Cx} {pins:List (Addr×Obj)} {σ:St} {H:Hp} {s:Shared} {l b:Addr} {xs ys zs:List V}
theorem Inv.Hc {its its':List Value}{n:Nat}{f:Array Value->Array Value}{t':Nat}(I:Inv X pins σ H s)(hH:H l=some (.lst xs))
  (e:s.heap.get? l=some { cls:=.type "list",data:=.seq its.toArray n }) (hf:f its.toArray=its'.toArray) (hv:Vals ys its') (hz:ys.length<=sizeLine) :
  Inv X pins σ (upd H l (.lst ys)) { s with heap:=s.heap.update l (Obj.mapSeq f),toks:=t' }:=by
 have q:=PySem.IsL.update e f;rw[hf] at q;refine I.write (x:=l) (e:=l) (by rw[hH];exact trivial) (.inl rfl) (λb' u hb hu=>(Heap.get?_update_other s.heap (Obj.mapSeq f) (Ne.symm hb)).trans hu) ⟨_,q⟩ ?_;exact ⟨hz,its',_,hv,q⟩
theorem Inv.E4 {its:List Value}{t':Nat}(I:Inv X pins σ H s)(hv:Vals ys its)(hz:ys.length<=sizeLine) :
  Inv X pins σ (upd H s.heap.objs.size (.lst ys)) { s with heap:=s.heap.push { cls:=.type "list",data:=.seq its.toArray },toks:=t' }:=
 I.laid (λ_ _ q=>Heap.get?_push_of_some _ q) (Nat.le_refl _) ⟨hz,its,0,hv,Heap.get?_push_size _ rfl⟩
theorem Inv.fresh (I:Inv X pins σ H s):H s.heap.objs.size=none:=I.bp.fresh (Nat.le_refl _)
theorem Inv.yH (I:Inv X pins σ H s)(hH:H l=some (.lst xs)):xs.length<=sizeLine/\∃(its:List Value) (n:Nat),Vals xs its/\xs.length=its.length/\s.heap.get? l=some { cls:=.type "list",data:=.seq its.toArray n }:=by
 obtain ⟨z,its,n,r,e⟩:=I.bp l _ hH;exact ⟨z,its,n,r,r.length,e⟩
theorem uC {n:Nat}(h:n<=sizeLine):Builtin.List.listTooLong n=false:=by
 unfold Builtin.List.listTooLong;exact decide_eq_false (by lia)
end
section
variable {X:Cx}
noncomputable def xE:V->List V->Hp->VK->Prop:=λx vs H Q=>∃l xs y,x=.ref l/\vs = [y]/\H l=some (.lst xs)/\xs.length<sizeLine/\Q .non (upd H l (.lst (xs++[y])))
theorem qS:JK X "list.append" xE:=by
 intro pins s σ H x vs v us Q I rx rv h;obtain ⟨l,xs,y,rfl,rfl,hH,hz,q⟩:=h;cases rx;obtain ⟨u,rfl,ru⟩:=rv.one;obtain ⟨z,its,n,r,hl,e⟩:=I.yH hH;refine call_meets F.slot_list_append ⟨_,e,rfl⟩ F.entry_list_append (F.args_list_append_2 _ _) (PySem.list_append l its.toArray n u (by rw[size_toArray];lia)) ⟨e,?_⟩;refine ⟨.non,_,I.Hc (its':=its++[u]) hH e (by simp) (r.append (.cons ru .nil)) ?_,rfl,q⟩;rw[length_append,List.length_singleton];lia
noncomputable def Dc:V->List V->Hp->VK->Prop:=λx vs H Q=>∃l b xs zs,x=.ref l/\vs = [.ref b]/\H l=some (.lst xs)/\H b=some (.lst zs)/\xs.length+zs.length<=sizeLine/\Q .non (upd H l (.lst (xs++zs)))
theorem yK:JK X "list.extend" Dc:=by
 intro pins s σ H x vs v us Q I rx rv h;obtain ⟨l,b,xs,zs,rfl,rfl,hH,hB,hz,q⟩:=h;cases rx;obtain ⟨u,rfl,ru⟩:=rv.one;cases ru;obtain ⟨z,its,n,r,hl,e⟩:=I.yH hH;obtain ⟨z2,its2,n2,r2,hl2,e2⟩:=I.yH hB;have hsz:its.toArray.size+its2.toArray.size<=sizeLine:=by rw[size_toArray,size_toArray];lia
 have hlong:¬(!its.toArray.isEmpty && Builtin.List.listTooLong (its.toArray.size+its2.toArray.size))=true:=by
  rw[uC hsz,Bool.and_false];exact Bool.false_ne_true
 refine call_meets F.slot_list_extend ⟨_,e,rfl⟩ F.entry_list_extend (F.args_list_extend_2 _ _)
  (AutoSeq1.list_extend_list_list_0 l its.toArray n b its2.toArray n2 hlong (by rw[size_toArray];lia) (by lia)) ⟨e,e2,?_⟩
 refine ⟨.non,_,I.Hc (its':=its++its2) hH e (by simp) (r.append r2) ?_,rfl,q⟩;rw[length_append];lia
noncomputable def Jn:R2:=λx y H Q=>∃l b xs zs,x=.ref l/\y=.ref b/\H l=some (.lst xs)/\H b=some (.lst zs)/\xs.length+zs.length<=sizeLine/\∀p,H p=none->Q (.ref p) (upd H p (.lst (xs++zs)))
theorem Fh:j4 X (binaryOp .Add) Jn:=by
 intro pins s σ H x y v u Q I rx ry h;obtain ⟨l,b,xs,zs,rfl,rfl,hH,hB,hz,q⟩:=h;cases rx;cases ry;obtain ⟨z,its,n,r,hl,e⟩:=I.yH hH;obtain ⟨z2,its2,n2,r2,hl2,e2⟩:=I.yH hB;refine PySem.P.add_list e e2 ?_ (by rw[size_toArray,size_toArray];lia);have ea:its.toArray++its2.toArray=(its++its2).toArray:=by simp
 rw[ea];exact ⟨.ref _,_,I.E4 (t':=s.toks) (r.append r2) (by rw[length_append];lia),rfl,q _ I.fresh⟩
noncomputable def Jp:R2:=λx y H Q=>∃l k xs,x=.ref l/\y=.int k/\H l=some (.lst xs)/\-(2 ^ 63)<=k/\k<2 ^ 63/\xs.length*k.toNat<=sizeLine /\
 ∀p,H p=none->Q (.ref p) (upd H p (.lst (List.replicate k.toNat xs).flatten))
theorem len_rep {α:Type}(xs:List α)(k:Nat):(List.replicate k xs).flatten.length=k*xs.length:=by
 induction k with
 | zero=>simp
 | succ k ih=>rw[List.replicate_succ,List.flatten_cons,length_append,ih,Nat.succ_mul,Nat.add_comm]
theorem Fq:j4 X (binaryOp .Mult) Jp:=by
 intro pins s σ H x y v u Q I rx ry h;obtain ⟨l,k,xs,rfl,rfl,hH,h1,h2,hz,q⟩:=h;cases rx;obtain ⟨t,rfl⟩:=ry;obtain ⟨z,its,n,r,hl,e⟩:=I.yH hH;have hlen:its.toArray.size*k.toNat<=sizeLine:=by rw[size_toArray,<-hl];exact hz
 have hcap:¬its.toArray.size*k.toNat>(2 ^ 63 - 1) / 8:=by
  have:(sizeLine:Nat)<=(2 ^ 63 - 1) / 8:=by decide
  lia
 have hfit:¬(!Builtin.List.listFitsIndex k)=true:=by
  rw[fitsIndex_both h1 h2];exact Bool.false_ne_true
 have hlong:¬Builtin.List.listTooLong (its.toArray.size*k.toNat)=true:=by
  rw[uC hlen];exact Bool.false_ne_true
 have hnew:List.foldl (λx1 x2=>x1++x2) #[] (List.replicate (if its.toArray.isEmpty=true then 0 else k.toNat) its.toArray)=(List.replicate k.toNat its).flatten.toArray:=by
  have f0:∀m:Nat,List.foldl (λx1 x2=>x1++x2) #[] (List.replicate m its.toArray)=(List.replicate m its).flatten.toArray:=λm=>by
   have:=foldl_rep its m [];rw[List.nil_append] at this;exact this
  rw[f0];cases its with
  | nil=>simp
  | cons a r'=>rw[if_neg (by simp)]
 refine wpAny_binaryOp_repeat_ref (T:="list") (U:="int") (by decide) ⟨_,e,rfl⟩ (λs'=>typeIs_int s' k t) noFill_list_mul F.fills_int_mul F.slot_int_rmul repeat_list F.slot_int_index.lookup
  (call_meets F.slot_int_rmul (typeIs_int s k t) F.entry_int_rmul (F.args_int_rmul_2 _ _) (int___rmul___int_list k t l its.toArray n)
   ⟨e,rfl,⟨_,e,rfl⟩,call_meets F.slot_list_mul ⟨_,e,rfl⟩ F.entry_list_mul (F.args_list_mul_2 _ _) (AutoListH.list___mul___list_int_3 l its.toArray n k t hfit hcap hlong) ⟨e,?_⟩⟩)
 rw[hnew];exact ⟨.ref _,_,I.E4 (t':=s.toks) (r.rep k.toNat) (by rw[len_rep,Nat.mul_comm];exact hz),rfl,q _ I.fresh⟩
end
section
variable {prog:Program} {w:World} {A:Around} {E:Value->Shared->Prop} {s:Shared}
end
section
variable {X:Cx}
end
end L2
namespace Att
open PySem PySem.W PySem.Calls PyProof.Rows
theorem nF {P:Params}{h:Heap}:∀(ns:List Int) (vs:List Value),WellAll P h vs (ns.map WData.int)->IntsAre vs ns:=by
 intro ns;induction ns with
 | nil =>
  intro vs w;rw[List.map_nil] at w;cases w;exact .nil
 | cons n ns ih =>
  intro vs w;rw[map_cons] at w;cases w with
  | cons a b =>
   cases a;exact .cons _ _ (ih _ b)
theorem zb {l:OpenLaw}{n:Nat}(hn:l.most=some n){P:Params}{h:Heap}{args:List WData}{vals:List Value}
  (hpre:l.row.toRowW.claim.pre args=true) (hwl:WellAll P h vals args) :
  ∃a vs ns,vals = [Value.ref a]/\args = [WData.list (ns.map WData.int)]/\h.get? a=some { cls:=.type "list",data:=.seq vs.toArray }/\IntsAre vs ns/\ns.length<=n:=by
 have hsh:WShape.hasAll [] args [.list .int]=true:=(pre_splitW hpre).1;have hc:l.pre.holds [] { args:=args }=true:=(pre_splitW hpre).2;obtain ⟨d,r,rfl,h1,h2⟩:=hasAllW_cons hsh;obtain rfl:=hasAllW_nil h2;obtain ⟨xs,rfl,h3⟩:=hasW_list h1;obtain ⟨ns,rfl⟩:=items_int h3;have hlen:ns.length<=n:=by
  unfold OpenLaw.pre at hc;have h4:(WTm.not (.lt (.lit (.int (n:Int))) (.len (.arg 0)))).holds [] { args:=[.list (ns.map .int)] }=true:=by
   have h4:=(holds_andW hc).1;rw[hn] at h4;exact h4
  have h5:=condW_of h4 (w_not (w_lt w_lit (w_len_list (w_arg rfl))));rw[length_map] at h5;refine Nat.le_of_not_lt λq=>?_;have q':(n:Int)<((ns.length:Nat):Int):=by lia
  first
   | (rw[decide_eq_true q'] at h5;exact absurd h5 (by decide))
   | (simp at h5;lia)
 cases hwl with
 | cons w1 w2 =>
  cases w2;cases w1 with
  | list ho hall=>exact ⟨_,_,ns,rfl,rfl,ho,nF ns _ hall,hlen⟩
theorem yU (l:OpenLaw)(args:List WData):l.row.toRowW.claim.post args (.bool true) args=true:=
 postW_of (r:=l.row.toRowW) (X:=(true == true))
  (show WShape.has [] (.bool true) .bool=true by first | rfl | decide | simp[WShape.has,WShape.arms,WShape.armsAll])
  (show (WTm.eq .res (.lit (.bool true))).value [] { args:=args,res:=some (.bool true),after:=args }=some (.bool (true == true)) from w_eq_bool (w_res rfl) w_lit) rfl
theorem tu {l:OpenLaw}{n:Nat}{q:Program}{loose:List Str}{XP:(Str->Option Value)->Heap->Prop}{YP:World->Heap->Prop}{d:DefRec}
  (hn:l.most=some n) (hdf:d.params.defaults = [])
  (call:∀(w:World) (s₀ s₁:Shared) (mg mb:Str->Option Value) (fa:Addr) (o:Obj) (pm cd doc:Value) (a:Addr) (vs:List Value) (ns:List Int),
   Ground q loose [] XP w s₀ mg mb s₁.heap->YP w s₁.heap ->
   s₁.heap.get? fa=some o->o.data=.func (docDef d.name d.params d.body d.scope pm cd doc)->s₁.heap.CodeRec cd d.name->mg d.name=some (.ref fa) ->
   s₁.heap.get? a=some { cls:=.type "list",data:=.seq vs.toArray }->IntsAre vs ns->ns.length<=n->s₁.gens = #[] ->
   codeAny (model l.prog w) callerA (.call (.ref fa) ⟨[.ref a],[]⟩) (λr s'=>r=.ok (.ret (.bool true))/\OldK s₁.heap s'.heap/\s'.os=s₁.os/\AllBare s'.gens) s₁) :
  WalkO q loose XP YP l.row.toRowW d [] (λf vs=>PySem.call f vs):=by
 intro w s₀ s₁ mg mb G Y fa o pm cd doc dV kV ho hd hcd hD hmg hg args vals as hpre hlay hrd hwl hlo;obtain rfl:dV=.none:=Dflts.none hD hdf;obtain rfl:kV=.none:=Dflts.noKw hD;obtain ⟨a,vs,ns,rfl,rfl,hobj,hints,hlen⟩:=zb hn hpre hwl;refine enter_call (codeAny_mono (call w s₀ s₁ mg mb fa o pm cd doc a vs ns G Y ho (fd_plain hd) hcd hmg hobj hints hlen hg) λr s' hq=>?_);obtain ⟨rfl,h2,h3,h4⟩:=hq;exact ⟨.inl ⟨.bool true,.bool true,[],rfl,λ_=>rfl,.bool true,yU l _,λ_=>⟨List.Pairwise.nil,λ_ hm=>(nomatch hm)⟩⟩,h2,h3,h4⟩
section
variable {prog:Program} {w:World} {A:Around} {E:Value->Shared->Prop} {s:Shared} {K:Frag}
end
end Att
namespace L2
open PySem PySem.Spec PyProof.Rows
theorem rj:∀{vs:List Value} {ns:List Int},IntsAre vs ns->Vals (ns.map V.int) vs
 | _,_,.nil=>.nil
 | _,_,.cons n t h=>.cons ⟨t,rfl⟩ (rj h)
end L2
namespace L2
open PySem PySem.Spec PyProof.Rows
end L2
namespace L2
open PySem PySem.Spec PyProof.Rows
noncomputable def az (s:Stmt):Arguments:=match s with
 | .FunctionDef _ a _ _ _ _ _ _ _ _=>a
 | _=>{ posonlyargs:=[],args:=[],vararg:=none,kwonlyargs:=[],kw_defaults:=[],kwarg:=none,defaults:=[] }
noncomputable def av (s:Stmt):List Stmt:=match s with
 | .FunctionDef _ _ b _ _ _ _ _ _ _=>b
 | _=>[]
noncomputable def af (s:Stmt):Scope:=match s with
 | .FunctionDef _ _ _ _ _ _ sc _ _ _=>sc
 | _=>{ kind:=.function,names:=[],isGenerator:=false,isCoroutine:=false }
noncomputable abbrev fU:Bz:=λ_ _ _ _ _ _=>False
noncomputable abbrev E0:XK:=λ_ _ _=>False
theorem Hq {X:Cx}:Passes fU X E0:=λ_ _ _ _ _ _ _ h=>h.elim
structure je (K:Frag)(x qual:Str)(st:Stmt)(f:Addr)(fd:FuncData):Prop where
 ex:∃(oc:Value) (od:Option Addr) (kV doc pm:Value) (an:Option Addr) (cdv ct:Value) (osl:Array (Option Value)),
  fd=fnOf x qual (az st) (av st) (af st) .none kV doc pm an cdv ct/\K.lookup f=some ⟨oc,od,.func fd,osl⟩/\codeIn K cdv qual=true
 kp:keepIn K (.ref f)=true
section
variable {P:Program} {w:World} {K:Frag} {mg:Str->Option Value} {base:Heap}
theorem je.ok {x qual:Str}{st:Stmt}{f:Addr}{fd:FuncData}{N ps:List Str}{k:Nat}{sp:Sp}(F:je K x qual st f fd)(S:aC N ps (af st))(len:∀vs H Q E,sp vs H Q E->vs.length=ps.length)
  (hbody:∀(cdv:Value) (A:Around) (outer:List Env) (s:Shared) (H:Hp) (vs:List V) (Q:VK) (E:XK),cY k (A.deeper (envOfC qual (af st) s.heap.objs.size f cdv))->sp vs H Q E ->
   ∃t,qp (rG fU P w K mg base N qual (af st) f cdv A outer s H E).Eb (av st) t/\t { nx:=λ_ H'=>Q .non H',rt:=Q } (start N vs) H):bx P w K mg base fU (k+1) f fd ps sp:=by
 obtain ⟨oc,od,kV,doc,pm,an,cdv,ct,osl,rfl,lk,hcd⟩:=F.ex;refine D3 lk hcd S len λA outer s H vs Q E hr hsp=>?_;obtain ⟨t,h,q⟩:=hbody cdv A outer s H vs Q E hr hsp;exact ⟨t,h.Eb,q⟩
theorem je.binds {x qual:Str}{st:Stmt}{f:Addr}{fd:FuncData}{ps:List Str}(F:je K x qual st f fd)
  (h:∀(kV doc pm:Value) (an:Option Addr) (cdv ct:Value) (us:List Value),us.length=ps.length->bindArgs (fnOf x qual (az st) (av st) (af st) .none kV doc pm an cdv ct) ⟨us,[]⟩=pure (ps.zip us)):Binds K fd ps []:=by
 obtain ⟨oc,od,kV,doc,pm,an,cdv,ct,osl,rfl,lk,hcd⟩:=F.ex;exact .all (h kV doc pm an cdv ct)
theorem aY {x qual:Str}{st:Stmt}{f:Addr}{oc:Value}{od an:Option Addr}{osl:Array (Option Value)}{kV doc pm cdv ct:Value}(l:K.lookup f=some ⟨oc,od,.func (fnOf x qual (az st) (av st) (af st) .none kV doc pm an cdv ct),osl⟩)
  (c:codeIn K cdv qual=true) (k:keepIn K (.ref f)=true):je K x qual st f (fnOf x qual (az st) (av st) (af st) .none kV doc pm an cdv ct):=⟨⟨oc,od,kV,doc,pm,an,cdv,ct,osl,rfl,l,c⟩,k⟩
end
theorem ki {A:Around}{k:Nat}(hr:cY k A):A.units+1<cLine:=Nat.lt_of_le_of_lt (Nat.add_le_add_left (by decide:1<=64) _) hr.units
theorem iA {n:Nat}(h:n<=1000):n<sizeLine:=Nat.lt_of_le_of_lt h (by decide)
section
variable {X:Cx}
theorem pv (i:Nat){x:Str}{pos:Pos}(hN:autoParam (X.N[i]?=some x) aZa._auto_1)(hv:autoParam (vj X.env.scope x) aZe._auto_1)(hd:autoParam ((x == ("__debug__" : Str))=false) aZb._auto_1)
  (hcd:autoParam ((x == ("__classdict__" : Str))=false) aZb._auto_1):PE X (.Name x pos) (Ds i):=gz hN hv hd hcd
end
theorem r6 {A B:Prop}(h:B):if false=true then A else B:=by
 rw[if_neg Bool.false_ne_true];exact h
theorem pT {A B:Prop}(h:A):if true=true then A else B:=by
 rw[if_pos rfl];exact h
noncomputable def aq (H H':Hp):Prop:=∀b o,H b=some o->H' b=some o
theorem aq.refl (H:Hp):aq H H:=λ_ _ h=>h
theorem aq.trans {H H1 H2:Hp}(a:aq H H1)(b:aq H1 H2):aq H H2:=λc o h=>b c o (a c o h)
theorem aq.free {H H':Hp}(e:aq H H'){l:Addr}(h:H' l=Option.none):H l=Option.none:=by
 cases q:H l with
 | none=>rfl
 | some o =>
  rw[e l o q] at h;cases h
theorem aq.seq {K:Frag}{H H':Hp}{a:Addr}{xs:List V}(e:aq H H')(h:fV K H a xs):fV K H' a xs:=by
 rcases h with (h | ⟨o,h⟩) | h
 .exact .inl (.inl (e _ _ h))
 .exact .inl (.inr ⟨o,e _ _ h⟩)
 .exact .inr h
end L2
namespace L2
open PySem PySem.Spec PyProof.Rows
noncomputable def vm (X:Cx)(scope:Scope)(N':List Str)(cl:List (Str×Addr))(fp:List Addr)(C:Addr)(s:Shared)(H:Hp):Cx:=
 { X with N:=N',s₀:=s,H₀:=H,env:=compEnvC scope cl C X.env,outer:=X.stack,stack:=X.stack,ex:=fp,fn:=λ_=>false,pn:=[],xe:=λ_ _=>False }
noncomputable def lj (sc0:Scope)(N0:List Str)(scope:Scope)(N':List Str)(fr:List (Option Nat)):Bool:=
 decide (scope.kind=.function) && scope.names.all (λy=>decide (y.2≠.cell)) && scope.names.all (λy=>decide (y.2=.local->scope.names.lookup y.1=some .local)) &&
 scope.names.all (λy=>decide (y.2=.free->(sc0.names.lookup y.1=some .cell\/sc0.names.lookup y.1=some .free))) && decide (fr.length=N'.length) &&
 (List.range N'.length).all (λi=>match fr[i]?,N'[i]? with
  | some (some j),some x=>decide (N0[j]?=some x) && decide (scope.names.lookup x=some .free) && decide (sc0.names.lookup x=some .cell\/sc0.names.lookup x=some .free)
  | _,_=>true)
structure n6 (sc0:Scope)(N0:List Str)(scope:Scope)(N':List Str)(fr:List (Option Nat)):Prop where
 kind:scope.kind=.function
 AQ:∀y∈scope.names,y.2≠.cell
 names:∀y∈scope.names,y.2=.local->scope.names.lookup y.1=some .local
 frees:∀y∈scope.names,y.2=.free->(sc0.names.lookup y.1=some .cell\/sc0.names.lookup y.1=some .free)
 len:fr.length=N'.length
 fix:∀(i j:Nat) (x:Str),fr[i]?=some (some j)->N'[i]?=some x->N0[j]?=some x/\scope.names.lookup x=some .free/\(sc0.names.lookup x=some .cell\/sc0.names.lookup x=some .free)
theorem ym {sc0:Scope}{N0:List Str}{scope:Scope}{N':List Str}{fr:List (Option Nat)}(h:lj sc0 N0 scope N' fr=true):n6 sc0 N0 scope N' fr:=by
 unfold lj at h;rw[Bool.and_eq_true,Bool.and_eq_true,Bool.and_eq_true,Bool.and_eq_true,Bool.and_eq_true] at h;obtain ⟨⟨⟨⟨⟨h1,h2⟩,h3⟩,h4⟩,h5⟩,h6⟩:=h;refine ⟨of_decide_eq_true h1,λy hy=>of_decide_eq_true (List.all_eq_true.mp h2 y hy),λy hy=>of_decide_eq_true (List.all_eq_true.mp h3 y hy),λy hy=>of_decide_eq_true (List.all_eq_true.mp h4 y hy),of_decide_eq_true h5,λi j x e1 e2=>?_⟩;have hi:i<N'.length:=(List.getElem?_eq_some_iff.mp e2).1;have q:=List.all_eq_true.mp h6 i (mem_range.mpr hi);rw[e1,e2] at q;dsimp only at q;rw[Bool.and_eq_true,Bool.and_eq_true] at q;exact ⟨of_decide_eq_true q.1.1,of_decide_eq_true q.1.2,of_decide_eq_true q.2⟩
noncomputable def sU (env:Env):List (Str×NameKind)->List (Str×Addr)->List (Str×Addr)
 | [],cs=>cs
 | (n,k)::r,cs=>if k=.free then sU env r ((n,(env.cells.lookup n).getD 0)::cs) else sU env r cs
theorem mem_of_lookup {α:Type}:∀{l:List (Str×α)} {x:Str} {v:α},l.lookup x=some v->(x,v)∈l
 | [],_,_,h=>by simp at h
 | (y,w)::r,x,v,h=>by
  cases hx:x == y with
  | true =>
   simp only[lookup_cons,hx] at h;cases h;rw[beq_iff_eq.mp hx];exact mem_cons_self
  | false =>
   simp only[lookup_cons,hx] at h;exact mem_cons_of_mem _ (mem_of_lookup h)
theorem rE {env:Env}:∀{l:List (Str×NameKind)} {cs:List (Str×Addr)} {p:Str×Addr},p∈sU env l cs->p∈cs\/(∃y∈l,y.2=.free/\p=(y.1,(env.cells.lookup y.1).getD 0))
 | [],_,_,h=>.inl h
 | (n,k)::r,cs,p,h=>by
  unfold sU at h;by_cases hk:k=.free
  .rw[if_pos hk] at h;rcases rE h with q | ⟨y,hy,e1,e2⟩
   .rcases List.mem_cons.mp q with q | q
    .exact .inr ⟨(n,k),mem_cons_self,hk,q⟩
    .exact .inl q
   .exact .inr ⟨y,mem_cons_of_mem _ hy,e1,e2⟩
  .rw[if_neg hk] at h;rcases rE h with q | ⟨y,hy,e1,e2⟩
   .exact .inl q
   .exact .inr ⟨y,mem_cons_of_mem _ hy,e1,e2⟩
theorem om {env:Env}:∀{l:List (Str×NameKind)} {cs:List (Str×Addr)} {p:Str×Addr},p∈cs->p∈sU env l cs
 | [],_,_,h=>h
 | (n,k)::r,cs,p,h=>by
  unfold sU;by_cases hk:k=.free
  .rw[if_pos hk];exact om (mem_cons_of_mem _ h)
  .rw[if_neg hk];exact om h
theorem nP {env:Env}:∀{l:List (Str×NameKind)} {cs:List (Str×Addr)} {x:Str},(x,NameKind.free)∈l->(x,(env.cells.lookup x).getD 0)∈sU env l cs
 | [],_,_,h=>nomatch h
 | (n,k)::r,cs,x,h=>by
  unfold sU;rcases List.mem_cons.mp h with q | q
  .cases q;rw[if_pos rfl];exact om mem_cons_self
  .by_cases hk:k=.free
   .rw[if_pos hk];exact nP q
   .rw[if_neg hk];exact nP q
theorem hJ {α:Type}:∀{l:List (Str×α)} {x:Str} {v:α},(x,v)∈l->∃w,l.lookup x=some w
 | [],_,_,h=>nomatch h
 | (y,w)::r,x,v,h=>by
  cases hx:x == y with
  | true=>exact ⟨w,by simp[lookup_cons,hx]⟩
  | false =>
   rcases List.mem_cons.mp h with q | q
   .cases q;simp at hx
   .obtain ⟨w',e⟩:=hJ q;exact ⟨w',by simp[lookup_cons,hx,e]⟩
theorem ky {env:Env}:∀(l:List (Str×NameKind)) (cs:List (Str×Addr)),(∀y∈l,y.2=.free->∃c,env.cells.lookup y.1=some c) ->
    (forIn l cs λ(x:Str×NameKind) (r:List (Str×Addr))=>(if (x.2 == NameKind.free)=true then do let a <-cellOf env x.1;pure (ForInStep.yield ((x.1,a)::r)) else pure (ForInStep.yield r):Sem (ForInStep (List (Str×Addr)))))=pure (sU env l cs)
  | [],cs,_=>rfl
  | (n,k)::r,cs,h=>by
    rw[List.forIn_cons];by_cases hk:k=.free
    · subst hk;obtain ⟨c,e⟩:=h (n,.free) mem_cons_self rfl;have hc:cellOf env n=pure c:=by unfold cellOf;rw[e]
      have ih:=ky r ((n,c)::cs) λy hy=>h y (mem_cons_of_mem _ hy);simp only[beq_self_eq_true,if_true,hc];unfold sU;rw[if_pos rfl,e];exact ih
    · have hb : (k == NameKind.free) = false := by simpa using hk
      have ih:=ky r cs λy hy=>h y (mem_cons_of_mem _ hy);simp only[hb,Bool.false_eq_true,if_false];unfold sU;rw[if_neg hk];exact ih
theorem vq {scope:Scope}{env:Env}(h:∀y∈scope.names,y.2=.free->∃c,env.cells.lookup y.1=some c):closureFor scope env=pure (sU env scope.names []):=by
 unfold closureFor;have:=ky scope.names [] h;first
  | (rw[this];rfl)
  | (refine Eq.trans ?_ this;rfl)
  | (simp only[this];rfl)
theorem jT {env:Env}{l:List (Str×NameKind)}(h:∀y∈l,y.2=.free->∃c,env.cells.lookup y.1=some c){x:Str}{c:Addr}(e:(sU env l []).lookup x=some c):env.cells.lookup x=some c:=by
 rcases rE (mem_of_lookup e) with q | ⟨y,hy,e1,e2⟩
 .exact nomatch q
 .obtain ⟨c',ec⟩:=h y hy e1;have e3:x=y.1:=congrArg Prod.fst e2;have e4:c=(env.cells.lookup y.1).getD 0:=congrArg Prod.snd e2;rw[ec] at e4;rw[e3,ec,e4];rfl
theorem sM {scope:Scope}{env:Env}{x:Str}:scope.names.lookup x=some .free->(relabel scope env).names.lookup x=some .cell\/(relabel scope env).names.lookup x=some .free:=by
 show scope.names.lookup x=some .free->(scope.names.map _).lookup x=_\/(scope.names.map _).lookup x=_;induction scope.names with
 | nil=>intro h;simp at h
 | cons p r ih =>
  intro h;obtain ⟨n,k⟩:=p;rw[map_cons];cases hx:x == n with
  | true =>
   simp only[lookup_cons,hx] at h;cases h;dsimp only;split
   .exact .inl (by simp[lookup_cons,hx])
   .exact .inr (by simp[lookup_cons,hx])
  | false =>
   simp only[lookup_cons,hx] at h;dsimp only;split<;>(simp only[lookup_cons,hx];exact ih h)
theorem sL {scope:Scope}{env:Env}{x:Str}(nc:∀y∈scope.names,y.2≠.cell):((relabel scope env).names.lookup x=some .cell\/(relabel scope env).names.lookup x=some .free)->scope.names.lookup x=some .free:=by
 show ((scope.names.map _).lookup x=_\/(scope.names.map _).lookup x=_)->_;revert nc;induction scope.names with
 | nil=>intro _ h;simp at h
 | cons p r ih =>
  intro nc h;obtain ⟨n,k⟩:=p;rw[map_cons] at h;have ih':=ih (λy hy=>nc y (mem_cons_of_mem _ hy));cases hx:x == n with
  | true =>
   simp only[lookup_cons,hx];dsimp only at h;by_cases hc:(k == NameKind.free && env.scope.kind == .function && env.kindOf n == some .cell)=true
   .simp only[Bool.and_eq_true] at hc;have:k=.free:=by simpa using hc.1.1
    rw[this]
   .rw[if_neg hc] at h;simp only[lookup_cons,hx] at h;rcases h with h | h
    .cases h;exact absurd rfl (nc (n,.cell) mem_cons_self)
    .exact h
  | false =>
   simp only[lookup_cons,hx];dsimp only at h;refine ih' ?_;by_cases hc:(k == NameKind.free && env.scope.kind == .function && env.kindOf n == some .cell)=true
   .rw[if_pos hc] at h;simpa only[lookup_cons,hx] using h
   .rw[if_neg hc] at h;simpa only[lookup_cons,hx] using h
theorem Un.but {fs ex:List Addr}{H H':Hp}{h h1 h2:Heap}{C:Addr}(u:Un fs ex H H' h h1)(sb:Heap.SameBut C h1 h2)(hC:h.objs.size<=C):Un fs ex H H' h h2:=by
 have ne:∀b o,h.get? b=some o->b≠C:=λb o e=>Nat.ne_of_lt (Nat.lt_of_lt_of_le (Heap.lt_size e) hC);refine ⟨λb o e n hb hx=>(sb.2 b (ne b o e)).trans (u.keep b o e n hb hx),λb o e n hb hx=>?_,u.free,λb o e hx=>?_,u.qk,u.nE,u.nL⟩
 .obtain ⟨sl,q⟩:=u.slot b o e n hb hx;exact ⟨sl,(sb.2 b (ne b o e)).trans q⟩
 .obtain ⟨o',q⟩:=u.there b o e hx;exact ⟨o',(sb.2 b (ne b o e)).trans q⟩
theorem j3.but {P:Program}{w:World}{H:Hp}{h1 h2:Heap}{C:Addr}(x:j3 P w H h1)(hC:H C=none)(sb:Heap.SameBut C h1 h2):j3 P w H h2:=λb ob e=>by
 refine (x b ob e).fS (λc w' hc q=>(sb.2 c ?_).trans q) (λ_ q=>q) λ_ _ q=>q;rintro rfl;rcases hc with rfl | hc
 .rw[hC] at e;cases e
 .rw[hC] at hc;cases hc
noncomputable def nD (fr:List (Option Nat))(σ:St):St:=fr.map λo=>match o with | none=>none | some j=>(σ[j]?).getD none
theorem Ah {fr:List (Option Nat)}{σ:St}{i:Nat}{v:V}(e:(nD fr σ)[i]?=some (some v)):∃j,fr[i]?=some (some j)/\σ[j]?=some (some v):=by
 unfold nD at e;rw[getElem?_map] at e;cases q:fr[i]? with
 | none=>rw[q] at e;cases e
 | some o =>
  rw[q] at e;cases o with
  | none=>cases e
  | some j =>
   refine ⟨j,rfl,?_⟩;have e':(σ[j]?).getD none=some v:=Option.some.inj e;cases r:σ[j]? with
   | none=>rw[r] at e';cases e'
   | some y=>rw[r] at e';rw[<-e'];rfl
section
variable {X:Cx} {pins:List (Addr×Obj)} {σ:St} {H:Hp} {s:Shared}
theorem EA {scope:Scope}{N':List Str}{fr:List (Option Nat)}{fp:List Addr}(I:Inv X pins σ H s)(S:n6 X.env.scope X.N scope N' fr)(hf:∀b∈fp,ku X pins H b)(ho:∀b∈fp,∃o,s.heap.get? b=some o) :
  (vm X scope N' (sU X.env scope.names []) fp s.heap.objs.size s H).Ok:=by
 have has:∀y∈scope.names,y.2=.free->∃c,X.env.cells.lookup y.1=some c:=λy hy hk=>I.ok.has y.1 (S.frees y hy hk);refine ⟨I.ok.mod,S.kind,I.ok.glob,I.ok.blt,Nat.le_refl _,λx y c e1 e2=>I.ok.inj x y c (jT has e1) (jT has e2),λx hx=>?_,λx c hx=>(nomatch hx),I.ok.hd,I.ok.frames,.inl rfl,λb hb=>⟨?_,λx c e=>(hf b hb).2.2.2.2.1 x c (jT has e)⟩,I.bs,Nat.le_trans I.ok.DN I.sz,λb o e hb=>?_,λb hb hz=>?_,I.stack,I.xQ⟩
 .have q:=sL (env:=X.env) S.AQ (x:=x) hx;exact hJ (nP (mem_of_lookup q))
 .obtain ⟨o,e⟩:=ho b hb;exact Nat.ne_of_lt (Heap.lt_size e)
 .rcases (hf b hb).2.2.2.1 with z | z
  .exact I.ok.AR b o e z
  .exact absurd (Nat.lt_of_lt_of_le (Heap.lt_size e) (Nat.le_trans I.ok.DN z)) (Nat.lt_irrefl _)
 .rcases List.mem_cons.mp (I.vW b hz) with z | z
  .exact (hf b hb).2.1 z
  .exact (hf b hb).2.2.1 z
theorem x8 {scope:Scope}{N':List Str}{fr:List (Option Nat)}{fp:List Addr}{h₁:Heap}{m₁:Str->Option Value}{tk:Nat}(I:Inv X pins σ H s)(S:n6 X.env.scope X.N scope N' fr)(hf:∀b∈fp,ku X pins H b)(ho:∀b∈fp,∃o,s.heap.get? b=some o)
  (hn:h₁.Ns s.heap.objs.size m₁) (hk:∀b o,s.heap.get? b=some o->h₁.get? b=some o) :
  Inv (vm X scope N' (sU X.env scope.names []) fp s.heap.objs.size s H) [] (nD fr σ) H { s with heap:=h₁,toks:=tk }:=by
 have has:∀y∈scope.names,y.2=.free->∃c,X.env.cells.lookup y.1=some c:=λy hy hk=>I.ok.has y.1 (S.frees y hy hk);have cellK:∀c v,s.heap.IsCell c v->h₁.IsCell c v:=by rintro c v ⟨o,e,d⟩;exact ⟨o,hk c o e,d⟩
 refine ⟨EA I S hf ho,rfl,I.bare,Un.kept hk,⟨m₁,hn,λi x v e1 e2 e3=>?_⟩,λx c e=>?_,I.bp.fresh (Nat.le_refl _),λx c e=>I.jf x c (jT has e),λp hp=>(nomatch hp),I.bp.kept hk,?_⟩
 .obtain ⟨j,q1,q2⟩:=Ah e2;obtain ⟨z1,z2,z3⟩:=S.fix i j x q1 e1;obtain ⟨m,hm,hl⟩:=I.loc;obtain ⟨u,ru,lk⟩:=hl j x v z1 q2 (.inr z3);refine ⟨u,ru,.inr ⟨sM (env:=X.env) z2,?_⟩⟩;rcases lk with ⟨k,_⟩ | ⟨k,c,e,z⟩
  .have k':X.env.scope.names.lookup x=some .local:=k;rcases z3 with z3 | z3<;>(rw[z3] at k';cases k')
  .obtain ⟨c',ec⟩:=hJ (nP (env:=X.env) (cs:=[]) (mem_of_lookup z2));have:=jT has ec;rw[e] at this;cases this;exact ⟨c,ec,cellK c _ z⟩
 .obtain ⟨v,z⟩:=I.cell x c (jT has e);exact ⟨v,cellK c v z⟩
 .show (nD fr σ).length=N'.length;unfold nD;rw[length_map];exact S.len
end
noncomputable def xY (X:Cx)(ifs:List Expr)(t:TT):Prop:=
  ∀(pins:List (Addr×Obj)) (s:Shared) (σ:St) (H:Hp) (Q:Bool->Hp->Prop),Inv X pins σ H s->t σ H Q ->
    wpAny (model X.prog X.w) X.A (forIn ifs true λc r=>if r=true then do let ok <-isTrue c X.env (eval c X.env);pure (ForInStep.yield ok) else pure (ForInStep.yield r)) (TP X pins σ Q) X.xe s
noncomputable def Ia:TT:=λ_ H Q=>Q true H
theorem A7 {X:Cx}:xY X [] Ia:=λ_ _ _ H _ I h=>wpAny_tests_nil ⟨H,I,h⟩
theorem A8 {X:Cx}{c:Expr}{t:TT}(h:PT X c t):xY X [c] t:=λpins s σ H Q I q=>wpAny_tests_one (h pins s σ H Q I q)
section
variable {prog:Program} {w:World} {A:Around} {R:Result->Shared->Prop} {s:Shared}
theorem tI {elt target iter:Expr}{ifs:List Expr}{scope:Scope}{pos:Pos}{it acc:Value}{env:Env}(I:Nat->Shared->Prop)
    (turn:∀n s,I n s->wpAny (model prog w) A (pyNext it) (λr s₁=>match r with
      | none=>R (.ok .next) s₁
      | some v=>wpAny (model prog w) A (letOwnedTupleGo target it v) (λ_ s₁'=>wpAny (model prog w) A (assign target env v) (λ_ s₂ =>
          wpAny (model prog w) A (forIn ifs true λc r=>if r=true then do let ok <-isTrue c env (eval c env);pure (ForInStep.yield ok) else pure (ForInStep.yield r)) (λok s₃ =>
            if ok=true then wpAny (model prog w) A (eval elt env) (λx s₄ =>
              wpAny (model prog w) A (call (.builtin "list.append") [acc,x]) (λ_ s₅=>∃m,m<n/\I m s₅) (λ_ _=>False) s₄) (λ_ _=>False) s₃
            else ∃m,m<n/\I m s₃) (λ_ _=>False) s₂) (λ_ _=>False) s₁') (λ_ _=>False) s₁) (λ_ _=>False) s)
    (n:Nat) (h:I n s) :
    codeAny (model prog w) A (.compLoop (.ListComp elt [⟨target,iter,ifs,0⟩] scope pos) 0 it acc env) R s:=by
  refine codeAny_loop rfl I (λn s hI=>?_) n h;show wpAny _ A ((compTurn (.ListComp elt [⟨target,iter,ifs,0⟩] scope pos) 0 it acc env).onRaise (λx=>do noteFrame x env;theTreesLotGoes x)) _ _ s;refine wpAny_noted ?_;rw[compTurn_list];refine wpAny_mono (E:=λ_ _=>False) ?_ (λ_ _ q=>q) (λ_ _ f=>f.elim);refine wpAny_bind (wpAny_standAt (wpAny_bind (wpAny_mono (turn n s hI) (λr s₁ h₁=>?_) λ_ _ h'=>h')));cases r with
  | none=>exact wpAny_pure h₁
  | some v =>
    refine wpAny_bind (wpAny_mono h₁ (λ_ s₁' h₁'=>?_) λ_ _ h'=>h');refine wpAny_bind (wpAny_mono h₁' (λ_ s₂ h₂=>wpAny_bind (wpAny_mono h₂ (λok s₃ h₃=>?_) λ_ _ h'=>h')) λ_ _ h'=>h');cases ok with
    | false=>exact wpAny_pure ⟨rfl,h₃⟩
    | true =>
      exact wpAny_bind (wpAny_bind (wpAny_mono h₃ (λx s₄ h₄=>wpAny_bind (wpAny_mono h₄ (λ_ s₅ h₅=>wpAny_pure (wpAny_pure ⟨rfl,h₅⟩)) λ_ _ h'=>h')) λ_ _ h'=>h'))
end
noncomputable def IE (J:It)(D:Addr)(g:TG)(tc:TT)(te:TE)(Q:Hp->Prop)(σ0:St)(H0:Hp):Prop:=
 ∃W:Nat->Nat->List V->St->Hp->Prop,(∃m,W 0 m [] σ0 H0)/\∀i m ys σ H,W i m ys σ H ->
  ((J.stop i H/\Q H)\/(J.go i H/\∃N:List V->St->Hp->Prop,(∀ys' σ' H',N ys' σ' H'->∃m',m'<m/\W (i+1) m' ys' σ' H')/\∀x H',J.zr i H x H'->g x σ H' λσ2 H2=>tc σ2 H2 λb H3 =>
   if b=true then te σ2 H3 λv H4=>H4 D=some (.lst ys)/\ys.length<sizeLine/\N (ys++[v]) σ2 (upd H4 D (.lst (ys++[v])))
   else N ys σ2 H3))
noncomputable def Jy (wi:TI)(fr:List (Option Nat))(g:TG)(tc:TT)(te:TE):TE:=λσ H Q=>wi σ H λJ H1=>∀D,H1 D=none->IE J D g tc te (Q (.ref D)) (nD fr σ) (upd H1 D (.lst []))
theorem zC {X:Cx}{tg iter elt:Expr}{ifs:List Expr}{scope:Scope}{pos:Pos}{g:TG}{tc:TT}{te:TE}{fp:List Addr}{it D:Addr}{tn:Nat->Heap->Prop}{J:It}{Q:Hp->Prop}{σ0:St}{H0:Hp}{s:Shared}{R:Result->Shared->Prop}
  (hxe:X.xe=λ_ _=>False) (hc:X.calm=true) (hpn:X.pn = []) (hex:X.ex=fp) (hg:PG X tg g) (ht:xY X ifs tc) (he:PE X elt te) (T:Turn X.prog X.w X.K tg J fp it tn)
  (hf:∀b∈fp,b≠X.env.locals/\b∉X.fs/\∀x c,X.env.cells.lookup x=some c->c≠b) (hW:IE J D g tc te Q σ0 H0) (B:Inv X [] σ0 H0 s) (st:tn 0 s.heap) (fr:∀b∈fp,H0 b=none)
  (fin:∀σ H s',Inv X [] σ H s'->Q H->R (.ok .next) s') :
  codeAny (model X.prog X.w) X.A (.compLoop (.ListComp elt [⟨tg,iter,ifs,0⟩] scope pos) 0 (.ref it) (.ref D) X.env) R s:=by
 obtain ⟨W,⟨m0,w0⟩,turn⟩:=hW;have stat:∀{H':Hp},(∀b∈fp,H' b=none)->∀b∈fp,ku X [] H' b:=λ{H'} hn b hb =>
  ⟨hn b hb,(hf b hb).1,(hf b hb).2.1,.inl (by rw[hex];exact hb),(hf b hb).2.2,λp hp=>by rw[hpn] at hp;exact nomatch hp⟩
 refine tI (λn s'=>∃i ys σ' H',Inv X [] σ' H' s'/\tn i s'.heap/\(∀b∈fp,H' b=none)/\W i n ys σ' H') ?_ m0 ⟨0,[],σ0,H0,B,st,fr,w0⟩;rintro n s3 ⟨i,ys,σ3,H3,I3,st3,fr3,w3⟩;rcases turn i n ys σ3 H3 w3 with ⟨stop,qn⟩ | ⟨go,N,hN,step⟩
 .refine bV (T.done X rfl rfl rfl hc i [] s3 σ3 H3 _ I3 (stat fr3) st3 stop) ?_;rintro r s4 ⟨hr,I4⟩;subst hr;exact fin σ3 H3 s4 I4 qn
 .refine bV (T.item X rfl rfl rfl hc i [] s3 σ3 H3 _ I3 (stat fr3) st3 go) ?_;rintro r s4 ⟨u,hr,h4⟩;subst hr;refine bV h4 ?_;rintro _ s5 ⟨x,H5,I5,r5,y5,st5,fr5⟩;have I5':=I5.pinned (stat fr5) (T.obj _ _ st5);have q1:=hg _ s5 σ3 H5 x u _ I5' r5 (step x H5 y5);rw[hxe] at q1;refine bV q1 ?_;rintro _ s6 ⟨σ6,H6,I6,q6⟩;have q2:=ht _ s6 σ6 H6 _ I6 q6;rw[hxe] at q2;refine bV q2 ?_;rintro ok s7 ⟨H7,I7,q7⟩;have again:∀{ys':List V} {σ8:St} {H8:Hp} {s8:Shared},Inv X ([]++oW fp s5.heap) σ8 H8 s8->N ys' σ8 H8->∃m,m<n/\∃i ys σ' H',Inv X [] σ' H' s8/\tn i s8.heap/\(∀b∈fp,H' b=none)/\W i m ys σ' H':=λ{ys' σ8 H8 s8} I8 n8=>by
   obtain ⟨m',hm,w8⟩:=hN ys' σ8 H8 n8;refine ⟨m',hm,i+1,ys',σ8,H8,I8.md,T.keep _ _ _ st5 λb hb o e=>(I8.pin (b,o) (mem_append_right _ (mem_append_right _ (iQ hb e)))).1,λb hb=>?_,w8⟩;obtain ⟨o,e,d⟩:=T.obj _ _ st5 b hb;exact (I8.pin (b,o) (mem_append_right _ (mem_append_right _ (iQ hb e)))).2.1
  cases ok with
  | false=>exact again I7 q7
  | true =>
   have q3:=he _ s7 σ6 H7 _ I7 q7;rw[hxe] at q3;show wpAny _ _ (eval elt X.env) _ _ s7;refine bV q3 ?_;rintro xv s8 ⟨v,H8,I8,r8,hD8,hz8,n8⟩;have q4:=qS (X:=X) _ s8 σ6 H8 (.ref D) [v] (.ref D) [xv] (λ_ H9=>N (ys++[v]) σ6 H9) I8 rfl (.cons r8 .nil) ⟨D,ys,v,rfl,rfl,hD8,hz8,n8⟩;rw[hxe] at q4;refine bV q4 ?_;rintro _ s9 ⟨_,H9,I9,_,n9⟩;exact again I9 n9
section
variable {X:Cx} {tg iter elt:Expr} {ifs:List Expr} {scope:Scope} {pos:Pos} {wi:TI} {g:TG} {tc:TT} {te:TE}
theorem BO {pins:List (Addr×Obj)}{σ:St}{H2:Hp}{s2:Shared}{it:Addr}{fp:List Addr}{tn:Nat->Heap->Prop}{J:It}{Q:Addr->Hp->Prop}{N':List Str}{fr:List (Option Nat)}{RR:Value->Addr->Result->Shared->Prop}
  (hc:X.calm=true) (S:n6 X.env.scope X.N scope N' fr)
  (hg:∀cl fp C s H,PG (vm X scope N' cl fp C s H) tg g) (ht:∀cl fp C s H,xY (vm X scope N' cl fp C s H) ifs tc) (he:∀cl fp C s H,PE (vm X scope N' cl fp C s H) elt te)
  (I2:Inv X pins σ H2 s2) (T:Turn X.prog X.w X.K tg J fp it tn) (st2:tn 0 s2.heap) (f2:∀b∈fp,ku X pins H2 b)
  (h:∀D,H2 D=none->IE J D g tc te (Q D) (nD fr σ) (upd H2 D (.lst [])))
  (fin:∀D C s' m' H',s2.heap.objs.size<=C->C≠D->H' C=none->s'.heap.Ns C m'->(∀h',Heap.SameBut C s'.heap h'->Inv X pins σ H' { s' with heap:=h' })->Q D H'->RR (.ref D) C (.ok .next) s') {E:Value->Shared->Prop} :
  wpAny (model X.prog X.w) X.A (newList []) (λacc s₃=>wpAny (model X.prog X.w) X.A (newFunctionEnv scope X.env.globals (sU X.env scope.names []) [] X.env.qual none .none (some X.env)) (λcenv s₄ =>
   codeAny (model X.prog X.w) X.A (.compStart (.ListComp elt [⟨tg,iter,ifs,0⟩] scope pos) 0 (.ref it) acc { cenv with scope:=relabel scope X.env }) (RR acc cenv.locals) s₄) E s₃) E s2:=by
 refine wpAny_newObj_type (wpAny_newFunctionEnv S.AQ (by intro y hy;simp at hy) (λh₁ hns₁ hsb₁=>?_) S.kind);dsimp only at hns₁ hsb₁ ⊢;have hD:H2 s2.heap.objs.size=none:=I2.bp.fresh (Nat.le_refl _);have I3:Inv X pins σ (upd H2 s2.heap.objs.size (.lst [])) { s2 with heap:=s2.heap.push { cls:=.type "list",dict:=none,data:=.seq ([]:List Value).toArray },toks:=s2.toks }:=I2.E4 (its:=[]) .nil (Nat.zero_le _);generalize hH2:s2.heap.push { cls:=.type "list",dict:=none,data:=.seq ([]:List Value).toArray }=HH at hns₁ hsb₁ I3 ⊢;have hC:HH.objs.size=s2.heap.objs.size+1:=by rw[<-hH2,Heap.size_push]
 have old:∀b o,HH.get? b=some o->h₁.get? b=some o:=λb o e=>hsb₁.extBut b o (Nat.ne_of_lt (Heap.lt_size e)) (Heap.get?_push_of_some _ e);have old2:∀b o,s2.heap.get? b=some o->HH.get? b=some o:=λb o e=>hH2 ▸ Heap.get?_push_of_some _ e;have ofp:∀b∈fp,∃o,s2.heap.get? b=some o:=λb hb=>by
  obtain ⟨o,e,_⟩:=T.obj _ _ st2 b hb;exact ⟨o,e⟩
 have neD:∀b∈fp,b≠s2.heap.objs.size:=λb hb=>by
  obtain ⟨o,e⟩:=ofp b hb;exact Nat.ne_of_lt (Heap.lt_size e)
 have f3:∀b∈fp,ku X pins (upd H2 s2.heap.objs.size (.lst [])) b:=λb hb=>⟨by rw[aj (neD b hb)];exact (f2 b hb).1,(f2 b hb).2⟩
 have ofp3:∀b∈fp,∃o,HH.get? b=some o:=λb hb=>by
  obtain ⟨o,e⟩:=ofp b hb;exact ⟨o,old2 b o e⟩
 have B:=x8 (h₁:=h₁) (tk:=s2.toks+([]:List (Str×Value)).length) I3 S f3 ofp3 hns₁ old;have st1:tn 0 h₁:=T.keep _ _ _ st2 λb hb o e=>old b o (old2 b o e);have loop:codeAny (model X.prog X.w) X.A (.compLoop (.ListComp elt [⟨tg,iter,ifs,0⟩] scope pos) 0 (.ref it) (.ref s2.heap.objs.size) (compEnvC scope (sU X.env scope.names []) HH.objs.size X.env))
   (RR (.ref s2.heap.objs.size) HH.objs.size) { s2 with heap:=h₁,toks:=s2.toks+([]:List (Str×Value)).length }:=by
  refine zC (X:=vm X scope N' (sU X.env scope.names []) fp HH.objs.size { s2 with heap:=HH,toks:=s2.toks } (upd H2 s2.heap.objs.size (.lst []))) (fp:=fp) rfl hc rfl rfl (hg _ _ _ _ _) (ht _ _ _ _ _) (he _ _ _ _ _) T
   (λb hb=>⟨(B.ok.Il b hb).1,B.ok.Ae b hb,(B.ok.Il b hb).2⟩) (h _ hD) B st1 (λb hb=>(f3 b hb).1) λσ4 H4 s4 I4 q4=>?_
  obtain ⟨m4,hn4,_⟩:=I4.loc;refine fin _ HH.objs.size s4 m4 H4 (by rw[hC];exact Nat.le_succ _) (by rw[hC];exact Nat.succ_ne_self _) I4.free hn4 (λh' sb=>?_) q4;have u4:Un (zt X.stack) fp (upd H2 s2.heap.objs.size (.lst [])) H4 HH s4.heap:=I4.base;exact I3.GH (s':={ s4 with heap:=h' }) I4.os (u4.but sb (Nat.le_refl _)) (I4.bp.but I4.free sb) I4.bare λb hb=>⟨(f2 b hb).2.2.2.1,(f2 b hb).2.1,(f2 b hb).2.2.2.2.1,(f2 b hb).2.2.2.2.2⟩
 exact codeAny_compStart_list loop (T.self _ 0 _ _ _ st1 loop)
theorem Ec (N':List Str)(fr:List (Option Nat))(hc:X.calm=true)(hi:PI X tg iter wi)
  (hg:∀cl fp C s H,PG (vm X scope N' cl fp C s H) tg g) (ht:∀cl fp C s H,xY (vm X scope N' cl fp C s H) ifs tc) (he:∀cl fp C s H,PE (vm X scope N' cl fp C s H) elt te)
  {sc0:Scope} {N0:List Str} (hsc:autoParam (X.env.scope=sc0) aZa._auto_1) (hN:autoParam (X.N=N0) aZa._auto_1) (bp:autoParam (lj sc0 N0 scope N' fr=true) aZf._auto_1) (hs:autoParam (∀x,foldedSetIterable iter X.env x=pure x) aZc._auto_1) :
  PE X (.ListComp elt [⟨tg,iter,ifs,0⟩] scope pos) (Jy wi fr g tc te):=by
 intro pins s σ H Q I h;have S:n6 X.env.scope X.N scope N' fr:=by rw[hsc,hN];exact ym bp
 have has:∀y∈scope.names,y.2=.free->∃c,X.env.cells.lookup y.1=some c:=λy hy hk=>I.ok.has y.1 (S.frees y hy hk);rw[eval_ListComp];refine wpAny_comprehension_free (use:=none) rfl hs (vq has) S.kind S.names (bV (hi pins s σ H _ I h) λv s1 h1=>bV h1 λitv s2 h2=>?_);obtain ⟨it,fp,tn,J,H2,rfl,I2,T,st2,f2,w2⟩:=h2;refine BO (Q:=λD=>Q (.ref D)) (RR:=λacc C=>compPost (model X.prog X.w) X.A X.xe none (EP X pins σ Q) acc C) hc S hg ht he I2 T st2 f2 w2 λD C s' m' H' h1 h2 h3 h4 h5 q=>?_;exact ⟨m',h4,λh' sb=>⟨.ref D,H',h5 h' sb,rfl,q⟩⟩
end
end L2
namespace L2
open PySem PySem.Spec PyProof.Rows
section
variable {X:Cx}
noncomputable def Js (K:Frag):List V->Hp->VK->Prop:=λxs H Q=>∃(p:Addr) (ns:List Int),xs = [.ref p]/\fV K H p (ns.map V.int)/\Q (.int ns.sum) H
theorem yi (hc:X.calm=true):eD X (.builtin "sum") (Js X.K):=by
 intro pins s σ H xs us Q I r h;obtain ⟨p,ns,rfl,hp,q⟩:=h;obtain ⟨u,rfl,ru⟩:=vals1 r;cases ru;obtain ⟨its,rv,pl,hz⟩:=I.list hp;have hi:IntsAre its ns:=intsAre_of rv;obtain ⟨zs,e⟩:=hi.allInts.items;refine sum_intListG (I.ok.hd hc) (xs:=zs) (e ▸ pl.isList) λh' tk t' hk=>⟨.int ns.sum,H,I.kept hk,⟨t',?_⟩,q⟩
 have e2:=congrArg Array.toList e;have e3:numsOf (intItems zs).toList=ns:=by rw[<-e];exact hi.numsOf
 rw[nums_intItems] at e3;rw[preSum_eq,take_of_length_le (by simp),e3]
noncomputable def Jo (K:Frag):List V->Hp->VK->Prop:=λxs H Q=>∃x n,xs = [x]/\Gx K x H n/\Q (.int n) H
theorem yc:eD X (.builtin "len") (Jo X.K):=zE
theorem eu {n:Nat}(h:n<=1000):n<=sizeLine:=Nat.le_of_lt (iA h)
noncomputable def dH {α:Type}(xs:List α)(lo hi st:Option Int):List α:=(sliceRange (sliceBounds lo hi st xs.length).1 (sliceBounds lo hi st xs.length).2.1 (sliceBounds lo hi st xs.length).2.2).filterMap (λj=>xs[j]?)
theorem j0 {xs:List V}{its:List Value}(r:Vals xs its):∀js:List Nat,Vals (js.filterMap λj=>xs[j]?) (js.filterMap λj=>its[j]?)
 | []=>.nil
 | j::js=>by
  rw[filterMap_cons,filterMap_cons];cases e:xs[j]? with
  | none=>rw[r.none_of e];exact j0 r js
  | some x =>
   obtain ⟨u,e1,e2⟩:=r.get e;rw[e1];exact .cons e2 (j0 r js)
theorem ze {α β:Type}(f:α->β)(xs:List α)(lo hi st:Option Int):dH (xs.map f) lo hi st=(dH xs lo hi st).map f:=by
 unfold dH;rw[length_map];generalize sliceRange _ _ _=js;induction js with
 | nil=>rfl
 | cons j js ih =>
  rw[filterMap_cons,filterMap_cons,getElem?_map];cases xs[j]? with
  | none=>simpa using ih
  | some x=>simpa using ih
theorem zd {xs:List V}{its:List Value}(r:Vals xs its)(lo hi st:Option Int):(dH xs lo hi st).length<=xs.length:=by
 have h:=slicePick_size_le its.toArray lo hi st;have e:Vals (dH xs lo hi st) (slicePick its.toArray lo hi st).toList:=by
  unfold dH slicePick;rw[show its.toArray.size=xs.length from r.length.symm];have:=j0 r (sliceRange (sliceBounds lo hi st xs.length).1 (sliceBounds lo hi st xs.length).2.1 (sliceBounds lo hi st xs.length).2.2);simpa using this
 have e1:=e.length;have e2:=r.length;rw[e1,length_toList];have h3:its.toArray.size=its.length:=size_toArray;lia
noncomputable def JD (K:Frag)(te:TE)(tl th ts:TO):TE:=λσ H Q=>te σ H λx H1=>tl σ H1 λl H2=>th σ H2 λu H3=>ts σ H3 λst H4 =>
 ∃a xs,x=.ref a/\fV K H4 a xs/\st≠some 0/\∀p,H4 p=none->Q (.ref p) (upd H4 p (.lst (dH xs l u st)))
theorem yR {e:Expr}{te:TE}{lo hi:Option Expr}{st:Expr}{tl th ts:TO}{p2 pos:Pos}(he:PE X e te)(hl:PO X lo tl)(hu:PO X hi th)(hs:PO X (some st) ts):PE X (.Subscript e (.Slice lo hi (some st) p2) pos) (JD X.K te tl th ts):=by
 intro pins s σ H Q I h;refine Subscript_ (bV (he pins s σ H _ I h) ?_);rintro v s1 ⟨x,H1,I1,r1,q1⟩;refine wpAny_Slice (bV (hl pins s1 σ H1 _ I1 q1) λvl s2 ⟨l,H2,I2,pl,q2⟩=>bV (hu pins s2 σ H2 _ I2 q2) λvu s3 ⟨u,H3,I3,pu,q3⟩=>bV (hs pins s3 σ H3 _ I3 q3) ?_);rintro vs s4 ⟨sv,H4,I4,ps,q4⟩;obtain ⟨a,xs,rfl,hx,h0,q⟩:=q4;cases r1;have I5:Inv X pins σ H4 { s4 with heap:=s4.heap.push { cls:=.type "slice",data:=.fields #[vl,vu,vs] } }:=I4.kept (t':=s4.toks) λb ob q=>Heap.get?_push_of_some _ q;obtain ⟨its,r,ht,hz⟩:=I5.list hx;have hlen:=r.length;have hg:wpAny (model X.prog X.w) X.A (getItem (.ref a) (.ref s4.heap.objs.size)) (EP X pins σ Q) X.xe { s4 with heap:=s4.heap.push { cls:=.type "slice",data:=.fields #[vl,vu,vs] } }:=by
  refine wpAny_getItem_list_slice ht.isList (Heap.IsSliceOf.new ..) pl pu ps h0 ?_ (by rw[size_toArray]<;>lia);refine ⟨.ref _,_,I5.laid (t':=s4.toks) (o:=.lst (dH xs l u sv)) (λb ob q=>Heap.get?_push_of_some _ q) (Nat.le_refl _) ?_,rfl,q _ (I5.bp.fresh (Nat.le_refl _))⟩;refine ⟨Nat.le_trans (zd r l u sv) hz,(slicePick its.toArray l u sv).toList,0,?_,?_⟩
  .unfold dH slicePick;rw[show its.toArray.size=xs.length from r.length.symm];have:=j0 r (sliceRange (sliceBounds l u sv xs.length).1 (sliceBounds l u sv xs.length).2.1 (sliceBounds l u sv xs.length).2.2);simpa using this
  .rw[Array.toArray_toList];exact Heap.get?_push_size _ rfl
 show wpAny (model X.prog X.w) X.A (subscriptTail e (.Slice lo hi (some st) p2) (.ref a) (.ref s4.heap.objs.size)) (EP X pins σ Q) X.xe { s4 with heap:=s4.heap.push { cls:=.type "slice",data:=.fields #[vl,vu,vs] } };exact tail_any (ops:=[.ref a,.ref s4.heap.objs.size]) ht.isList.typeIs slot_list_getitem.lookup hg (by with_unfolding_all rfl)
inductive Gg (K:Frag)(H:Hp):Nat->V->V->Prop where
 | sc {n:Nat} {x:V} (f:GQ x=true):Gg K H n x x
 | rf {n:Nat} {a:Addr}:Gg K H n (.ref a) (.ref a)
 | tup {n:Nat} {a b:Addr} {xs ys:List V} (h1:jR K H a xs) (h2:jR K H b ys) (hl:xs.length=ys.length) (h:∀(i:Nat) (x y:V),xs[i]?=some x->ys[i]?=some y->Gg K H n x y):Gg K H (n+1) (.ref a) (.ref b)
 | lst {n:Nat} {a b:Addr} {xs ys:List V} (h1:fV K H a xs) (h2:fV K H b ys) (hl:xs.length=ys.length) (h:∀(i:Nat) (x y:V),xs[i]?=some x->ys[i]?=some y->Gg K H n x y):Gg K H (n+1) (.ref a) (.ref b)
end
end L2
namespace WS
noncomputable abbrev S3:=Int×Int×Int
noncomputable def mx (i j:Int):Int:=if j>i then j else i
noncomputable def jr (b:S3)(L:Int):Int:=b.2.2*mx 0 (b.2.1 - mx b.1 L)
noncomputable def above (bs:List S3)(L:Int):Int:=(bs.map λb=>jr b L).sum
noncomputable def dO (hs:List S3):List S3:=hs.map λx=>(x.2.1,x.1,x.2.2)
noncomputable def gj (g:Int)(cs:List S3):List S3:=cs.map λx=>(x.1+g,x.2.1+g,x.2.2)
theorem my {L:Int}:∀{bs:List S3},(∀b∈bs,b.2.1<=L)->above bs L=0
 | [],_=>rfl
 | b::bs,h=>by
  have ih:=my (L:=L) (bs:=bs) λx hx=>h x (mem_cons_of_mem _ hx);have hb:=h b mem_cons_self;have e:jr b L=0:=by
   unfold jr mx;have:(if b.2.1 - (if L>b.1 then L else b.1)>0 then b.2.1 - (if L>b.1 then L else b.1) else 0)=0:=by split<;>split at *<;>lia
   rw[this,Int.mul_zero]
  unfold above at *;rw[map_cons,sum_cons,ih,e];rfl
noncomputable def aQ (g:Int)(hs cs:List S3)(L:Int):Int:=above (gj g cs) L - above (dO hs) L
structure eZ (x:S3):Prop where
 lo:0<=x.2.1
 lt:x.2.1<x.1
 hi:x.1<=200
 r0:1<=x.2.2
 r1:x.2.2<=1000000000
structure cH (x:S3):Prop where
 lo:0<=x.1
 lt:x.1<x.2.1
 hi:x.2.1<=200
 r0:1<=x.2.2
 r1:x.2.2<=1000000000
theorem Ao {hs:List S3}(h:∀x∈hs,eZ x):∀b∈dO hs,b.2.1<=250:=λb hb=>by
 obtain ⟨x,hx,rfl⟩:=mem_map.mp hb;have:=(h x hx).hi;show x.1<=250;lia
theorem yk {g:Int}{cs:List S3}(hg:g<=50)(h:∀x∈cs,cH x):∀b∈gj g cs,b.2.1<=250:=λb hb=>by
 obtain ⟨x,hx,rfl⟩:=mem_map.mp hb;have:=(h x hx).hi;show x.2.1+g<=250;lia
theorem yD {g:Int}{hs cs:List S3}(hg:g<=50)(h1:∀x∈hs,eZ x)(h2:∀x∈cs,cH x):aQ g hs cs 250=0:=by
 unfold aQ;rw[my (yk hg h2),my (Ao h1)];rfl
end WS
namespace L2
open PySem PySem.Spec PyProof.Rows
structure Fn (P:Program)(w:World)(K:Frag)(mg:Str->Option Value)(base:Heap)(x:Str)(k:Nat)(ps:List Str)(sp:Sp):Prop where
 ex:∃f fd,bx P w K mg base fU k f fd ps sp/\mg x=some (.ref f)/\keepIn K (.ref f)=true/\Binds K fd ps []
theorem AZ {X:Cx}{x:Str}{k:Nat}{ps:List Str}{sp:Sp}{p pos:Pos}{e:Expr}{es:List Expr}{t:TA}(F:Fn X.prog X.w X.K X.mg X.base x k ps sp)(hr:cY k X.A)(hg:Gl X x)(ha:PA X (e::es) t)
  (hdb:autoParam ((x == ("__debug__" : Str))=false) aZb._auto_1) (he:autoParam (starEach (e::es) X.env=(false,eval e X.env)::starEach es X.env) aZa._auto_1) (hpl:autoParam ((backTo pos (starEach es X.env)).any (·.1)=false) aZa._auto_1) :
  PE X (.Call (.Name x p) (e::es) [] pos) (Ej sp [] E0 t):=by
 obtain ⟨f,fd,G,hm,hk,hb⟩:=F.ex;exact CY G hr hg hm hk hb .nil Hq ha hdb he hpl
theorem bM {P:Program}{w:World}{K:Frag}{mg:Str->Option Value}{base:Heap}{x qual:Str}{st:Stmt}{f:Addr}{fd:FuncData}{k:Nat}{ps:List Str}{sp:Sp}(F:je K x qual st f fd)(hm:mg x=some (.ref f))(hb:Binds K fd ps [])(ok:bx P w K mg base fU k f fd ps sp) :
  Fn P w K mg base x k ps sp:=⟨f,fd,ok,hm,F.kp,hb⟩
theorem fB {H:Hp}{a:Addr}{o:HO}(h:H a=none):aq H (upd H a o):=λb u e=>by
 rw[aj (aZ e h)];exact e
theorem aq.upd {H H':Hp}{a:Addr}{o:HO}(s:aq H H')(h:H a=none):aq H (upd H' a o):=λb u e=>by
 rw[aj (aZ e h)];exact s b u e
end L2
namespace WS
open PySem L2
theorem gy {α β:Type}{F:α->β->Prop}:∀{l:List α} {r:List β} {i:Nat} {a:α},Paired F l r->l[i]?=some a->∃b,r[i]?=some b/\F a b
 | _,_,_,_,.nil,e=>by simp at e
 | _,_,0,_,.cons h _,e=>by simp at e;subst e;exact ⟨_,rfl,h⟩
 | _,_,i+1,a,.cons _ t,e=>by
  obtain ⟨b,h1,h2⟩:=gy (i:=i) (a:=a) t (by simpa using e);exact ⟨b,by simpa using h1,h2⟩
theorem take_snoc {α:Type}{l:List α}{i:Nat}{x:α}(e:l[i]?=some x):l.take (i+1)=l.take i++[x]:=by
 rw[List.take_add_one,e];rfl
end WS
namespace L2
open PySem PySem.Spec PyProof.Rows
section
variable {X:Cx}
theorem kr:∀(k:Nat) (ts:List Str),Vals (ts.map V.str) (strsFrom k ts)
 | _,[]=>.nil
 | k,_::r=>.cons ⟨k,rfl⟩ (kr (k+1) r)
theorem km (x:Str)(w:Nat):∀(cuts:List Nat) (a:Nat),(StrLaws.partsFrom x w a cuts).length=cuts.length+1
 | [],_=>rfl
 | c::r,a=>by
  show (StrLaws.partsFrom x w (c+w) r).length+1=_;rw[km x w r];rfl
theorem yP (x y:Str):(Builtin.Str.partsBetween x (Builtin.Str.occurrences x y 0 x.length (x.length+1)) y.length).length<=x.length+2:=by
 rw[StrLaws.partsBetween_eq,km];have:=StrLaws.occ_length_le x y 0 x.length (x.length+1);lia
noncomputable def FP:V->List V->Hp->VK->Prop:=λx vs H Q=>∃a y,x=.str a/\vs = [.str y]/\(y.length == 0)=false/\a.length+2<=sizeLine/\∀p,H p=none->Q (.ref p) (upd H p (.lst ((Txt.split a y).map V.str)))
theorem AN:Gy X "str.split" FP:=by
  intro pins s σ H x xs v us Q I rx r h;obtain ⟨a,y,rfl,rfl,hy,hz,q⟩:=h;obtain ⟨t,rfl⟩:=rx;obtain ⟨u,rfl,t',rfl⟩:=vals1 r;have one:∀(_:Txt.split a y = [a]),EP X pins σ Q (.ref s.heap.objs.size) { s with heap:=s.heap.push { cls:=.type "list",data:=.seq [Value.str a t].toArray } }:=λe=>by
    refine ⟨.ref _,_,I.laid (t':=s.toks) (λb ob q=>Heap.get?_push_of_some _ q) (Nat.le_refl _) (o:=.lst ((Txt.split a y).map V.str)) ?_,rfl,q _ (I.bp.fresh (Nat.le_refl _))⟩;rw[e];exact ⟨by show 1<=sizeLine;decide,[.str a t],0,.cons ⟨t,rfl⟩ .nil,Heap.get?_push_size _ rfl⟩
  by_cases h1:(decide (a.length<y.length) || decide (Builtin.Str.strKind a<Builtin.Str.strKind y))=true
  · refine call_meets F.slot_str_split (typeIs_str _ _ _) F.entry_str_split (F.args_str_split_2 _ _) (meets_str_split_cannot_occur a y t t' h1) ?_;exact one (by unfold Txt.split;rw[if_pos h1])
  · have h1' : (decide (a.length < y.length) || decide (Builtin.Str.strKind a < Builtin.Str.strKind y)) = false := by simpa using h1
    by_cases h2:(Builtin.Str.occurrences a y 0 a.length (a.length+1)).isEmpty=true
    · refine call_meets F.slot_str_split (typeIs_str _ _ _) F.entry_str_split (F.args_str_split_2 _ _) (meets_str_split_not_found a y t t' h1' hy h2) ?_;exact one (by unfold Txt.split;rw[if_neg h1,if_pos h2])
    · have h2' : (Builtin.Str.occurrences a y 0 a.length (a.length + 1)).isEmpty = false := by simpa using h2
      have hl:=yP a y;refine call_meets F.slot_str_split (typeIs_str _ _ _) F.entry_str_split (F.args_str_split_2 _ _) (meets_str_split_sep a y t t' h1' hy h2' (by lia) (by lia)) ?_;have e:Txt.split a y=Builtin.Str.partsBetween a (Builtin.Str.occurrences a y 0 a.length (a.length+1)) y.length:=by unfold Txt.split;rw[if_neg h1,if_neg h2]
      refine ⟨.ref _,_,I.laid (λb ob q=>Heap.get?_push_of_some _ q) (Nat.le_refl _) (o:=.lst ((Txt.split a y).map V.str)) ?_,rfl,q _ (I.bp.fresh (Nat.le_refl _))⟩;rw[e];exact ⟨by rw[length_map];lia,_,0,kr _ _,Heap.get?_push_size _ rfl⟩
theorem xR:∀{ts:List Str} {its:List Value},Vals (ts.map V.str) its->∃l:List (Str×Tok),its=strValues l/\l.map (·.1)=ts
 | [],_,.nil=>⟨[],rfl,rfl⟩
 | x::r,_,.cons ⟨t,e⟩ h=>by
  obtain ⟨l,e1,e2⟩:=xR h;exact ⟨(x,t)::l,by rw[e,e1];rfl,by rw[map_cons,e2]⟩
noncomputable def rJoin (K:Frag):V->List V->Hp->VK->Prop:=λx vs H Q=>∃(sep:Str) (p:Addr) (ts:List Str),x=.str sep/\vs = [.ref p]/\fV K H p (ts.map V.str)/\JoinOk sep ts=true/\Q (.str (Str.join sep ts)) H
theorem CM:Gy X "str.join" (rJoin X.K):=by
 intro pins s σ H x xs v us Q I rx r h;obtain ⟨sep,p,ts,rfl,rfl,hp,bp,q⟩:=h;obtain ⟨t,rfl⟩:=rx;obtain ⟨u,rfl,ru⟩:=vals1 r;cases ru;obtain ⟨its,rv,pl,hz⟩:=I.list hp;obtain ⟨l,e1,e2⟩:=xR rv;have hl:Builtin.Str.tooLong ((l.map (·.1)).toArray.foldl (· + ·.length+sep.length) 0)=false:=by
  rw[e2];unfold JoinOk at bp;simpa using bp
 refine call_meets F.slot_str_join (typeIs_str _ _ _) F.entry_str_join (F.args_str_join_2 _ _) (meets_str_join_list sep t p l hl) ⟨by rw[<-e1];exact pl.isList,?_⟩;refine post_join l ⟨by rw[e2];exact joinOk_length bp,λt' k=>?_⟩;rw[e2];have e3:Txt.join sep ts=Str.join sep ts:=StrLaws.glued_eq_join sep ts;rw[e3];exact ⟨.str _,H,I.tok k,⟨t',rfl⟩,q⟩
noncomputable def De:V->List V->Hp->VK->Prop:=λx vs H Q=>∃(a y:Str),x=.str a/\vs = [.str y]/\Q (.bl (decide (0+y.length<=a.length) && Builtin.Str.subAt a y 0)) H
theorem yL:Gy X "str.startswith" De:=by
 intro pins s σ H x xs v us Q I rx r h;obtain ⟨a,y,rfl,rfl,q⟩:=h;obtain ⟨t,rfl⟩:=rx;obtain ⟨u,rfl,t',rfl⟩:=vals1 r;refine call_gives F.slot_str_startswith (typeIs_str _ _ _) F.entry_str_startswith (F.args_str_startswith_2 _ _) (gives_str_startswith a y t t') ?_;exact ⟨.bl _,H,I,rfl,q⟩
theorem yb:eD X (.type "int") (λxs H Q=>∃(x:Str) (n:Int),xs = [.str x]/\PySem.intText? x=some n/\x.length<=640/\Q (.int n) H):=by
 intro pins s σ H xs us Q I r h;obtain ⟨x,n,rfl,hn,hl,q⟩:=h;obtain ⟨u,rfl,t,rfl⟩:=vals1 r;exact PySem.W.KIN.call_text hn hl ⟨.int n,H,I.tok _,⟨_,rfl⟩,q⟩
noncomputable def Ep (x:Str):It:=⟨λi _=>i<x.cps.size,λi H v H'=>H'=H/\∃c,x.cps[i]?=some c/\v=.str ⟨#[c]⟩,λi _=>x.cps.size<=i⟩
theorem v5 {P:Program}{w:World}{K:Frag}{tg:Expr}(it:Addr)(x:Str)(t:Tok):Turn P w K tg (Ep x) [it] it (λi h=>h.IsStrIter it "str_ascii_iterator" x t i) where
 mem:=by simp
 obj:=λi h st b hb=>by
  have e:b=it:=by simpa using hb
  subst e;obtain ⟨o,e,c,d⟩:=st;exact ⟨o,e,λv z=>by rw[d] at z;cases z⟩
 keep:=λi h h' st k=>let ⟨o,e,r⟩:=st;⟨o,k it (by simp) o e,r⟩
 item:=by
  intro X hP hw hK hc i pins s σ H E I hf st hg;subst hP hw hK;obtain ⟨f0,f1,f2,f3,f4,f5⟩:=hf it (by simp);have hi:i<x.cps.size:=hg;refine wpAny_pyNext_ascii_item st (c:=x.cps[i]) (by simp[hi]) λh' st' sb=>?_;have I1:Inv X pins σ H { s with heap:=h',toks:=s.toks+1 }:=I.turned (λb o hb e=>(sb.2 b hb).trans e) f0 f1 f3 f4 f5;obtain ⟨o,e,c,d⟩:=id st';exact ⟨_,rfl,qL (s:={ s with heap:=h',toks:=s.toks+1 }) e c d (by decide) ⟨.str ⟨#[x.cps[i]]⟩,H,I1,⟨_,rfl⟩,⟨rfl,x.cps[i],by simp[hi],rfl⟩,st',λb hb=>(hf b hb).1⟩⟩
 done:=by
  intro X hP hw hK hc i pins s σ H E I hf st hg;subst hP hw hK;obtain ⟨f0,f1,f2,f3,f4,f5⟩:=hf it (by simp);have hi:x.cps.size<=i:=hg;exact wpAny_pyNext_ascii_end (I.ok.hd hc) st (by simp[hi]) λh' eb=>⟨rfl,I.turned (t':=s.toks) (λb o hb e=>eb b o hb e) f0 f1 f3 f4 f5⟩
 self:=λ_ _ _ _ _ st h=>wpAny_pyIter_striter_ascii st h
theorem zo {P:Program}{w:World}{K:Frag}{tg:Expr}(it:Addr)(x:Str)(t:Tok):Turn P w K tg (Ep x) [it] it (λi h=>h.IsStrIter it "str_iterator" x t i) where
 mem:=by simp
 obj:=λi h st b hb=>by
  have e:b=it:=by simpa using hb
  subst e;obtain ⟨o,e,c,d⟩:=st;exact ⟨o,e,λv z=>by rw[d] at z;cases z⟩
 keep:=λi h h' st k=>let ⟨o,e,r⟩:=st;⟨o,k it (by simp) o e,r⟩
 item:=by
  intro X hP hw hK hc i pins s σ H E I hf st hg;subst hP hw hK;obtain ⟨f0,f1,f2,f3,f4,f5⟩:=hf it (by simp);have hi:i<x.cps.size:=hg;refine wpAny_pyNext_wide_item st (c:=x.cps[i]) (by simp[hi]) λh' st' sb=>?_;have I1:Inv X pins σ H { s with heap:=h',toks:=s.toks+1 }:=I.turned (λb o hb e=>(sb.2 b hb).trans e) f0 f1 f3 f4 f5;obtain ⟨o,e,c,d⟩:=id st';exact ⟨_,rfl,qL (s:={ s with heap:=h',toks:=s.toks+1 }) e c d (by decide) ⟨.str ⟨#[x.cps[i]]⟩,H,I1,⟨_,rfl⟩,⟨rfl,x.cps[i],by simp[hi],rfl⟩,st',λb hb=>(hf b hb).1⟩⟩
 done:=by
  intro X hP hw hK hc i pins s σ H E I hf st hg;subst hP hw hK;obtain ⟨f0,f1,f2,f3,f4,f5⟩:=hf it (by simp);have hi:x.cps.size<=i:=hg;exact wpAny_pyNext_wide_end (I.ok.hd hc) st (by simp[hi]) λh' eb=>⟨rfl,I.turned (t':=s.toks) (λb o hb e=>eb b o hb e) f0 f1 f3 f4 f5⟩
 self:=λ_ _ _ _ _ st h=>wpAny_pyIter_striter_wide st h
noncomputable def IW (tl:TE):TI:=λσ H R=>tl σ H λv H1=>∃x,v=.str x/\R (Ep x) H1
theorem FD {tg l:Expr}{tl:TE}(hl:PE X l tl):PI X tg l (IW tl):=by
 intro pins s σ H R I h;refine bV (hl pins s σ H _ I h) ?_;rintro v s1 ⟨x,H1,I1,r1,q1⟩;obtain ⟨z,rfl,q⟩:=q1;obtain ⟨t,rfl⟩:=r1;have fr:∀(ob:Obj) (b:Addr),b∈[s1.heap.objs.size]->ku X pins H1 b:=λob b hb=>by
  have e:b=s1.heap.objs.size:=by simpa using hb
  subst e;exact I1.vC (Nat.le_refl _) (I1.bp.fresh (Nat.le_refl _))
 cases ha:z.cps.all (·<128)
 .refine wpAny_pyIter_wide ha ?_;exact ⟨s1.heap.objs.size,[s1.heap.objs.size],_,_,H1,rfl,I1.kept (t':=s1.toks) λb o e=>Heap.get?_push_of_some _ e,zo _ z t,⟨_,Heap.get?_push_size _ rfl,rfl,rfl⟩,fr { cls:=.none,data:=.fields #[] },q⟩
 .refine wpAny_pyIter_ascii ha ?_;exact ⟨s1.heap.objs.size,[s1.heap.objs.size],_,_,H1,rfl,I1.kept (t':=s1.toks) λb o e=>Heap.get?_push_of_some _ e,v5 _ z t,⟨_,Heap.get?_push_size _ rfl,rfl,rfl⟩,fr { cls:=.none,data:=.fields #[] },q⟩
theorem tD:∀{bs:List Bool} {its:List Value},Vals (bs.map V.bl) its->its=bs.map Value.bool
 | [],_,.nil=>rfl
 | b::r,_,.cons e h=>by
  rw[show _=Value.bool b from e,tD h];rfl
theorem all_range (bs:List Bool):(List.range bs.length).all (λi=>bs.getD i true)=bs.all id:=by
 rw[Bool.eq_iff_iff,List.all_eq_true,List.all_eq_true];constructor
 .intro h b hb;obtain ⟨i,hi,e⟩:=List.mem_iff_getElem.mp hb;have:=h i (mem_range.mpr hi);rw[getD_eq_getElem?_getD,getElem?_eq_getElem hi] at this;rw[<-e];exact this
 .intro h i hi;have hi':=mem_range.mp hi;rw[getD_eq_getElem?_getD,getElem?_eq_getElem hi'];exact h _ (List.getElem_mem hi')
noncomputable def Jm (K:Frag):List V->Hp->VK->Prop:=λxs H Q=>∃(p:Addr) (bs:List Bool),xs = [.ref p]/\fV K H p (bs.map V.bl)/\Q (.bl (bs.all id)) H
theorem x9 (hc:X.calm=true):eD X (.builtin "all") (Jm X.K):=by
 intro pins s σ H xs us Q I r h;obtain ⟨p,bs,rfl,hp,q⟩:=h;obtain ⟨u,rfl,ru⟩:=vals1 r;cases ru;obtain ⟨its,rv,pl,hz⟩:=I.list hp;have e:=tD rv;subst e;have hlt:p<s.heap.objs.size:=by obtain ⟨_,e,_⟩:=pl.isList;exact Heap.lt_size e
 have hh:X.A.in1.handled=none:=I.ok.hd hc;refine call_all_walk (wpAny_pyIter_list pl.isList ?_);refine ⟨_,_,_,_,_,_,λi=>bs.getD i true,rfl,Walks.list (A:=X.A.in1) hh s.heap.objs.size p (Nat.ne_of_lt hlt) (bs.map Value.bool).toArray,⟨⟨_,Heap.get?_push_size _ rfl,rfl,rfl⟩,pl.isList.push _⟩,?_,λh' tk hk=>?_⟩
 .intro i v s' Q' E' hv hq;have hv':(bs.map Value.bool)[i]?=some v:=by simpa using hv
  rw[getElem?_map] at hv';cases z:bs[i]? with
  | none=>rw[z] at hv';cases hv'
  | some b =>
   rw[z] at hv';have e:v=Value.bool b:=(Option.some.inj hv').symm;subst e;have hq':Q' (bs.getD i true) s':=hq;rw[getD_eq_getElem?_getD,z] at hq';exact wpAny_truthy_bool hq'
 .have e:(List.range (bs.map Value.bool).toArray.size).all (λi=>bs.getD i true)=bs.all id:=by
   rw[size_toArray,length_map];exact all_range bs
  rw[e];refine ⟨.bl (bs.all id),H,I.kept (t':=tk) λb o eb=>hk b o ?_ (Heap.get?_push_of_some _ eb),rfl,q⟩;have:b≠s.heap.objs.size:=Nat.ne_of_lt (Heap.lt_size eb);simpa using this
noncomputable abbrev TJ:=St->Hp->Str->(Str->Hp->Prop)->Prop
noncomputable def PJ (X:Cx)(es:List Expr)(t:TJ):Prop:=
 ∀(pins:List (Addr×Obj)) (s:Shared) (σ:St) (H:Hp) (acc:Str) (R:Str->Hp->Prop),Inv X pins σ H s->t σ H acc R ->
  Joins (model X.prog X.w) X.A X.xe (evalEach es X.env) acc (λout s1=>∃H',Inv X pins σ H' s1/\R out H') s
theorem Ht {x y:Str}{pos:Pos}(hg:Gl X x)(h:∃t,X.mg x=some (.str y t))(hd:autoParam ((x == ("__debug__" : Str))=false) aZb._auto_1):PE X (.Name x pos) (tC (.str y)):=by
 obtain ⟨t,e⟩:=h;exact nW hg e ⟨t,rfl⟩ hd
theorem Hs {x:Str}{i:Int}{pos:Pos}(hg:Gl X x)(h:∃t,X.mg x=some (.int i t))(hd:autoParam ((x == ("__debug__" : Str))=false) aZb._auto_1):PE X (.Name x pos) (tC (.int i)):=by
 obtain ⟨t,e⟩:=h;exact nW hg e ⟨t,rfl⟩ hd
end
end L2
namespace L2
open PySem PySem.Spec PyProof.Rows
section
variable {X:Cx} {pins:List (Addr×Obj)} {σ:St} {H:Hp} {s:Shared} {h':Heap}
theorem Inv.Ie {t':Nat}{wr:List Addr}{T:Addr}{us:List Value}{vs:List V}(I:Inv X pins σ H s)(hf:∀b∈wr,ku X pins H b)(k:∀b o,b∉wr->s.heap.get? b=some o->h'.get? b=some o)(hT:s.heap.objs.size<=T)(ht:h'.IsTuple T us.toArray)(r:Vals vs us)(hz:vs.length<=sizeLine) :
  Inv X pins σ (upd H T (.tup vs)) { s with heap:=h',toks:=t' }:=by
 have hn:H T=none:=I.bp.fresh hT;have nit:∀b u,H b=some u->b∉wr:=λb u e z=>by
  have:=(hf b z).1;rw[this] at e;cases e
 refine I.step (g':=s.gens) (d':=s.drawn) (ch:=wr) (λb hb=>⟨(hf b hb).2.2.2.1,(hf b hb).2.1,(hf b hb).2.2.2.2.1,(hf b hb).2.2.2.2.2⟩) (λb o _ _ hc e _=>k b o hc e) (λb o _ _ hc e _=>⟨o.slots,k b o hc e⟩)
  (λb o hc e n=>?_) (λb o hc e=>⟨o,k b o hc e⟩) (λb xs e=>?_) (λb o u e=>?_) (λb ps e=>⟨#[],?_⟩) (λm hm=>?_) (λb u e=>?_) I.bare
 .rw[aj (Nat.ne_of_lt (Nat.lt_of_lt_of_le (Heap.lt_size e) hT))];exact n
 .rw[aj (aZ e hn)];exact e
 .rw[aj (aZ e hn)];exact e
 .rw[aj (aZ e hn)];simpa using e
 .obtain ⟨o,es,ep,ho,r⟩:=hm;exact ⟨o,es,ep,k _ o (λz=>(hf _ z).2.1 rfl) ho,r⟩
 .by_cases hb:b=T
  .subst hb;rw[ao] at e;cases e;exact ⟨hz,us,r,ht⟩
  .rw[aj hb] at e;refine (I.bp b u e).fS (λc v hc q=>k c v ?_ q) (λc q=>by rw[aj (aZ q hn)];exact q) λc xs q=>by rw[aj (aZ q hn)];exact q
   rcases hc with z | z
   .rw[z];exact nit b u e
   .exact nit c _ z
theorem Inv.Dw {t':Nat}{wr:List Addr}(I:Inv X pins σ H s)(hf:∀b∈wr,ku X pins H b)(k:∀b o,b∉wr->s.heap.get? b=some o->h'.get? b=some o):Inv X pins σ H { s with heap:=h',toks:=t' }:=by
 have nit:∀b u,H b=some u->b∉wr:=λb u e z=>by
  have:=(hf b z).1;rw[this] at e;cases e
 refine I.step (g':=s.gens) (d':=s.drawn) (ch:=wr) (λb hb=>⟨(hf b hb).2.2.2.1,(hf b hb).2.1,(hf b hb).2.2.2.2.1,(hf b hb).2.2.2.2.2⟩) (λb o _ _ hc e _=>k b o hc e) (λb o _ _ hc e _=>⟨o.slots,k b o hc e⟩)
  (λb o hc e n=>n) (λb o hc e=>⟨o,k b o hc e⟩) (λb xs e=>e) (λb o u e=>e) (λb ps e=>⟨#[],by rw[e];simp⟩) (λm hm=>?_) (λb u e=>?_) I.bare
 .obtain ⟨o,es,ep,ho,r⟩:=hm;exact ⟨o,es,ep,k _ o (λz=>(hf _ z).2.1 rfl) ho,r⟩
 .refine (I.bp b u e).fS (λc v hc q=>k c v ?_ q) (λ_ q=>q) λ_ _ q=>q;rcases hc with z | z
  .rw[z];exact nit b u e
  .exact nit c _ z
end
noncomputable def Ih (Src:Hp->List (List V)->Prop):It:=
 ⟨λi H=>∃rows row,Src H rows/\rows[i]?=some row,λi H x H'=>∀rows,Src H rows->∃row p,rows[i]?=some row/\H p=none/\x=.ref p/\H'=upd H p (.tup row),λi H=>∃rows,Src H rows/\i=rows.length⟩
theorem Gd {P:Program}{w:World}{K:Frag}{elts:List Expr}{kx:Nat}{pos:Pos}{e:Addr}{fp wr fpw:List Addr}{Src:Hp->List (List V)->Prop}{core:Nat->Heap->Prop}
  (me:e∈fp) (hwr:∀b∈wr,b∈fp) (src1:∀H r r',Src H r->Src H r'->r=r')
  (obj:∀i h,core i h->∀b∈fp,∃o,h.get? b=some o/\∀v,o.data≠.cell v)
  (keep:∀i h h',core i h->(∀b∈fp,∀o,h.get? b=some o->h'.get? b=some o)->core i h')
  (self:∀(A:Around) (i:Nat) (s:Shared) (Q:Value->Shared->Prop) (E:Value->Shared->Prop),core i s.heap->Q (.ref e) s->wpAny (model P w) A (pyIter (.ref e)) Q E s)
  (W:∀(X:Cx),X.prog=P->X.w=w->X.K=K->X.calm=true->∀(i:Nat) (pins:List (Addr×Obj)) (s:Shared) (σ:St) (H:Hp),Inv X pins σ H s->(∀b∈fp,ku X pins H b)->core i s.heap->∀rows,Src H rows ->
   ∃(n:Nat) (Pt:Nat->Array Value->Prop) (St':Nat->Heap->Prop) (Mid:Nat->Addr->Heap->Prop),WalksT P w X.A e fpw wr n Pt St' Mid/\n=rows.length/\St' i s.heap/\(∀j vals,Pt j vals->∃row us,rows[j]?=some row/\vals=us.toArray/\Vals row us/\row.length<=sizeLine)/\∀j h,St' j h->core j h) :
  Turn P w K (.Tuple elts kx pos) (Ih Src) fp e core where
 mem:=me
 obj:=obj
 keep:=keep
 self:=self
 item:=by
  intro X hP hw hK hc i pins s σ H E I hf st hg;obtain ⟨rows,row,hs,hr⟩:=hg;obtain ⟨n,Pt,St',Mid,V,hn,st',hp,back⟩:=W X hP hw hK hc i pins s σ H I hf st rows hs;have hi:i<n:=by rw[hn];exact (List.getElem?_eq_some_iff.mp hr).1
  refine V.item i s _ E hi st' λT vals h' tk pt hT ht mid kk=>?_;obtain ⟨row',us,hr',rfl,rv,hz⟩:=hp i vals pt;refine ⟨.ref T,rfl,?_⟩;refine V.go elts kx pos i T { s with heap:=h',toks:=tk } _ E mid λh2 st2 k2=>?_;have nT:=V.apart i T h' mid;have ht2:h2.IsTuple T us.toArray:=ht.at λo q=>k2 T o nT q;have I2:Inv X pins σ (upd H T (.tup row')) { s with heap:=h2,toks:=tk }:=I.Ie (λb hb=>hf b (hwr b hb)) (λb o hb q=>k2 b o hb (kk b o hb q)) hT ht2 rv hz;refine ⟨.ref T,_,I2,rfl,λrows2 hs2=>?_,back _ _ st2,λb hb=>?_⟩
  .rw[src1 _ _ _ hs2 hs];exact ⟨row',T,hr',I.bp.fresh hT,rfl,rfl⟩
  .have hbT:b≠T:=by
    rintro rfl;obtain ⟨o,ho,_⟩:=obj _ _ st b hb;exact absurd (Nat.lt_of_lt_of_le (Heap.lt_size ho) hT) (Nat.lt_irrefl _)
   rw[aj hbT];exact (hf b hb).1
 done:=by
  intro X hP hw hK hc i pins s σ H E I hf st hg;obtain ⟨rows,hs,hr⟩:=hg;obtain ⟨n,Pt,St',Mid,V,hn,st',hp,back⟩:=W X hP hw hK hc i pins s σ H I hf st rows hs;rw[hr,<-hn] at st';exact V.done s _ E st' λh' tk kk=>⟨rfl,I.Dw (λb hb=>hf b (hwr b hb)) kk⟩
section
variable {X:Cx}
noncomputable def HD (K:Frag):List V->Hp->VK->Prop:=λxs H Q=>∃(p:Addr) (ns:List Int),xs = [.ref p]/\fV K H p (ns.map V.int)/\ns≠[]/\∀m:Int,m∈ns->(∀n∈ns,n<=m)->Q (.int m) H
theorem rA {zs:Array (Int×Tok)}{k:Nat}{v:Value}(h:(intItems zs)[k]?=some v):(∃t,v=.int (numAt zs k) t)/\numAt zs k∈zs.toList.map (·.1):=by
 refine ⟨intItems_at h,?_⟩;simp only[intItems,Array.getElem?_map,Option.map_eq_some_iff] at h;obtain ⟨p,hp,rfl⟩:=h;rw[numAt_eq];have hp':zs.toList[k]?=some p:=by rw[<-hp];simp
 rw[getD_eq_getElem?_getD,getElem?_map,hp'];exact mem_map.mpr ⟨p,mem_of_getElem? hp',rfl⟩
theorem kN {zs:Array (Int×Tok)}{n:Int}(h:n∈zs.toList.map (·.1)):∃j,j<=zs.size - 1/\numAt zs j=n:=by
 obtain ⟨j,hj⟩:=List.getElem?_of_mem h;have hl:j<zs.size:=by have:=(List.getElem?_eq_some_iff.mp hj).1;simpa using this
 exact ⟨j,by lia,by rw[numAt_eq,getD_eq_getElem?_getD,hj];rfl⟩
theorem ye (hc:X.calm=true):eD X (.builtin "max") (HD X.K):=by
 intro pins s σ H xs us Q I r h;obtain ⟨p,ns,rfl,hp,hne,q⟩:=h;obtain ⟨u,rfl,ru⟩:=vals1 r;cases ru;obtain ⟨its,rv,pl,hz⟩:=I.list hp;have hi:IntsAre its ns:=intsAre_of rv;obtain ⟨zs,e⟩:=hi.allInts.items;have e3:zs.toList.map (·.1)=ns:=by rw[<-nums_intItems,<-e];exact hi.numsOf
 have hsz:0<zs.size:=by
  have:ns.length=zs.size:=by rw[<-e3];simp
  have:ns.length≠0:=λz=>hne (length_eq_zero_iff.mp z);lia
 refine max_intList (I.ok.hd hc) (xs:=zs) (e ▸ pl.isList) hsz λv h' tk hv hk=>?_;obtain ⟨⟨t,rfl⟩,hm⟩:=rA hv;refine ⟨.int _,H,I.kept hk,⟨t,rfl⟩,q _ (e3 ▸ hm) λn hn=>?_⟩;obtain ⟨j,hj,ej⟩:=kN (e3 ▸ hn);rw[<-ej];exact (argBest_gt (numAt zs) (zs.size - 1)).2 j hj
noncomputable def ij (xs:List V):List (List V):=(List.range xs.length).map λi=>[V.int (i:Nat),(xs[i]?).getD .non]
theorem lC {xs:List V}{i:Nat}{x:V}(h:xs[i]?=some x):(ij xs)[i]?=some [.int (i:Nat),x]:=by
 unfold ij;rw[getElem?_map,List.getElem?_range (List.getElem?_eq_some_iff.mp h).1,Option.map_some,h];rfl
theorem lD (xs:List V):(ij xs).length=xs.length:=by unfold ij;simp
noncomputable def xN (a:Addr)(H:Hp)(rows:List (List V)):Prop:=∃xs,H a=some (.lst xs)/\rows=ij xs
theorem zj {P:Program}{w:World}{K:Frag}{elts:List Expr}{kx:Nat}{pos:Pos}(a e it:Addr)(hei:e≠it) :
    Turn P w K (.Tuple elts kx pos) (Ih (xN a)) [e,it] e (λi h=>(∃old,IsEnum h e it i old)/\h.IsListIter it a i):=by
  refine Gd (fpw:=[e,it,a]) (wr:=[e,it]) (by simp) (λb hb=>hb) (λH r r' ⟨xs,h1,h2⟩ ⟨ys,h3,h4⟩=>?_) (λi h ⟨⟨old,he⟩,hit⟩ b hb=>?_) (by rintro i h h' ⟨⟨old,he⟩,hit⟩ k;exact ⟨⟨old,k e (by simp) _ he⟩,hit.at λo q=>k it (by simp) o q⟩) (by rintro A i s Q E ⟨⟨old,he⟩,hit⟩ q;exact wpAny_pyIter_enum he q) ?_
  · rw[h1] at h3;cases h3;rw[h2,h4]
  · rcases List.mem_cons.mp hb with rfl | hb
    · exact ⟨_,he,λv z=>by have z':Data.fields _=Data.cell v:=z;cases z'⟩
    · have : b = it := by simpa using hb
      subst this;obtain ⟨o,ho,_,hd⟩:=hit;exact ⟨o,ho,λv z=>by rw[hd] at z;cases z⟩
  · intro X hP hw hK hc i pins s σ H I hf st rows ⟨xs,hx,hr⟩;subst hP hw hK;obtain ⟨z,its,n,rv,hl⟩:=I.bp a _ hx;have hlist:s.heap.IsList a its.toArray:=⟨_,hl,rfl,n,rfl⟩
    have nae:a≠e:=λq=>by have:=(hf e (by simp)).1;rw[<-q,hx] at this;cases this
    have nai:a≠it:=λq=>by have:=(hf it (by simp)).1;rw[<-q,hx] at this;cases this
    refine ⟨its.toArray.size,_,_,_,WalksT.enumerate (I.ok.hd hc) e it a hei nae nai its.toArray,by rw[hr,lD,size_toArray,rv.length],⟨st.1,st.2,hlist⟩,?_,λj h ⟨h1,h2,_⟩=>⟨h1,h2⟩⟩;rintro j vals ⟨t,x,h1,h2⟩;have h1':its[j]?=some x:=by simpa using h1
    have hj:j<xs.length:=by rw[rv.length];exact (List.getElem?_eq_some_iff.mp h1').1
    obtain ⟨u,g1,g2⟩:=rv.get (getElem?_eq_getElem hj);rw[h1'] at g1;cases g1;exact ⟨[.int (j:Nat),xs[j]],[.int j t,x],by rw[hr];exact lC (getElem?_eq_getElem hj),h2,.cons ⟨t,rfl⟩ (.cons g2 .nil),eu (Nat.le_of_ble_eq_true rfl)⟩
noncomputable def GW (ta:TA):TI:=λσ H R=>ta σ H λvs H1=>∃a xs,vs = [.ref a]/\H1 a=some (.lst xs)/\R (Ih (xN a)) H1
theorem C0 {elts:List Expr}{kx:Nat}{tpos:Pos}{l:Expr}{ta:TA}{p pos:Pos}(hg:Gl X "enumerate")(hm:X.mg "enumerate" = none)(ha:PA X [l] ta)(hs:autoParam (starEach [l] X.env = [(false,eval l X.env)]) aZa._auto_1):PI X (.Tuple elts kx tpos) (.Call (.Name "enumerate" p) [l] [] pos) (GW ta):=by
  intro pins s σ H R I h;refine Call_ (kL I hg hm boot_enumerate (PyProof.Rows.callWith_type1 (bV (ha pos pins s σ H _ I h) ?_) hs rfl));rintro us s1 ⟨vs,H1,I1,r1,q1⟩;obtain ⟨a,xs,rfl,hx,q⟩:=q1;obtain ⟨u,rfl,ru⟩:=vals1 r1;cases ru;obtain ⟨z,its,n,rv,hl⟩:=I1.bp a _ hx;refine call_enumerate_list (items:=its.toArray) ⟨_,hl,rfl,n,rfl⟩ λh' he hit hsz hk=>?_;refine wpAny_pyIter_enum he ?_;have I2:Inv X pins σ H1 { s1 with heap:=h' }:=I1.kept (t':=s1.toks) hk;refine ⟨s1.heap.objs.size+1,[s1.heap.objs.size+1,s1.heap.objs.size],_,_,H1,rfl,I2,zj a _ _ (Nat.succ_ne_self _),⟨⟨_,he⟩,hit⟩,λb hb=>?_,q⟩;rcases List.mem_cons.mp hb with rfl | hb
  · exact I1.vC (Nat.le_succ _) (I1.bp.fresh (Nat.le_succ _))
  · have e : b = s1.heap.objs.size := by simpa using hb
    subst e;exact I1.vC (Nat.le_refl _) (I1.bp.fresh (Nat.le_refl _))
section
variable {prog:Program} {w:World} {A:Around} {E:Value->Shared->Prop} {s:Shared}
theorem qH {it t:Addr}{items:Array Value}(hne:t≠it):∀(n i:Nat) (s:Shared) (Q:List Value->Shared->Prop),s.heap.IsListIter it t i->s.heap.IsList t items->i+n<=items.size ->
  (∀h',h'.IsListIter it t (i+n)->Heap.SameBut it s.heap h'->Q ((items.toList.drop i).take n) { s with heap:=h' })->wpAny (model prog w) A (draw (.ref it) n) Q E s
 | 0,i,s,Q,hit,_,_,hQ=>by
  show wpAny _ _ (pure []) Q E s;exact wpAny_pure (by simpa using hQ s.heap hit (Heap.SameBut.refl ..))
 | n+1,i,s,Q,hit,ht,hle,hQ=>by
  have hlt:i<items.size:=by lia
  show wpAny _ _ (pyNext (.ref it) >>= _) Q E s;refine wpAny_bind (wpAny_pyNext_list_item hit ht (x:=items[i]) (by simp[hlt]) λh₁ hit₁ hs₁=>?_);refine wpAny_bind (wpAny_holding (qH hne n (i+1) _ _ hit₁ (ht.extBut hs₁.extBut hne) (by lia) λh₂ hit₂ hs₂=>wpAny_pure ?_));have hd:items.toList.drop i=items[i]::items.toList.drop (i+1):=by simp[drop_eq_getElem_cons,hlt]
  have:=hQ h₂ (by rw[show i+(n+1)=i+1+n by lia];exact hit₂) (hs₁.trans hs₂);rw[hd,List.take_succ_cons] at this;exact this
theorem m5 {t:Addr}{items:Array Value}{Q:List Value->Shared->Prop}(hh:A.handled=none)(ht:s.heap.IsList t items)
  (hQ:∀h',Heap.ExtBut s.heap.objs.size s.heap h'->Q items.toList { s with heap:=h' }):wpAny (model prog w) A (unpackItems (.ref t) items.size none) Q E s:=by
 have hlt:t≠s.heap.objs.size:=by obtain ⟨o,ho,_⟩:=ht;exact Nat.ne_of_lt (Heap.lt_size ho)
 unfold unpackItems;refine wpAny_bind ?_;unfold notIterableAtAll;refine wpAny_bind (wpAny_specialOf ht.typeIs slot_list_iter.lookup ?_);refine wpAny_pure ?_;simp only[Bool.false_eq_true,if_false];refine wpAny_bind (wpAny_holding (wpAny_pyIter_list ht ?_));refine wpAny_bind (wpAny_holding (qH hlt items.size 0 _ _ ⟨_,Heap.get?_push_size _ rfl,rfl,rfl⟩ (ht.at λo e=>Heap.get?_push_of_some _ e) (by lia) λh₁ hit₁ hs₁=>?_));have hall:List.take items.size (List.drop 0 items.toList)=items.toList:=by
  rw[List.drop_zero];exact take_of_length_le (by simp)
 rw[hall];rw[if_neg (by simp)];have ht₁:h₁.IsList t items:=(ht.at λo e=>Heap.get?_push_of_some _ e).extBut hs₁.extBut hlt;refine wpAny_bind (wpAny_holding (wpAny_pyNext_list_end hh hit₁ ht₁ (by simp) λh₂ he₂=>?_));simp only[Option.isSome_none,Bool.false_eq_true,if_false];refine wpAny_pure (hQ h₂ λb o hb e=>he₂ b o hb (hs₁.extBut b o hb (Heap.get?_push_of_some _ e)))
theorem kY {env:Env}{elts:List Expr}{x1}{pos:Pos}{t:Addr}{items:Array Value}{Q:Unit->Shared->Prop}(hh:A.handled=none)(ht:s.heap.IsList t items)
  (hn:(assignEach elts env).length=items.size) (hstar:(assignEach elts env).findIdx? (·.1)=none)
  (h:∀h',Heap.ExtBut s.heap.objs.size s.heap h'->wpAny (model prog w) A (assignInOrder ((assignEach elts env).map (·.2)) items.toList) Q E { s with heap:=h' }) :
  wpAny (model prog w) A (assign (.Tuple elts x1 pos) env (.ref t)) Q E s:=by
 rw[assign_Tuple];refine wpAny_bind (wpAny_standAt ?_);unfold unpack;rw[hn,hstar];exact wpAny_bind (wpAny_holding (m5 hh ht h))
end
noncomputable def GS (K:Frag)(n:Nat)(t:DD):TG:=λv σ H Q=>∃a xs,v=.ref a/\(jR K H a xs\/fV K H a xs)/\xs.length=n/\t xs σ H Q
theorem hO {es:List Expr}{k:Nat}{t:DD}{n:Nat}{pos:Pos}(hc:X.calm=true)(h:Ij X es t)
  (hn:autoParam ((assignEach es X.env).length=n) aZa._auto_1) (hst:autoParam ((assignEach es X.env).findIdx? (·.1)=none) aZa._auto_1):PG X (.Tuple es k pos) (GS X.K n t):=by
 intro pins s σ H v u Q I r hw;obtain ⟨a,xs,e1,hq,hl,hw⟩:=hw;subst e1;cases r;rcases hq with hq | hq
 .obtain ⟨its,rv,ht,hz⟩:=I.tuple hq;refine assign_Tuple_tuple (I.ok.hd hc) ht (by simp[hn,<-hl,rv.length]) hst λh' hx=>?_;have I1:Inv X pins σ H { s with heap:=h' }:=I.kept (t':=s.toks) λb o e=>hx b o (Nat.ne_of_lt (Heap.lt_size e)) e;exact h pins _ σ H xs _ Q I1 (by simpa using rv) hw
 .obtain ⟨its,rv,ht,hz⟩:=I.list hq;refine kY (I.ok.hd hc) ht.isList (by simp[hn,<-hl,rv.length]) hst λh' hx=>?_;have I1:Inv X pins σ H { s with heap:=h' }:=I.kept (t':=s.toks) λb o e=>hx b o (Nat.ne_of_lt (Heap.lt_size e)) e;exact h pins _ σ H xs _ Q I1 (by simpa using rv) hw
end
end L2
namespace DL
open PySem L2
inductive D where
 | non | bl (b:Bool) | int (i:Int) | str (x:Str) | tup (xs:List D) | lst (xs:List D) | scr (ns:List Int)
 | dct (kvs:List ((Int×Int)×Int))
 | sen (ks:List (List Int))
noncomputable def lB (ks:List (List Int)):List (List Key×V):=ks.map λk=>(k.map Sum.inl,V.bl true)
noncomputable def encD (kvs:List ((Int×Int)×Int)):List (List Key×V):=kvs.map λp=>([Sum.inl p.1.1,Sum.inl p.1.2],V.int p.2)
inductive Rep (K:Frag)(G:Hp):V->D->Prop where
 | non:Rep K G .non .non
 | bl (b:Bool):Rep K G (.bl b) (.bl b)
 | int (i:Int):Rep K G (.int i) (.int i)
 | str (x:Str):Rep K G (.str x) (.str x)
 | tup {a:Addr} {vs:List V} {ds:List D} (h:G a=some (.tup vs)) (l:vs.length=ds.length) (r:∀(i:Nat) (v:V) (d:D),vs[i]?=some v->ds[i]?=some d->Rep K G v d):Rep K G (.ref a) (.tup ds)
 | scr {a:Addr} {ns:List Int} (h:fV K G a (ns.map V.int)):Rep K G (.ref a) (.scr ns)
 | dct {a:Addr} {kvs:List ((Int×Int)×Int)} (h:Rd G a (.dT (encD kvs))):Rep K G (.ref a) (.dct kvs)
 | sen {a:Addr} {ks:List (List Int)} (h:Rd G a (.dT (lB ks))):Rep K G (.ref a) (.sen ks)
 | lst {a:Addr} {vs:List V} {ds:List D} (h:G a=some (.lst vs)) (l:vs.length=ds.length) (r:∀(i:Nat) (v:V) (d:D),vs[i]?=some v->ds[i]?=some d->Rep K G v d):Rep K G (.ref a) (.lst ds)
noncomputable abbrev aR (K:Frag)(G:Hp):List V->List D->Prop:=Paired (Rep K G)
theorem ix {α β:Type}{F:α->β->Prop}:∀{l:List α} {r:List β},l.length=r.length->(∀(i:Nat) (a:α) (b:β),l[i]?=some a->r[i]?=some b->F a b)->Paired F l r
 | [],[],_,_=>.nil
 | a::l,b::r,e,h=>.cons (h 0 a b rfl rfl) (ix (by simpa using e) λi x y h1 h2=>h (i+1) x y (by simpa using h1) (by simpa using h2))
theorem jY {α β:Type}{F:α->β->Prop}:∀{l:List α} {r:List β},Paired F l r->∀(i:Nat) (a:α) (b:β),l[i]?=some a->r[i]?=some b->F a b
 | _,_,.nil,_,_,_,h,_=>by simp at h
 | _,_,.cons h _,0,_,_,h1,h2=>by simp at h1 h2;subst h1;subst h2;exact h
 | _,_,.cons _ t,i+1,a,b,h1,h2=>jY t i a b (by simpa using h1) (by simpa using h2)
theorem bt {α β:Type}{F:α->β->Prop}:∀{l:List α} {r:List β} {i:Nat} {b:β},Paired F l r->r[i]?=some b->∃a,l[i]?=some a/\F a b
 | _,_,_,_,.nil,e=>by simp at e
 | _,_,0,_,.cons h _,e=>by simp at e;subst e;exact ⟨_,rfl,h⟩
 | _,_,i+1,b,.cons _ t,e=>by
  obtain ⟨a,h1,h2⟩:=bt (i:=i) (b:=b) t (by simpa using e);exact ⟨a,by simpa using h1,h2⟩
section
variable {K:Frag} {G G' H H':Hp} {v:V} {d:D} {ds:List D} {vs:List V}
theorem Rep.sS {a:Addr}(h:G a=some (.tup vs))(r:aR K G vs ds):Rep K G (.ref a) (.tup ds):=.tup h (Paired.length r) (jY r)
theorem Rep.CJ {a:Addr}(h:G a=some (.lst vs))(r:aR K G vs ds):Rep K G (.ref a) (.lst ds):=.lst h (Paired.length r) (jY r)
theorem Rep.eW (h:Rep K G v (.tup ds)):∃a vs,v=.ref a/\jR K G a vs/\aR K G vs ds:=by
 cases h with | tup h l r=>exact ⟨_,_,rfl,.inl (.inl h),ix l r⟩
theorem Rep.jd (h:Rep K G v (.tup ds)):∃a vs,v=.ref a/\G a=some (.tup vs)/\aR K G vs ds:=by
 cases h with | tup h l r=>exact ⟨_,_,rfl,h,ix l r⟩
theorem Rep.lst_inv (h:Rep K G v (.lst ds)):∃a vs,v=.ref a/\G a=some (.lst vs)/\aR K G vs ds:=by
 cases h with | lst h l r=>exact ⟨_,_,rfl,h,ix l r⟩
theorem Rep.int_inv {i:Int}(h:Rep K G v (.int i)):v=.int i:=by cases h;rfl
theorem Rep.gf {b:Bool}(h:Rep K G v (.bl b)):v=.bl b:=by cases h;rfl
theorem Rep.str_inv {x:Str}(h:Rep K G v (.str x)):v=.str x:=by cases h;rfl
theorem Rep.xq (h:Rep K G v .non):v=.non:=by cases h;rfl
theorem iZ {a:Addr}{u:HO}(e:aq G G')(h:Rd G a u):Rd G' a u:=h.elim (λz=>.inl (e _ _ z)) λ⟨o,z⟩=>.inr ⟨o,e _ _ z⟩
theorem aM {a:Addr}{xs:List V}(e:aq G G')(h:jR K G a xs):jR K G' a xs:=by
 rcases h with (h | ⟨o,h⟩) | h
 .exact .inl (.inl (e _ _ h))
 .exact .inl (.inr ⟨o,e _ _ h⟩)
 .exact .inr h
theorem Rep.mono (s:aq G G')(h:Rep K G v d):Rep K G' v d:=by
 induction h with
 | non=>exact .non
 | bl b=>exact .bl b
 | int i=>exact .int i
 | str x=>exact .str x
 | tup h l r ih=>exact .tup (s _ _ h) l ih
 | lst h l r ih=>exact .lst (s _ _ h) l ih
 | scr h=>exact .scr (s.seq h)
 | dct h=>exact .dct (iZ s h)
 | sen h=>exact .sen (iZ s h)
theorem aR.mono (s:aq G G')(h:aR K G vs ds):aR K G' vs ds:=Paired.imp' (λ_ _=>Rep.mono s) h
noncomputable def D.sc:D->Bool
 | .tup _=>false
 | .lst _=>false
 | .scr _=>false
 | .dct _=>false
 | .sen _=>false
 | _=>true
theorem Rep.sc (h:Rep K G v d)(e:d.sc=true):Rep K G' v d:=by
 cases h with
 | non=>exact .non
 | bl b=>exact .bl b
 | int i=>exact .int i
 | str x=>exact .str x
 | tup h l r=>cases e
 | lst h l r=>cases e
 | scr h=>cases e
 | dct h=>cases e
 | sen h=>cases e
end
inductive B where
 | p (d:D) | o (d:D) | n (t:Bool) (ds:List D)
noncomputable def B.val:B->D
 | .p d=>d
 | .o d=>d
 | .n true ds=>.tup ds
 | .n false ds=>.lst ds
noncomputable abbrev aB:=List (Option B)
noncomputable def aT:aB->Nat->Option B
 | [],_=>none
 | b::_,0=>b
 | _::r,n+1=>aT r n
noncomputable def dput:aB->Nat->B->aB
 | [],_,_=>[]
 | _::r,0,b=>some b::r
 | c::r,n+1,b=>c::dput r n b
noncomputable def iP:Option B->Option B
 | none=>none
 | some b=>some (.p b.val)
noncomputable def bu:aB->aB
 | []=>[]
 | c::r=>iP c::bu r
theorem dG (b:B):∀(ρ:aB) (i:Nat),(dput ρ i b).length=ρ.length
 | [],_=>rfl
 | _::_,0=>rfl
 | _::r,n+1=>by show (dput r n b).length+1=r.length+1;rw[dG b r n]
theorem wQ:∀(ρ:aB),(bu ρ).length=ρ.length
 | []=>rfl
 | _::r=>by show (bu r).length+1=_;rw[wQ r];rfl
theorem aL {b:B}:∀{ρ:aB} {i j:Nat} {c:B},aT (dput ρ i b) j=some c->(i=j/\j<ρ.length/\c=b)\/(i≠j/\aT ρ j=some c)
 | [],_,_,_,h=>by cases h
 | _::_,0,0,_,h=>.inl ⟨rfl,Nat.succ_pos _,(Option.some.inj h).symm⟩
 | _::_,0,j+1,_,h=>.inr ⟨Nat.succ_ne_zero j |>.symm,h⟩
 | _::_,i+1,0,_,h=>.inr ⟨Nat.succ_ne_zero i,h⟩
 | _::r,i+1,j+1,_,h=>by
  rcases aL (ρ:=r) (i:=i) (j:=j) h with ⟨h1,h2,h3⟩ | ⟨h1,h2⟩
  .exact .inl ⟨by rw[h1],Nat.succ_lt_succ h2,h3⟩
  .exact .inr ⟨λe=>h1 (Nat.succ.inj e),h2⟩
theorem oz:∀{ρ:aB} {i:Nat} {c:B},aT (bu ρ) i=some c->∃b,aT ρ i=some b/\c=.p b.val
 | [],_,_,h=>by cases h
 | none::_,0,_,h=>by cases h
 | some b::_,0,_,h=>⟨b,rfl,(Option.some.inj h).symm⟩
 | _::r,i+1,_,h=>oz (ρ:=r) h
theorem wL:∀{ρ:aB} {i:Nat} {c:B},aT ρ i=some c->i<ρ.length
 | [],_,_,h=>by cases h
 | _::_,0,_,_=>Nat.succ_pos _
 | _::r,i+1,_,h=>Nat.succ_lt_succ (wL (ρ:=r) h)
noncomputable def bQ (K:Frag)(G H:Hp)(a:Addr)(d:D):Prop:=G a=none/\match d with
 | .lst ds=>∃vs,H a=some (.lst vs)/\aR K G vs ds
 | .dct kvs=>H a=some (.dT (encD kvs))
 | .sen ks=>H a=some (.dT (lB ks))
 | _=>False
noncomputable def Em (H:Hp)(a:Addr):Prop:=∃o,H a=some o/\∀xs,o≠.tup xs
theorem Em.there {H:Hp}{a:Addr}(h:Em H a):H a≠none:=by obtain ⟨o,e,_⟩:=h;rw[e];simp
structure Wd (H0 G0 H G:Hp):Prop where
 hh:aq H0 H
 gg:aq G0 G
 gh:aq G H
 old:∀a,Em H0 a->G a=G0 a
theorem Wd.refl {H G:Hp}(s:aq G H):Wd H G H G:=⟨aq.refl _,aq.refl _,s,λ_ _=>rfl⟩
theorem Wd.trans {H0 G0 H1 G1 H2 G2:Hp}(a:Wd H0 G0 H1 G1)(b:Wd H1 G1 H2 G2):Wd H0 G0 H2 G2:=
 ⟨a.hh.trans b.hh,a.gg.trans b.gg,b.gh,λx h=>by
  have h1:Em H1 x:=by obtain ⟨o,e,n⟩:=h;exact ⟨o,a.hh _ _ e,n⟩
  rw[b.old x h1,a.old x h]⟩
theorem Wd.new {H0 G0 H G:Hp}{p:Addr}{o:HO}(w:Wd H0 G0 H G)(h:H p=none):Wd H0 G0 (upd H p o) (upd G p o):=
 ⟨w.hh.upd (w.hh.free h),w.gg.upd (w.gg.free (w.gh.free h)),λb u e=>by
  by_cases z:b=p
  .subst z;rw[ao] at e ⊢;exact e
  .rw[aj z] at e ⊢;exact w.gh b u e,λa ha=>by
  have z:a≠p:=λe=>ha.there (e ▸ w.hh.free h);rw[aj z,w.old a ha]⟩
theorem Wd.own {H0 G0 H G:Hp}{p:Addr}{o:HO}(w:Wd H0 G0 H G)(h0:H0 p=none)(h:G p=none):Wd H0 G0 (upd H p o) G:=
 ⟨w.hh.upd h0,w.gg,w.gh.upd h,w.old⟩
theorem Wd.give {H0 G0 H G:Hp}{p:Addr}{o:HO}(w:Wd H0 G0 H G)(h0:H0 p=none\/∃xs,o=.tup xs)(h:G p=none)(e:H p=some o):Wd H0 G0 H (upd G p o):=
 ⟨w.hh,w.gg.upd (w.gg.free h),λb u k=>by
  by_cases z:b=p
  .subst z;rw[ao] at k;rw[e,k]
  .rw[aj z] at k;exact w.gh b u k,λa ha=>by
  have z:a≠p:=λz=>by
   subst z;obtain ⟨u,e1,n⟩:=ha;rcases h0 with h0 | ⟨xs,h0⟩
   .rw[h0] at e1;cases e1
   .have:=w.hh _ _ e1;rw[e] at this;cases this;exact n xs h0
  rw[aj z,w.old a ha]⟩
theorem bQ.rep {K:Frag}{G H G2:Hp}{a:Addr}{d:D}(h:bQ K G H a d)(s:aq G G2)(e:∀o,H a=some o->G2 a=some o):Rep K G2 (.ref a) d:=by
 obtain ⟨g,k⟩:=h;cases d with
 | lst ds =>
  obtain ⟨vs,e',r⟩:=k;exact Rep.CJ (e _ e') (aR.mono s r)
 | dct kvs=>exact .dct (.inl (e _ k))
 | sen kvs=>exact .sen (.inl (e _ k))
 | non=>exact k.elim
 | bl _=>exact k.elim
 | int _=>exact k.elim
 | str _=>exact k.elim
 | tup _=>exact k.elim
 | scr _=>exact k.elim
noncomputable def gc (K:Frag)(H G' H':Hp)(v:V):B->Prop
 | .p d=>Rep K G' v d
 | .o d=>∃a,v=.ref a/\H a=none/\bQ K G' H' a d
 | .n true ds=>∃a as,v=.ref a/\G' a=some (.tup (as.map V.ref))/\as.Nodup/\Paired (λx d=>H x=none/\bQ K G' H' x d) as ds
 | .n false ds=>∃a as,v=.ref a/\H a=none/\G' a=none/\H' a=some (.lst (as.map V.ref))/\a∉as/\as.Nodup/\Paired (λx d=>H x=none/\bQ K G' H' x d) as ds
theorem gc.ahead {K:Frag}{H0 H G' H':Hp}{v:V}{b:B}(s:aq H0 H)(h:gc K H G' H' v b):gc K H0 G' H' v b:=by
 cases b with
 | p d=>exact h
 | o d=>obtain ⟨a,e,n,o⟩:=h;exact ⟨a,e,s.free n,o⟩
 | n t ds =>
  cases t with
  | false =>
   obtain ⟨a,as,e,n,g,q,na,nd,pr⟩:=h;exact ⟨a,as,e,s.free n,g,q,na,nd,Paired.imp' (λ_ _ z=>⟨s.free z.1,z.2⟩) pr⟩
  | true =>
   obtain ⟨a,as,e,q,nd,pr⟩:=h;exact ⟨a,as,e,q,nd,Paired.imp' (λ_ _ z=>⟨s.free z.1,z.2⟩) pr⟩
theorem Wd.all {H G H' G':Hp}(w:Wd H G H' G'):∃G2,Wd H G H' G2/\aq G' G2/\∀a,H a=none->G' a=none->G2 a=H' a:=by
 classical
 have sG:aq G' (λa=>if H a=none/\G' a=none then H' a else G' a):=λa o h=>by
  show (if _ then H' a else G' a)=_;rw[if_neg λq=>by rw[q.2] at h;cases h];exact h
 refine ⟨λa=>if H a=none/\G' a=none then H' a else G' a,⟨w.hh,w.gg.trans sG,λa o h=>?_,λa h=>?_⟩,sG,λa h1 h2=>if_pos ⟨h1,h2⟩⟩
 .have h':(if H a=none/\G' a=none then H' a else G' a)=some o:=h;split at h'
  .exact h'
  .exact w.gh _ _ h'
 .show (if H a=none/\G' a=none then H' a else G' a)=_;rw[if_neg λq=>h.there q.1];exact w.old a h
theorem gc.give {K:Frag}{H G H' G':Hp}{v:V}{b:B}(w:Wd H G H' G')(h:gc K H G' H' v b):∃G2,Wd H G H' G2/\Rep K G2 v b.val:=by
 cases b with
 | p d=>exact ⟨G',w,h⟩
 | n t ds =>
  cases t with
  | false =>
   obtain ⟨a,as,rfl,n,g,q,na,nd,pr⟩:=h;obtain ⟨G2,w2,s2,k2⟩:=w.all;refine ⟨G2,w2,Rep.CJ (by rw[k2 _ n g];exact q) ?_⟩;clear q nd na;induction pr with
   | nil=>exact .nil
   | cons f _ ih=>exact .cons (f.2.rep s2 λo z=>by rw[k2 _ f.1 f.2.1];exact z) ih
  | true =>
   obtain ⟨a,as,rfl,q,nd,pr⟩:=h;obtain ⟨G2,w2,s2,k2⟩:=w.all;refine ⟨G2,w2,Rep.sS (s2 _ _ q) ?_⟩;clear q nd;induction pr with
   | nil=>exact .nil
   | cons f _ ih=>exact .cons (f.2.rep s2 λo z=>by rw[k2 _ f.1 f.2.1];exact z) ih
 | o d =>
  obtain ⟨a,rfl,n,k⟩:=h;obtain ⟨G2,w2,s2,k2⟩:=w.all;exact ⟨G2,w2,k.rep s2 λo z=>by rw[k2 _ n k.1];exact z⟩
noncomputable abbrev DT:=aB->(B->Prop)->Prop
noncomputable abbrev jo:=aB->(Bool->Prop)->Prop
noncomputable abbrev eB:=aB->(List D->Prop)->Prop
noncomputable def eF (K:Frag)(G:Hp)(σ:St)(ρ:aB):Prop:=∀i d,aT ρ i=some (.p d)->∃v,σ[i]?=some (some v)/\Rep K G v d
theorem eF.mono {K:Frag}{G G':Hp}{σ:St}{ρ:aB}(s:aq G G')(h:eF K G σ ρ):eF K G' σ ρ:=λi d e=>by
 obtain ⟨v,h1,h2⟩:=h i d e;exact ⟨v,h1,h2.mono s⟩
noncomputable def cE (K:Frag)(t:DT):TE:=λσ H Q=>∃(G:Hp) (ρ:aB) (P:B->Prop),aq G H/\eF K G σ ρ/\t ρ P/\∀b v H' G',P b->Wd H G H' G'->gc K H G' H' v b->Q v H'
noncomputable def cT (K:Frag)(t:jo):TT:=λσ H Q=>∃(G:Hp) (ρ:aB) (P:Bool->Prop),aq G H/\eF K G σ ρ/\t ρ P/\∀b H' G',P b->Wd H G H' G'->Q b H'
noncomputable def cA (K:Frag)(n:Nat)(t:eB):TA:=λσ H Q=>∃(G:Hp) (ρ:aB) (P:List D->Prop),aq G H/\eF K G σ ρ/\t ρ P/\∀ds vs H' G',P ds->ds.length=n->Wd H G H' G'->aR K G' vs ds->Q vs H'
structure DE (X:Cx)(e:Expr)(t:DT):Prop where
 pe:PE X e (cE X.K t)
structure tj (X:Cx)(e:Expr)(t:jo):Prop where
 pt:PT X e (cT X.K t)
structure DW (X:Cx)(e:Expr)(t:jo):Prop where
 pw:PW X e (cT X.K t)
structure DA (X:Cx)(es:List Expr)(t:eB):Prop where
 pa:PA X es (cA X.K es.length t)
theorem PE.imp {X:Cx}{e:Expr}{t t':TE}(h:PE X e t)(i:∀σ H Q,t' σ H Q->t σ H Q):PE X e t':=λpins s σ H Q I q=>h pins s σ H Q I (i σ H Q q)
theorem PT.imp {X:Cx}{e:Expr}{t t':TT}(h:PT X e t)(i:∀σ H Q,t' σ H Q->t σ H Q):PT X e t':=λpins s σ H Q I q=>h pins s σ H Q I (i σ H Q q)
theorem PW.imp {X:Cx}{e:Expr}{t t':TT}(h:PW X e t)(i:∀σ H Q,t' σ H Q->t σ H Q):PW X e t':=λwh pins s σ H Q I q=>h wh pins s σ H Q I (i σ H Q q)
theorem PA.imp {X:Cx}{es:List Expr}{t t':TA}(h:PA X es t)(i:∀σ H Q,t' σ H Q->t σ H Q):PA X es t':=λpos pins s σ H Q I q=>h pos pins s σ H Q I (i σ H Q q)
theorem PS.imp {X:Cx}{st:Stmt}{t t':TS}(h:PS X st t)(i:∀D σ H,t' D σ H->t D σ H):PS X st t':=λpins s σ H D I q=>h pins s σ H D I (i D σ H q)
theorem qp.imp {X:Cx}{st:List Stmt}{t t':TS}(h:qp X st t)(i:∀D σ H,t' D σ H->t D σ H):qp X st t':=λpins s σ H D I q=>h pins s σ H D I (i D σ H q)
theorem DE.of {X:Cx}{e:Expr}{t:TE}{t':DT}(h:PE X e t)(i:∀σ H Q,cE X.K t' σ H Q->t σ H Q):DE X e t':=⟨PE.imp h i⟩
theorem tj.of {X:Cx}{e:Expr}{t:TT}{t':jo}(h:PT X e t)(i:∀σ H Q,cT X.K t' σ H Q->t σ H Q):tj X e t':=⟨PT.imp h i⟩
theorem DW.of {X:Cx}{e:Expr}{t:TT}{t':jo}(h:PW X e t)(i:∀σ H Q,cT X.K t' σ H Q->t σ H Q):DW X e t':=⟨PW.imp h i⟩
theorem DA.of {X:Cx}{es:List Expr}{t:TA}{t':eB}(h:PA X es t)(i:∀σ H Q,cA X.K es.length t' σ H Q->t σ H Q):DA X es t':=⟨PA.imp h i⟩
section
variable {X:Cx} {a b e:Expr} {ta tb te:DT} {pos:Pos}
noncomputable def aS (i:Nat):DT:=λρ Q=>match aT ρ i with
 | some (.p d)=>Q (.p d)
 | _=>False
set_option tactic.hygienic true in
theorem dv (i:Nat){x:Str}(hN:autoParam (X.N[i]?=some x) aZa._auto_1)(hv:autoParam (vj X.env.scope x) aZe._auto_1)(hd:autoParam ((x == ("__debug__" : Str))=false) aZb._auto_1)
  (hcd:autoParam ((x == ("__classdict__" : Str))=false) aZb._auto_1):DE X (.Name x pos) (aS i):=
 DE.of (gz hN hv hd hcd)<|by
  rintro σ H Q ⟨G,ρ,P,s,r,h,k⟩;unfold aS at h;split at h
  .rename_i d e;obtain ⟨v,h1,h2⟩:=r _ _ e;exact ⟨v,h1,k _ v H G h (Wd.refl s) h2⟩
  .exact h.elim
noncomputable def dC (d:D):DT:=λ_ Q=>Q (.p d)
noncomputable def El (K:Frag)(v:V)(d:D):Prop:=∀G,Rep K G v d
theorem yn {v:V}{d:D}(h:PE X e (tC v))(r:El X.K v d):DE X e (dC d):=
 DE.of h (by rintro σ H Q ⟨G,ρ,P,s,_,h,k⟩;exact k _ v H G h (Wd.refl s) (r G))
theorem ae {i:Int}{j}:DE X (.Constant (.int i) j pos) (dC (.int i)):=yn Fv λ_=>.int i
theorem qF {b:Bool}{j}:DE X (.Constant (.bool b) j pos) (dC (.bl b)):=yn AX λ_=>.bl b
theorem ju {j}:DE X (.Constant .none j pos) (dC .non):=yn Fx λ_=>.non
theorem dB {x:Str}{j}:DE X (.Constant (.str x) j pos) (dC (.str x)):=yn FA λ_=>.str x
theorem qM {K:Frag}{H G H1 G1:Hp}{P:B->Prop}{Q:VK}(k:∀b v H' G',P b->Wd H G H' G'->gc K H G' H' v b->Q v H')(w:Wd H G H1 G1):∀b v H' G',P b->Wd H1 G1 H' G'->gc K H1 G' H' v b->Q v H':=
 λb v H' G' p w' r=>k b v H' G' p (w.trans w') (r.ahead w.hh)
noncomputable abbrev D2:=D->D->(B->Prop)->Prop
noncomputable def pO (X:Cx)(f:Value->Value->Sem Value)(r:D2):Prop:=∃rv:R2,j4 X f rv /\
 ∀(H G:Hp) (x y:V) (dx dy:D) (P:B->Prop) (Q:VK),aq G H->Rep X.K G x dx->Rep X.K G y dy->r dx dy P->(∀b v H' G',P b->Wd H G H' G'->gc X.K H G' H' v b->Q v H')->rv x y H Q
noncomputable def g6 (r:D2)(ta tb:DT):DT:=λρ Q=>ta ρ λx=>tb ρ λy=>r x.val y.val Q
theorem oj {K:Frag}{ta tb:DT}{r:D2}{rv:R2}(hr:∀(H G:Hp) (x y:V) (dx dy:D) (P:B->Prop) (Q:VK),aq G H->Rep K G x dx->Rep K G y dy->r dx dy P->(∀b v H' G',P b->Wd H G H' G'->gc K H G' H' v b->Q v H')->rv x y H Q)
  (σ:St) (H:Hp) (Q:VK):cE K (g6 r ta tb) σ H Q->Gm rv (cE K ta) (cE K tb) σ H Q:=by
 rintro ⟨G,ρ,P,s,re,h,k⟩;refine ⟨G,ρ,_,s,re,h,λb v H1 G1 p1 w1 r1=>?_⟩;obtain ⟨G1',w1',r1'⟩:=r1.give w1;refine ⟨G1',ρ,_,w1'.gh,re.mono w1'.gg,p1,λb2 v2 H2 G2 p2 w2 r2=>?_⟩;obtain ⟨G2',w2',r2'⟩:=r2.give w2;exact hr H2 G2' v v2 b.val b2.val P Q w2'.gh (r1'.mono w2'.gg) r2' p2 (qM k (w1'.trans w2'))
theorem au {op:Operator}{r:D2}(ho:pO X (binaryOp op) r)(ha:DE X a ta)(hb:DE X b tb):DE X (.BinOp a op b pos) (g6 r ta tb):=by
 obtain ⟨rv,h1,h2⟩:=ho;exact DE.of (A0 h1 ha.pe hb.pe) (oj h2)
theorem jt {op:CmpOp}{r:D2}(ho:pO X (compareOp op) r)(ha:DE X a ta)(hb:DE X b tb)(hm:behindInMarks op b=false):DE X (.Compare a [op] [b] pos) (g6 r ta tb):=by
 obtain ⟨rv,h1,h2⟩:=ho;exact DE.of (CZ h1 ha.pe hb.pe hm) (oj h2)
noncomputable def dI (g:Int->Int->D):D2:=λx y Q=>match x,y with
 | .int i,.int j=>Q (.p (g i j))
 | _,_=>False
noncomputable def ou (C:Int->Int->Prop)(g:Int->Int->D):D2:=λx y Q=>match x,y with
 | .int i,.int j=>C i j/\Q (.p (g i j))
 | _,_=>False
theorem uK {f:Value->Value->Sem Value}{g:Int->Int->D}{gv:Int->Int->V}(h:j4 X f (Dd gv))(hg:∀i j,El X.K (gv i j) (g i j)):pO X f (dI g):=by
 refine ⟨_,h,λH G x y dx dy P Q s rx ry hr k=>?_⟩;unfold dI at hr;split at hr
 .cases rx;cases ry;exact ⟨_,_,rfl,rfl,k _ _ H G hr (Wd.refl s) (hg _ _ _)⟩
 .exact hr.elim
theorem vO {f:Value->Value->Sem Value}{C:Int->Int->Prop}{g:Int->Int->D}{gv:Int->Int->V}(h:j4 X f (rI C gv))(hg:∀i j,El X.K (gv i j) (g i j)):pO X f (ou C g):=by
 refine ⟨_,h,λH G x y dx dy P Q s rx ry hr k=>?_⟩;unfold ou at hr;split at hr
 .cases rx;cases ry;exact ⟨_,_,rfl,rfl,hr.1,k _ _ H G hr.2 (Wd.refl s) (hg _ _ _)⟩
 .exact hr.elim
theorem fD:pO X (binaryOp .Sub) (dI λi j=>.int (i - j)):=uK Fs λ_ _ _=>.int _
theorem dN:pO X (binaryOp .FloorDiv) (ou Gp λi j=>.int (i / j)):=vO CV λ_ _ _=>.int _
theorem cU:pO X (binaryOp .Mod) (ou (λ_ j=>0<j) λi j=>.int (i % j)):=vO Fl λ_ _ _=>.int _
theorem Fd:pO X (binaryOp .Pow) (ou Gq λi j=>.int (i ^ j.toNat)):=vO Fp λ_ _ _=>.int _
theorem qV:pO X (compareOp .Lt) (dI λi j=>.bl (decide (i<j))):=uK Ho λ_ _ _=>.bl _
theorem Hi:pO X (compareOp .LtE) (dI λi j=>.bl (decide (i<=j))):=uK Hn λ_ _ _=>.bl _
theorem jC:pO X (compareOp .Gt) (dI λi j=>.bl (decide (j<i))):=uK Hm λ_ _ _=>.bl _
theorem uE:pO X (compareOp .GtE) (dI λi j=>.bl (decide (j<=i))):=uK Hl λ_ _ _=>.bl _
noncomputable def gG:D2:=λx y Q=>match x,y with
 | .int i,.int j=>Q (.p (.bl (decide (i=j))))
 | .str i,.str j=>Q (.p (.bl (decide (i=j))))
 | .bl i,.bl j=>Q (.p (.bl (decide (i=j))))
 | _,_=>False
noncomputable def hZ:D2:=λx y Q=>match x,y with
 | .int i,.int j=>Q (.p (.bl (!decide (i=j))))
 | .str i,.str j=>Q (.p (.bl (!decide (i=j))))
 | .bl i,.bl j=>Q (.p (.bl (!decide (i=j))))
 | _,_=>False
theorem yp {α:Type}[DecidableEq α]{f:α->V}(hf:∀a b,f a=f b->a=b)(i j:α):decide (f i=f j)=decide (i=j):=by
 by_cases h:i=j
 .rw[h,decide_eq_true rfl,decide_eq_true rfl]
 .rw[decide_eq_false h,decide_eq_false λe=>h (hf _ _ e)]
noncomputable def Cu:V->V->Bool
 | .int _,.int _=>true
 | .str _,.str _=>true
 | .bl _,.bl _=>true
 | _,_=>false
noncomputable def FL:R2:=λx y H Q=>Cu x y=true/\Q (.bl (decide (x=y))) H
noncomputable def FN:R2:=λx y H Q=>Cu x y=true/\Q (.bl (!decide (x=y))) H
inductive Ii:V->V->Prop
 | int (i j:Int):Ii (.int i) (.int j)
 | str (i j:Str):Ii (.str i) (.str j)
 | bl (i j:Bool):Ii (.bl i) (.bl j)
theorem Ay {x y:V}(h:Cu x y=true):Ii x y:=by
 cases x with
 | int i=>cases y with
  | int j=>exact .int i j
  | _=>cases h
 | str i=>cases y with
  | str j=>exact .str i j
  | _=>cases h
 | bl i=>cases y with
  | bl j=>exact .bl i j
  | _=>cases h
 | _=>cases h
theorem AV:j4 X (compareOp .Eq) FL:=by
 intro pins s σ H x y v u Q I rx ry h;obtain ⟨hs,q⟩:=h;cases Ay hs with
 | int i j=>obtain ⟨t,rfl⟩:=rx;obtain ⟨t',rfl⟩:=ry;exact PyProof.Rows.eq_int (kG I q wI)
 | str i j=>obtain ⟨t,rfl⟩:=rx;obtain ⟨t',rfl⟩:=ry;exact PyProof.Rows.eq_str (kG I q wJ)
 | bl i j=>cases rx;cases ry;exact PyProof.Rows.eq_bool (kG I q zW)
theorem AW:j4 X (compareOp .NotEq) FN:=by
 intro pins s σ H x y v u Q I rx ry h;obtain ⟨hs,q⟩:=h;cases Ay hs with
 | int i j=>obtain ⟨t,rfl⟩:=rx;obtain ⟨t',rfl⟩:=ry;exact PyProof.Rows.ne_int (kG I q (congrArg not wI))
 | str i j=>obtain ⟨t,rfl⟩:=rx;obtain ⟨t',rfl⟩:=ry;exact PyProof.Rows.ne_str (kG I q (congrArg not wJ))
 | bl i j=>cases rx;cases ry;exact PyProof.Rows.ne_bool (kG I q (congrArg not zW))
inductive BF:D->D->Prop
 | int (i j:Int):BF (.int i) (.int j)
 | str (i j:Str):BF (.str i) (.str j)
 | bl (i j:Bool):BF (.bl i) (.bl j)
theorem tP {x y:D}{Q:B->Prop}(h:gG x y Q):BF x y:=by
 cases x with
 | int i=>cases y with
  | int j=>exact .int i j
  | _=>exact (show False from h).elim
 | str i=>cases y with
  | str j=>exact .str i j
  | _=>exact (show False from h).elim
 | bl i=>cases y with
  | bl j=>exact .bl i j
  | _=>exact (show False from h).elim
 | _=>exact (show False from h).elim
theorem fb:pO X (compareOp .Eq) gG:=by
 refine ⟨_,AV,λH G x y dx dy P Q s rx ry hr k=>?_⟩;cases tP hr with
 | int i j=>rw[rx.int_inv,ry.int_inv];exact ⟨rfl,by rw[yp (λ_ _ e=>V.int.inj e)];exact k _ _ H G hr (Wd.refl s) (.bl _)⟩
 | str i j=>rw[rx.str_inv,ry.str_inv];exact ⟨rfl,by rw[yp (λ_ _ e=>V.str.inj e)];exact k _ _ H G hr (Wd.refl s) (.bl _)⟩
 | bl i j=>rw[rx.gf,ry.gf];exact ⟨rfl,by rw[yp (λ_ _ e=>V.bl.inj e)];exact k _ _ H G hr (Wd.refl s) (.bl _)⟩
theorem qW:pO X (compareOp .NotEq) hZ:=by
 refine ⟨_,AW,λH G x y dx dy P Q s rx ry hr k=>?_⟩;have h0:gG dx dy (λ_=>True):=by
  cases dx with
  | int i=>cases dy with
   | int j=>trivial
   | _=>exact hr
  | str i=>cases dy with
   | str j=>trivial
   | _=>exact hr
  | bl i=>cases dy with
   | bl j=>trivial
   | _=>exact hr
  | _=>exact hr
 cases tP h0 with
 | int i j=>rw[rx.int_inv,ry.int_inv];exact ⟨rfl,by rw[yp (λ_ _ e=>V.int.inj e)];exact k _ _ H G hr (Wd.refl s) (.bl _)⟩
 | str i j=>rw[rx.str_inv,ry.str_inv];exact ⟨rfl,by rw[yp (λ_ _ e=>V.str.inj e)];exact k _ _ H G hr (Wd.refl s) (.bl _)⟩
 | bl i j=>rw[rx.gf,ry.gf];exact ⟨rfl,by rw[yp (λ_ _ e=>V.bl.inj e)];exact k _ _ H G hr (Wd.refl s) (.bl _)⟩
noncomputable def j6:D2:=λx y Q=>match y with
 | .non=>Q (.p (.bl (match x with | .non=>true | _=>false)))
 | _=>False
noncomputable def fJ:D2:=λx y Q=>match y with
 | .non=>Q (.p (.bl (match x with | .non=>false | _=>true)))
 | _=>False
noncomputable def rM (r:D->(B->Prop)->Prop)(ta:DT):DT:=λρ Q=>ta ρ λx=>r x.val Q
noncomputable def h8:D->(B->Prop)->Prop:=λx Q=>match x with
 | .int i=>Q (.p (.int (-i)))
 | _=>False
set_option tactic.hygienic true in
theorem EJ (ha:DE X a ta):DE X (.UnaryOp .USub a pos) (rM h8 ta):=
 DE.of (Hv Gf ha.pe)<|by
  rintro σ H Q ⟨G,ρ,P,s,re,h,k⟩;refine ⟨G,ρ,_,s,re,h,λb v H1 G1 p1 w1 r1=>?_⟩;obtain ⟨G1',w1',r1'⟩:=r1.give w1;unfold h8 at p1;split at p1
  .rename_i i e;rw[e] at r1';cases r1';exact ⟨_,rfl,k _ _ H1 G1' p1 w1' (.int _)⟩
  .exact p1.elim
noncomputable def eN (ta:DT):DT:=λρ Q=>ta ρ λx=>match x.val with
 | .bl c=>Q (.p (.bl (!c)))
 | _=>False
theorem kZ {K:Frag}{H G H' G':Hp}{v:V}{b:B}{c:Bool}(w:Wd H G H' G')(r:gc K H G' H' v b)(e:b.val=.bl c):v=.bl c:=by
 obtain ⟨G1,_,r1⟩:=r.give w;rw[e] at r1;exact r1.gf
set_option tactic.hygienic true in
theorem EK (ha:DE X a ta):DE X (.UnaryOp .Not a pos) (eN ta):=
 DE.of (Fy ha.pe)<|by
  rintro σ H Q ⟨G,ρ,P,s,re,h,k⟩;refine ⟨G,ρ,_,s,re,h,λb v H1 G1 p1 w1 r1=>?_⟩;split at p1
  .rename_i c e;exact ⟨c,kZ w1 r1 e,k _ _ H1 G1 p1 w1 (.bl _)⟩
  .exact p1.elim
noncomputable def eG (ta tb:DT):DT:=λρ Q=>ta ρ λx=>match x.val with
 | .bl c=>(c=true->tb ρ Q)/\(c=false->Q (.p (.bl false)))
 | _=>False
noncomputable def j7 (ta tb:DT):DT:=λρ Q=>ta ρ λx=>match x.val with
 | .bl c=>(c=true->Q (.p (.bl true)))/\(c=false->tb ρ Q)
 | _=>False
theorem vA {op}{t:DT}(h:DE X a t):DE X (.BoolOp op [a] pos) t:=⟨Fz h.pe⟩
set_option tactic.hygienic true in
theorem vy {rest:List Expr}(ha:DE X a ta)(hb:DE X (.BoolOp .And (b::rest) pos) tb):DE X (.BoolOp .And (a::b::rest) pos) (eG ta tb):=
 DE.of (Fu ha.pe hb.pe)<|by
  rintro σ H Q ⟨G,ρ,P,s,re,h,k⟩;refine ⟨G,ρ,_,s,re,h,λb v H1 G1 p1 w1 r1=>?_⟩;split at p1
  .rename_i c e;refine ⟨c,kZ w1 r1 e,?_⟩;cases c with
   | true=>exact pT ⟨G1,ρ,P,w1.gh,re.mono w1.gg,p1.1 rfl,qM k w1⟩
   | false=>exact r6 (k _ _ H1 G1 (p1.2 rfl) w1 (.bl _))
  .exact p1.elim
noncomputable def fv (t:DT):jo:=λρ P=>t ρ λx=>match x.val with
 | .bl c=>P c
 | _=>False
set_option tactic.hygienic true in
theorem aA {op:CmpOp}{r:D2}(ho:pO X (compareOp op) r)(ha:DE X a ta)(hb:DE X b tb)(hm:behindInMarks op b=false):tj X (.Compare a [op] [b] pos) (fv (g6 r ta tb)):=by
 obtain ⟨rv,h1,h2⟩:=ho;refine tj.of (C6 h1 ha.pe hb.pe hm) ?_;rintro σ H Q ⟨G,ρ,P,s,re,h,k⟩;refine oj h2 σ H _ ⟨G,ρ,_,s,re,h,λb v H1 G1 p1 w1 r1=>?_⟩;split at p1
 .rename_i c e;exact ⟨c,kZ w1 r1 e,k _ H1 G1 p1 w1⟩
 .exact p1.elim
set_option tactic.hygienic true in
theorem kE (ha:DE X a ta)(he:autoParam (∀whole,isTrue a X.env whole=(do let v <-whole;standAt a.pos;holding [v] (truthy v))) aZc._auto_1):tj X a (fv ta):=
  tj.of (Bg ha.pe he)<|by
    rintro σ H Q ⟨G,ρ,P,s,re,h,k⟩;refine ⟨G,ρ,_,s,re,h,λb v H1 G1 p1 w1 r1=>?_⟩;split at p1
    · rename_i c e;exact ⟨c,kZ w1 r1 e,k _ H1 G1 p1 w1⟩
    · exact p1.elim
noncomputable def h9 (t:jo):jo:=λρ P=>t ρ λc=>P (!c)
theorem oB {t:jo}(ha:tj X a t):tj X (.UnaryOp .Not a pos) (h9 t):=
 tj.of (Bf ha.pt) (by rintro σ H Q ⟨G,ρ,P,s,re,h,k⟩;exact ⟨G,ρ,_,s,re,h,λb H1 G1 p1 w1=>k _ H1 G1 p1 w1⟩)
noncomputable def hU (t u:jo):jo:=λρ P=>t ρ λc=>(c=true->u ρ P)/\(c=false->P false)
noncomputable def qD (t u:jo):jo:=λρ P=>t ρ λc=>(c=true->P true)/\(c=false->u ρ P)
theorem Al {K:Frag}{H G H1 G1:Hp}{P:Bool->Prop}{Q:Bool->Hp->Prop}(k:∀b H' G',P b->Wd H G H' G'->Q b H')(w:Wd H G H1 G1):∀b H' G',P b->Wd H1 G1 H' G'->Q b H':=
 λb H' G' p w'=>k b H' G' p (w.trans w')
theorem EB {K:Frag}{t u:jo}(σ:St)(H:Hp)(Q:Bool->Hp->Prop):cT K (hU t u) σ H Q->HP (cT K t) (cT K u) σ H Q:=by
 rintro ⟨G,ρ,P,s,re,h,k⟩;refine ⟨G,ρ,_,s,re,h,λc H1 G1 p1 w1=>?_⟩;cases c with
 | true=>exact pT ⟨G1,ρ,P,w1.gh,re.mono w1.gg,p1.1 rfl,Al (K:=K) k w1⟩
 | false=>exact r6 (k _ H1 G1 (p1.2 rfl) w1)
theorem GF {K:Frag}{t u:jo}(σ:St)(H:Hp)(Q:Bool->Hp->Prop):cT K (qD t u) σ H Q->JW (cT K t) (cT K u) σ H Q:=by
 rintro ⟨G,ρ,P,s,re,h,k⟩;refine ⟨G,ρ,_,s,re,h,λc H1 G1 p1 w1=>?_⟩;cases c with
 | true=>exact pT (k _ H1 G1 (p1.1 rfl) w1)
 | false=>exact r6 ⟨G1,ρ,P,w1.gh,re.mono w1.gg,p1.2 rfl,Al (K:=K) k w1⟩
end
end DL
namespace DL
open PySem L2
section
variable {X:Cx} {a b c e:Expr} {ta tb tc te:DT} {pos:Pos} {es:List Expr}
noncomputable def j5 (t:jo)(ta tb:DT):DT:=λρ Q=>t ρ λc=>(c=true->ta ρ Q)/\(c=false->tb ρ Q)
noncomputable def cK (r r':D2)(ta tb tc:DT):DT:=λρ Q=>ta ρ λx=>tb ρ λy=>r x.val y.val λz=>match z.val with
 | .bl c=>(c=true->tc ρ λw=>r' y.val w.val Q)/\(c=false->Q (.p (.bl false)))
 | _=>False
theorem gL {t:jo}(ha:tj X a t):DW X (.BoolOp .And [a] pos) t:=⟨C8 ha.pt⟩
theorem kF {t:jo}(ha:tj X a t):DW X (.BoolOp .Or [a] pos) t:=⟨Bj ha.pt⟩
theorem g8 {t u:jo}{rest:List Expr}(ha:tj X a t)(hb:DW X (.BoolOp .And (b::rest) pos) u):DW X (.BoolOp .And (a::b::rest) pos) (hU t u):=DW.of (FI ha.pt hb.pw) EB
theorem jw {t u:jo}{rest:List Expr}(ha:tj X a t)(hb:DW X (.BoolOp .Or (b::rest) pos) u):DW X (.BoolOp .Or (a::b::rest) pos) (qD t u):=DW.of (Ee ha.pt hb.pw) GF
theorem DW.dt {t:jo}(h:DW X e t):tj X e t:=⟨PW.pt h.pw⟩
noncomputable def cQ:eB:=λ_ P=>P []
noncomputable def aU (te:DT)(t:eB):eB:=λρ P=>te ρ λb=>t ρ λds=>P (b.val::ds)
theorem ah:DA X [] cQ:=DA.of kO λσ H Q ⟨G,ρ,P,s,re,h,k⟩=>k [] [] H G h rfl (Wd.refl s) .nil
theorem aa {t:eB}(ha:DE X e te)(hr:DA X es t)(hs:autoParam (starEach (e::es) X.env=(false,eval e X.env)::starEach es X.env) aZa._auto_1):DA X (e::es) (aU te t):=
 DA.of (eT ha.pe hr.pa hs)<|by
  rintro σ H Q ⟨G,ρ,P,s,re,h,k⟩;refine ⟨G,ρ,_,s,re,h,λb v H1 G1 p1 w1 r1=>?_⟩;obtain ⟨G1',w1',r1'⟩:=r1.give w1;refine ⟨G1',ρ,_,w1'.gh,re.mono w1'.gg,p1,λds vs H2 G2 p2 l2 w2 r2=>?_⟩;exact k _ _ H2 G2 p2 (by show ds.length+1=es.length+1;rw[l2]) (w1'.trans w2) (.cons (r1'.mono w2.gg) r2)
noncomputable def gH (t:eB):DT:=λρ Q=>t ρ λds=>Q (.p (.tup ds))
noncomputable def gZ (t:eB):DT:=λρ Q=>t ρ λds=>Q (.o (.lst ds))
theorem fO {K:Frag}{H G H1 G1:Hp}{vs:List V}{ds:List D}{p:Addr}(w:Wd H G H1 G1)(hp:H1 p=none)(r:aR K G1 vs ds):Wd H G (upd H1 p (.lst vs)) G1/\gc K H G1 (upd H1 p (.lst vs)) (.ref p) (.o (.lst ds)):=
 ⟨w.own (w.hh.free hp) (w.gh.free hp),p,rfl,w.hh.free hp,w.gh.free hp,vs,ao,r⟩
theorem lZ {K:Frag}{H G H1 G1:Hp}{vs:List V}{ds:List D}{p:Addr}(w:Wd H G H1 G1)(hp:H1 p=none)(r:aR K G1 vs ds):Wd H G (upd H1 p (.tup vs)) (upd G1 p (.tup vs))/\gc K H (upd G1 p (.tup vs)) (upd H1 p (.tup vs)) (.ref p) (.p (.tup ds)):=
 ⟨w.new hp,Rep.sS ao (aR.mono (fB (w.gh.free hp)) r)⟩
theorem dD {t:eB}{x1}(h:DA X es t)(hn:autoParam (es.length<=1000) aZg._auto_1):DE X (.Tuple es x1 pos) (gH t):=
 DE.of (vP h.pa)<|by
  rintro σ H Q ⟨G,ρ,P,s,re,h,k⟩;refine ⟨G,ρ,_,s,re,h,λds vs H1 G1 p1 l1 w1 r1=>⟨eu (by rw[Paired.length r1,l1];exact hn),λp hp=>?_⟩⟩;obtain ⟨w2,r2⟩:=lZ w1 hp r1;exact k _ _ _ _ p1 w2 r2
theorem dA {t:eB}(h:DA X es t)(hn:autoParam (es.length<=1000) aZg._auto_1):DE X (.List es pos) (gZ t):=
 DE.of (Fw h.pa)<|by
  rintro σ H Q ⟨G,ρ,P,s,re,h,k⟩;refine ⟨G,ρ,_,s,re,h,λds vs H1 G1 p1 l1 w1 r1=>⟨eu (by rw[Paired.length r1,l1];exact hn),λp hp=>?_⟩⟩;obtain ⟨w2,r2⟩:=fO w1 hp r1;exact k _ _ _ _ p1 w2 r2
noncomputable abbrev DR:=List D->(B->Prop)->Prop
noncomputable def bN (K:Frag)(R:DR):Sp:=λvs H Q _=>∃(ds:List D) (G:Hp) (P:B->Prop),aq G H/\aR K G vs ds/\R ds P/\∀b v H' G',P b->Wd H G H' G'->gc K H G' H' v b->Q v H'
noncomputable abbrev J0 (P:Program)(w:World)(K:Frag)(mg:Str->Option Value)(base:Heap)(x:Str)(k:Nat)(ps:List Str)(R:DR):Prop:=Fn P w K mg base x k ps (bN K R)
noncomputable def cN (R:DR)(t:eB):DT:=λρ Q=>t ρ λds=>R ds Q
theorem aV {x:Str}{k:Nat}{ps:List Str}{R:DR}{p:Pos}{t:eB}(F:J0 X.prog X.w X.K X.mg X.base x k ps R)(hr:cY k X.A)(hg:Gl X x)(ha:DA X (e::es) t)
  (hdb:autoParam ((x == ("__debug__" : Str))=false) aZb._auto_1) (he:autoParam (starEach (e::es) X.env=(false,eval e X.env)::starEach es X.env) aZa._auto_1) (hpl:autoParam ((backTo pos (starEach es X.env)).any (·.1)=false) aZa._auto_1) :
  DE X (.Call (.Name x p) (e::es) [] pos) (cN R t):=
 DE.of (AZ F hr hg ha.pa hdb he hpl)<|by
  rintro σ H Q ⟨G,ρ,P,s,re,h,k⟩;refine ⟨G,ρ,_,s,re,h,λds vs H1 G1 p1 l1 w1 r1=>?_⟩;show bN X.K R (vs++[]) H1 Q E0;rw[append_nil];exact ⟨ds,G1,P,w1.gh,r1,p1,qM k w1⟩
noncomputable def CallD (X:Cx)(f:Value)(r:DR):Prop:=∃rv,eD X f rv/\∀(H G:Hp) (vs:List V) (ds:List D) (P:B->Prop) (Q:VK),aq G H->aR X.K G vs ds->r ds P->(∀b v H' G',P b->Wd H G H' G'->gc X.K H G' H' v b->Q v H')->rv vs H Q
noncomputable def mB (r:DR)(t:eB):DT:=λρ Q=>t ρ λds=>r ds Q
theorem DP {K:Frag}{n:Nat}{t:eB}{r:DR}{rv:List V->Hp->VK->Prop}(hr:∀(H G:Hp) (vs:List V) (ds:List D) (P:B->Prop) (Q:VK),aq G H->aR K G vs ds->r ds P->(∀b v H' G',P b->Wd H G H' G'->gc K H G' H' v b->Q v H')->rv vs H Q)
  (σ:St) (H:Hp) (Q:VK):cE K (mB r t) σ H Q->Iw rv (cA K n t) σ H Q:=by
 rintro ⟨G,ρ,P,s,re,h,k⟩;exact ⟨G,ρ,_,s,re,h,λds vs H1 G1 p1 l1 w1 r1=>hr H1 G1 vs ds P Q w1.gh r1 p1 (qM k w1)⟩
theorem aG {id:String}{x:Str}{p:Pos}{t:eB}{r:DR}(hc:CallD X (.builtin id) r)(hg:Gl X x)(hm:X.mg x=none)(hv:bootBuiltins x=some (.builtin id))(ha:DA X (e::es) t)(hn:autoParam (x≠"__name__") aZb._auto_1)(hdb:autoParam ((x == ("__debug__" : Str))=false) aZb._auto_1)
  (he:autoParam (starEach (e::es) X.env=(false,eval e X.env)::starEach es X.env) aZa._auto_1) (hpl:autoParam ((backTo pos (starEach es X.env)).any (·.1)=false) aZa._auto_1):DE X (.Call (.Name x p) (e::es) [] pos) (mB r t):=by
 obtain ⟨rv,h1,h2⟩:=hc;exact DE.of (uL h1 hg hm hv ha.pa hn hdb he hpl) (DP h2)
theorem fW {T:String}{x:Str}{p:Pos}{t:eB}{r:DR}(hc:CallD X (.type T) r)(hg:Gl X x)(hm:X.mg x=none)(hv:bootBuiltins x=some (.type T))(ha:DA X (e::es) t)(hn:autoParam (x≠"__name__") aZb._auto_1)(hdb:autoParam ((x == ("__debug__" : Str))=false) aZb._auto_1)
  (he:autoParam (starEach (e::es) X.env=(false,eval e X.env)::starEach es X.env) aZa._auto_1) (hpl:autoParam ((backTo pos (starEach es X.env)).any (·.1)=false) aZa._auto_1):DE X (.Call (.Name x p) (e::es) [] pos) (mB r t):=by
 obtain ⟨rv,h1,h2⟩:=hc;exact DE.of (qX h1 hg hm hv ha.pa hn hdb he hpl) (DP h2)
theorem gC {K:Frag}{G:Hp}{vs:List V}{d:D}(h:aR K G vs [d]):∃v,vs = [v]/\Rep K G v d:=by
 cases h with | cons h t=>cases t;exact ⟨_,rfl,h⟩
theorem Eh {K:Frag}{G:Hp}{vs:List V}{d d':D}(h:aR K G vs [d,d']):∃v v',vs = [v,v']/\Rep K G v d/\Rep K G v' d':=by
 cases h with | cons h t=>obtain ⟨v',rfl,h'⟩:=gC t;exact ⟨_,_,rfl,h,h'⟩
theorem d7 {K:Frag}{G:Hp}:∀{ns:List Int} {vs:List V},aR K G vs (ns.map D.int)->vs=ns.map V.int
 | [],_,h=>by cases h;rfl
 | n::ns,_,h=>by cases h with | cons h t=>rw[h.int_inv,d7 t];rfl
theorem uT {K:Frag}{G:Hp}:∀{ns:List Bool} {vs:List V},aR K G vs (ns.map D.bl)->vs=ns.map V.bl
 | [],_,h=>by cases h;rfl
 | n::ns,_,h=>by cases h with | cons h t=>rw[h.gf,uT t];rfl
theorem q0 {K:Frag}{G:Hp}:∀{ns:List Str} {vs:List V},aR K G vs (ns.map D.str)->vs=ns.map V.str
 | [],_,h=>by cases h;rfl
 | n::ns,_,h=>by cases h with | cons h t=>rw[h.str_inv,q0 t];rfl
theorem ip {K:Frag}{G:Hp}:∀(ns:List Int),aR K G (ns.map V.int) (ns.map D.int)
 | []=>.nil
 | n::ns=>.cons (.int n) (ip ns)
theorem rg {K:Frag}{G:Hp}:∀(ns:List Str),aR K G (ns.map V.str) (ns.map D.str)
 | []=>.nil
 | n::ns=>.cons (.str n) (rg ns)
noncomputable def gY:DR:=λds P=>match ds with
 | [.lst xs]=>P (.p (.int xs.length))
 | [.tup xs]=>P (.p (.int xs.length))
 | [.scr ns]=>P (.p (.int ns.length))
 | [.str x]=>x.length<=sizeLine/\P (.p (.int x.length))
 | _=>False
theorem gX:CallD X (.builtin "len") gY:=by
 refine ⟨_,yc,λH G vs ds P Q s r h k=>?_⟩;cases r with
 | nil=>exact (show False from h).elim
 | cons r1 rt=>cases rt with
  | cons _ _=>cases r1<;>exact (show False from h).elim
  | nil=>cases r1 with
   | @lst a us xs e l rr=>exact ⟨_,us.length,rfl,.inl ⟨us,fV.of (s _ _ e),rfl⟩,by rw[l];exact k _ _ H G h (Wd.refl s) (.int _)⟩
   | @tup a us xs e l rr=>exact ⟨_,us.length,rfl,.inr ⟨us,aM s (.inl (.inl e)),rfl⟩,by rw[l];exact k _ _ H G h (Wd.refl s) (.int _)⟩
   | @scr a ns e=>exact ⟨_,ns.length,rfl,.inl ⟨_,s.seq e,by simp⟩,k _ _ H G h (Wd.refl s) (.int _)⟩
   | str x=>exact ⟨_,x.length,rfl,⟨h.1,rfl⟩,k _ _ H G h.2 (Wd.refl s) (.int _)⟩
   | _=>exact (show False from h).elim
noncomputable def EH:DR:=λds P=>match ds with
 | [.lst xs]=>∃ns:List Int,xs=ns.map D.int/\P (.p (.int ns.sum))
 | _=>False
theorem zH (hc:X.calm=true):CallD X (.builtin "sum") EH:=by
 refine ⟨_,yi hc,λH G vs ds P Q s r h k=>?_⟩;unfold EH at h;split at h
 .obtain ⟨ns,rfl,h⟩:=h;obtain ⟨v,rfl,rv⟩:=gC r;obtain ⟨a,us,rfl,e,rr⟩:=rv.lst_inv;rw[d7 rr] at e;exact ⟨a,ns,rfl,fV.of (s _ _ e),k _ _ H G h (Wd.refl s) (.int _)⟩
 .exact h.elim
noncomputable def EF:DR:=λds P=>match ds with
 | [.lst xs]=>∃ns:List Bool,xs=ns.map D.bl/\P (.p (.bl (ns.all id)))
 | _=>False
noncomputable def pR (g:Int->Int->Int):DR:=λds P=>match ds with
 | [.int i,.int j]=>P (.p (.int (g i j)))
 | _=>False
theorem D6 {ds:List D}{P:Int->Int->Prop}(h:match ds with | [.int i,.int j]=>P i j | _=>False):∃i j,ds = [.int i,.int j]/\P i j:=by
 cases ds with
 | nil=>exact (show False from h).elim
 | cons a ds =>
  cases a with
  | int i =>
   cases ds with
   | nil=>exact (show False from h).elim
   | cons b ds =>
    cases b with
    | int j =>
     cases ds with
     | nil=>exact ⟨i,j,rfl,h⟩
     | cons=>exact (show False from h).elim
    | _=>exact (show False from h).elim
  | _=>exact (show False from h).elim
theorem DQ {f:Value}{g:Int->Int->Int}(h:eD X f (λxs H Q=>∃i j,xs = [.int i,.int j]/\Q (.int (g i j)) H)):CallD X f (pR g):=by
 refine ⟨_,h,λH G vs ds P Q s r h k=>?_⟩;obtain ⟨i,j,rfl,h⟩:=D6 h;obtain ⟨v,v',rfl,r1,r2⟩:=Eh r;rw[r1.int_inv,r2.int_inv];exact ⟨_,_,rfl,k _ _ H G h (Wd.refl s) (.int _)⟩
theorem jS (hc:X.calm=true):CallD X (.builtin "max") (pR λi j=>if j>i then j else i):=DQ (yd hc)
theorem BS (hc:X.calm=true):CallD X (.builtin "min") (pR λi j=>if j<i then j else i):=DQ (yg hc)
noncomputable def jg:DR:=λds P=>match ds with
 | [.int i]=>P (.p (.int (if i<0 then -i else i)))
 | _=>False
noncomputable def iJ:DR:=λds P=>match ds with
 | [.int i]=>P (.p (.int i))
 | [.bl c]=>P (.p (.int (if c then 1 else 0)))
 | _=>False
theorem vp:CallD X (.type "int") iJ:=by
 refine ⟨_,ya,λH G vs ds P Q s r h k=>?_⟩;cases r with
 | nil=>exact (show False from h).elim
 | cons r1 rt=>cases rt with
  | cons _ _=>cases r1<;>exact (show False from h).elim
  | nil=>cases r1 with
   | int i=>exact .inl ⟨_,rfl,k _ _ H G h (Wd.refl s) (.int _)⟩
   | bl c=>exact .inr ⟨_,rfl,k _ _ H G h (Wd.refl s) (.int _)⟩
   | _=>exact (show False from h).elim
noncomputable def wF:DR:=λds P=>match ds with
 | [.int i]=>i.natAbs.log2<1920/\P (.p (.str (toString i)))
 | _=>False
theorem zG:CallD X (.type "str") wF:=by
 refine ⟨_,rC,λH G vs ds P Q s r h k=>?_⟩;unfold wF at h;split at h
 .obtain ⟨v,rfl,r1⟩:=gC r;cases r1;exact ⟨_,rfl,h.1,k _ _ H G h.2 (Wd.refl s) (.str _)⟩
 .exact h.elim
noncomputable def eI:DR:=λds P=>match ds with
 | [.lst xs]=>P (.o (.lst xs))
 | [.tup xs]=>P (.o (.lst xs))
 | [.scr ns]=>P (.o (.lst (ns.map D.int)))
 | _=>False
noncomputable def Kb:D->String
 | .non=>"NoneType"
 | .bl _=>"bool"
 | .int _=>"int"
 | .str _=>"str"
 | .tup _=>"tuple"
 | .lst _=>"list"
 | .scr _=>"list"
 | .dct _=>"dict"
 | .sen _=>"dict"
noncomputable def Io (T:String)(d:D):Bool:=match T with
 | "int"=>(match d with | .int _=>true | .bl _=>true | _=>false)
 | "bool"=>(match d with | .bl _=>true | _=>false)
 | "str"=>(match d with | .str _=>true | _=>false)
 | "tuple"=>(match d with | .tup _=>true | _=>false)
 | "list"=>(match d with | .lst _=>true | .scr _=>true | _=>false)
 | _=>false
noncomputable def ow:D2:=λx y Q=>match x,y with
 | .lst xs,.int i=>∃d,gF xs i=some d/\Q (.p d)
 | .tup xs,.int i=>∃d,gF xs i=some d/\Q (.p d)
 | .scr ns,.int i=>∃n,gF ns i=some n/\Q (.p (.int n))
 | .str z,.int i=>∃c,z.length<=sizeLine/\gF z.cps.toList i=some c/\Q (.p (.str ⟨#[c]⟩))
 | _,_=>False
theorem wd {K:Frag}{G:Hp}{vs:List V}{ds:List D}{i:Int}{d:D}(r:aR K G vs ds)(h:gF ds i=some d):∃v,gF vs i=some v/\Rep K G v d:=by
 unfold gF at *;rw[Paired.length r];cases e:w6 ds.length i with
 | none=>rw[e] at h;cases h
 | some j =>
  rw[e] at h;exact bt r h
theorem BL {α β:Type}(f:α->β){xs:List α}{i:Int}{x:α}(h:gF xs i=some x):gF (xs.map f) i=some (f x):=by
 unfold gF at *;rw[length_map];cases e:w6 xs.length i with
 | none=>rw[e] at h;cases h
 | some j =>
  rw[e] at h;have h':xs[j]?=some x:=h;show (xs.map f)[j]?=_;rw[getElem?_map,h'];rfl
inductive Gv:D->D->(B->Prop)->Prop
 | lst {xs:List D} {i:Int} {d:D} {Q:B->Prop} (h1:gF xs i=some d) (h2:Q (.p d)):Gv (.lst xs) (.int i) Q
 | tup {xs:List D} {i:Int} {d:D} {Q:B->Prop} (h1:gF xs i=some d) (h2:Q (.p d)):Gv (.tup xs) (.int i) Q
 | scr {ns:List Int} {i n:Int} {Q:B->Prop} (h1:gF ns i=some n) (h2:Q (.p (.int n))):Gv (.scr ns) (.int i) Q
 | str {z:Str} {i:Int} {c:Nat} {Q:B->Prop} (h0:z.length<=sizeLine) (h1:gF z.cps.toList i=some c) (h2:Q (.p (.str ⟨#[c]⟩))):Gv (.str z) (.int i) Q
theorem I0 {x y:D}{Q:B->Prop}(h:ow x y Q):Gv x y Q:=by
 cases x with
 | lst xs=>cases y with
  | int i=>obtain ⟨d,h1,h2⟩:=h;exact .lst h1 h2
  | _=>exact (show False from h).elim
 | tup xs=>cases y with
  | int i=>obtain ⟨d,h1,h2⟩:=h;exact .tup h1 h2
  | _=>exact (show False from h).elim
 | scr xs=>cases y with
  | int i=>obtain ⟨d,h1,h2⟩:=h;exact .scr h1 h2
  | _=>exact (show False from h).elim
 | str xs=>cases y with
  | int i=>obtain ⟨c,h0,h1,h2⟩:=h;exact .str h0 h1 h2
  | _=>exact (show False from h).elim
 | _=>exact (show False from h).elim
theorem aF (ha:DE X a ta)(hb:DE X b tb)(hs:autoParam (wc b) aZh._auto_1):DE X (.Subscript a b pos) (g6 ow ta tb):=
 DE.of (Hu EU ha.pe hb.pe hs) (oj λH G x y dx dy P Q s rx ry h k=>by
  cases I0 h with
  | lst h1 h2 =>
   obtain ⟨a,us,rfl,e,rr⟩:=rx.lst_inv;obtain ⟨v,h3,h4⟩:=wd rr h1;rw[ry.int_inv];exact .inl ⟨a,us,_,v,rfl,rfl,fV.of (s _ _ e),h3,k _ _ H G h2 (Wd.refl s) h4⟩
  | tup h1 h2 =>
   obtain ⟨a,us,rfl,e,rr⟩:=rx.eW;obtain ⟨v,h3,h4⟩:=wd rr h1;rw[ry.int_inv];exact .inr (.inl ⟨a,us,_,v,rfl,rfl,aM s e,h3,k _ _ H G h2 (Wd.refl s) h4⟩)
  | @scr ns i n _ h1 h2 =>
   rw[ry.int_inv];cases rx with
   | scr e=>exact .inl ⟨_,_,_,.int n,rfl,rfl,s.seq e,BL _ h1,k _ _ H G h2 (Wd.refl s) (.int _)⟩
  | @str z i c _ h0 h1 h2 =>
   rw[rx.str_inv,ry.int_inv];exact .inr (.inr ⟨_,_,c,rfl,rfl,h0,h1,k _ _ H G h2 (Wd.refl s) (.str _)⟩))
noncomputable abbrev zw:=aB->(Option Int->Prop)->Prop
noncomputable def cO (K:Frag)(t:zw):TO:=λσ H Q=>∃(G:Hp) (ρ:aB) (P:Option Int->Prop),aq G H/\eF K G σ ρ/\t ρ P/\∀o H' G',P o->Wd H G H' G'->Q o H'
structure DO (X:Cx)(e:Option Expr)(t:zw):Prop where
 po:PO X e (cO X.K t)
noncomputable def bz:zw:=λ_ P=>P none
noncomputable def eO (t:DT):zw:=λρ P=>t ρ λb=>match b.val with
 | .int i=>P (some i)
 | _=>False
theorem hR {K:Frag}{H G H' G':Hp}{v:V}{b:B}{c:Int}(w:Wd H G H' G')(r:gc K H G' H' v b)(e:b.val=.int c):v=.int c:=by
 obtain ⟨G1,_,r1⟩:=r.give w;rw[e] at r1;exact r1.int_inv
theorem PO.imp {e:Option Expr}{t t':TO}(h:PO X e t)(i:∀σ H Q,t' σ H Q->t σ H Q):PO X e t':=λpins s σ H Q I q=>h pins s σ H Q I (i σ H Q q)
theorem DO.of {e:Option Expr}{t:TO}{t':zw}(h:PO X e t)(i:∀σ H Q,cO X.K t' σ H Q->t σ H Q):DO X e t':=⟨PO.imp h i⟩
theorem lA:DO X none bz:=DO.of C3 λσ H Q ⟨G,ρ,P,s,re,h,k⟩=>k _ H G h (Wd.refl s)
set_option tactic.hygienic true in
theorem dM (he:DE X e te):DO X (some e) (eO te):=DO.of (C4 he.pe)<|by
 rintro σ H Q ⟨G,ρ,P,s,re,h,k⟩;refine ⟨G,ρ,_,s,re,h,λb v H1 G1 p1 w1 r1=>?_⟩;split at p1
 .rename_i i e;exact ⟨i,hR w1 r1 e,k _ H1 G1 p1 w1⟩
 .exact p1.elim
noncomputable def iF {α:Type}(xs:List α)(lo hi:Option Int):List α:=(xs.drop (HT.d8 xs.length 0 lo)).take (HT.d8 xs.length xs.length hi - HT.d8 xs.length 0 lo)
theorem nq {α β:Type}{F:α->β->Prop}:∀{l:List α} {r:List β} (n:Nat),Paired F l r->Paired F (l.drop n) (r.drop n)
 | _,_,0,h=>h
 | _,_,n+1,.nil=>by rw[List.drop_nil,List.drop_nil];exact .nil
 | _,_,n+1,.cons _ t=>nq n t
theorem nu {α β:Type}{F:α->β->Prop}:∀{l:List α} {r:List β} (n:Nat),Paired F l r->Paired F (l.take n) (r.take n)
 | _,_,0,h=>by rw[List.take_zero,List.take_zero];exact .nil
 | _,_,n+1,.nil=>by rw[List.take_nil,List.take_nil];exact .nil
 | _,_,n+1,.cons h t=>.cons h (nu n t)
theorem uU {K:Frag}{G:Hp}{vs:List V}{ds:List D}(r:aR K G vs ds)(lo hi:Option Int):aR K G (pQ vs lo hi) (iF ds lo hi):=by
 unfold pQ iF;rw[Paired.length r];exact nu _ (nq _ r)
noncomputable def sV (te:DT)(tl th:zw):DT:=λρ Q=>te ρ λb=>tl ρ λlo=>th ρ λhi=>match b.val with
 | .lst xs=>Q (.o (.lst (iF xs lo hi)))
 | .scr ns=>Q (.o (.lst ((iF ns lo hi).map D.int)))
 | .tup xs=>¬(HT.d8 xs.length 0 lo=0/\HT.d8 xs.length xs.length hi=xs.length)/\Q (.p (.tup (iF xs lo hi)))
 | _=>False
theorem zK {α:Type}(f:α->V)(xs:List α)(lo hi:Option Int):pQ (xs.map f) lo hi=(iF xs lo hi).map f:=by
 unfold pQ iF;rw[length_map,map_take,map_drop]
set_option tactic.hygienic true in
theorem gn {lo hi:Option Expr}{tl th:zw}{p2:Pos}(he:DE X e te)(hl:DO X lo tl)(hu:DO X hi th):DE X (.Subscript e (.Slice lo hi none p2) pos) (sV te tl th):=
 DE.of (A1 (Dj.or FU) he.pe hl.po hu.po)<|by
  rintro σ H Q ⟨G,ρ,P,s,re,h,k⟩;refine ⟨G,ρ,_,s,re,h,λb v H1 G1 p1 w1 r1=>?_⟩;obtain ⟨G1',w1',r1'⟩:=r1.give w1;refine ⟨G1',ρ,_,w1'.gh,re.mono w1'.gg,p1,λl H2 G2 p2 w2=>?_⟩;have w12:=w1'.trans w2;refine ⟨G2,ρ,_,w2.gh,re.mono w12.gg,p2,λu H3 G3 p3 w3=>?_⟩;have w13:=w12.trans w3;have r3:=r1'.mono (w2.trans w3).gg;split at p3
  .rename_i xs e;rw[e] at r3;obtain ⟨a,us,rfl,e,rr⟩:=r3.lst_inv;refine .inl ⟨a,us,rfl,fV.of (w3.gh _ _ e),λp hp=>?_⟩;obtain ⟨w4,r4⟩:=fO w13 hp (uU rr l u);exact k _ _ _ _ p3 w4 r4
  .rename_i ns e;rw[e] at r3;cases r3 with
   | scr e =>
    refine .inl ⟨_,_,rfl,w3.gh.seq e,λp hp=>?_⟩;rw[zK];obtain ⟨w4,r4⟩:=fO w13 hp (ip (K:=X.K) (iF ns l u));exact k _ _ _ _ p3 w4 r4
  .rename_i xs e;rw[e] at r3;obtain ⟨a,us,rfl,e,rr⟩:=r3.eW;refine .inr ⟨a,us,rfl,aM w3.gh e,by rw[Paired.length rr];exact p3.1,λp hp=>?_⟩;obtain ⟨w4,r4⟩:=lZ w13 hp (uU rr l u);exact k _ _ _ _ p3.2 w4 r4
  .exact p3.elim
theorem mR {K:Frag}{G:Hp}{vs:List V}{ds:List D}(r:aR K G vs ds):∀js:List Nat,aR K G (js.filterMap λj=>vs[j]?) (js.filterMap λj=>ds[j]?)
 | []=>.nil
 | j::js=>by
  rw[filterMap_cons,filterMap_cons];cases e:ds[j]? with
  | none =>
   have:vs[j]?=none:=by
    rw[List.getElem?_eq_none_iff] at e ⊢;rw[Paired.length r];exact e
   rw[this];exact mR r js
  | some d =>
   obtain ⟨v,h1,h2⟩:=bt r e;rw[h1];exact .cons h2 (mR r js)
theorem yY {K:Frag}{G:Hp}{vs:List V}{ds:List D}(r:aR K G vs ds)(lo hi st:Option Int):aR K G (dH vs lo hi st) (dH ds lo hi st):=by
 unfold dH;rw[Paired.length r];exact mR r _
noncomputable def ji (te:DT)(tl th ts:zw):DT:=λρ Q=>te ρ λb=>tl ρ λlo=>th ρ λhi=>ts ρ λst=>st≠some 0/\match b.val with
 | .lst xs=>Q (.o (.lst (dH xs lo hi st)))
 | .scr ns=>Q (.o (.lst ((dH ns lo hi st).map D.int)))
 | _=>False
set_option tactic.hygienic true in
theorem yo {lo hi:Option Expr}{st:Expr}{tl th ts:zw}{p2:Pos}(he:DE X e te)(hl:DO X lo tl)(hu:DO X hi th)(hs:DO X (some st) ts):DE X (.Subscript e (.Slice lo hi (some st) p2) pos) (ji te tl th ts):=
 DE.of (yR he.pe hl.po hu.po hs.po)<|by
  rintro σ H Q ⟨G,ρ,P,s,re,h,k⟩;refine ⟨G,ρ,_,s,re,h,λb v H1 G1 p1 w1 r1=>?_⟩;obtain ⟨G1',w1',r1'⟩:=r1.give w1;refine ⟨G1',ρ,_,w1'.gh,re.mono w1'.gg,p1,λl H2 G2 p2 w2=>?_⟩;have w12:=w1'.trans w2;refine ⟨G2,ρ,_,w2.gh,re.mono w12.gg,p2,λu H3 G3 p3 w3=>?_⟩;have w13:=w12.trans w3;refine ⟨G3,ρ,_,w3.gh,re.mono w13.gg,p3,λst H4 G4 p4 w4=>?_⟩;have w14:=w13.trans w4;have r3:=r1'.mono ((w2.trans w3).trans w4).gg;obtain ⟨h0,p4⟩:=p4;split at p4
  .rename_i xs e;rw[e] at r3;obtain ⟨a,us,rfl,e,rr⟩:=r3.lst_inv;refine ⟨a,us,rfl,fV.of (w4.gh _ _ e),h0,λp hp=>?_⟩;obtain ⟨w5,r5⟩:=fO w14 hp (yY rr l u st);exact k _ _ _ _ p4 w5 r5
  .rename_i ns e;rw[e] at r3;cases r3 with
   | scr e =>
    refine ⟨_,_,rfl,w4.gh.seq e,h0,λp hp=>?_⟩;rw[ze];obtain ⟨w5,r5⟩:=fO w14 hp (ip (K:=X.K) (dH ns l u st));exact k _ _ _ _ p4 w5 r5
  .exact p4.elim
noncomputable def gm:D2:=λx y Q=>match x,y with
 | .int i,.int j=>Q (.p (.int (i+j)))
 | .lst xs,.lst ys=>xs.length+ys.length<=sizeLine/\Q (.o (.lst (xs++ys)))
 | .str x,.str y=>x.length+y.length<=sizeLine/\Q (.p (.str (x++y)))
 | .tup xs,.tup ys=>xs≠[]/\ys≠[]/\xs.length+ys.length<=sizeLine/\Q (.p (.tup (xs++ys)))
 | _,_=>False
theorem cu {α β:Type}{F:α->β->Prop}:∀{l l':List α} {r r':List β},Paired F l r->Paired F l' r'->Paired F (l++l') (r++r')
 | _,_,_,_,.nil,h=>h
 | _,_,_,_,.cons h t,h'=>.cons h (cu t h')
inductive zu:D->D->(B->Prop)->Prop
 | int {i j:Int} {Q:B->Prop} (h:Q (.p (.int (i+j)))):zu (.int i) (.int j) Q
 | lst {xs ys:List D} {Q:B->Prop} (h1:xs.length+ys.length<=sizeLine) (h2:Q (.o (.lst (xs++ys)))):zu (.lst xs) (.lst ys) Q
 | str {x y:Str} {Q:B->Prop} (h1:x.length+y.length<=sizeLine) (h2:Q (.p (.str (x++y)))):zu (.str x) (.str y) Q
 | tup {xs ys:List D} {Q:B->Prop} (h1:xs≠[]) (h2:ys≠[]) (h3:xs.length+ys.length<=sizeLine) (h4:Q (.p (.tup (xs++ys)))):zu (.tup xs) (.tup ys) Q
theorem GC {x y:D}{Q:B->Prop}(h:gm x y Q):zu x y Q:=by
 cases x with
 | int i=>cases y with
  | int j=>exact .int h
  | _=>exact (show False from h).elim
 | lst xs=>cases y with
  | lst ys=>exact .lst h.1 h.2
  | _=>exact (show False from h).elim
 | str x=>cases y with
  | str y=>exact .str h.1 h.2
  | _=>exact (show False from h).elim
 | tup xs=>cases y with
  | tup ys=>exact .tup h.1 h.2.1 h.2.2.1 h.2.2.2
  | _=>exact (show False from h).elim
 | _=>exact (show False from h).elim
theorem aK:pO X (binaryOp .Add) gm:=by
 refine ⟨_,Fg.or (Fh.or (vN.or sx)),λH G x y dx dy P Q s rx ry h k=>?_⟩;cases GC h with
 | int h =>
  rw[rx.int_inv,ry.int_inv];exact .inl ⟨_,_,rfl,rfl,k _ _ H G h (Wd.refl s) (.int _)⟩
 | lst h1 h2 =>
  obtain ⟨a,us,rfl,e,rr⟩:=rx.lst_inv;obtain ⟨a',us',rfl,e',rr'⟩:=ry.lst_inv;refine .inr (.inl ⟨a,a',us,us',rfl,rfl,s _ _ e,s _ _ e',by rw[Paired.length rr,Paired.length rr'];exact h1,λp hp=>?_⟩);obtain ⟨w2,r2⟩:=fO (Wd.refl s) hp (cu rr rr');exact k _ _ _ _ h2 w2 r2
 | str h1 h2 =>
  rw[rx.str_inv,ry.str_inv];exact .inr (.inr (.inl ⟨_,_,rfl,rfl,h1,k _ _ H G h2 (Wd.refl s) (.str _)⟩))
 | tup h1 h2 h3 h4 =>
  obtain ⟨a,us,rfl,e,rr⟩:=rx.eW;obtain ⟨a',us',rfl,e',rr'⟩:=ry.eW;refine .inr (.inr (.inr ⟨a,a',us,us',rfl,rfl,aM s e,aM s e',λz=>?_,by rw[Paired.length rr,Paired.length rr'];exact h3,λz=>?_,λ_ p hp=>?_⟩))
  .subst z;cases rr;exact h1 rfl
  .subst z;cases rr';exact (h2 rfl).elim
  .obtain ⟨w2,r2⟩:=lZ (Wd.refl s) hp (cu rr rr');exact k _ _ _ _ h4 w2 r2
noncomputable def iL:D2:=λx y Q=>match x,y with
 | .int i,.int j=>sZ i j/\Q (.p (.int (i*j)))
 | .lst xs,.int k=>(-(2 ^ 63)<=k/\k<2 ^ 63)/\xs.length*k.toNat<=sizeLine/\Q (.o (.lst (List.replicate k.toNat xs).flatten))
 | _,_=>False
theorem uV {K:Frag}{G:Hp}{vs:List V}{ds:List D}(r:aR K G vs ds):∀n:Nat,aR K G (List.replicate n vs).flatten (List.replicate n ds).flatten
 | 0=>.nil
 | n+1=>by
  rw[List.replicate_succ,List.replicate_succ,List.flatten_cons,List.flatten_cons];exact cu r (uV r n)
inductive Er:D->D->(B->Prop)->Prop
 | int {i j:Int} {Q:B->Prop} (h1:sZ i j) (h2:Q (.p (.int (i*j)))):Er (.int i) (.int j) Q
 | lst {xs:List D} {k:Int} {Q:B->Prop} (h1 : -(2 ^ 63)<=k) (h2:k<2 ^ 63) (h3:xs.length*k.toNat<=sizeLine) (h4:Q (.o (.lst (List.replicate k.toNat xs).flatten))):Er (.lst xs) (.int k) Q
theorem He {x y:D}{Q:B->Prop}(h:iL x y Q):Er x y Q:=by
 cases x with
 | int i=>cases y with
  | int j=>exact .int h.1 h.2
  | _=>exact (show False from h).elim
 | lst xs=>cases y with
  | int k=>exact .lst h.1.1 h.1.2 h.2.1 h.2.2
  | _=>exact (show False from h).elim
 | _=>exact (show False from h).elim
theorem iw:pO X (binaryOp .Mult) iL:=by
 refine ⟨_,Fm.or Fq,λH G x y dx dy P Q s rx ry h k=>?_⟩;cases He h with
 | int h1 h2 =>
  rw[rx.int_inv,ry.int_inv];exact .inl ⟨_,_,rfl,rfl,h1,k _ _ H G h2 (Wd.refl s) (.int _)⟩
 | lst h1 h2 h3 h4 =>
  obtain ⟨a,us,rfl,e,rr⟩:=rx.lst_inv;rw[ry.int_inv];refine .inr ⟨a,_,us,rfl,rfl,s _ _ e,h1,h2,by rw[Paired.length rr];exact h3,λp hp=>?_⟩;obtain ⟨w2,r2⟩:=fO (Wd.refl s) hp (uV rr _);exact k _ _ _ _ h4 w2 r2
end
end DL
namespace DL
open PySem L2
mutual
noncomputable def sy:D->D->Bool
 | .non,.non=>true
 | .bl a,.bl b=>a == b
 | .bl a,.int b=>(if a then 1 else 0) == b
 | .int a,.bl b=>a == (if b then 1 else 0)
 | .int a,.int b=>a == b
 | .str a,.str b=>a == b
 | .tup xs,.tup ys=>jl xs ys
 | .lst xs,.lst ys=>jl xs ys
 | _,_=>false
noncomputable def jl:List D->List D->Bool
 | [],[]=>true
 | x::xs,y::ys=>sy x y && jl xs ys
 | _,_=>false
end
theorem A9 (a b:Bool):sy (.bl a) (.bl b)=(a == b):=rfl
theorem oX (a b:Int):sy (.int a) (.int b)=(a == b):=rfl
theorem vR (a b:Str):sy (.str a) (.str b)=(a == b):=rfl
theorem mO (a b:List D):sy (.tup a) (.tup b)=jl a b:=rfl
theorem oY (a b:List D):sy (.lst a) (.lst b)=jl a b:=rfl
theorem lP (x y:D)(xs ys:List D):jl (x::xs) (y::ys)=(sy x y && jl xs ys):=rfl
theorem FG (y:D)(ys:List D):jl [] (y::ys)=false:=rfl
theorem FF (x:D)(xs:List D):jl (x::xs) []=false:=rfl
mutual
noncomputable def dep:D->Nat
 | .tup xs=>kB xs+1
 | .lst xs=>kB xs+1
 | _=>0
noncomputable def kB:List D->Nat
 | []=>0
 | x::xs=>max (dep x) (kB xs)
end
mutual
noncomputable def nj:D->Bool
 | .tup xs=>jA xs
 | .lst xs=>jA xs
 | .scr _=>false
 | .dct _=>false
 | .sen _=>false
 | _=>true
noncomputable def jA:List D->Bool
 | []=>true
 | x::xs=>nj x && jA xs
end
theorem sj (xs:List D):nj (.tup xs)=jA xs:=by rw[nj]
theorem xu (xs:List D):nj (.lst xs)=jA xs:=by rw[nj]
theorem nS (i:Int):nj (.int i)=true:=by unfold nj;rfl
theorem CO:nj .non=true:=by unfold nj;rfl
theorem jB:jA []=true:=by rw[jA]
theorem iu (x:D)(xs:List D):jA (x::xs)=(nj x && jA xs):=by rw[jA]
theorem ly (xs:List D):dep (.tup xs)=kB xs+1:=by rw[dep]
theorem rQ (xs:List D):dep (.lst xs)=kB xs+1:=by rw[dep]
theorem lu (i:Int):dep (.int i)=0:=by unfold dep;rfl
theorem B5:dep .non=0:=by unfold dep;rfl
theorem ig:kB []=0:=by rw[kB]
theorem fX (x:D)(xs:List D):kB (x::xs)=max (dep x) (kB xs):=by rw[kB]
theorem oy:∀{xs:List D} {i:Nat} {x:D},xs[i]?=some x->dep x<=kB xs
 | [],_,_,h=>by simp at h
 | y::xs,0,x,h=>by simp at h;subst h;unfold kB;exact Nat.le_max_left _ _
 | y::xs,i+1,x,h=>by
  have:=oy (xs:=xs) (i:=i) (x:=x) (by simpa using h);unfold kB;exact Nat.le_trans this (Nat.le_max_right _ _)
theorem all_succ (n:Nat)(f:Nat->Bool):(List.range (n+1)).all f=(f 0 && (List.range n).all λi=>f (i+1)):=by
 rw[List.range_succ_eq_map,List.all_cons,List.all_map];rfl
theorem uN:∀(xs ys:List D),jl xs ys=((List.range (min xs.length ys.length)).all (λi=>match xs[i]?,ys[i]? with | some x,some y=>sy x y | _,_=>true) && xs.length == ys.length)
 | [],[]=>rfl
 | [],y::ys=>by rw[FG];simp
 | x::xs,[]=>by rw[FF];simp
 | x::xs,y::ys=>by
  rw[lP];rw[uN xs ys];have:min (x::xs).length (y::ys).length=min xs.length ys.length+1:=by simp only[length_cons];lia
  rw[this,all_succ];simp only[List.getElem?_cons_zero,List.getElem?_cons_succ,length_cons,Bool.and_assoc];congr 2;simp
noncomputable def lE (xs ys:List D)(i:Nat):Bool:=match xs[i]?,ys[i]? with | some x,some y=>sy x y | _,_=>true
section
variable {X:Cx} {pins:List (Addr×Obj)} {σ:St} {H G:Hp} {s:Shared}
theorem items_eqAt {A:Around}{us us':List Value}{vs vs':List V}{ds ds':List D}(r1:Vals vs us)(r2:Vals vs' us')(k1:aR X.K G vs ds)(k2:aR X.K G vs' ds')
  (ih:∀(i:Nat) (d d':D) (x y:V) (u v:Value),ds[i]?=some d->ds'[i]?=some d'->Rep X.K G x d->Rep X.K G y d'->RelV x u->RelV y v->SeqAt.EqAt A s u v (sy d d')) :
  ∀j (h1:j<us.toArray.size) (h2:j<us'.toArray.size),SeqAt.EqAt A s us.toArray[j] us'.toArray[j] (lE ds ds' j):=λj q1 q2=>by
 have q1':j<us.length:=by simpa using q1
 have q2':j<us'.length:=by simpa using q2
 have l1:=r1.length;have l2:=r2.length;have e1:vs[j]?=some vs[j]:=getElem?_eq_getElem (by lia);have e2:vs'[j]?=some vs'[j]:=getElem?_eq_getElem (by lia);obtain ⟨u1,g1,s1⟩:=r1.get e1;obtain ⟨u2,g2,s2⟩:=r2.get e2;obtain ⟨d1,f1,t1⟩:=WS.gy k1 e1;obtain ⟨d2,f2,t2⟩:=WS.gy k2 e2;have z1:us.toArray[j]=u1:=by rw[getElem?_eq_getElem q1'] at g1;simpa using Option.some.inj g1
 have z2:us'.toArray[j]=u2:=by rw[getElem?_eq_getElem q2'] at g2;simpa using Option.some.inj g2
 rw[z1,z2];unfold lE;rw[f1,f2];exact ih j d1 d2 _ _ _ _ f1 f2 t1 t2 s1 s2
theorem oV (xs ys:List D):jl xs ys=((List.range (min xs.length ys.length)).all (lE xs ys) && xs.length == ys.length):=uN xs ys
theorem uO {xs ys:List D}(h:xs.length=ys.length):jl xs ys=(List.range xs.length).all (lE xs ys):=by
 rw[oV,h];simp
theorem A4 {xs ys:List D}(h:xs.length≠ys.length):jl xs ys=false:=by
 rw[oV];have:(xs.length == ys.length)=false:=by simpa using h
 rw[this,Bool.and_false]
theorem sz {vs:List V}{us:List Value}{ds:List D}(r:Vals vs us)(k:aR X.K G vs ds):us.toArray.size=ds.length:=by
 rw[size_toArray,<-r.length,Paired.length k]
mutual
theorem fA:∀d:D,nj d=true->sy d d=true
 | .non,_=>rfl
 | .bl a,_=>by rw[A9];simp
 | .int a,_=>by rw[oX];simp
 | .str a,_=>by rw[vR];simp
 | .tup xs,h=>by rw[mO];unfold nj at h;exact kP xs h
 | .lst xs,h=>by rw[oY];unfold nj at h;exact kP xs h
 | .scr _,h=>by unfold nj at h;cases h
 | .dct _,h=>by unfold nj at h;cases h
 | .sen _,h=>by unfold nj at h;cases h
theorem kP:∀ds:List D,jA ds=true->jl ds ds=true
 | [],_=>rfl
 | d::ds,h=>by
  unfold jA at h;have h':=Bool.and_eq_true _ _ ▸ h;rw[lP];rw[fA d h'.1,kP ds h'.2];rfl
end
inductive mq:D->D->Prop
 | non:mq .non .non
 | bl (a b:Bool):mq (.bl a) (.bl b)
 | int (a b:Int):mq (.int a) (.int b)
 | str (a b:Str):mq (.str a) (.str b)
 | tup {xs ys:List D} (h:∀(i:Nat) (x y:D),xs[i]?=some x->ys[i]?=some y->mq x y):mq (.tup xs) (.tup ys)
 | lst {xs ys:List D} (h:∀(i:Nat) (x y:D),xs[i]?=some x->ys[i]?=some y->mq x y):mq (.lst xs) (.lst ys)
mutual
theorem mq.refl:∀d:D,nj d=true->mq d d
 | .non,_=>.non
 | .bl a,_=>.bl a a
 | .int a,_=>.int a a
 | .str a,_=>.str a a
 | .tup xs,h=>.tup (mq.Bn xs (by unfold nj at h;exact h))
 | .lst xs,h=>.lst (mq.Bn xs (by unfold nj at h;exact h))
 | .scr _,h=>by unfold nj at h;cases h
 | .dct _,h=>by unfold nj at h;cases h
 | .sen _,h=>by unfold nj at h;cases h
theorem mq.Bn:∀ds:List D,jA ds=true->∀(i:Nat) (x y:D),ds[i]?=some x->ds[i]?=some y->mq x y
 | [],_,_,_,_,e,_=>by simp at e
 | d::ds,h,0,x,y,e1,e2=>by
  unfold jA at h;cases e1;cases e2;exact mq.refl d (Bool.and_eq_true _ _ ▸ h).1
 | d::ds,h,i+1,x,y,e1,e2=>by
  unfold jA at h;exact mq.Bn ds (Bool.and_eq_true _ _ ▸ h).2 i x y e1 e2
end
theorem pz {vs:List V}{ds ds':List D}(k1:aR X.K G vs ds)(k2:aR X.K G vs ds')(ih:∀(i:Nat) (d d':D),ds[i]?=some d->ds'[i]?=some d'->∀{x:V},Rep X.K G x d->Rep X.K G x d'->sy d d'=true):jl ds ds'=true:=by
 rw[uO ((Paired.length k1).symm.trans (Paired.length k2)),List.all_eq_true];intro i hi;have hi':i<vs.length:=by rw[Paired.length k1];exact mem_range.mp hi
 obtain ⟨d1,f1,t1⟩:=WS.gy k1 (getElem?_eq_getElem hi');obtain ⟨d2,f2,t2⟩:=WS.gy k2 (getElem?_eq_getElem hi');unfold lE;rw[f1,f2];exact ih i d1 d2 f1 f2 t1 t2
theorem mq.same {dx dy:D}(a:mq dx dy):∀{x:V},Rep X.K G x dx->Rep X.K G x dy->sy dx dy=true:=by
 induction a with
 | non=>intro x _ _;rfl
 | bl a b=>intro x r1 r2;rw[r1.gf] at r2;cases r2.gf;rw[A9];simp
 | int a b=>intro x r1 r2;rw[r1.int_inv] at r2;cases r2.int_inv;rw[oX];simp
 | str a b=>intro x r1 r2;rw[r1.str_inv] at r2;cases r2.str_inv;rw[vR];simp
 | tup _ ih =>
  intro x r1 r2;obtain ⟨a,vs,rfl,e,k1⟩:=r1.jd;obtain ⟨a',vs',z,e',k2⟩:=r2.jd;cases z;rw[e] at e';cases e';rw[mO];exact pz k1 k2 ih
 | lst _ ih =>
  intro x r1 r2;obtain ⟨a,vs,rfl,e,k1⟩:=r1.lst_inv;obtain ⟨a',vs',z,e',k2⟩:=r2.lst_inv;cases z;rw[e] at e';cases e';rw[oY];exact pz k1 k2 ih
structure JZ (A:Around)(s:Shared)(u v:Value)(b:Bool):Prop where
 i:SeqAt.EqAt A s u v b
 e:SeqAt.RcAt A s u v b
 n:SeqAt.RcNeAt A s u v (!b)
theorem DU (I:Inv X pins σ H s)(sG:aq G H){dx dy:D}(al:mq dx dy):∀{x y:V} {u v:Value} {A:Around},Rep X.K G x dx->Rep X.K G y dy->RelV x u->RelV y v->A.units+dep dx<cLine->JZ A s u v (sy dx dy):=by
  induction al with
  | non=>intro x y u v A rx ry ru rv _;cases rx.xq;cases ry.xq;cases ru;cases rv;exact ⟨SeqAt.EqAt.same _,SeqAt.RcAt.none_none,SeqAt.RcNeAt.none_none⟩
  | bl a b=>intro x y u v A rx ry ru rv _;cases rx.gf;cases ry.gf;cases ru;cases rv;rw[A9];exact ⟨SeqAt.EqAt.bool_bool a b,SeqAt.RcAt.bool_bool a b,SeqAt.RcNeAt.bool_bool a b⟩
  | int a b=>intro x y u v A rx ry ru rv _;cases rx.int_inv;cases ry.int_inv;obtain ⟨t,rfl⟩:=ru;obtain ⟨t',rfl⟩:=rv;rw[oX];exact ⟨SeqAt.EqAt.int_int a t b t',SeqAt.RcAt.int_int a t b t',SeqAt.RcNeAt.int_int a t b t'⟩
  | str a b=>intro x y u v A rx ry ru rv _;cases rx.str_inv;cases ry.str_inv;obtain ⟨t,rfl⟩:=ru;obtain ⟨t',rfl⟩:=rv;rw[vR];exact ⟨SeqAt.EqAt.str_str a t b t',SeqAt.RcAt.str_str a t b t',SeqAt.RcNeAt.str_str a t b t'⟩
  | @tup ds ds' al ih =>
    intro x y u v A rx ry ru rv hu;obtain ⟨a,vs,rfl,e1,k1⟩:=rx.jd;obtain ⟨a',vs',rfl,e2,k2⟩:=ry.jd;cases ru;cases rv;obtain ⟨is,r1,t1,_⟩:=I.tuple (aM sG (.inl (.inl e1)));obtain ⟨is2,r2,t2,_⟩:=I.tuple (aM sG (.inl (.inl e2)));have hu0:A.units<cLine:=by lia
    rw[ly] at hu;have it:=items_eqAt (A:=A.in1) (s:=s) (X:=X) (G:=G) r1 r2 k1 k2 λi d d' x y u v f1 f2 w1 w2 w3 w4=>(ih i d d' f1 f2 (A:=A.in1) w1 w2 w3 w4 (by have:=oy f1;show A.units+1+dep d<cLine;lia)).i;have key:=SeqAt.RcAt.tuples (A:=A) (s:=s) (e:=lE ds ds') t1 t2 hu0 it;have key':=SeqAt.RcNeAt.tuples (A:=A) (s:=s) (e:=lE ds ds') t1 t2 hu0 it;rw[sz r1 k1,sz r2 k2,<-oV] at key key';refine ⟨?_,by rw[mO];exact key,by rw[mO];exact key'⟩;by_cases hab:a=a'
    · subst hab;rw[mq.same (.tup al) rx ry];exact SeqAt.EqAt.same _
    · rw[mO];exact SeqAt.EqAt.of_refs hab key
  | @lst ds ds' al ih =>
    intro x y u v A rx ry ru rv hu;obtain ⟨a,vs,rfl,e1,k1⟩:=rx.lst_inv;obtain ⟨a',vs',rfl,e2,k2⟩:=ry.lst_inv;cases ru;cases rv;obtain ⟨is,r1,t1,_⟩:=I.list (fV.of (sG _ _ e1));obtain ⟨is2,r2,t2,_⟩:=I.list (fV.of (sG _ _ e2));have hu0:A.units<cLine:=by lia
    rw[rQ] at hu;have key:SeqAt.RcAt A s (.ref a) (.ref a') (jl ds ds')/\SeqAt.RcNeAt A s (.ref a) (.ref a') (!(jl ds ds')):=by
      by_cases hlen:ds.length=ds'.length
      · have it := items_eqAt (A := A.in1) (s := s) (X := X) (G := G) r1 r2 k1 k2 λi d d' x y u v f1 f2 w1 w2 w3 w4 => (ih i d d' f1 f2 (A := A.in1) w1 w2 w3 w4 (by have := oy f1;show A.units + 1 + dep d < cLine;lia)).i;have e0:is.toArray.size=is2.toArray.size:=by rw[sz r1 k1,sz r2 k2];exact hlen
        have key:=SeqAt.RcAt.lists (A:=A) (s:=s) (e:=lE ds ds') t1.isList t2.isList e0 hu0 it;have key':=SeqAt.RcNeAt.lists (A:=A) (s:=s) (e:=lE ds ds') t1.isList t2.isList e0 hu0 it;rw[sz r1 k1,<-uO hlen] at key key';exact ⟨key,key'⟩
      · rw[A4 hlen];have e0:(is.toArray.size != is2.toArray.size)=true:=by rw[sz r1 k1,sz r2 k2];simpa using hlen
        exact ⟨SeqAt.RcAt.lists_lengths t1.isList t2.isList e0 hu0,SeqAt.RcNeAt.lists_lengths t1.isList t2.isList e0 hu0⟩
    refine ⟨?_,by rw[oY];exact key.1,by rw[oY];exact key.2⟩;by_cases hab:a=a'
    · subst hab;rw[mq.same (.lst al) rx ry];exact SeqAt.EqAt.same _
    · rw[oY];exact SeqAt.EqAt.of_refs hab key.1
noncomputable def Hz (K:Frag)(u:Nat)(neg:Bool):R2:=λx y H Q=>∃G dx dy,aq G H/\Rep K G x dx/\Rep K G y dy/\mq dx dy/\u+dep dx<cLine/\Q (.bl (if neg then !(sy dx dy) else sy dx dy)) H
theorem Fi:j4 X (compareOp .Eq) (Hz X.K X.A.units false):=by
 intro pins s σ H x y v u Q I rx ry h;obtain ⟨G,dx,dy,sG,r1,r2,al,hu,q⟩:=h;exact (DU I sG al r1 r2 rx ry hu).e _ _ _ _ ⟨.bl _,H,I,rfl,q⟩
theorem Fo:j4 X (compareOp .NotEq) (Hz X.K X.A.units true):=by
 intro pins s σ H x y v u Q I rx ry h;obtain ⟨G,dx,dy,sG,r1,r2,al,hu,q⟩:=h;exact (DU I sG al r1 r2 rx ry hu).n _ _ _ _ ⟨.bl _,H,I,rfl,q⟩
noncomputable def JQ:D2:=λx y Q=>(mq x y/\dep x<=60)/\Q (.p (.bl (sy x y)))
noncomputable def Gj:D2:=λx y Q=>(mq x y/\dep x<=60)/\Q (.p (.bl (!(sy x y))))
theorem Fb {k:Nat}(hr:cY k X.A):pO X (compareOp .Eq) JQ:=
 ⟨_,Fi,by rintro H G x y dx dy P Q s rx ry ⟨⟨h1,h3⟩,h4⟩ c;exact ⟨G,dx,dy,s,rx,ry,h1,by have:=hr.units;lia,c _ _ H G h4 (Wd.refl s) (.bl _)⟩⟩
theorem mJ {k:Nat}(hr:cY k X.A):pO X (compareOp .NotEq) Gj:=
 ⟨_,Fo,by rintro H G x y dx dy P Q s rx ry ⟨⟨h1,h3⟩,h4⟩ c;exact ⟨G,dx,dy,s,rx,ry,h1,by have:=hr.units;lia,c _ _ H G h4 (Wd.refl s) (.bl _)⟩⟩
end
end DL
namespace DL
open PySem L2
section
variable {X:Cx} {a b c e:Expr} {ta tb tc te:DT} {pos:Pos} {es:List Expr}
theorem Cv {K:Frag}{T:String}(h:T = "int" \/ T = "bool" \/ T = "str" \/ T = "tuple" \/ T = "list")(d:D):kitOne K (.type (Kb d)) (.type T)=some (Io T d):=by
 rcases h with rfl | rfl | rfl | rfl | rfl<;>cases d<;>rfl
theorem rB:eD X (.builtin "isinstance") (λxs H Q=>∃G x d T,xs = [x,.ty T]/\aq G H/\Rep X.K G x d/\(T = "int" \/ T = "bool" \/ T = "str" \/ T = "tuple" \/ T = "list")/\Q (.bl (Io T d)) H):=by
 intro pins s σ H xs us Q I r h;obtain ⟨G,x,d,T,rfl,sG,rx,hT,q⟩:=h;obtain ⟨u,w',rfl,ru,rw'⟩:=vals2 r;cases (show w'=Value.type T from rw');have e:=Cv (K:=X.K) hT d;have fin:∀tk,EP X pins σ Q (.bool (Io T d)) { s with toks:=tk }:=λtk=>⟨.bl _,H,I.tok tk,rfl,q⟩
 cases rx with
 | non=>exact jX I ru .non e fin
 | bl b=>exact jX I ru (.bl b) e fin
 | int i=>exact jX I ru (.int i) e fin
 | str z=>exact jX I ru (.str z) e fin
 | @tup a vs ds h l r =>
  cases ru;obtain ⟨is,r1,⟨o,h1,h2,_⟩,z1⟩:=I.tuple (aM sG (.inl (.inl h)));exact kia_one kitx_tuple I.pM ⟨o,h1,h2⟩ e (λz=>nomatch z) fin
 | @lst a vs ds h l r =>
  cases ru;obtain ⟨is,r1,t1,z1⟩:=I.list (fV.of (sG _ _ h));obtain ⟨o,h1,h2,_⟩:=t1.isList;exact kia_one kitx_list I.pM ⟨o,h1,h2⟩ e (λz=>nomatch z) fin
 | @dct a kvs h =>
  cases ru;obtain ⟨_,_,_,_,o,_,_,h1,h2,_⟩:=Rd.ok (iZ sG h) I.bp;exact kia_one kitx_dict I.pM ⟨o,h1,h2.1⟩ e (λz=>nomatch z) fin
 | @sen a kvs h =>
  cases ru;obtain ⟨_,_,_,_,o,_,_,h1,h2,_⟩:=Rd.ok (iZ sG h) I.bp;exact kia_one kitx_dict I.pM ⟨o,h1,h2.1⟩ e (λz=>nomatch z) fin
 | @scr a ns h =>
  cases ru;obtain ⟨is,r1,t1,z1⟩:=I.list (sG.seq h);obtain ⟨o,h1,h2,_⟩:=t1.isList;exact kia_one kitx_list I.pM ⟨o,h1,h2⟩ e (λz=>nomatch z) fin
noncomputable def iK (T:String)(te:DT):DT:=λρ Q=>te ρ λb=>Q (.p (.bl (Io T b.val)))
theorem rO {T:String}{p:Pos}{e2:Expr}(hT:T = "int" \/ T = "bool" \/ T = "str" \/ T = "tuple" \/ T = "list")(hg:Gl X "isinstance")(hm:X.mg "isinstance" = none)(he:DE X e te)(h2:PE X e2 (tC (.ty T)))
  (hs:autoParam (starEach (e::[e2]) X.env=(false,eval e X.env)::starEach [e2] X.env) aZa._auto_1) (hs2:autoParam (starEach (e2::[]) X.env=(false,eval e2 X.env)::starEach [] X.env) aZa._auto_1) (hpl:autoParam ((backTo pos (starEach [e2] X.env)).any (·.1)=false) aZa._auto_1):DE X (.Call (.Name "isinstance" p) [e,e2] [] pos) (iK T te):=
 DE.of (uL rB hg hm boot_isinstance (eT he.pe (eT h2 kO hs2) hs) (he:=hs) (hpl:=hpl))<|by
  rintro σ H Q ⟨G,ρ,P,s,re,h,k⟩;refine ⟨G,ρ,_,s,re,h,λb v H1 G1 p1 w1 r1=>?_⟩;obtain ⟨G1',w1',r1'⟩:=r1.give w1;exact ⟨G1',v,b.val,T,rfl,w1'.gh,r1',hT,k _ _ H1 G1' p1 w1' (.bl _)⟩
theorem zF (hc:X.calm=true):CallD X (.builtin "all") EF:=by
 refine ⟨_,x9 hc,λH G vs ds P Q s r h k=>?_⟩;unfold EF at h;split at h
 .obtain ⟨ns,rfl,h⟩:=h;obtain ⟨v,rfl,rv⟩:=gC r;obtain ⟨a,us,rfl,e,rr⟩:=rv.lst_inv;rw[uT rr] at e;exact ⟨a,ns,rfl,fV.of (s _ _ e),k _ _ H G h (Wd.refl s) (.bl _)⟩
 .exact h.elim
end
inductive Tg where
 | n (i:Nat) | t (is:List Nat)
noncomputable def kH:List Nat->DD
 | []=>GR
 | i::is=>D4 (wR i) (kH is)
noncomputable def Tg.v (K:Frag):Tg->TG
 | .n i=>wR i
 | .t is=>GS K is.length (kH is)
noncomputable def putN:List Nat->List D->aB->(aB->Prop)->Prop
 | [],[],ρ,P=>P ρ
 | i::is,d::ds,ρ,P=>putN is ds (dput ρ i (.p d)) P
 | _,_,_,_=>False
noncomputable def Tg.d:Tg->D->aB->(aB->Prop)->Prop
 | .n i,d,ρ,P=>P (dput ρ i (.p d))
 | .t is,.tup ds,ρ,P=>putN is ds ρ P
 | .t is,.lst ds,ρ,P=>putN is ds ρ P
 | .t _,_,_,_=>False
noncomputable def Tg.is:Tg->List Nat
 | .n i=>[i]
 | .t is=>is
noncomputable def rq (K:Frag)(H0 G H:Hp)(w:Addr->Nat)(i:Nat)(a:Addr)(t:Bool)(dss:List D):Prop:=∃as:List Addr,as.Nodup/\Paired (λx ds=>H0 x=none/\w x=i/\bQ K G H x ds) as dss/\match t with
 | true=>G a=some (.tup (as.map V.ref))
 | false=>H0 a=none/\w a=i/\G a=none/\a∉as/\H a=some (.lst (as.map V.ref))
structure pN (K:Frag)(H0 G H:Hp)(w:Addr->Nat)(σ:St)(ρ:aB):Prop where
 len:σ.length=ρ.length
 p:∀i d,aT ρ i=some (.p d)->∃v,σ[i]?=some (some v)/\Rep K G v d
 o:∀i d,aT ρ i=some (.o d)->∃a,σ[i]?=some (some (.ref a))/\H0 a=none/\w a=i/\bQ K G H a d
 n:∀i t dss,aT ρ i=some (.n t dss)->∃a,σ[i]?=some (some (.ref a))/\rq K H0 G H w i a t dss
noncomputable def aX (K:Frag)(H0 G H:Hp)(σ:St)(ρ:aB):Prop:=∃w,pN K H0 G H w σ ρ
section
variable {K:Frag} {H0 G H:Hp} {σ:St} {ρ:aB}
theorem aX.p (h:aX K H0 G H σ ρ):∀i d,aT ρ i=some (.p d)->∃v,σ[i]?=some (some v)/\Rep K G v d:=by obtain ⟨w,h⟩:=h;exact h.p
theorem aX.o (h:aX K H0 G H σ ρ):∀i d,aT ρ i=some (.o d)->∃a,σ[i]?=some (some (.ref a))/\H0 a=none/\bQ K G H a d:=by
 obtain ⟨w,h⟩:=h;intro i d e;obtain ⟨a,h1,h2,_,h3⟩:=h.o i d e;exact ⟨a,h1,h2,h3⟩
theorem aX.only (l:σ.length=ρ.length)(hp:eF K G σ ρ)(h:∀i b,aT ρ i=some b->∃d,b=.p d):aX K H0 G H σ ρ:=by
 refine ⟨λ_=>0,l,hp,λi d e=>?_,λi t dss e=>?_⟩
 .obtain ⟨_,q⟩:=h i _ e;cases q
 .obtain ⟨_,q⟩:=h i _ e;cases q
end
theorem bQ.fS {K:Frag}{G H G' H':Hp}{a:Addr}{d:D}(h:bQ K G H a d)(hg:aq G G')(hn:G' a=none)(hh:∀o,H a=some o->H' a=some o):bQ K G' H' a d:=by
 obtain ⟨h1,h2⟩:=h;refine ⟨hn,?_⟩;cases d with
 | lst ds=>obtain ⟨vs,e,r⟩:=h2;exact ⟨vs,hh _ e,aR.mono hg r⟩
 | non=>exact h2
 | bl _=>exact h2
 | int _=>exact h2
 | str _=>exact h2
 | tup _=>exact h2
 | scr _=>exact h2
 | dct kvs=>exact hh _ h2
 | sen kvs=>exact hh _ h2
theorem bQ.chg {K:Frag}{G H:Hp}{a:Addr}{d:D}(h:bQ K G H a d):Em H a:=by
 obtain ⟨h1,h2⟩:=h;cases d with
 | lst ds=>obtain ⟨vs,e,r⟩:=h2;exact ⟨_,e,λ_ z=>nomatch z⟩
 | non=>exact h2.elim
 | bl _=>exact h2.elim
 | int _=>exact h2.elim
 | str _=>exact h2.elim
 | tup _=>exact h2.elim
 | scr _=>exact h2.elim
 | dct kvs=>exact ⟨_,h2,λ_ z=>nomatch z⟩
 | sen kvs=>exact ⟨_,h2,λ_ z=>nomatch z⟩
theorem bQ.there {K:Frag}{G H:Hp}{a:Addr}{d:D}(h:bQ K G H a d):H a≠none:=h.chg.there
theorem gO {α β:Type}{F F':α->β->Prop}{l:List α}{r:List β}(k:∀x d,x∈l->F x d->F' x d)(h:Paired F l r):Paired F' l r:=by
 induction h with
 | nil=>exact .nil
 | cons f _ ih=>exact .cons (k _ _ mem_cons_self f) (ih λx d m=>k x d (mem_cons_of_mem _ m))
theorem nr {α β:Type}{F:α->β->Prop}{l:List α}{r:List β}(h:Paired F l r):∀x∈l,∃d,F x d:=by
 induction h with
 | nil=>intro x m;cases m
 | cons f _ ih =>
  intro x m;rcases List.mem_cons.mp m with rfl | m
  .exact ⟨_,f⟩
  .exact ih x m
theorem rq.fS {K:Frag}{H0 G H G' H':Hp}{w w':Addr->Nat}{i:Nat}{a:Addr}{t:Bool}{dss:List D}(h:rq K H0 G H w i a t dss)(hg:aq G G')(hn:∀x,H0 x=.none->w x=i->G x=.none->Em H x->G' x=.none/\w' x=i/\∀o,H x=some o->H' x=some o):rq K H0 G' H' w' i a t dss:=by
 obtain ⟨as,nd,pr,e⟩:=h;have pr':=gO (F':=λx ds=>H0 x=none/\w' x=i/\bQ K G' H' x ds) ( by
  rintro x d m ⟨h1,h2,h3⟩;obtain ⟨k1,k2,k3⟩:=hn x h1 h2 h3.1 h3.chg;exact ⟨h1,k2,h3.fS hg k1 k3⟩) pr
 refine ⟨as,nd,pr',?_⟩
 .cases t with
  | true=>exact hg _ _ e
  | false =>
   obtain ⟨e1,e2,e3,e4,e5⟩:=e;obtain ⟨k1,k2,k3⟩:=hn a e1 e2 e3 ⟨_,e5,λ_ z=>nomatch z⟩;exact ⟨e1,k2,k1,e4,k3 _ e5⟩
theorem pN.on {K:Frag}{H0 G H G' H':Hp}{o:Addr->Nat}{σ:St}{ρ:aB}(h:pN K H0 G H o σ ρ)(w:Wd H G H' G'):pN K H0 G' H' o σ ρ:=
 ⟨h.len,λi d e=>by obtain ⟨v,h1,h2⟩:=h.p i d e;exact ⟨v,h1,h2.mono w.gg⟩,λi d e=>by
  obtain ⟨a,h1,h2,h2',h3⟩:=h.o i d e;exact ⟨a,h1,h2,h2',h3.fS w.gg (by rw[w.old a h3.chg];exact h3.1) λo q=>w.hh _ _ q⟩,λi t dss e=>by
  obtain ⟨a,h1,h2⟩:=h.n i t dss e;exact ⟨a,h1,h2.fS w.gg λx k1 k2 k3 k4=>⟨by rw[w.old x k4];exact k3,k2,λo q=>w.hh _ _ q⟩⟩⟩
theorem aX.on {K:Frag}{H0 G H G' H':Hp}{σ:St}{ρ:aB}(h:aX K H0 G H σ ρ)(w:Wd H G H' G'):aX K H0 G' H' σ ρ:=by
 obtain ⟨o,h⟩:=h;exact ⟨o,h.on w⟩
theorem br {σ:St}{i j:Nat}{v:V}(h:i≠j):(σ.set i (some v))[j]?=σ[j]?:=by rw[List.getElem?_set_ne h]
theorem iz {σ:St}{i:Nat}{v:V}(h:i<σ.length):(σ.set i (some v))[i]?=some (some v):=by rw[List.getElem?_set_self h]
theorem aX.yW {K:Frag}{H0 G H:Hp}{σ:St}{ρ:aB}{v:V}{d:D}(h:aX K H0 G H σ ρ)(i:Nat)(r:Rep K G v d):aX K H0 G H (σ.set i (some v)) (dput ρ i (.p d)):=by
 obtain ⟨o,h⟩:=h;refine ⟨o,by rw[length_set,dG];exact h.len,λj d' e=>?_,λj d' e=>?_,λj t dss e=>?_⟩
 .rcases aL e with ⟨rfl,hl,e⟩ | ⟨hne,e⟩
  .cases e;exact ⟨v,iz (by rw[h.len];exact hl),r⟩
  .obtain ⟨w,h1,h2⟩:=h.p j d' e;exact ⟨w,by rw[br hne];exact h1,h2⟩
 .rcases aL e with ⟨rfl,hl,e⟩ | ⟨hne,e⟩
  .cases e
  .obtain ⟨a,h1,h2⟩:=h.o j d' e;exact ⟨a,by rw[br hne];exact h1,h2⟩
 .rcases aL e with ⟨rfl,hl,e⟩ | ⟨hne,e⟩
  .cases e
  .obtain ⟨a,h1,h2⟩:=h.n j t dss e;exact ⟨a,by rw[br hne];exact h1,h2⟩
theorem pN.BI {K:Frag}{H0 G H:Hp}{o:Addr->Nat}{σ:St}{ρ:aB}(h:pN K H0 G H o σ ρ){o':Addr->Nat}(q:∀x,H x≠.none->o' x=o x):pN K H0 G H o' σ ρ:=
 ⟨h.len,h.p,λj d e=>by
  obtain ⟨a,h1,h2,h3,h4⟩:=h.o j d e;exact ⟨a,h1,h2,by rw[q a h4.there];exact h3,h4⟩,λj t dss e=>by
  obtain ⟨a,h1,h2⟩:=h.n j t dss e;exact ⟨a,h1,h2.fS (aq.refl _) λx k1 k2 k3 k4=>⟨k3,by rw[q x k4.there];exact k2,λo q=>q⟩⟩⟩
theorem aX.Jl {K:Frag}{H0 G H G' H':Hp}{σ:St}{ρ:aB}{a:Addr}{d:D}(h:aX K H0 G H σ ρ)(w:Wd H G H' G')(i:Nat)(h0:H0 a=none)(hn:H a=none)(r:bQ K G' H' a d):aX K H0 G' H' (σ.set i (some (.ref a))) (dput ρ i (.o d)):=by
 obtain ⟨o,h⟩:=h;have h2:=(h.BI (o':=λx=>if x=a then i else o x) λx q=>if_neg λe:x=a=>q (e ▸ hn)).on w;refine ⟨λx=>if x=a then i else o x,by rw[length_set,dG];exact h.len,λj d' e=>?_,λj d' e=>?_,λj t dss e=>?_⟩
 .rcases aL e with ⟨rfl,hl,e⟩ | ⟨hne,e⟩
  .cases e
  .obtain ⟨w,h1,h2⟩:=h2.p j d' e;exact ⟨w,by rw[br hne];exact h1,h2⟩
 .rcases aL e with ⟨rfl,hl,e⟩ | ⟨hne,e⟩
  .cases e;exact ⟨a,iz (by rw[h.len];exact hl),h0,if_pos rfl,r⟩
  .obtain ⟨b,h1,h2⟩:=h2.o j d' e;exact ⟨b,by rw[br hne];exact h1,h2⟩
 .rcases aL e with ⟨rfl,hl,e⟩ | ⟨hne,e⟩
  .cases e
  .obtain ⟨b,h1,h2⟩:=h2.n j t dss e;exact ⟨b,by rw[br hne];exact h1,h2⟩
theorem aX.Hx {K:Frag}{H0 G H G' H':Hp}{σ:St}{ρ:aB}{a:Addr}{as:List Addr}{ds:List D}(h:aX K H0 G H σ ρ)(w:Wd H G H' G')(hh:aq H0 H)(i:Nat)(q:G' a=some (.tup (as.map V.ref)))(nd:as.Nodup)(pr:Paired (λx d=>H x=none/\bQ K G' H' x d) as ds):aX K H0 G' H' (σ.set i (some (.ref a))) (dput ρ i (.n true ds)):=by
 obtain ⟨o,h⟩:=h;have h2:=(h.BI (o':=λx=>if x∈as then i else o x) λx z=>if_neg λm=>by
  obtain ⟨_,k,_⟩:=nr pr x m;exact z k).on w
 refine ⟨λx=>if x∈as then i else o x,by rw[length_set,dG];exact h.len,λj d' e=>?_,λj d' e=>?_,λj t dss e=>?_⟩
 .rcases aL e with ⟨rfl,hl,e⟩ | ⟨hne,e⟩
  .cases e
  .obtain ⟨w,h1,h2⟩:=h2.p j d' e;exact ⟨w,by rw[br hne];exact h1,h2⟩
 .rcases aL e with ⟨rfl,hl,e⟩ | ⟨hne,e⟩
  .cases e
  .obtain ⟨b,h1,h2⟩:=h2.o j d' e;exact ⟨b,by rw[br hne];exact h1,h2⟩
 .rcases aL e with ⟨rfl,hl,e⟩ | ⟨hne,e⟩
  .cases e;exact ⟨a,iz (by rw[h.len];exact hl),as,nd,gO (λx d m z=>⟨hh.free z.1,if_pos m,z.2⟩) pr,q⟩
  .obtain ⟨b,h1,h2⟩:=h2.n j t dss e;exact ⟨b,by rw[br hne];exact h1,h2⟩
theorem aX.Hw {K:Frag}{H0 G H G' H':Hp}{σ:St}{ρ:aB}{a:Addr}{as:List Addr}{ds:List D}(h:aX K H0 G H σ ρ)(w:Wd H G H' G')(hh:aq H0 H)(i:Nat)(hn:H a=none)(ga:G' a=none)(q:H' a=some (.lst (as.map V.ref)))(na:a∉as)(nd:as.Nodup)(pr:Paired (λx d=>H x=none/\bQ K G' H' x d) as ds):aX K H0 G' H' (σ.set i (some (.ref a))) (dput ρ i (.n false ds)):=by
 obtain ⟨o,h⟩:=h;have h2:=(h.BI (o':=λx=>if x=a\/x∈as then i else o x) λx z=>if_neg λm=>by
  rcases m with rfl | m
  .exact z hn
  .obtain ⟨_,k,_⟩:=nr pr x m;exact z k).on w
 refine ⟨λx=>if x=a\/x∈as then i else o x,by rw[length_set,dG];exact h.len,λj d' e=>?_,λj d' e=>?_,λj t dss e=>?_⟩
 .rcases aL e with ⟨rfl,hl,e⟩ | ⟨hne,e⟩
  .cases e
  .obtain ⟨w,h1,h2⟩:=h2.p j d' e;exact ⟨w,by rw[br hne];exact h1,h2⟩
 .rcases aL e with ⟨rfl,hl,e⟩ | ⟨hne,e⟩
  .cases e
  .obtain ⟨b,h1,h2⟩:=h2.o j d' e;exact ⟨b,by rw[br hne];exact h1,h2⟩
 .rcases aL e with ⟨rfl,hl,e⟩ | ⟨hne,e⟩
  .cases e;exact ⟨a,iz (by rw[h.len];exact hl),as,nd,gO (λx d m z=>⟨hh.free z.1,if_pos (.inr m),z.2⟩) pr,hh.free hn,if_pos (.inl rfl),ga,na,q⟩
  .obtain ⟨b,h1,h2⟩:=h2.n j t dss e;exact ⟨b,by rw[br hne];exact h1,h2⟩
theorem sI {K:Frag}{H0 G H:Hp}:∀{is:List Nat} {ds:List D} {vs:List V} {σ:St} {ρ:aB} {P:aB->Prop} {Q:St->Hp->Prop},aX K H0 G H σ ρ->aR K G vs ds->putN is ds ρ P->(∀σ' ρ',aX K H0 G H σ' ρ'->P ρ'->Q σ' H)->kH is vs σ H Q
 | [],[],_,σ,ρ,P,Q,h,r,p,k=>by cases r;exact ⟨rfl,k _ _ h p⟩
 | i::is,d::ds,_,σ,ρ,P,Q,h,r,p,k=>by
  cases r with
  | cons r rr=>exact ⟨_,_,rfl,sI (h.yW i r) rr p k⟩
 | [],_::_,_,_,_,_,_,_,_,p,_=>p.elim
 | _::_,[],_,_,_,_,_,_,_,p,_=>p.elim
theorem o9:∀{is:List Nat} {ds:List D} {ρ:aB} {P:aB->Prop},putN is ds ρ P->is.length=ds.length
 | [],[],_,_,_=>rfl
 | _::is,_::ds,ρ,P,p=>by rw[length_cons,length_cons,o9 (is:=is) p]
 | [],_::_,_,_,p=>p.elim
 | _::_,[],_,_,p=>p.elim
theorem Tg.ok {K:Frag}{H0 G H:Hp}{g:Tg}{d:D}{v:V}{σ:St}{ρ:aB}{P:aB->Prop}{Q:St->Hp->Prop}(s:aq G H)(h:aX K H0 G H σ ρ)(r:Rep K G v d)(p:g.d d ρ P)(k:∀σ' ρ',aX K H0 G H σ' ρ'->P ρ'->Q σ' H):g.v K v σ H Q:=by
 cases g with
 | n i=>exact k _ _ (h.yW i r) p
 | t is =>
  cases d with
  | tup ds =>
   obtain ⟨a,vs,rfl,e,rr⟩:=r.eW;exact ⟨a,vs,rfl,.inl (aM s e),by rw[Paired.length rr];exact (o9 p).symm,sI h rr p k⟩
  | lst ds =>
   obtain ⟨a,vs,rfl,e,rr⟩:=r.lst_inv;exact ⟨a,vs,rfl,.inr (fV.of (s _ _ e)),by rw[Paired.length rr];exact (o9 p).symm,sI h rr p k⟩
  | non=>exact p.elim
  | bl _=>exact p.elim
  | int _=>exact p.elim
  | str _=>exact p.elim
  | scr _=>exact p.elim
  | dct _=>exact p.elim
  | sen _=>exact p.elim
structure DB (K:Frag)(G0:Hp)(J:It)(xs:List D):Prop where
 go:∀i d H G,xs[i]?=some d->aq G0 G->aq G H->J.go i H
 zr:∀i d H G x H',xs[i]?=some d->aq G0 G->aq G H->J.zr i H x H'->∃G',Wd H G H' G'/\Rep K G' x d
 stop:∀i H G,i=xs.length->aq G0 G->aq G H->J.stop i H
noncomputable def cI (K:Frag)(t:eB):TI:=λσ H R=>∃(G:Hp) (ρ:aB) (P:List D->Prop),aq G H/\eF K G σ ρ/\t ρ P/\∀xs J H' G',P xs->Wd H G H' G'->DB K G' J xs->R J H'
structure DI (X:Cx)(tg e:Expr)(t:eB):Prop where
 pi:PI X tg e (cI X.K t)
theorem PI.imp {X:Cx}{tg e:Expr}{t t':TI}(h:PI X tg e t)(i:∀σ H Q,t' σ H Q->t σ H Q):PI X tg e t':=λpins s σ H Q I q=>h pins s σ H Q I (i σ H Q q)
theorem DI.of {X:Cx}{tg e:Expr}{t:TI}{t':eB}(h:PI X tg e t)(i:∀σ H Q,cI X.K t' σ H Q->t σ H Q):DI X tg e t':=⟨PI.imp h i⟩
section
variable {X:Cx} {tg e:Expr} {te:DT} {pos:Pos}
theorem uh {K:Frag}{G:Hp}{a:Addr}{vs:List V}{ds:List D}(h:fV K G a vs)(r:aR K G vs ds):DB K G (IB K a) ds where
 go:=λi d H G' e s1 s2=>by
  obtain ⟨v,h1,h2⟩:=bt r e;exact ⟨vs,v,(s1.trans s2).seq h,h1⟩
 zr:= by
  rintro i d H G' x H' e s1 s2 ⟨eH,y⟩;obtain ⟨v,h1,h2⟩:=bt r e;have:=y vs ((s1.trans s2).seq h);rw[h1] at this;cases this;subst eH;exact ⟨G',Wd.refl s2,h2.mono s1⟩
 stop:=λi H G' hi s1 s2=>⟨vs,(s1.trans s2).seq h,by rw[Paired.length r,hi];exact Nat.le_refl _⟩
theorem Cq {K:Frag}{G:Hp}{a:Addr}{vs:List V}{ds:List D}(h:jR K G a vs)(r:aR K G vs ds):DB K G (IC K a) ds where
 go:=λi d H G' e s1 s2=>by
  obtain ⟨v,h1,h2⟩:=bt r e;exact ⟨vs,v,aM (s1.trans s2) h,h1⟩
 zr:= by
  rintro i d H G' x H' e s1 s2 ⟨eH,y⟩;obtain ⟨v,h1,h2⟩:=bt r e;have:=y vs (aM (s1.trans s2) h);rw[h1] at this;cases this;subst eH;exact ⟨G',Wd.refl s2,h2.mono s1⟩
 stop:=λi H G' hi s1 s2=>⟨vs,aM (s1.trans s2) h,by rw[Paired.length r,hi];exact Nat.le_refl _⟩
noncomputable def cM (te:DT):eB:=λρ P=>te ρ λb=>match b.val with
 | .lst xs=>P xs
 | .scr ns=>P (ns.map D.int)
 | _=>False
set_option tactic.hygienic true in
theorem cZ (he:DE X e te):DI X tg e (cM te):=DI.of (C2 he.pe)<|by
 rintro σ H R ⟨G,ρ,P,s,re,h,k⟩;refine ⟨G,ρ,_,s,re,h,λb v H1 G1 p1 w1 r1=>?_⟩;obtain ⟨G1',w1',r1'⟩:=r1.give w1;split at p1
 .rename_i xs e;rw[e] at r1';obtain ⟨a,us,rfl,e,rr⟩:=r1'.lst_inv;exact ⟨a,rfl,⟨us,fV.of (w1'.gh _ _ e)⟩,k _ _ H1 G1' p1 w1' (uh (fV.of e) rr)⟩
 .rename_i ns e;rw[e] at r1';cases r1' with
  | scr e=>exact ⟨_,rfl,⟨_,w1'.gh.seq e⟩,k _ _ H1 G1' p1 w1' (uh e (ip ns))⟩
 .exact p1.elim
noncomputable def dF (te:DT):eB:=λρ P=>te ρ λb=>match b.val with
 | .tup xs=>P xs
 | _=>False
set_option tactic.hygienic true in
theorem zZ (he:DE X e te):DI X tg e (dF te):=DI.of (FE he.pe)<|by
 rintro σ H R ⟨G,ρ,P,s,re,h,k⟩;refine ⟨G,ρ,_,s,re,h,λb v H1 G1 p1 w1 r1=>?_⟩;obtain ⟨G1',w1',r1'⟩:=r1.give w1;split at p1
 .rename_i xs e;rw[e] at r1';obtain ⟨a,us,rfl,e,rr⟩:=r1'.eW;exact ⟨a,rfl,⟨us,aM w1'.gh e⟩,k _ _ H1 G1' p1 w1' (Cq e rr)⟩
 .exact p1.elim
noncomputable def dQ (lo:Int)(n:Nat):List D:=(List.range n).map λi=>D.int (lo+(i:Nat))
theorem cC {lo:Int}{n i:Nat}{d:D}(h:(dQ lo n)[i]?=some d):i<n/\d=.int (lo+(i:Nat)):=by
  unfold dQ at h;rw[getElem?_map] at h;by_cases hi:i<n
  · rw[List.getElem?_range hi] at h;exact ⟨hi,(Option.some.inj h).symm⟩
  · rw [List.getElem?_eq_none (by simpa using hi)] at h;cases h
theorem bJ (lo:Int)(n:Nat):(dQ lo n).length=n:=by unfold dQ;simp
theorem wZ {K:Frag}{G:Hp}{lo:Int}{n:Nat}:DB K G (Gu lo n) (dQ lo n) where
 go:=λi d H G' e s1 s2=>(cC e).1
 zr:= by
  rintro i d H G' x H' e s1 s2 ⟨eH,y⟩;obtain ⟨h1,rfl⟩:=cC e;subst eH;subst y;exact ⟨G',Wd.refl s2,.int _⟩
 stop:=λi H G' hi s1 s2=>by rw[bJ] at hi;rw[hi];exact Nat.le_refl n
noncomputable def cm (t:eB):eB:=λρ P=>t ρ λds=>match ds with
 | [.int j]=>(-(2 ^ 62)<=j/\j<2 ^ 62)/\P (dQ 0 j.toNat)
 | _=>False
noncomputable def cn (t:eB):eB:=λρ P=>t ρ λds=>match ds with
 | [.int i,.int j]=>(-(2 ^ 62)<=i/\i<2 ^ 62/\-(2 ^ 62)<=j/\j<2 ^ 62)/\P (dQ i (j - i).toNat)
 | _=>False
noncomputable def signsOf (x:Str):List D:=x.cps.toList.map λc=>D.str ⟨#[c]⟩
noncomputable def zY (te:DT):eB:=λρ P=>te ρ λb=>match b.val with
 | .str x=>P (signsOf x)
 | _=>False
set_option tactic.hygienic true in
theorem EL (he:DE X e te):DI X tg e (zY te):=DI.of (FD he.pe)<|by
 rintro σ H R ⟨G,ρ,P,s,re,h,k⟩;refine ⟨G,ρ,_,s,re,h,λb v H1 G1 p1 w1 r1=>?_⟩;obtain ⟨G1',w1',r1'⟩:=r1.give w1;split at p1
 .rename_i x e;rw[e] at r1';cases r1';refine ⟨x,rfl,k _ _ H1 G1' p1 w1' ⟨λi d H G e _ _=>?_,λi d H G z H' e s1 s2 ⟨eH,c,hc,y⟩=>?_,λi H G hi _ _=>?_⟩⟩
  .unfold signsOf at e;rw[getElem?_map] at e;by_cases hi:i<x.cps.toList.length
   .show i<x.cps.size;simpa using hi
   .rw[List.getElem?_eq_none (by lia)] at e;cases e
  .unfold signsOf at e;rw[getElem?_map] at e;have hc':x.cps.toList[i]?=some c:=by rw[<-hc];simp
   rw[hc'] at e;cases e;subst eH;subst y;exact ⟨G,Wd.refl s2,.str _⟩
  .unfold signsOf at hi;rw[length_map] at hi;show x.cps.size<=i;rw[hi];simp
 .exact p1.elim
end
noncomputable def kd (fr:List (Option Nat))(ρ:aB):aB:=fr.map λo=>match o with
 | none=>none
 | some j=>aT ρ j
theorem rR:∀(ρ:aB) (i:Nat),aT ρ i=(ρ[i]?).getD none
 | [],_=>by simp[aT]
 | _::_,0=>by simp[aT]
 | _::r,i+1=>by simp[aT,rR r i]
theorem wO {fr:List (Option Nat)}{ρ:aB}{i:Nat}{b:B}(h:aT (kd fr ρ) i=some b):∃j,fr[i]?=some (some j)/\aT ρ j=some b:=by
 rw[rR] at h;unfold kd at h;rw[getElem?_map] at h;cases e:fr[i]? with
 | none=>rw[e] at h;cases h
 | some o =>
  rw[e] at h;cases o with
  | none=>cases h
  | some j=>exact ⟨j,rfl,h⟩
theorem Cd {fr:List (Option Nat)}{σ:St}{i j:Nat}{v:V}(h1:fr[i]?=some (some j))(h2:σ[j]?=some (some v)):(nD fr σ)[i]?=some (some v):=by
 unfold nD;rw[getElem?_map,h1];show some ((σ[j]?).getD none)=_;rw[h2];rfl
noncomputable def bC (ρ:aB):aB:=ρ.map λo=>match o with
 | some (.p d)=>some (.p d)
 | _=>none
theorem mN {ρ:aB}{i:Nat}{b:B}(h:aT (bC ρ) i=some b):∃d,b=.p d/\aT ρ i=some (.p d):=by
 rw[rR] at h ⊢;unfold bC at h;rw[getElem?_map] at h;cases e:ρ[i]? with
 | none=>rw[e] at h;cases h
 | some o =>
  rw[e] at h;cases o with
  | none=>cases h
  | some b' =>
   cases b' with
   | p d=>exact ⟨d,(Option.some.inj h).symm,rfl⟩
   | o d=>cases h
   | n _ _=>cases h
noncomputable def D9 (xs:List D)(g:Tg)(tc:jo)(te:DT)(ρ:aB)(Q:B->Prop):Prop:=xs.length<=sizeLine/\∃F:D->Option D->Prop,
 (∀x∈xs,g.d x ρ λρ'=>tc ρ' λc=>(c=true->te ρ' λb=>F x (some b.val))/\(c=false->F x none))/\∀os,Paired F xs os->Q (.o (.lst (os.filterMap id)))
noncomputable def nC (ti:eB)(fr:List (Option Nat))(g:Tg)(tc:jo)(te:DT):DT:=λρ Q=>ti ρ λxs=>D9 xs g tc te (bC (kd fr ρ)) Q
noncomputable def bj:jo:=λ_ P=>P true
theorem iy {α β:Type}{F:α->β->Prop}{xs:List α}{os:List β}{i:Nat}{x:α}{o:β}(h:Paired F (xs.take i) os)(e:xs[i]?=some x)(f:F x o):Paired F (xs.take (i+1)) (os++[o]):=by
 rw[WS.take_snoc e];exact Paired.snoc h f
noncomputable def Ga (fr:List (Option Nat))(g:Tg):Bool:=g.is.all λi=>match fr[i]? with
 | some none=>true
 | _=>false
theorem qZ {K:Frag}{G H:Hp}{ρ0:aB}:∀{is:List Nat} {vs:List V} {σ:St} {Q:St->Hp->Prop},(∀i∈is,aT ρ0 i=none)->eF K G σ ρ0->σ.length=ρ0.length->kH is vs σ H Q->kH is vs σ H λσ' H'=>Q σ' H'/\H'=H/\eF K G σ' ρ0/\σ'.length=ρ0.length
 | [],_,σ,Q,_,h,l,⟨e,q⟩=>⟨e,q,rfl,h,l⟩
 | i::is,_,σ,Q,hn,h,l,⟨v,r,e,q⟩=>by
  refine ⟨v,r,e,qZ (is:=is) (λj hj=>hn j (mem_cons_of_mem _ hj)) (λj d hd=>?_) (by rw[length_set];exact l) q⟩;have hne:i≠j:=by
   rintro rfl;rw[hn i mem_cons_self] at hd;cases hd
  obtain ⟨w,h1,h2⟩:=h j d hd;exact ⟨w,by rw[br hne];exact h1,h2⟩
theorem Du {K:Frag}{G H:Hp}{ρ0:aB}{g:Tg}{v:V}{σ:St}{Q:St->Hp->Prop}(hn:∀i∈g.is,aT ρ0 i=none)(h:eF K G σ ρ0)(l:σ.length=ρ0.length)(q:g.v K v σ H Q):g.v K v σ H λσ' H'=>Q σ' H'/\H'=H/\eF K G σ' ρ0/\σ'.length=ρ0.length:=by
 cases g with
 | n i =>
  refine ⟨q,rfl,λj d hd=>?_,by rw[length_set];exact l⟩;have hne:i≠j:=by
   rintro rfl;rw[hn i (mem_singleton.mpr rfl)] at hd;cases hd
  obtain ⟨w,h1,h2⟩:=h j d hd;exact ⟨w,by rw[br hne];exact h1,h2⟩
 | t is =>
  obtain ⟨a,xs,e,h1,h2,q⟩:=q;exact ⟨a,xs,e,h1,h2,qZ hn h l q⟩
structure BA (X:Cx)(ifs:List Expr)(t:jo):Prop where
 pf:xY X ifs (cT X.K t)
theorem cR {X:Cx}:BA X [] bj:=⟨by rintro pins s σ H Q I ⟨G,ρ,P,sg,re,h,k⟩;exact A7 pins s σ H Q I (k true H G h (Wd.refl sg))⟩
theorem jv {X:Cx}{c:Expr}{t:jo}(h:tj X c t):BA X [c] t:=⟨A8 h.pt⟩
theorem xg {K:Frag}{ti:eB}{fr:List (Option Nat)}{g:Tg}{tc:jo}{te:DT}(ht:Ga fr g=true)(σ:St)(H:Hp)(Q:VK):cE K (nC ti fr g tc te) σ H Q->Jy (cI K ti) fr (g.v K) (cT K tc) (cE K te) σ H Q:=by
  rintro ⟨G,ρ,P,s,re,h,k⟩;refine ⟨G,ρ,_,s,re,h,λxs J H1 G1 p1 w1 it D hD=>?_⟩;obtain ⟨hz,F,hF,hP⟩:=p1;have hn:∀i∈g.is,aT (bC (kd fr ρ)) i=none:=λi hi=>by
    cases e:aT (bC (kd fr ρ)) i with
    | none=>rfl
    | some b =>
      obtain ⟨d,rfl,e'⟩:=mN e;obtain ⟨j,h1,_⟩:=wO e';have:=List.all_eq_true.mp ht i hi;rw[h1] at this;cases this
  have len0:(bC (kd fr ρ)).length=fr.length:=by unfold bC kd;simp
  have fn0:(nD fr σ).length=fr.length:=by unfold nD;simp
  have rep0:eF K G1 (nD fr σ) (bC (kd fr ρ)):=λi d e=>by
    obtain ⟨d',e1,e2⟩:=mN e;cases e1;obtain ⟨j,h1,h2⟩:=wO e2;obtain ⟨v,h3,h4⟩:=re j d h2;exact ⟨v,Cd h1 h3,h4.mono w1.gg⟩
  have gD:G1 D=none:=w1.gh.free hD;refine ⟨λi m ys σ' H'=>m=xs.length - i/\i<=xs.length/\∃G' os,Wd H1 G1 H' G'/\G' D=none/\H' D=some (.lst ys)/\ys.length<=i/\Paired F (xs.take i) os/\aR K G' ys (os.filterMap id)/\eF K G' σ' (bC (kd fr ρ))/\σ'.length=(bC (kd fr ρ)).length,⟨xs.length,by simp,Nat.zero_le _,G1,[],(Wd.refl w1.gh).own hD gD,gD,ao,Nat.le_refl _,by rw[List.take_zero];exact .nil,.nil,rep0,by rw[fn0,len0]⟩,?_⟩;rintro i m ys σ' H' ⟨rfl,hi,G',os,w',gD',hD',hy,hos,hr,re',ln'⟩;by_cases hlt:i<xs.length
  · have hx:xs[i]?=some xs[i]:=getElem?_eq_getElem hlt;refine .inr ⟨it.go i _ H' G' hx w'.gg w'.gh,λys' σ2 H2=>∃G2 os',Wd H1 G1 H2 G2/\G2 D=none/\H2 D=some (.lst ys')/\ys'.length<=i+1/\Paired F (xs.take (i+1)) os'/\aR K G2 ys' (os'.filterMap id)/\eF K G2 σ2 (bC (kd fr ρ))/\σ2.length=(bC (kd fr ρ)).length,by rintro ys' σ2 H2 ⟨G2,os',z⟩;exact ⟨xs.length - (i+1),by lia,rfl,hlt,G2,os',z⟩,λx H2 y=>?_⟩;obtain ⟨G2,w2,r2⟩:=it.zr i _ H' G' x H2 hx w'.gg w'.gh y;have e2:aX K H2 G2 H2 σ' (bC (kd fr ρ)):=aX.only ln' (re'.mono w2.gg) λj b e=>by
        obtain ⟨d',e1,_⟩:=mN e;exact ⟨d',e1⟩
    have re2:eF K G2 σ' (bC (kd fr ρ)):=e2.p;have w12:=w'.trans w2;have hD2:H2 D=some (.lst ys):=w2.hh _ _ hD';have gD2:G2 D=none:=by rw[w2.old D ⟨_,hD',λ_ z=>nomatch z⟩];exact gD'
    refine (?_:g.v K x σ' H2 _);refine tgv_mono (Du hn re2 ln' (Tg.ok w2.gh e2 r2 (hF _ (List.getElem_mem hlt)) (Q:=λσ3 H3=>H3=H2/\∃ρ3,aX K H2 G2 H2 σ3 ρ3/\tc ρ3 λc=>(c=true->te ρ3 λb=>F xs[i] (some b.val))/\(c=false->F xs[i] none)) λσ3 ρ3 e3 p3=>⟨rfl,ρ3,e3,p3⟩)) ?_;rintro σ3 H3 ⟨⟨rfl,ρ3,e3,p3⟩,_,re3,ln3⟩;refine ⟨G2,ρ3,_,w2.gh,e3.p,p3,λc H4 G4 p4 w4=>?_⟩;have hD4:H4 D=some (.lst ys):=w4.hh _ _ hD2;have gD4:G4 D=none:=by rw[w4.old D ⟨_,hD2,λ_ z=>nomatch z⟩];exact gD2
    cases c with
    | true =>
      refine pT ⟨G4,ρ3,_,w4.gh,eF.mono w4.gg e3.p,p4.1 rfl,λb v H5 G5 p5 w5 r5=>?_⟩;obtain ⟨G5',w5',r5'⟩:=r5.give w5;have hD5:H5 D=some (.lst ys):=w5.hh _ _ hD4;have gD5:G5' D=none:=by rw[w5'.old D ⟨_,hD4,λ_ z=>nomatch z⟩];exact gD4
      have w15:=(w12.trans w4).trans w5';refine ⟨hD5,by have:sizeLine=16777216:=sizeLine_eq;lia,G5',os++[some b.val],w15.own hD gD5,gD5,ao,by rw[length_append,List.length_singleton];lia,iy hos hx p5,?_,eF.mono (w4.trans w5').gg re3,ln3⟩;rw[List.filterMap_append];exact cu (aR.mono ((w2.trans w4).trans w5').gg hr) (.cons r5' .nil)
    | false =>
      refine r6 ⟨G4,os++[none],w12.trans w4,gD4,hD4,by lia,iy hos hx (p4.2 rfl),?_,eF.mono w4.gg re3,ln3⟩;rw[List.filterMap_append,show List.filterMap id [(none:Option DL.D)] = [] from rfl,append_nil];exact aR.mono (w2.trans w4).gg hr
  · have e : i = xs.length := by lia
    subst e;refine .inl ⟨it.stop _ H' G' rfl w'.gg w'.gh,?_⟩;rw[List.take_length] at hos;exact k _ _ H' G' (hP os hos) (w1.trans w') ⟨D,rfl,w1.hh.free hD,gD',ys,hD',hr⟩
where
 tgv_mono {K:Frag} {g:Tg} {v:V} {σ:St} {H:Hp} {Q Q':St->Hp->Prop} (h:g.v K v σ H Q) (i:∀σ' H',Q σ' H'->Q' σ' H'):g.v K v σ H Q':=by
  cases g with
  | n j=>exact i _ _ h
  | t is =>
   obtain ⟨a,xs,e,h1,h2,q⟩:=h;exact ⟨a,xs,e,h1,h2,names_mono q i⟩
 names_mono {Q Q':St->Hp->Prop}:∀{is:List Nat} {vs:List V} {σ:St} {H:Hp},kH is vs σ H Q->(∀σ' H',Q σ' H'->Q' σ' H')->kH is vs σ H Q'
  | [],_,_,_,⟨e,q⟩,i=>⟨e,i _ _ q⟩
  | _::is,_,_,_,⟨v,r,e,q⟩,i=>⟨v,r,e,names_mono (is:=is) q i⟩
section
variable {X:Cx} {tg iter elt:Expr} {ifs:List Expr} {scope:Scope} {pos:Pos} {ti:eB} {g:Tg} {tc:jo} {te:DT}
theorem gJ (N':List Str)(fr:List (Option Nat))(hc:X.calm=true)(hi:DI X tg iter ti)
  (hg:∀cl fp C s H,PG (vm X scope N' cl fp C s H) tg (g.v X.K)) (ht:∀cl fp C s H,BA (vm X scope N' cl fp C s H) ifs tc) (he:∀cl fp C s H,DE (vm X scope N' cl fp C s H) elt te)
  {sc0:Scope} {N0:List Str} (htg:autoParam (Ga fr g=true) aZb._auto_1) (hsc:autoParam (X.env.scope=sc0) aZa._auto_1) (hN:autoParam (X.N=N0) aZa._auto_1) (bp:autoParam (lj sc0 N0 scope N' fr=true) aZf._auto_1) (hs:autoParam (∀x,foldedSetIterable iter X.env x=pure x) aZc._auto_1) :
  DE X (.ListComp elt [⟨tg,iter,ifs,0⟩] scope pos) (nC ti fr g tc te):=
 DE.of (Ec (tc:=cT X.K tc) (te:=cE X.K te) N' fr hc hi.pi hg (λcl fp C s H=>(ht cl fp C s H).pf) (λcl fp C s H=>(he cl fp C s H).pe) hsc hN bp hs) (xg htg)
end
end DL
namespace DL
open PySem L2
structure jn where
 nx:aB->Prop
 rt:B->Prop
 bk:aB->Prop:=λ_=>False
 ct:aB->Prop:=λ_=>False
noncomputable abbrev fu:=jn->aB->Prop
structure rm (K:Frag)(H0 G0:Hp)(E:jn)(Dn:Ends):Prop where
 nx:∀σ H G ρ,Wd H0 G0 H G->aX K H0 G H σ ρ->E.nx ρ->Dn.nx σ H
 bk:∀σ H G ρ,Wd H0 G0 H G->aX K H0 G H σ ρ->E.bk ρ->Dn.bk σ H
 ct:∀σ H G ρ,Wd H0 G0 H G->aX K H0 G H σ ρ->E.ct ρ->Dn.ct σ H
 rt:∀b v H G,Wd H0 G0 H G->gc K H0 G H v b->E.rt b->Dn.rt v H
noncomputable def cS (K:Frag)(H0 G0:Hp)(t:fu):TS:=λDn σ H=>∃(E:jn) (G:Hp) (ρ:aB),rm K H0 G0 E Dn/\Wd H0 G0 H G/\aX K H0 G H σ ρ/\t E ρ
structure DS (X:Cx)(st:Stmt)(t:fu):Prop where
 ps:∀H0 G0,PS X st (cS X.K H0 G0 t)
structure sT (X:Cx)(st:List Stmt)(t:fu):Prop where
 C5:∀H0 G0,qp X st (cS X.K H0 G0 t)
section
variable {K:Frag} {H0 G0 G H H':Hp} {σ:St} {ρ:aB}
theorem aX.freeze (e:aX K H0 G H σ ρ)(w:Wd H0 G0 H G):∃G1,Wd H0 G0 H G1/\aq G G1/\aX K H0 G1 H σ (bu ρ):=by
 classical
 obtain ⟨o,e⟩:=e;have to:∀a,H0 a=none->G a=none->(if H0 a=none/\G a=none then H a else G a)=H a:=λa h1 h2=>if_pos ⟨h1,h2⟩;have sG:aq G (λa=>if H0 a=none/\G a=none then H a else G a):=λa o h=>by
  show (if _ then H a else G a)=_;rw[if_neg λq=>by rw[q.2] at h;cases h];exact h
 refine ⟨λa=>if H0 a=none/\G a=none then H a else G a,⟨w.hh,w.gg.trans sG,λa o h=>?_,λa h=>?_⟩,sG,?_⟩
 .have h':(if H0 a=none/\G a=none then H a else G a)=some o:=h;split at h'
  .exact h'
  .exact w.gh _ _ h'
 .show (if H0 a=none/\G a=none then H a else G a)=_;rw[if_neg λq=>h.there q.1];exact w.old a h
 .have own:∀a d,H0 a=none->bQ K G H a d->Rep K (λa=>if H0 a=none/\G a=none then H a else G a) (.ref a) d:=λa d h0 h=>h.rep sG λo z=>by
   show (if H0 a=none/\G a=none then H a else G a)=_;rw[to a h0 h.1];exact z
  refine aX.only (by rw[wQ];exact e.len) (λi d h=>?_) λi b h=>?_
  .obtain ⟨b,h1,h2⟩:=oz h;cases h2;cases b with
   | p d =>
    obtain ⟨v,h3,h4⟩:=e.p i d h1;exact ⟨v,h3,h4.mono sG⟩
   | o d =>
    obtain ⟨a,h3,h4,h4',h5⟩:=e.o i d h1;exact ⟨.ref a,h3,own a d h4 h5⟩
   | n t dss =>
    obtain ⟨a,h3,as,nd,pr,q⟩:=e.n i t dss h1;have rs:aR K (λa=>if H0 a=none/\G a=none then H a else G a) (as.map V.ref) dss:=by
     clear q h1 h nd;induction pr with
     | nil=>exact .nil
     | cons f _ ih=>exact .cons (own _ _ f.1 f.2.2) ih
    refine ⟨.ref a,h3,?_⟩;cases t with
    | true=>exact Rep.sS (sG _ _ q) rs
    | false =>
     refine Rep.CJ ?_ rs;show (if H0 a=none/\G a=none then H a else G a)=_;rw[to a q.1 q.2.2.1];exact q.2.2.2.2
  .obtain ⟨b',h1,h2⟩:=oz h;exact ⟨_,h2⟩
theorem pN.back {o:Addr->Nat}(e:pN K H0 G H o σ ρ)(hh:aq H H'):pN K H0 G H' o σ ρ:=
 ⟨e.len,e.p,λi d h=>by
  obtain ⟨a,h1,h2,h2',h3⟩:=e.o i d h;exact ⟨a,h1,h2,h2',h3.fS (aq.refl _) h3.1 λo q=>hh _ _ q⟩,λi t dss h=>by
  obtain ⟨a,h1,h2⟩:=e.n i t dss h;exact ⟨a,h1,h2.fS (aq.refl _) λx k1 k2 k3 k4=>⟨k3,k2,λo q=>hh _ _ q⟩⟩⟩
theorem aX.back (e:aX K H0 G H σ ρ)(hh:aq H H'):aX K H0 G H' σ ρ:=by
 obtain ⟨o,e⟩:=e;exact ⟨o,e.back hh⟩
theorem Wd.back {G1 G1':Hp}(w:Wd H0 G0 H G)(w1:Wd H G1 H' G1'):Wd H0 G0 H' G:=⟨w.hh.trans w1.hh,w.gg,w.gh.trans w1.hh,w.old⟩
end
section
variable {X:Cx} {st:Stmt} {rest:List Stmt} {t u:fu} {a b c e:Expr} {ta tb te:DT} {pos:Pos}
noncomputable def eL:fu:=λE ρ=>E.nx ρ
noncomputable def iN (t u:fu):fu:=λE ρ=>t { E with nx:=u E } ρ
theorem bf:sT X [] eL:=sT.mk λH0 G0=>qp.imp sE λDn σ H ⟨E,G,ρ,eo,w,en,h⟩=>eo.nx σ H G ρ w en h
theorem ag (h1:DS X st t)(h2:sT X rest u):sT X (st::rest) (iN t u):=sT.mk λH0 G0=>qp.imp (o6 (h1.ps H0 G0) (h2.C5 H0 G0)) λDn σ H ⟨E,G,ρ,eo,w,en,h⟩ =>
 ⟨{ E with nx:=u E },G,ρ,⟨λσ' H' G' ρ' w' en' h'=>⟨E,G',ρ',eo,w',en',h'⟩,eo.bk,eo.ct,eo.rt⟩,w,en,h⟩
theorem ai (h1:DS X st t):sT X [st] t:=sT.mk λH0 G0=>sF (h1.ps H0 G0)
noncomputable def EG:fu:=λ_ _=>False
theorem eP:DS X st EG:=DS.mk λH0 G0=>PS.imp Bc λDn σ H ⟨E,G,ρ,eo,w,en,h⟩=>h.elim
noncomputable def eJ (te:DT):fu:=λE ρ=>te (bu ρ) λ_=>E.nx ρ
theorem gK (he:DE X e te)(hs:autoParam (swapsWith e none pos.line X.env=pure false) aZa._auto_1):DS X (.Expr e pos) (eJ te):=DS.mk λH0 G0=>PS.imp (sC he.pe hs)<|by
 rintro Dn σ H ⟨E,G,ρ,eo,w,en,h⟩;obtain ⟨G1,w1,sg,e1⟩:=en.freeze w;exact ⟨G1,bu ρ,_,w1.gh,e1.p,h,λb v H' G' p' w' r'=>eo.nx σ H' G ρ (w.back w') (en.back w'.hh) p'⟩
noncomputable def iM (te:DT):fu:=λE ρ=>te (bu ρ) E.rt
theorem aN (he:DE X e te):DS X (.Return (some e) pos) (iM te):=DS.mk λH0 G0=>PS.imp (oZ he.pe)<|by
 rintro Dn σ H ⟨E,G,ρ,eo,w,en,h⟩;obtain ⟨G1,w1,sg,e1⟩:=en.freeze w;exact ⟨G1,bu ρ,_,w1.gh,e1.p,h,λb v H' G' p' w' r'=>eo.rt b v H' G' (w1.trans w') (r'.ahead w.hh) p'⟩
noncomputable def fK:fu:=λE _=>E.rt (.p .non)
noncomputable def dR (i:Nat):fu:=λE ρ=>match aT ρ i with
 | some (.o d)=>E.rt (.o d)
 | _=>False
set_option tactic.hygienic true in
theorem B8 (i:Nat){x:Str}{px:Pos}(hN:autoParam (X.N[i]?=some x) aZa._auto_1)(hv:autoParam (vj X.env.scope x) aZe._auto_1)(hd:autoParam ((x == ("__debug__" : Str))=false) aZb._auto_1)
  (hcd:autoParam ((x == ("__classdict__" : Str))=false) aZb._auto_1):DS X (.Return (some (.Name x px)) pos) (dR i):=DS.mk λH0 G0=>PS.imp (oZ (gz hN hv hd hcd))<|by
 rintro Dn σ H ⟨E,G,ρ,eo,w,en,h⟩;unfold dR at h;split at h
 .rename_i d e;obtain ⟨a,h1,h2,h3⟩:=en.o i d e;exact ⟨.ref a,h1,eo.rt (.o d) _ H G w ⟨a,rfl,h2,h3⟩ h⟩
 .exact h.elim
noncomputable def iI (tc:jo)(t u:fu):fu:=λE ρ=>tc (bu ρ) λc=>(c=true->t E ρ)/\(c=false->u E ρ)
theorem bU {x y:List Stmt}{tc:jo}(hc:tj X c tc)(ha:sT X x t)(hb:sT X y u):DS X (.If c x y pos) (iI tc t u):=DS.mk λH0 G0=>PS.imp (Bb hc.pt (ha.C5 H0 G0) (hb.C5 H0 G0))<|by
 rintro Dn σ H ⟨E,G,ρ,eo,w,en,h⟩;obtain ⟨G1,w1,sg,e1⟩:=en.freeze w;refine ⟨G1,bu ρ,_,w1.gh,e1.p,h,λc H' G' p' w'=>?_⟩;cases c with
 | true=>exact pT ⟨E,G,ρ,eo,w.back w',en.back w'.hh,p'.1 rfl⟩
 | false=>exact r6 ⟨E,G,ρ,eo,w.back w',en.back w'.hh,p'.2 rfl⟩
noncomputable def ic (i:Nat)(te:DT):fu:=λE ρ=>te ρ λb=>E.nx (dput ρ i b)
noncomputable def dS (i:Nat)(te:DT):fu:=λE ρ=>te (bu ρ) λb=>b.val.sc=true/\E.nx (dput ρ i (.p b.val))
noncomputable def fL (i:Nat)(te:DT):fu:=λE ρ=>te (bu ρ) λb=>E.nx (dput (bu ρ) i b)
theorem u7 {K:Frag}{H0 G0 H G H' G':Hp}{σ:St}{ρ:aB}{E:jn}{Dn:Ends}(i:Nat)(eo:rm K H0 G0 E Dn)(w:Wd H0 G0 H G)(en:aX K H0 G H σ ρ){b:B}{v:V}(p:E.nx (dput ρ i b))(w':Wd H G H' G')(r:gc K H G' H' v b):Dn.nx (σ.set i (some v)) H':=by
 cases b with
 | p d=>exact eo.nx _ H' G' _ (w.trans w') ((en.on w').yW i r) p
 | o d =>
  obtain ⟨a,rfl,hn,o⟩:=r;exact eo.nx _ H' G' _ (w.trans w') (en.Jl w' i (w.hh.free hn) hn o) p
 | n t ds =>
  cases t with
  | false =>
   obtain ⟨a,as,rfl,n,g,q,na,nd,pr⟩:=r;exact eo.nx _ H' G' _ (w.trans w') (en.Hw w' w.hh i n g q na nd pr) p
  | true =>
   obtain ⟨a,as,rfl,q,nd,pr⟩:=r;exact eo.nx _ H' G' _ (w.trans w') (en.Hx w' w.hh i q nd pr) p
theorem Ac {K:Frag}{H0 G0:Hp}{i:Nat}(Dn:Ends)(σ:St)(H:Hp):cS K H0 G0 (ic i te) Dn σ H->cE K te σ H λv H1=>Dn.nx (σ.set i (some v)) H1:=by
 rintro ⟨E,G,ρ,eo,w,en,h⟩;exact ⟨G,ρ,_,w.gh,en.p,h,λb v H' G' p' w' r'=>u7 i eo w en p' w' r'⟩
theorem yq {K:Frag}{H0 G0:Hp}{i:Nat}(Dn:Ends)(σ:St)(H:Hp):cS K H0 G0 (dS i te) Dn σ H->cE K te σ H λv H1=>Dn.nx (σ.set i (some v)) H1:=by
 rintro ⟨E,G,ρ,eo,w,en,h⟩;obtain ⟨G1,w1,sg,e1⟩:=en.freeze w;refine ⟨G1,bu ρ,_,w1.gh,e1.p,h,λb v H' G' p' w' r'=>?_⟩;obtain ⟨G2,w2,r2⟩:=r'.give w';exact eo.nx _ H' G _ (w.back w') ((en.back w'.hh).yW i (r2.sc p'.1)) p'.2
noncomputable def dU (i:Nat)(te:DT):fu:=λE ρ=>te ρ λb=>E.nx (dput ρ i (.p b.val))
noncomputable def du (i:Nat)(te:DT):fu:=λE ρ=>te (bu ρ) λb=>E.nx (dput (bu ρ) i (.p b.val))
theorem yr {K:Frag}{H0 G0:Hp}{i:Nat}(Dn:Ends)(σ:St)(H:Hp):cS K H0 G0 (dU i te) Dn σ H->cE K te σ H λv H1=>Dn.nx (σ.set i (some v)) H1:=by
 rintro ⟨E,G,ρ,eo,w,en,h⟩;refine ⟨G,ρ,_,w.gh,en.p,h,λb v H' G' p' w' r'=>?_⟩;obtain ⟨G2,w2,r2⟩:=r'.give w';exact u7 i eo w en (b:=.p b.val) p' w2 r2
section
variable {i:Nat} {x:Str} {px:Pos}
theorem g7 (hN:X.N.Nodup)(hi:X.N[i]?=some x)(hx:Loc X.env.scope x)(he:DE X e te)(hs:autoParam (swapsWith e (some (.Name x px)) pos.line X.env=pure false) aZa._auto_1)(hf:autoParam (X.fn x=true\/X.env.scope.names.lookup x=some .local) aZd._auto_1) :
  DS X (.Assign [.Name x px] e pos) (ic i te):=DS.mk λH0 G0=>PS.imp (sD hN hi hx he.pe hs hf) Ac
theorem ay (hN:X.N.Nodup)(hi:X.N[i]?=some x)(hx:Loc X.env.scope x)(he:DE X e te)(hs:autoParam (swapsWith e (some (.Name x px)) pos.line X.env=pure false) aZa._auto_1)(hf:autoParam (X.fn x=true\/X.env.scope.names.lookup x=some .local) aZd._auto_1) :
  DS X (.Assign [.Name x px] e pos) (dU i te):=DS.mk λH0 G0=>PS.imp (sD hN hi hx he.pe hs hf) yr
theorem B9 (hN:X.N.Nodup)(hi:X.N[i]?=some x)(hx:Loc X.env.scope x)(he:DE X e te)(hs:autoParam (swapsWith e (some (.Name x px)) pos.line X.env=pure false) aZa._auto_1)(hf:autoParam (X.fn x=true\/X.env.scope.names.lookup x=some .local) aZd._auto_1) :
  DS X (.Assign [.Name x px] e pos) (dS i te):=DS.mk λH0 G0=>PS.imp (sD hN hi hx he.pe hs hf) yq
variable {tg iter elt:Expr} {ifs:List Expr} {scope:Scope} {spos:Pos} {ti:eB} {g:Tg} {tc:jo}
noncomputable def hX (i:Nat)(te:DT)(f:Int->Int->Int):fu:=λE ρ=>match aT ρ i with
 | some (.p (.int m))=>te (bu ρ) λb=>match b.val with
  | .int n=>E.nx (dput ρ i (.p (.int (f m n))))
  | _=>False
 | _=>False
set_option tactic.hygienic true in
theorem mD {op:Operator}{f:Int->Int->Int}(hN:X.N.Nodup)(hi:X.N[i]?=some x)(hx:Loc X.env.scope x)(he:DE X e te)(ho:GB X op (Im f))(hf:autoParam (X.fn x=true\/X.env.scope.names.lookup x=some .local) aZd._auto_1) :
  DS X (.AugAssign (.Name x px) op e pos) (hX i te f):=DS.mk λH0 G0=>PS.imp (FH hN hi hx he.pe ho hf)<|by
 rintro Dn σ H ⟨E,G,ρ,eo,w,en,h⟩;unfold hX at h;split at h
 .rename_i m q;obtain ⟨G1,w1,sg,e1⟩:=en.freeze w;obtain ⟨v,h1,h2⟩:=en.p i _ q;cases h2;refine ⟨_,h1,G1,bu ρ,_,w1.gh,e1.p,h,λb v H' G' p' w' r'=>?_⟩;split at p'
  .rename_i n e;exact ⟨m,n,rfl,hR w' r' e,eo.nx _ H' G _ (w.back w') ((en.back w'.hh).yW i (.int _)) p'⟩
  .exact p'.elim
 .exact h.elim
end
noncomputable def iG (te:DT)(g:Tg):fu:=λE ρ=>te ρ λb=>g.d b.val ρ E.nx
theorem EN {tg:Expr}{g:Tg}(he:DE X e te)(hg:PG X tg (g.v X.K))(hs:autoParam (swapsWithSole [tg] e pos.line X.env=pure false) aZa._auto_1)(hw:autoParam (swappedStores [tg] e X.env=pure none) aZa._auto_1)
  (h1:autoParam ((assignEach [tg] X.env).map (·.2) = [assign tg X.env]) aZa._auto_1):DS X (.Assign [tg] e pos) (iG te g):=DS.mk λH0 G0=>PS.imp (sA he.pe hg hs hw h1)<|by
 rintro Dn σ H ⟨E,G,ρ,eo,w,en,h⟩;refine ⟨G,ρ,_,w.gh,en.p,h,λb v H' G' p' w' r'=>?_⟩;obtain ⟨G2,w2,r2⟩:=r'.give w';exact Tg.ok w2.gh (en.on w2) r2 p' λσ' ρ' e' q=>eo.nx σ' H' G2 ρ' (w.trans w2) e' q
theorem aX.HK {K:Frag}{H0 G H:Hp}{σ:St}{ρ:aB}{i:Nat}{a:Addr}{ds ds':List D}{vs:List V}(e:aX K H0 G H σ ρ)(h1:aT ρ i=some (.o (.lst ds)))(h2:σ[i]?=some (some (.ref a)))(r:aR K G vs ds'):aX K H0 G (upd H a (.lst vs)) σ (dput ρ i (.o (.lst ds'))):=by
 obtain ⟨o,e⟩:=e;have hlt:=wL h1;obtain ⟨a',h3,h4,h4',h5⟩:=e.o i _ h1;rw[h2] at h3;cases h3;refine ⟨o,by rw[dG];exact e.len,λj d q=>?_,λj d q=>?_,λj t dss q=>?_⟩
 .rcases aL q with ⟨rfl,_,q⟩ | ⟨hne,q⟩
  .cases q
  .exact e.p j d q
 .rcases aL q with ⟨rfl,_,q⟩ | ⟨hne,q⟩
  .cases q;exact ⟨a,h2,h4,h4',h5.1,vs,ao,r⟩
  .obtain ⟨b,k1,k2,k2',k3⟩:=e.o j d q;refine ⟨b,k1,k2,k2',k3.fS (aq.refl _) k3.1 λo z=>?_⟩;have:b≠a:=by
    rintro rfl;exact hne (h4'.symm.trans k2')
   rw[aj this];exact z
 .rcases aL q with ⟨rfl,_,q⟩ | ⟨hne,q⟩
  .cases q
  .obtain ⟨b,k1,k2⟩:=e.n j t dss q;refine ⟨b,k1,k2.fS (aq.refl _) λx z1 z2 z3 z4=>⟨z3,z2,λo z=>?_⟩⟩;have:x≠a:=by
    rintro rfl;exact hne (h4'.symm.trans z2)
   rw[aj this];exact z
noncomputable def hV (i:Nat)(te:DT):fu:=λE ρ=>match aT ρ i with
 | some (.o (.lst ds))=>te ρ λb=>ds.length<sizeLine/\E.nx (dput ρ i (.o (.lst (ds++[b.val]))))
 | _=>False
noncomputable def fH (i:Nat)(te:DT):fu:=λE ρ=>match aT ρ i with
 | some (.o (.lst ds))=>te (bu ρ) λb=>b.val.sc=true/\ds.length<sizeLine/\E.nx (dput ρ i (.o (.lst (ds++[b.val]))))
 | _=>False
theorem BK {K:Frag}{H0 G0 G H:Hp}{σ:St}{ρ:aB}{i:Nat}{a:Addr}{ds:List D}{vs:List V}{v:V}{d:D}{E:jn}{Dn:Ends}(eo:rm K H0 G0 E Dn)(w:Wd H0 G0 H G)(e:aX K H0 G H σ ρ)(h1:aT ρ i=some (.o (.lst ds)))(h2:σ[i]?=some (some (.ref a)))(h3:H a=some (.lst vs))(r:aR K G vs ds)(rv:Rep K G v d)(hz:ds.length<sizeLine)(p:E.nx (dput ρ i (.o (.lst (ds++[d]))))) :
  xE (.ref a) [v] H λ_ H3=>Dn.nx σ H3:=by
 obtain ⟨a',k1,k2,k3⟩:=e.o i _ h1;rw[h2] at k1;cases k1;exact ⟨a,vs,v,rfl,rfl,h3,by rw[Paired.length r];exact hz,eo.nx σ _ G _ (w.own k2 k3.1) (e.HK h1 h2 (cu r (.cons rv .nil))) p⟩
section
variable {i:Nat} {x:Str} {px apos cpos spos:Pos}
set_option tactic.hygienic true in
theorem mC (hN:X.N[i]?=some x)(hv:vj X.env.scope x)(he:DE X e te)(hd:autoParam ((x == ("__debug__" : Str))=false) aZb._auto_1)(hcd:autoParam ((x == ("__classdict__" : Str))=false) aZb._auto_1)
  (hbase:autoParam (attributeBase (.Name x px) "append" X.env (eval (.Name x px) X.env)=eval (.Name x px) X.env) aZa._auto_1)
  (hfew:autoParam (((backTo cpos (starEach (e::[]) X.env)).all (λx=>!x.1) && (backToKw cpos (keywordEach [] X.env)).all (λx=>x.1.isSome)
   && decide ((e::[]).length+([]:List Keyword).length+(if ([]:List Keyword).isEmpty then 0 else 1)<30))=true) aZa._auto_1)
  (hline:autoParam ((apos.endLine == cpos.line)=true) aZa._auto_1) (hs:autoParam (starEach (e::[]) X.env=(false,eval e X.env)::starEach [] X.env) aZa._auto_1) (hplain:autoParam ((backTo cpos (starEach [] X.env)).any (·.1)=false) aZa._auto_1)
  (hsw:autoParam (swapsWith (.Call (.Attribute (.Name x px) "append" apos) [e] [] cpos) none spos.line X.env=pure false) aZa._auto_1) :
  DS X (.Expr (.Call (.Attribute (.Name x px) "append" apos) [e] [] cpos) spos) (hV i te):=DS.mk λH0 G0 =>
 PS.imp (sC (AY PySem.F.plainAttrs_list PySem.F.slot_list_append PySem.F.type_list_append qS (gz hN hv hd hcd) (eT he.pe kO hs) hbase hfew hline hs hplain) hsw)<|by
  rintro Dn σ H ⟨E,G,ρ,eo,w,en,h⟩;unfold hV at h;split at h
  .rename_i ds q;obtain ⟨a,h1,h2,h3,vs,h4,h5⟩:=en.o i _ q;refine ⟨_,h1,.inl ⟨rfl,_,fV.of h4⟩,G,ρ,_,w.gh,en.p,h,λb v H' G' p' w' r'=>?_⟩;obtain ⟨G2,w2,r2⟩:=r'.give w';exact BK eo (w.trans w2) (en.on w2) q h1 (w2.hh _ _ h4) (aR.mono w2.gg h5) r2 p'.1 p'.2
  .exact h.elim
noncomputable def dw (i:Nat)(tk te:DT):fu:=λE ρ=>te ρ λb=>match aT ρ i with
 | some (.o (.lst ds))=>tk (bu ρ) λk=>match k.val with
  | .int z=>∃j,w6 ds.length z=some j/\E.nx (dput ρ i (.o (.lst (ds.set j b.val))))
  | _=>False
 | _=>False
noncomputable def bX (i:Nat)(tk te:DT):fu:=λE ρ=>te (bu ρ) λb=>b.val.sc=true/\match aT ρ i with
 | some (.o (.lst ds))=>tk (bu ρ) λk=>match k.val with
  | .int z=>∃j,w6 ds.length z=some j/\E.nx (dput ρ i (.o (.lst (ds.set j b.val))))
  | _=>False
 | _=>False
noncomputable def dr (i:Nat)(tk te:DT)(f:Int->Int->Int):fu:=λE ρ=>match aT ρ i with
 | some (.o (.lst ds))=>tk (bu ρ) λk=>match k.val with
  | .int z=>∃j m,w6 ds.length z=some j/\ds[j]?=some (.int m)/\te (bu ρ) λb=>match b.val with
   | .int n=>E.nx (dput ρ i (.o (.lst (ds.set j (.int (f m n))))))
   | _=>False
  | _=>False
 | _=>False
end
noncomputable def yu (g:Tg)(tb:fu)(E:jn)(xs:List D)(ρ:aB):Prop:=∃I:Nat->aB->Prop,I 0 ρ /\
 (∀i d ρ,xs[i]?=some d->I i ρ->g.d d ρ λρ'=>tb { E with nx:=I (i+1),ct:=I (i+1),bk:=E.nx } ρ')/\∀ρ,I xs.length ρ->E.nx ρ
noncomputable def iH (ti:eB)(g:Tg)(tb:fu):fu:=λE ρ=>ti ρ λxs=>yu g tb E xs ρ
noncomputable def fI (ti:eB)(g:Tg)(tb:fu):fu:=λE ρ=>ti (bu ρ) λxs=>yu g tb E xs (bu ρ)
theorem Wd.base {H0 G0 H9 G9 H G:Hp}(w9:Wd H0 G0 H9 G9)(w:Wd H0 G9 H G):Wd H0 G0 H G:=⟨w.hh,w9.gg.trans w.gg,w.gh,λa h=>by rw[w.old a h,w9.old a h]⟩
noncomputable def cX (K:Frag)(t:fu):TS:=λDn σ H=>∃H0 G0,cS K H0 G0 t Dn σ H
theorem sT.x {sts:List Stmt}(h:sT X sts t):qp X sts (cX X.K t):=λpins s σ H D I ⟨H0,G0,q⟩=>h.C5 H0 G0 pins s σ H D I q
theorem t8 {K:Frag}{H0 G0 G H:Hp}{σ:St}{ρ:aB}{g:Tg}{tb:fu}{J:It}{xs:List D}{E:jn}{Dn:Ends}(eo:rm K H0 G0 E Dn)(w:Wd H0 G0 H G)(en:aX K H0 G H σ ρ)(it:DB K G J xs)(h:yu g tb E xs ρ) :
    ∃W:Nat->Nat->St->Hp->Prop,(∃m,W 0 m σ H)/\∀i m σ H,W i m σ H ->
      (J.stop i H/\Dn.nx σ H)\/(J.go i H/\∃N:St->Hp->Prop,(∀σ' H',N σ' H'->∃m',m'<m/\W (i+1) m' σ' H')/\∀x H',J.zr i H x H'->g.v K x σ H' λσ2 H2=>cX K tb { Dn with nx:=N,ct:=N,bk:=Dn.nx } σ2 H2):=by
  obtain ⟨I,i0,is,ie⟩:=h;have w0:Wd H0 G H G:=⟨w.hh,aq.refl _,w.gh,λ_ _=>rfl⟩
  refine ⟨λi m σ H=>m=xs.length - i/\i<=xs.length/\∃G' ρ',Wd H0 G H G'/\aX K H0 G' H σ ρ'/\I i ρ',⟨xs.length,by simp,Nat.zero_le _,G,ρ,w0,en,i0⟩,?_⟩;rintro i m σ H ⟨rfl,hi,G',ρ',w',en',p⟩;by_cases hlt:i<xs.length
  · have hx:xs[i]?=some xs[i]:=getElem?_eq_getElem hlt;refine .inr ⟨it.go i _ H G' hx w'.gg w'.gh,λσ2 H2=>∃G2 ρ2,Wd H0 G H2 G2/\aX K H0 G2 H2 σ2 ρ2/\I (i+1) ρ2,by rintro σ2 H2 ⟨G2,ρ2,z⟩;exact ⟨xs.length - (i+1),by lia,rfl,hlt,G2,ρ2,z⟩,λx H2 y=>?_⟩;obtain ⟨G2,w2,r2⟩:=it.zr i _ H G' x H2 hx w'.gg w'.gh y;refine Tg.ok w2.gh (en'.on w2) r2 (is i _ ρ' hx p) λσ3 ρ3 e3 p3=>?_;exact ⟨H0,G,{ E with nx:=I (i+1),ct:=I (i+1),bk:=E.nx },G2,ρ3,⟨λσ4 H4 G4 ρ4 w4 e4 p4=>⟨G4,ρ4,w4,e4,p4⟩,λσ4 H4 G4 ρ4 w4 e4 p4=>eo.nx σ4 H4 G4 ρ4 (w.base w4) e4 p4,λσ4 H4 G4 ρ4 w4 e4 p4=>⟨G4,ρ4,w4,e4,p4⟩,λb v H4 G4 w4 r4 p4=>eo.rt b v H4 G4 (w.base w4) r4 p4⟩,w'.trans w2,e3,p3⟩
  · have e : i = xs.length := by lia
    subst e;exact .inl ⟨it.stop _ H G' rfl w'.gg w'.gh,eo.nx σ H G' ρ' (w.base w') en' (ie ρ' p)⟩
section
variable {tg iter:Expr} {body:List Stmt} {ti:eB} {g:Tg} {tb:fu}
theorem kD (hp:PassesOwn (model X.prog X.w) X.A X.env X.xe)(hc:X.calm=true)(hi:DI X tg iter ti)(hg:PG X tg (g.v X.K))(hb:sT X body tb)(hs:autoParam (∀x,foldedSetIterable iter X.env x=pure x) aZc._auto_1):DS X (.For tg iter body [] pos) (iH ti g tb):=DS.mk λH0 G0 =>
 PS.imp (Ba hp hc hi.pi hg hb.x hs) (by rintro Dn σ H ⟨E,G,ρ,eo,w,en,h⟩;exact ⟨G,ρ,_,w.gh,en.p,h,λxs J H' G' p' w' it=>t8 eo (w.trans w') (en.on w') it p'⟩)
noncomputable def JP (K:Frag)(t:eB):TI:=λσ H R=>∃(G:Hp) (ρ:aB) (P:List D->Prop),aq G H/\eF K G σ ρ/\t ρ P/\∀xs J H' G',P xs->Wd H G H' G'->(∀G,DB K G J xs)->R J H'
structure BB (X:Cx)(tg e:Expr)(t:eB):Prop where
 pi:PI X tg e (JP X.K t)
theorem BB.of {e:Expr}{t:TI}{t':eB}(h:PI X tg e t)(i:∀σ H Q,JP X.K t' σ H Q->t σ H Q):BB X tg e t':=⟨PI.imp h i⟩
theorem BB.di {e:Expr}{t:eB}(h:BB X tg e t):DI X tg e t:=DI.of h.pi λσ H R ⟨G,ρ,P,s,re,h,k⟩=>⟨G,ρ,P,s,re,h,λxs J H' G' p' w' it=>k xs J H' G' p' w' (it G')⟩
theorem gu {a:Expr}{t:eB}{p:Pos}(hg:Gl X "range")(hm:X.mg "range" = none)(ha:DA X [a] t)(hs:autoParam (starEach [a] X.env = [(false,eval a X.env)]) aZa._auto_1):BB X tg (.Call (.Name "range" p) [a] [] pos) (cm t):=
 BB.of (yS hg hm ha.pa hs)<|by
  rintro σ H R ⟨G,ρ,P,s,re,h,k⟩;refine ⟨G,ρ,_,s,re,h,λds vs H1 G1 p1 l1 w1 r1=>?_⟩;split at p1
  .obtain ⟨v,rfl,rv⟩:=gC r1;cases rv;exact ⟨_,rfl,p1.1.1,p1.1.2,k _ _ H1 G1 p1.2 w1 λ_=>wZ⟩
  .exact p1.elim
theorem oA {a b:Expr}{t:eB}{p:Pos}(hg:Gl X "range")(hm:X.mg "range" = none)(ha:DA X [a,b] t)(hs:autoParam (starEach [a,b] X.env = [(false,eval a X.env),(false,eval b X.env)]) aZa._auto_1)(hs2:autoParam (starEach [b] X.env = [(false,eval b X.env)]) aZa._auto_1) :
  BB X tg (.Call (.Name "range" p) [a,b] [] pos) (cn t):=
 BB.of (yT hg hm ha.pa hs hs2)<|by
  rintro σ H R ⟨G,ρ,P,s,re,h,k⟩;refine ⟨G,ρ,_,s,re,h,λds vs H1 G1 p1 l1 w1 r1=>?_⟩;obtain ⟨i,j,rfl,p1⟩:=D6 p1;obtain ⟨v,v',rfl,rv,rv'⟩:=Eh r1;rw[rv.int_inv,rv'.int_inv];exact ⟨_,_,rfl,p1.1,k _ _ H1 G1 p1.2 w1 λ_=>wZ⟩
noncomputable def eK (ti:eB)(g:Tg)(tb:fu):fu:=λE ρ=>ti (bu ρ) λxs=>yu g tb E xs ρ
theorem iO (hp:PassesOwn (model X.prog X.w) X.A X.env X.xe)(hc:X.calm=true)(hi:BB X tg iter ti)(hg:PG X tg (g.v X.K))(hb:sT X body tb)(hs:autoParam (∀x,foldedSetIterable iter X.env x=pure x) aZc._auto_1):DS X (.For tg iter body [] pos) (eK ti g tb):=DS.mk λH0 G0 =>
 PS.imp (Ba hp hc hi.pi hg hb.x hs)<|by
  rintro Dn σ H ⟨E,G,ρ,eo,w,en,h⟩;obtain ⟨G1,w1,sg,e1⟩:=en.freeze w;exact ⟨G1,bu ρ,_,w1.gh,e1.p,h,λxs J H' G' p' w' it=>t8 eo (w.back w') (en.back w'.hh) (it G) p'⟩
noncomputable def forR (g:Tg)(tb:fu)(E:jn):List D->aB->Prop
 | [],ρ=>E.nx ρ
 | d::ds,ρ=>g.d d ρ λρ'=>tb { E with nx:=forR g tb E ds,ct:=forR g tb E ds,bk:=E.nx } ρ'
theorem Cc {E:jn}{xs:List D}{ρ:aB}(h:forR g tb E xs ρ):yu g tb E xs ρ:=by
 refine ⟨λi ρ=>forR g tb E (xs.drop i) ρ,by simpa using h,λi d ρ hx p=>?_,λρ p=>by have p':forR g tb E (xs.drop xs.length) ρ:=p;rw[List.drop_length] at p';exact p'⟩;have hi:i<xs.length:=(List.getElem?_eq_some_iff.mp hx).1;have e:xs.drop i=d::xs.drop (i+1):=by
  rw[drop_eq_getElem_cons hi];congr 1;rw[getElem?_eq_getElem hi] at hx;exact Option.some.inj hx
 have p':forR g tb E (xs.drop i) ρ:=p;rw[e] at p';exact p'
noncomputable def zT (tc:jo)(tb:fu):fu:=λE ρ=>∃(I:aB->Prop) (μ:aB->Nat),I ρ/\∀ρ,I ρ->tc (bu ρ) λc=>(c=true->tb { E with nx:=λρ'=>I ρ'/\μ ρ'<μ ρ,ct:=λρ'=>I ρ'/\μ ρ'<μ ρ,bk:=E.nx } ρ)/\(c=false->E.nx ρ)
theorem Ab {tc:jo}(hp:PassesOwn (model X.prog X.w) X.A X.env X.xe)(hc:tj X c tc)(hb:sT X body tb):DS X (.While c body [] pos) (zT tc tb):=DS.mk λH0 G0 =>
 PS.imp (Bd hp hc.pt (hb.C5 H0 G0))<|by
  rintro Dn σ H ⟨E,G,ρ,eo,w,en,I,μ,i0,h⟩;refine ⟨λm σ H=>∃G ρ,m=μ ρ/\Wd H0 G0 H G/\aX X.K H0 G H σ ρ/\I ρ,⟨_,G,ρ,rfl,w,en,i0⟩,?_⟩;rintro m σ H ⟨G,ρ,rfl,w,en,i0⟩;obtain ⟨G1,w1,sg,e1⟩:=en.freeze w;refine ⟨G1,bu ρ,_,w1.gh,e1.p,h ρ i0,λc H' G' p' w'=>?_⟩;cases c with
  | true =>
   refine pT ⟨λσ' H'=>∃G' ρ',Wd H0 G0 H' G'/\aX X.K H0 G' H' σ' ρ'/\I ρ'/\μ ρ'<μ ρ,by rintro σ' H' ⟨G',ρ',w',e',i',l⟩;exact ⟨_,l,G',ρ',rfl,w',e',i'⟩,_,G,ρ,?_,w.back w',en.back w'.hh,p'.1 rfl⟩;exact ⟨λσ4 H4 G4 ρ4 w4 e4 p4=>⟨G4,ρ4,w4,e4,p4⟩,λσ4 H4 G4 ρ4 w4 e4 p4=>eo.nx σ4 H4 G4 ρ4 w4 e4 p4,λσ4 H4 G4 ρ4 w4 e4 p4=>⟨G4,ρ4,w4,e4,p4⟩,eo.rt⟩
  | false=>exact r6 (eo.nx σ H' G ρ (w.back w') (en.back w'.hh) (p'.2 rfl))
end
end
noncomputable def ba:Nat->List D->aB
 | 0,ds=>ds.map λd=>some (.p d)
 | n+1,[]=>none::ba n []
 | n+1,d::ds=>some (.p d)::ba n ds
theorem fZ {K:Frag}{G:Hp}:∀(n:Nat) {vs:List V} {ds:List D},aR K G vs ds->eF K G (vs.map some++List.replicate (n - vs.length) none) (ba n ds)/\(vs.map some++List.replicate (n - vs.length) (none:Option V)).length=(ba n ds).length/\∀i d,aT (ba n ds) i≠some (.o d)
 | 0,_,_,.nil=>⟨λi d h=>(nomatch (show (none:Option B)=some (.p d) from h)),rfl,λi d h=>(nomatch (show (none:Option B)=some (.o d) from h))⟩
 | 0,_,_,.cons (a:=v) (b:=d) (l₁:=vs) (l₂:=ds) r rr=>by
  obtain ⟨h1,h2,h3⟩:=fZ (K:=K) (G:=G) 0 rr;have e0:ba 0 (d::ds)=some (.p d)::ba 0 ds:=rfl;have e1:(v::vs).map some++List.replicate (0 - (v::vs).length) (none:Option V)=some v::(vs.map some++List.replicate (0 - vs.length) none):=by simp
  rw[e0,e1];refine ⟨λi d' h=>?_,by rw[length_cons,length_cons,h2],λi d' h=>?_⟩
  .cases i with
   | zero=>cases h;exact ⟨v,rfl,r⟩
   | succ i=>exact h1 i d' h
  .cases i with
   | zero=>cases h
   | succ i=>exact h3 i d' h
 | n+1,_,_,.nil=>by
  obtain ⟨h1,h2,h3⟩:=fZ (K:=K) (G:=G) n (vs:=[]) (ds:=[]) .nil;have e1:([]:List V).map some++List.replicate (n+1 - ([]:List V).length) (none:Option V)=none::(([]:List V).map some++List.replicate (n - ([]:List V).length) none):=by simp[List.replicate_succ]
  rw[e1];refine ⟨λi d' h=>?_,by show _=(none::ba n []).length;rw[length_cons,length_cons,h2],λi d' h=>?_⟩
  .cases i with
   | zero=>cases h
   | succ i=>exact h1 i d' h
  .cases i with
   | zero=>cases h
   | succ i=>exact h3 i d' h
 | n+1,_,_,.cons (a:=v) (b:=d) (l₁:=vs) (l₂:=ds) r rr=>by
  obtain ⟨h1,h2,h3⟩:=fZ (K:=K) (G:=G) n rr;have e1:(v::vs).map some++List.replicate (n+1 - (v::vs).length) (none:Option V)=some v::(vs.map some++List.replicate (n - vs.length) none):=by simp
  rw[e1];refine ⟨λi d' h=>?_,by show _=(some (B.p d)::ba n ds).length;rw[length_cons,length_cons,h2],λi d' h=>?_⟩
  .cases i with
   | zero=>cases h;exact ⟨v,rfl,r⟩
   | succ i=>exact h1 i d' h
  .cases i with
   | zero=>cases h
   | succ i=>exact h3 i d' h
theorem iB:∀(n:Nat) (ds:List D) (i:Nat) (b:B),aT (ba n ds) i=some b->∃d,b=.p d
 | 0,[],_,_,h=>by cases h
 | 0,d::ds,0,_,h=>by cases h;exact ⟨_,rfl⟩
 | 0,d::ds,i+1,b,h=>iB 0 ds i b h
 | n+1,[],0,_,h=>by cases h
 | n+1,[],i+1,b,h=>iB n [] i b h
 | n+1,d::ds,0,_,h=>by cases h;exact ⟨_,rfl⟩
 | n+1,d::ds,i+1,b,h=>iB n ds i b h
section
variable {P:Program} {w:World} {K:Frag} {mg:Str->Option Value} {base:Heap}
theorem mK {x qual:Str}{st:Stmt}{f:Addr}{fd:FuncData}{N ps:List Str}{k:Nat}{R:DR}(F:je K x qual st f fd)(S:aC N ps (af st))(len:∀ds Q,R ds Q->ds.length=ps.length)
  (hbody:∀(cdv:Value) (A:Around) (outer:List Env) (s:Shared) (H:Hp) (E:XK),cY k (A.deeper (PyProof.Rows.envOfC qual (af st) s.heap.objs.size f cdv)) ->
   ∃t,sT (rG fU P w K mg base N qual (af st) f cdv A outer s H E).Eb (av st) t/\∀ds Q,R ds Q->t { nx:=λ_=>Q (.p .non),rt:=Q } (ba N.length ds)):bx P w K mg base fU (k+1) f fd ps (bN K R):=by
 refine F.ok S (by rintro vs H Q E ⟨ds,G,P,s,r,h,_⟩;rw[Paired.length r];exact len ds P h) ?_;rintro cdv A outer s H vs Q E hr ⟨ds,G,P,sg,r,h,k⟩;obtain ⟨t,h1,h2⟩:=hbody cdv A outer s H E hr;obtain ⟨e1,e2,e3⟩:=fZ (K:=K) N.length r;refine ⟨_,h1.C5 H G,_,G,_,?_,Wd.refl sg,aX.only e2 e1 (iB _ _),h2 ds P h⟩;exact ⟨λσ H' G' ρ w' _ p=>k _ _ H' G' p w' (show Rep K G' V.non D.non from .non),λσ H' G' ρ w' _ p=>p.elim,λσ H' G' ρ w' _ p=>p.elim,λb v H' G' w' r' p=>k b v H' G' p w' r'⟩
end
end DL
namespace DL
open PySem L2
section
variable {X:Cx} {tg e:Expr} {te:DT} {pos:Pos} {es:List Expr}
theorem m9 {x:Str}{i:Int}(hg:Gl X x)(h:∃t,X.mg x=some (.int i t))(hd:autoParam ((x == ("__debug__" : Str))=false) aZb._auto_1):DE X (.Name x pos) (dC (.int i)):=yn (Hs hg h hd) λ_=>.int i
theorem GK {x y:Str}(hg:Gl X x)(h:∃t,X.mg x=some (.str y t))(hd:autoParam ((x == ("__debug__" : Str))=false) aZb._auto_1):DE X (.Name x pos) (dC (.str y)):=yn (Ht hg h hd) λ_=>.str y
noncomputable def DX:DR:=λds P=>match ds with
 | [.lst xs]=>∃ns:List Int,xs=ns.map D.int/\ns≠[]/\∀m,m∈ns->(∀n∈ns,n<=m)->P (.p (.int m))
 | _=>False
theorem rD (hc:X.calm=true):CallD X (.builtin "max") DX:=by
 refine ⟨_,ye hc,λH G vs ds P Q s r h k=>?_⟩;unfold DX at h;split at h
 .obtain ⟨ns,rfl,hn,h⟩:=h;obtain ⟨v,rfl,rv⟩:=gC r;obtain ⟨a,us,rfl,e,rr⟩:=rv.lst_inv;rw[d7 rr] at e;exact ⟨a,ns,rfl,fV.of (s _ _ e),hn,λm h1 h2=>k _ _ H G (h m h1 h2) (Wd.refl s) (.int _)⟩
 .exact h.elim
theorem Ha {K:Frag}{G:Hp}{Src:Hp->List (List V)->Prop}{rows:List (List V)}{xs:List D}(hs:∀H,aq G H->Src H rows)(r:Paired (λrow d=>∃ds,d=D.tup ds/\aR K G row ds) rows xs):DB K G (Ih Src) xs where
 go:=λi d H G' e s1 s2=>by
  obtain ⟨row,h1,h2⟩:=bt r e;exact ⟨rows,row,hs H (s1.trans s2),h1⟩
 zr:=λi d H G' x H' e s1 s2 y=>by
  obtain ⟨row,h1,ds,rfl,h2⟩:=bt r e;obtain ⟨row',p,h3,h4,rfl,rfl⟩:=y rows (hs H (s1.trans s2));rw[h1] at h3;cases h3;exact ⟨_,(Wd.refl s2).new h4,Rep.sS ao (aR.mono (fB (s2.free h4)) (aR.mono s1 h2))⟩
 stop:=λi H G' hi s1 s2=>⟨rows,hs H (s1.trans s2),by rw[Paired.length r,hi]⟩
noncomputable def bI:Nat->List D->List D
 | _,[]=>[]
 | k,x::xs=>.tup [.int (k:Nat),x]::bI (k+1) xs
theorem eR:∀(k:Nat) (xs:List D),(bI k xs).length=xs.length
 | _,[]=>rfl
 | k,x::xs=>by show (bI (k+1) xs).length+1=_;rw[eR];rfl
theorem eQ:∀{k:Nat} {xs:List D} {i:Nat} {d:D},(bI k xs)[i]?=some d->∃x,xs[i]?=some x/\d=.tup [.int ((k+i:Nat):Int),x]
 | _,[],_,_,h=>by simp[bI] at h
 | k,x::xs,0,d,h=>⟨x,rfl,by simpa [bI] using h.symm⟩
 | k,x::xs,i+1,d,h=>by
  have h':(bI (k+1) xs)[i]?=some d:=by simpa [bI] using h
  obtain ⟨y,h1,h2⟩:=eQ h';exact ⟨y,by simpa using h1,by rw[h2];congr 3;lia⟩
noncomputable def aw (t:eB):eB:=λρ P=>t ρ λds=>match ds with
 | [.lst xs]=>P (bI 0 xs)
 | _=>False
theorem za {K:Frag}{G:Hp}{vs:List V}{ds:List D}(r:aR K G vs ds):Paired (λrow d=>∃ds,d=D.tup ds/\aR K G row ds) (ij vs) (bI 0 ds):=by
 refine ix (by rw[lD,eR,Paired.length r]) λi row d h1 h2=>?_;obtain ⟨x,h3,rfl⟩:=eQ h2;obtain ⟨v,h4,h5⟩:=bt r h3;rw[lC h4] at h1;cases h1;exact ⟨_,rfl,.cons (by rw[Nat.zero_add];exact .int _) (.cons h5 .nil)⟩
theorem lz {elts:List Expr}{kx:Nat}{tpos:Pos}{l:Expr}{t:eB}{p:Pos}(hg:Gl X "enumerate")(hm:X.mg "enumerate" = none)(ha:DA X [l] t)(hs:autoParam (starEach [l] X.env = [(false,eval l X.env)]) aZa._auto_1):DI X (.Tuple elts kx tpos) (.Call (.Name "enumerate" p) [l] [] pos) (aw t):=
 DI.of (C0 hg hm ha.pa hs)<|by
  rintro σ H R ⟨G,ρ,P,s,re,h,k⟩;refine ⟨G,ρ,_,s,re,h,λds vs H1 G1 p1 l1 w1 r1=>?_⟩;split at p1
  .obtain ⟨v,rfl,rv⟩:=gC r1;obtain ⟨a,us,rfl,e,rr⟩:=rv.lst_inv;exact ⟨a,us,rfl,w1.gh _ _ e,k _ _ H1 G1 p1 w1 (Ha (λH s=>⟨us,s _ _ e,rfl⟩) (za rr))⟩
  .exact p1.elim
noncomputable def JH (xs ys:List D):List D:=(xs.zip ys).map λp=>.tup [p.1,p.2]
noncomputable def bK (t:eB):eB:=λρ P=>t ρ λds=>match ds with
 | [.lst xs,.lst ys]=>P (JH xs ys)
 | _=>False
noncomputable def aD (t:eB):eB:=λρ P=>t ρ λds=>match ds with
 | [.lst xs]=>P xs.reverse
 | _=>False
noncomputable def EM (a:Int)(n:Nat):List D:=(List.range n).map λi=>D.int (a+(i:Nat)*(-1))
noncomputable def bY (t:eB):eB:=λρ P=>t ρ λds=>match ds with
 | [.int j]=>(0<=j/\j<2 ^ 62)/\P (EM (j - 1) j.toNat)
 | _=>False
end
end DL
namespace DL
open PySem L2
noncomputable def HL (K:Frag):Sp:=λvs H Q _=>∃(a:Addr) (ns:List Int),vs = [.ref a]/\fV K H a (ns.map V.int)/\ns.length<=63/\∀H',Q (.bl true) H'
noncomputable def Bm:DR:=λds P=>∃ns:List Int,ds = [.scr ns]/\ns.length<=63/\P (.p (.bl true))
theorem mP {P P':aB->Prop}(i:∀ρ,P ρ->P' ρ):∀{is:List Nat} {ds:List D} {ρ:aB},putN is ds ρ P->putN is ds ρ P'
 | [],[],ρ,h=>i ρ h
 | _::is,_::ds,_,h=>mP i (is:=is) (ds:=ds) h
 | [],_::_,_,h=>h.elim
 | _::_,[],_,h=>h.elim
theorem Bw {g:Tg}{d:D}{ρ:aB}{P P':aB->Prop}(h:g.d d ρ P)(i:∀ρ,P ρ->P' ρ):g.d d ρ P':=by
 cases g with
 | n j=>exact i _ h
 | t is =>
  cases d with
  | tup ds=>exact mP i h
  | non=>exact h
  | bl _=>exact h
  | int _=>exact h
  | str _=>exact h
  | lst ds=>exact mP i h
  | scr _=>exact h
  | dct _=>exact h
  | sen _=>exact h
theorem oU {α β:Type}{f:α->β}:∀{xs:List α} {os:List β},Paired (λx o=>o=f x) xs os->os=xs.map f
 | _,_,.nil=>rfl
 | _,_,.cons h t=>by rw[h,oU t];rfl
theorem lG {α β:Type}(f:α->Option β):∀xs:List α,(xs.map f).filterMap id=xs.filterMap f
 | []=>rfl
 | x::xs=>by
  rw[map_cons,filterMap_cons,filterMap_cons,lG f xs];rfl
theorem filterMap_some {α β:Type}(f:α->β):∀xs:List α,xs.filterMap (λx=>some (f x))=xs.map f
 | []=>rfl
 | x::xs=>by rw[filterMap_cons,filterMap_some f xs];rfl
theorem oN {xs:List D}{g:Tg}{tc:jo}{te:DT}{ρ:aB}{Q:B->Prop}(f:D->Option D)(hz:xs.length<=1000000)(h:∀x∈xs,g.d x ρ λρ'=>tc ρ' λc=>(c=true->te ρ' λb=>some b.val=f x)/\(c=false->none=f x))(q:Q (.o (.lst (xs.filterMap f)))) :
  D9 xs g tc te ρ Q:=by
 refine ⟨by have:sizeLine=16777216:=sizeLine_eq;lia,λx o=>o=f x,h,λos ho=>?_⟩;rw[oU ho,lG];exact q
theorem kK {xs:List D}{g:Tg}{te:DT}{ρ:aB}{Q:B->Prop}(f:D->D)(hz:xs.length<=1000000)(h:∀x∈xs,g.d x ρ λρ'=>te ρ' λb=>some b.val=some (f x))(q:Q (.o (.lst (xs.map f)))) :
  D9 xs g bj te ρ Q:=
 oN (λx=>some (f x)) hz (λx hx=>Bw (h x hx) λρ' z=>⟨λ_=>z,λe=>nomatch e⟩) (by rw[filterMap_some];exact q)
theorem dc {g:Tg}{tb:fu}{E:jn}{xs:List D}{ρ:aB}(I:Nat->aB->Prop)(h0:I 0 ρ)(hs:∀i x ρ,xs[i]?=some x->I i ρ->g.d x ρ λρ'=>tb { E with nx:=I (i+1),ct:=I (i+1),bk:=E.nx } ρ')(hd:∀ρ,I xs.length ρ->E.nx ρ):yu g tb E xs ρ:=⟨I,h0,hs,hd⟩
theorem g9 {α β:Type}(p:α->Prop)[DecidablePred p](f:α->β):∀xs:List α,xs.filterMap (λx=>if p x then some (f x) else none)=(xs.filter λx=>decide (p x)).map f
 | []=>rfl
 | x::xs=>by
  rw[filterMap_cons,filter_cons,g9 p f xs];by_cases h:p x
  .rw[if_pos h,if_pos (decide_eq_true h)];rfl
  .rw[if_neg h,if_neg (by simpa using h)]
theorem oD (n:Nat)(f:Nat->D):bI 0 ((List.range n).map f)=(List.range n).map λi=>D.tup [.int (i:Nat),f i]:=by
  refine List.ext_getElem? λi=>?_;have hl:(bI 0 ((List.range n).map f)).length=n:=by rw[eR];simp
  by_cases h:i<n
  · have e := getElem?_eq_getElem (show i < (bI 0 ((List.range n).map f)).length by lia);obtain ⟨y,h1,h2⟩:=eQ e;rw[getElem?_map,List.getElem?_range h] at h1;cases h1;rw[e,h2,getElem?_map,List.getElem?_range h,Nat.zero_add];rfl
  · rw[List.getElem?_eq_none (by lia),List.getElem?_eq_none (by simpa using h)]
theorem wG {ns:List Int}{P:B->Prop}(h:P (.p (.int ns.sum))):EH [.lst (ns.map D.int)] P:=⟨ns,rfl,h⟩
theorem kM {lo:Int}{n:Nat}{x:D}(h:x∈dQ lo n):∃i:Nat,i<n/\x=.int (lo+(i:Nat)):=by
 unfold dQ at h;obtain ⟨i,hi,e⟩:=mem_map.mp h;exact ⟨i,mem_range.mp hi,e.symm⟩
end DL
namespace DL
open PySem L2
theorem tJ {α:Type}(l:List α)(k:Nat):iF l (some ((k:Nat):Int)) none=l.drop k:=by
 unfold iF;rw[HT.Bp,HT.Dh];by_cases h:k<=l.length
 .rw[Nat.min_eq_left h];exact take_of_length_le (by rw[length_drop];exact Nat.le_refl _)
 .rw[Nat.min_eq_right (by lia),List.drop_eq_nil_of_le (Nat.le_refl _),List.drop_eq_nil_of_le (by lia),List.take_nil]
theorem nR {α:Type}{xs:List α}{e:α->D}{g:Tg}{te:DT}{ρ:aB}{Q:B->Prop}(F:D->D)(f:α->D)(hF:∀x∈xs,F (e x)=f x)(hz:xs.length<=1000000)(h:∀x∈xs,g.d (e x) ρ λρ'=>te ρ' λb=>some b.val=some (f x))(q:Q (.o (.lst (xs.map f)))) :
  D9 (xs.map e) g bj te ρ Q:=by
 refine kK F (by rw[length_map];exact hz) (λd hd=>?_) ?_
 .obtain ⟨x,hx,rfl⟩:=mem_map.mp hd;rw[hF x hx];exact h x hx
 .rw[map_map,show xs.map (F∘e)=xs.map f from map_congr_left hF];exact q
theorem wx (xs:List D)(i:Int)(Q:B->Prop):ow (.lst xs) (.int i) Q = ∃d,gF xs i=some d/\Q (.p d):=rfl
theorem wA (xs:List D)(i:Int)(Q:B->Prop):ow (.tup xs) (.int i) Q = ∃d,gF xs i=some d/\Q (.p d):=rfl
theorem wy (ns:List Int)(i:Int)(Q:B->Prop):ow (.scr ns) (.int i) Q = ∃n,gF ns i=some n/\Q (.p (.int n)):=rfl
theorem tK (i j:Int)(Q:B->Prop):gm (.int i) (.int j) Q=Q (.p (.int (i+j))):=rfl
theorem tL (xs ys:List D)(Q:B->Prop):gm (.lst xs) (.lst ys) Q=(xs.length+ys.length<=sizeLine/\Q (.o (.lst (xs++ys)))):=rfl
theorem tM (x y:Str)(Q:B->Prop):gm (.str x) (.str y) Q=(x.length+y.length<=sizeLine/\Q (.p (.str (x++y)))):=rfl
theorem tN (xs ys:List D)(Q:B->Prop):gm (.tup xs) (.tup ys) Q=(xs≠[]/\ys≠[]/\xs.length+ys.length<=sizeLine/\Q (.p (.tup (xs++ys)))):=rfl
theorem tZ (i j:Int)(Q:B->Prop):iL (.int i) (.int j) Q=(sZ i j/\Q (.p (.int (i*j)))):=rfl
theorem tO (i j:Int)(Q:B->Prop):gG (.int i) (.int j) Q=Q (.p (.bl (decide (i=j)))):=rfl
theorem tQ (i j:Str)(Q:B->Prop):gG (.str i) (.str j) Q=Q (.p (.bl (decide (i=j)))):=rfl
theorem wq (i j:Bool)(Q:B->Prop):gG (.bl i) (.bl j) Q=Q (.p (.bl (decide (i=j)))):=rfl
theorem t4 (i j:Int)(Q:B->Prop):hZ (.int i) (.int j) Q=Q (.p (.bl (!decide (i=j)))):=rfl
theorem t5 (i j:Str)(Q:B->Prop):hZ (.str i) (.str j) Q=Q (.p (.bl (!decide (i=j)))):=rfl
theorem wB (i j:Bool)(Q:B->Prop):hZ (.bl i) (.bl j) Q=Q (.p (.bl (!decide (i=j)))):=rfl
theorem tU (xs:List D)(P:B->Prop):gY [.lst xs] P=P (.p (.int xs.length)):=rfl
theorem tX (xs:List D)(P:B->Prop):gY [.tup xs] P=P (.p (.int xs.length)):=rfl
theorem tV (xs:List Int)(P:B->Prop):gY [.scr xs] P=P (.p (.int xs.length)):=rfl
noncomputable def IZ (d:D)(P:List D->Prop):Prop:=match d with
 | .lst xs=>P xs
 | .scr ns=>P (ns.map D.int)
 | _=>False
theorem qG (te:DT)(ρ:aB)(P:List D->Prop):cM te ρ P=te ρ λb=>IZ b.val P:=rfl
theorem wX (xs:List D)(P:List D->Prop):IZ (.lst xs) P=P xs:=rfl
theorem wY (xs:List Int)(P:List D->Prop):IZ (.scr xs) P=P (xs.map D.int):=rfl
noncomputable def Iu (d:D)(lo hi:Option Int)(Q:B->Prop):Prop:=match d with
 | .lst xs=>Q (.o (.lst (iF xs lo hi)))
 | .scr ns=>Q (.o (.lst ((iF ns lo hi).map D.int)))
 | .tup xs=>¬(HT.d8 xs.length 0 lo=0/\HT.d8 xs.length xs.length hi=xs.length)/\Q (.p (.tup (iF xs lo hi)))
 | _=>False
theorem zR (te:DT)(tl th:zw)(ρ:aB)(Q:B->Prop):sV te tl th ρ Q=te ρ λb=>tl ρ λlo=>th ρ λhi=>Iu b.val lo hi Q:=rfl
theorem xI (xs:List D)(lo hi:Option Int)(Q:B->Prop):Iu (.lst xs) lo hi Q=Q (.o (.lst (iF xs lo hi))):=rfl
theorem xJ (xs:List Int)(lo hi:Option Int)(Q:B->Prop):Iu (.scr xs) lo hi Q=Q (.o (.lst ((iF xs lo hi).map D.int))):=rfl
theorem xK (xs:List D)(lo hi:Option Int)(Q:B->Prop):Iu (.tup xs) lo hi Q=(¬(HT.d8 xs.length 0 lo=0/\HT.d8 xs.length xs.length hi=xs.length)/\Q (.p (.tup (iF xs lo hi)))):=rfl
noncomputable def FT (d:D)(lo hi st:Option Int)(Q:B->Prop):Prop:=match d with
 | .lst xs=>Q (.o (.lst (dH xs lo hi st)))
 | .scr ns=>Q (.o (.lst ((dH ns lo hi st).map D.int)))
 | _=>False
theorem wD (te:DT)(tl th ts:zw)(ρ:aB)(Q:B->Prop):ji te tl th ts ρ Q=te ρ λb=>tl ρ λlo=>th ρ λhi=>ts ρ λst=>st≠some 0/\FT b.val lo hi st Q:=rfl
theorem vb (xs:List D)(lo hi st:Option Int)(Q:B->Prop):FT (.lst xs) lo hi st Q=Q (.o (.lst (dH xs lo hi st))):=rfl
theorem vd (xs:List Int)(lo hi st:Option Int)(Q:B->Prop):FT (.scr xs) lo hi st Q=Q (.o (.lst ((dH xs lo hi st).map D.int))):=rfl
theorem qz (xs:List D)(P:B->Prop):eI [.lst xs] P=P (.o (.lst xs)):=rfl
theorem qB (xs:List D)(P:B->Prop):eI [.tup xs] P=P (.o (.lst xs)):=rfl
theorem qA (xs:List Int)(P:B->Prop):eI [.scr xs] P=P (.o (.lst (xs.map D.int))):=rfl
theorem As {α:Type}(a:α)(l:List α):gF (a::l) (0:Int)=some a:=by unfold gF w6;simp
theorem EX {α:Type}(a b:α)(l:List α):gF (a::b::l) (1:Int)=some b:=by
 have:gF (a::b::l) (((1:Nat)):Int)=some b:=iE rfl;exact this
theorem Ja {α:Type}(a b c:α)(l:List α):gF (a::b::c::l) (2:Int)=some c:=by
 have:gF (a::b::c::l) (((2:Nat)):Int)=some c:=iE rfl;exact this
theorem Jb {α:Type}(a b c d:α)(l:List α):gF (a::b::c::d::l) (3:Int)=some d:=by
 have:gF (a::b::c::d::l) (((3:Nat)):Int)=some d:=iE rfl;exact this
theorem Jc {α:Type}(a b c d e:α)(l:List α):gF (a::b::c::d::e::l) (4:Int)=some e:=by
 have:gF (a::b::c::d::e::l) (((4:Nat)):Int)=some e:=iE rfl;exact this
theorem GP {α:Type}(a:α)(p:α->Prop):(∃d,some a=some d/\p d)=p a:=propext ⟨by rintro ⟨d,e,h⟩;cases e;exact h,λh=>⟨a,rfl,h⟩⟩
theorem rz {α:Type}{xs:List α}{e:α->D}{k:Nat}{x:α}(h:xs[k]?=some x):gF (xs.map e) ((k:Nat):Int)=some (e x):=by
 refine iE ?_;rw[getElem?_map,h];rfl
end DL
namespace PySem
open Sem (wp)
section
variable {prog:Program} {w:World} {A:Around} {E:Value->Shared->Prop} {s:Shared}
noncomputable abbrev Eo (h:Heap)(z TI TO:Addr)(f0:Value)(b:Bool):Prop:=
 h.get? z=some { cls:=.type "zip",dict:=none,data:=.fields #[f0,.bool b,.bool false,.ref TI,.ref TO],slots:=#[] }
structure JN (h:Heap)(z TI TO i1 i2 l1 l2:Addr)(xs ys:Array Value)(i:Nat):Prop where
 ti:IsPair h TI (.ref i1) (.ref i2)
 a1:h.IsListIter i1 l1 i
 a2:h.IsListIter i2 l2 i
 b1:h.IsList l1 xs
 b2:h.IsList l2 ys
 f:(IsZip h z TI TO .none/\∃a b,IsPair h TO a b)\/∃(T:Addr) (b:Bool) (x y:Value),Eo h z TI TO (rawInt T) b/\IsPair h T x y/\T≠z/\T≠TO/\T≠i1/\T≠i2
structure JM (h:Heap)(xs ys:Array Value)(lo:Nat)(acc:Array Value):Prop where
 at':∀(j:Nat) (v:Value),acc[j]?=some v->∃(T:Addr) (x y:Value),v=Value.ref T/\xs[j]?=some x/\ys[j]?=some y/\IsPair h T x y/\lo<=T
 one:∀(i j:Nat) (v:Value),acc[i]?=some v->acc[j]?=some v->i=j
end
end PySem
namespace L2
open PySem PySem.Spec PyProof.Rows
section
variable {X:Cx} {pins:List (Addr×Obj)} {σ:List (Option V)} {H H':Hp} {s:Shared} {h':Heap}
end
end L2
namespace WS
end WS
namespace WS
noncomputable def Ir (xs:List Int)(L:Nat):Int:=(xs.drop L).sum
structure Drawn (g:Int)(hs cs:List S3)(gv wt:List Int):Prop where
 lg:gv.length=251
 lw:wt.length=251
 ng:∀x∈gv,0<=x
 nw:∀x∈wt,0<=x
 J3:∀L:Nat,L<=251->aQ g hs cs (L:Nat)<=Ir wt L - Ir gv L
 all:Ir wt 0 - Ir gv 0=aQ g hs cs 0
end WS
namespace L2
open PySem PySem.Spec PyProof.Rows PyProof
section
variable {X:Cx}
end
end L2
namespace PySem
open PyProof.Rows
section
variable {prog:Program} {w:World} {A:Around} {E:Value->Shared->Prop} {s:Shared}
end
end PySem
namespace PySem
open PyProof.Rows
section
variable {prog:Program} {w:World} {A:Around} {R:Result->Shared->Prop} {I:Addr} {fp wr:List Addr} {n:Nat} {P:Nat->Value->Prop} {St:Nat->Heap->Prop}
end
section
variable {prog:Program} {w:World} {A:Around} {E:Value->Shared->Prop} {s:Shared}
end
end PySem
namespace L2
open PySem PySem.Spec PyProof.Rows
section
variable {X:Cx} {l e:Expr} {p pos p2 pos2 kpos cpos:Pos} {j:Nat} {d:Int} {ta:TA}
end
end L2
namespace DL
open PySem L2
section
variable {X:Cx} {l e:Expr} {p pos p2 pos2 kpos cpos:Pos} {j:Nat} {d:Int} {t:eB}
end
end DL
namespace DL
open PySem L2
section
variable {X:Cx} {e0 e1:Expr} {t0 t1 te:DT} {i:Nat} {x:Str} {pos px:Pos}
end
section
variable {X:Cx} {e k m:Expr} {tk tm te:DT} {i:Nat} {x:Str} {pos px sp tpos:Pos}
end
theorem Dg {K:Frag}{G G':Hp}{vs:List V}{ds:List D}(h:aR K G vs ds)(k:ds.all D.sc=true):aR K G' vs ds:=by
 induction h with
 | nil=>exact .nil
 | cons f _ ih =>
  rw[List.all_cons,Bool.and_eq_true] at k;exact .cons (f.sc k.1) (ih k.2)
section
variable {X:Cx} {e k:Expr} {tk te:DT} {i:Nat} {x:Str} {pos px tpos:Pos}
end
end DL
namespace DL
open PySem L2
section
variable {X:Cx} {e:Expr} {te:DT} {i:Nat} {x:Str} {px apos cpos spos:Pos}
end
end DL
namespace L2
open PySem PySem.Spec PyProof.Rows
section
variable {κ:Type} [DecidableEq κ]
noncomputable def fT (kvs:List (κ×V))(k:κ):Option V:=(kvs.find? λkv=>decide (kv.1=k)).map (·.2)
noncomputable def putK (kvs:List (κ×V))(k:κ)(v:V):List (κ×V):=
 if (kvs.any λkv=>decide (kv.1=k))=true then kvs.map (λkv=>if kv.1=k then (kv.1,v) else kv) else kvs++[(k,v)]
theorem mm {p:κ×V}{r:List (κ×V)}{k:κ}(e:p.1=k):fT (p::r) k=some p.2:=by simp[fT,List.find?_cons,e]
theorem ml {p:κ×V}{r:List (κ×V)}{k:κ}(e:¬p.1=k):fT (p::r) k=fT r k:=by simp[fT,List.find?_cons,e]
theorem mh (k:κ):∀kvs:List (κ×V),(kvs.any λkv=>decide (kv.1=k))=(fT kvs k).isSome
 | []=>rfl
 | p::r=>by
  rw[List.any_cons];by_cases e:p.1=k
  .simp only[mm e,decide_eq_true e,Bool.true_or,Option.isSome_some]
  .rw[ml e,decide_eq_false e,Bool.false_or];exact mh k r
theorem uj (kvs:List (κ×V))(k:κ)(v:V):(putK kvs k v).length<=kvs.length+1:=by
 unfold putK;split
 .rw[length_map];lia
 .rw[length_append,length_cons,List.length_nil];lia
theorem pP.fY {o:Option V}{u:Option Value}(r:pP o u):o.isSome=u.isSome:=by
 cases o with
 | none=>cases u with
  | none=>rfl
  | some _=>exact (show False from r).elim
 | some _=>cases u with
  | none=>exact (show False from r).elim
  | some _=>rfl
theorem KV.val {kvs:List (κ×V)}{vs:List (κ×Value)}(r:KV kvs vs)(k:κ):pP (fT kvs k) (valueAt vs k):=by
 unfold KV at r;induction r with
 | nil=>exact True.intro
 | @cons p q ps qs h t ih =>
  obtain ⟨h1,h2⟩:=h;by_cases e:p.1=k
  .have e':q.1=k:=h1.symm.trans e;have b:valueAt (q::qs) k=some q.2:=by simp[valueAt,List.find?_cons,e']
   rw[mm e,b];exact h2
  .have e':¬q.1=k:=λz=>e (h1.trans z);have b:valueAt (q::qs) k=valueAt qs k:=by simp[valueAt,List.find?_cons,e']
   rw[ml e,b];exact ih
end
theorem Av {P:Program}{w:World}{k:Key}{u:Value}(r:RelV (kV k) u):(cq P w).is k u=true:=by
 cases k with
 | inl i=>obtain ⟨t,e⟩:=(show ∃t,u=Value.int i t from r);subst e;exact ux P w i t
 | inr x=>obtain ⟨t,e⟩:=(show ∃t,u=Value.str x t from r);subst e;exact uy P w x t
theorem mG {P:Program}{w:World}:∀{ks:List Key} {us:List Value},Vals (ks.map kV) us->ItemsAre (cq P w) ks us
 | [],_,r=>by rw[List.map_nil] at r;cases r;exact .nil
 | k::ks,_,r=>by
  rw[map_cons] at r;cases r with
  | cons h t=>exact .cons (Av h) (mG t)
noncomputable abbrev KT (H:Hp):List (List Key×V)->List (List Key×Addr×Value)->Prop:=Paired λp q=>p.1=q.1/\H q.2.1=some (.tup (p.1.map kV))/\RelV p.2 q.2.2
theorem KT.val {H:Hp}{kvs:List (List Key×V)}{xs:List (List Key×Addr×Value)}(r:KT H kvs xs)(k:List Key):pP (fT kvs k) ((atKey xs k).map (·.2)):=by
 induction r with
 | nil=>exact True.intro
 | @cons p q ps qs h t ih =>
  obtain ⟨h1,_,h2⟩:=h;by_cases e:p.1=k
  .have e':q.1=k:=h1.symm.trans e;have b:atKey (q::qs) k=some q.2:=by simp[atKey,List.find?_cons,e']
   rw[mm e,b];exact h2
  .have e':¬q.1=k:=λz=>e (h1.trans z);have b:atKey (q::qs) k=atKey qs k:=by simp[atKey,List.find?_cons,e']
   rw[ml e,b];exact ih
theorem KT.HE {H:Hp}{kvs:List (List Key×V)}{xs:List (List Key×Addr×Value)}(r:KT H kvs xs)(k:List Key){y:V}{u:Value}(ry:RelV y u) :
  KT H (kvs.map λkv=>if kv.1=k then (kv.1,y) else kv) (xs.map (putAt k u)):=by
 induction r with
 | nil=>exact .nil
 | @cons p q ps qs h t ih =>
  rw[map_cons,map_cons];refine .cons ?_ ih;obtain ⟨h1,h2,h3⟩:=h;unfold putAt;by_cases e:p.1=k
  .rw[if_pos e,if_pos (h1.symm.trans e)];exact ⟨h1,h2,ry⟩
  .rw[if_neg e,if_neg (λz=>e (h1.trans z))];exact ⟨h1,h2,h3⟩
theorem KT.put {H:Hp}{kvs:List (List Key×V)}{xs:List (List Key×Addr×Value)}(r:KT H kvs xs)(k:List Key){b:Addr}{y:V}{u:Value}(hb:H b=some (.tup (k.map kV)))(ry:RelV y u) :
  KT H (putK kvs k y) (storedH xs k b u):=by
 have e:(kvs.any λkv=>decide (kv.1=k))=(atKey xs k).isSome:=by
  rw[mh,(r.val k).fY,Option.isSome_map]
 unfold putK storedH;rw[e];by_cases q:(atKey xs k).isSome=true
 .rw[if_pos q,if_pos q];exact r.HE k ry
 .rw[if_neg q,if_neg q];exact Paired.snoc r ⟨rfl,hb,ry⟩
theorem KT.keeps {H H':Hp}{kvs:List (List Key×V)}{xs:List (List Key×Addr×Value)}(r:KT H kvs xs)(ht:∀b ys,H b=some (.tup ys)->H' b=some (.tup ys)):KT H' kvs xs:=
 Paired.CL r λ_ _ z=>⟨z.1,ht _ _ z.2.1,z.2.2⟩
section
variable {P:Program} {w:World} {H:Hp} {h:Heap} {a:Addr}
theorem Eg {u:HO}(ok:j3 P w H h)(e:Rd H a u):bZ P w H h a u:=e.ok ok
theorem D0 {kvs:List (Key×V)}(ok:j3 P w H h)(e:Rd H a (.dK kvs)):kvs.length<=sizeLine/\(a == sysModules)=false/\∃vs,KV kvs vs/\h.DictOf (cq P w) a vs:=
 show bZ P w H h a (.dK kvs) from Eg ok e
theorem vH {ks:List Key}(ok:j3 P w H h)(e:H a=some (.tup (ks.map kV))):(tupleKind (cq P w)).is h ks a:=by
 obtain ⟨_,its,r,o,h1,h2,n,h3⟩:=(show bZ P w H h a (.tup (ks.map kV)) from ok a _ e)
 exact ⟨o,its.toArray,n,h1,h2,h3,by simpa using mG r⟩
theorem qI {kvs:List (List Key×V)}(ok:j3 P w H h)(e:Rd H a (.dT kvs)):kvs.length<=sizeLine/\(a == sysModules)=false /\
  ∃xs,KT H kvs xs/\h.DictOfH (tupleKind (cq P w)) a xs:=by
 obtain ⟨z,y,xs,r,o,es,ep,h1,h2,h3,h4,h5⟩:=(show bZ P w H h a (.dT kvs) from Eg ok e)
 refine ⟨z,y,xs,r,o,es,ep,h1,h2,h3,h4,λx hx=>?_,h5⟩;have all:∀{l:List (List Key×V)} {m:List (List Key×Addr×Value)},KT H l m->∀x∈m,(tupleKind (cq P w)).is h x.1 x.2.1:=by
  intro l m q;induction q with
  | nil=>intro x hx;exact nomatch hx
  | @cons p q ps qs hq t ih =>
   intro x hx;rcases List.mem_cons.mp hx with e | hx
   .subst e;exact vH ok (by rw[<-hq.1];exact hq.2.1)
   .exact ih x hx
 exact all r x hx
theorem GN {kvs:List (List Key×V)}(ok:j3 P w H h)(e:H a=some (.dT kvs)):kvs.length<=sizeLine/\(a == sysModules)=false /\
  ∃xs,KT H kvs xs/\h.DictOfH (tupleKind (cq P w)) a xs:=qI ok (.inl e)
end
noncomputable def xS (H:Hp)(a:Addr)(y:V)(r:Option V):Prop:=
 (∃kvs k,Rd H a (.dK kvs)/\y=kV k/\r=fT kvs k)\/∃kvs k b,Rd H a (.dT kvs)/\y=.ref b/\H b=some (.tup (k.map kV))/\r=fT kvs k
theorem xS.t {H:Hp}{a b:Addr}{kvs:List (List Key×V)}{k:List Key}(e:H a=some (.dT kvs))(eb:H b=some (.tup (k.map kV))):xS H a (.ref b) (fT kvs k):=.inr ⟨kvs,k,b,.inl e,rfl,eb,rfl⟩
section
variable {X:Cx} {pins:List (Addr×Obj)} {σ:St} {H:Hp} {s:Shared} {a:Addr} {y v:V} {u r:Value} {o:Option V} {A:Around} {E:Value->Shared->Prop}
theorem Inv.big (I:Inv X pins σ H s):sysModules<s.heap.objs.size:=by
 have h:mainGlobals<s.heap.objs.size:=(I.mod.glob.keeps I.bk).lt;exact Nat.lt_trans (by decide) h
theorem IM {Q:Value->Shared->Prop}(hu:A.units+1<cLine)(I:Inv X pins σ H s)(g:xS H a y o)(ry:RelV y u)(h:∀s',Inv X pins σ H s'->Q (.bool o.isSome) s') :
  wpAny (model X.prog X.w) A (compareOp .In u (.ref a)) Q E s:=by
 rcases g with ⟨kvs,k,e,ey,l⟩ | ⟨kvs,k,b,e,ey,eb,l⟩
 .subst ey;obtain ⟨z,hd,vs,rel,dd⟩:=D0 I.bp e;refine wpAny_in_of (Av ry) hd dd.mapOf ?_;rw[<-(rel.val k).fY,<-l];exact h _ (I.tok _)
 .subst ey;cases (show u=Value.ref b from ry);obtain ⟨z,hd,xs,rel,dd⟩:=qI I.bp e;refine wpAny_in_heap (tupleKind_room_in1 hu) (vH I.bp eb) hd dd ?_;have q:=(rel.val k).fY;rw[Option.isSome_map] at q;rw[<-q,<-l];exact h _ (I.tok _)
theorem BW {Q:Value->Shared->Prop}(hu:A.units+1<cLine)(I:Inv X pins σ H s)(g:xS H a y o)(ry:RelV y u)(h:∀s',Inv X pins σ H s'->Q (.bool (!o.isSome)) s') :
  wpAny (model X.prog X.w) A (compareOp .NotIn u (.ref a)) Q E s:=by
 rcases g with ⟨kvs,k,e,ey,l⟩ | ⟨kvs,k,b,e,ey,eb,l⟩
 .subst ey;obtain ⟨z,hd,vs,rel,dd⟩:=D0 I.bp e;refine wpAny_notIn_of (Av ry) hd dd.mapOf ?_;rw[<-(rel.val k).fY,<-l];exact h _ (I.tok _)
 .subst ey;cases (show u=Value.ref b from ry);obtain ⟨z,hd,xs,rel,dd⟩:=qI I.bp e;refine wpAny_notIn_heap (tupleKind_room_in1 hu) (vH I.bp eb) hd dd ?_;have q:=(rel.val k).fY;rw[Option.isSome_map] at q;rw[<-q,<-l];exact h _ (I.tok _)
theorem wH {h':Heap}{t':Nat}{ob:HO}(I:Inv X pins σ H s)(mu:Gz (H a))(hs:Heap.SameBut a s.heap h')(he:∃q,h'.get? a=some q)(new:bZ X.prog X.w (upd H a ob) h' a ob) :
  Inv X pins σ (upd H a ob) { s with heap:=h',toks:=t' }:=
 I.write (x:=a) (e:=a) mu (.inl rfl) (λb q hb z=>(hs.2 b hb).trans z) he new
end
section
variable {X:Cx} {pins:List (Addr×Obj)} {σ:St} {H:Hp} {s:Shared} {a:Addr} {kvs:List (Key×V)} {k:Key} {u:Value} {A:Around} {E:Value->Shared->Prop}
end
noncomputable def Es (i:Expr):Prop:=∀ov iv,subscripted i false ov iv=operate [ov,iv] (getItem ov iv)
theorem Dp {prog:Program}{w:World}{A:Around}{E:Value->Shared->Prop}{s:Shared}{env:Env}{value slice:Expr}{pos:Pos}{T id:String}{Q:Value->Shared->Prop}
  (hl:typeLookup (.type T) "__getitem__" = pure (some (.builtin id))) (hs:Es slice)
  (h:wpAny (model prog w) A (eval value env) (λo s₁=>wpAny (model prog w) A (eval slice env) (λi s₂=>s₂.TypeIs o T/\wpAny (model prog w) A (getItem o i) Q E s₂) E s₁) E s) :
  wpAny (model prog w) A (eval (.Subscript value slice pos) env) Q E s:=by
 refine Subscript_ (wpAny_mono h (λo s₁ h₁=>wpAny_mono h₁ (λi s₂ h₂=>?_) λ_ _ x=>x) λ_ _ x=>x);obtain ⟨hT,h₂⟩:=h₂;unfold subscriptTail;refine wpAny_bind ?_;rw[getitemInPython_of_ne hT.not_modules];refine wpAny_bind (wpAny_specialOf hT hl ?_);have fin:wpAny (model prog w) A (subscripted slice false o i) (λr s₃=>wpAny (model prog w) A (letTemporaryGo value o r >>= λ_=>pure r) Q E s₃) E s₂:=by
  rw[hs o i];exact wpAny_operating (wpAny_mono h₂ (λr s₃ h₃=>wpAny_bind (wpAny_letTemporaryGo (wpAny_pure h₃))) λ_ _ x=>x)
 first
  | exact wpAny_pure (wpAny_bind fin)
  | exact wpAny_bind (wpAny_pure (wpAny_bind fin))
  | exact wpAny_bind fin
noncomputable def Dq (ty td:TE):TE:=λσ H Q=>ty σ H λy H1=>td σ H1 λx H2=>∃a o,x=.ref a/\xS H2 a y o/\Q (.bl (!o.isSome)) H2
section
variable {X:Cx} {o i e value:Expr} {pos pos' tpos:Pos} {td ty tv:TE}
theorem yQ (hu:X.A.units+1<cLine)(hi:PE X i ty)(ho:PE X o td):PC X .NotIn i o (Dq ty td):=by
 intro pins s σ H Q I h;refine bV (hi pins s σ H _ I h) λiv s1 ⟨y,H1,I1,ry,q1⟩=>bV (ho pins s1 σ H1 _ I1 q1) ?_;rintro u s2 ⟨x,H2,I2,rx,a,ov,ex,g,q2⟩;subst ex;obtain rfl:u=Value.ref a:=rx;exact BW hu I2 g ry λs3 I3=>⟨.bl (!ov.isSome),H2,I3,rfl,q2⟩
end
theorem Ad {P:Program}{w:World}{H:Hp}(h:Heap)(hb:sysModules<h.objs.size):bZ P w H (h.push { cls:=.type "dict",data:=.dict #[] }) h.objs.size (.dT []):=
 ⟨Nat.zero_le _,beq_eq_false_iff_ne.mpr (Ne.symm (Nat.ne_of_lt hb)),[],.nil,_,#[],0,Heap.get?_push_size _ rfl,⟨rfl,rfl,rfl⟩,rfl,rfl,List.nodup_nil⟩
noncomputable def FX:TE:=λ_ H Q=>∀p,H p=none->Q (.ref p) (upd H p (.dT []))
section
variable {X:Cx} {pos:Pos}
theorem uM:PE X (.Dict [] [] pos) FX:=λpins s σ H Q I h =>
 wpAny_Dict_empty ⟨.ref s.heap.objs.size,_,I.laid (a:=s.heap.objs.size) (o:=.dT []) (t':=s.toks) (λ_ _ q=>Heap.get?_push_of_some _ q) (Nat.le_refl _) (Ad s.heap I.big),rfl,h _ (I.bp.fresh (Nat.le_refl _))⟩
end
structure M1 (X:Cx)(o:Expr)(m:Str)(apos:Pos)(e:Expr)(cpos:Pos):Prop where
 base:attributeBase o m X.env (eval o X.env)=eval o X.env
 J2:((backTo cpos (starEach [e] X.env)).all (λx=>!x.1) && (backToKw cpos (keywordEach [] X.env)).all (λx=>x.1.isSome)
  && decide (([e]:List Expr).length+([]:List Keyword).length+(if ([]:List Keyword).isEmpty then 0 else 1)<30))=true
 line:(apos.endLine == cpos.line)=true
 trees:backTo cpos (starEach [e] X.env) = [(false,eval e X.env)]
structure M2 (X:Cx)(o:Expr)(m:Str)(apos:Pos)(e f:Expr)(cpos:Pos):Prop where
 base:attributeBase o m X.env (eval o X.env)=eval o X.env
 J2:((backTo cpos (starEach [e,f] X.env)).all (λx=>!x.1) && (backToKw cpos (keywordEach [] X.env)).all (λx=>x.1.isSome)
  && decide (([e,f]:List Expr).length+([]:List Keyword).length+(if ([]:List Keyword).isEmpty then 0 else 1)<30))=true
 line:(apos.endLine == cpos.line)=true
 trees:backTo cpos (starEach [e,f] X.env) = [(false,eval e X.env),(false,eval f X.env)]
section
variable {X:Cx} {pins:List (Addr×Obj)} {σ:St} {H:Hp} {s:Shared} {a:Addr} {y d:V} {u r:Value} {o:Option V} {A:Around} {E:Value->Shared->Prop}
end
section
variable {X:Cx} {o e f:Expr} {apos cpos:Pos} {td ty tx:TE}
end
section
variable {X:Cx} {pins:List (Addr×Obj)} {σ:St} {H:Hp} {s:Shared} {a:Addr} {kvs:List (Key×V)} {A:Around} {E:Value->Shared->Prop}
end
section
variable {X:Cx} {pins:List (Addr×Obj)} {σ:St} {H:Hp} {s:Shared} {a:Addr} {y:V} {u:Value} {A:Around} {E:Value->Shared->Prop}
end
section
variable {X:Cx}
end
section
variable {κ:Type} [DecidableEq κ]
end
end L2
namespace L2
open PySem PySem.Spec PyProof.Rows
section
variable {X:Cx} {pins:List (Addr×Obj)} {σ:St} {H:Hp} {s:Shared} {a b:Addr}
theorem Ax {ks:List Key}(I:Inv X pins σ H s)(h:jR X.K H b (ks.map kV)):(tupleKind (cq X.prog X.w)).is s.heap ks b:=by
 obtain ⟨its,r,⟨o,h1,h2,n,h3⟩,z⟩:=I.tuple h;exact ⟨o,its.toArray,n,h1,h2,h3,by simpa using mG r⟩
noncomputable def Bk (K:Frag):V->V->Hp->VK->Prop:=λx y H Q=>∃a b kvs ks v,x=.ref a/\y=.ref b/\Rd H a (.dT kvs)/\jR K H b (ks.map kV)/\fT kvs ks=some v/\Q v H
theorem uc {A:Around}{E:Value->Shared->Prop}{kvs:List (List Key×V)}{ks:List Key}{v:V}{Q:Value->Shared->Prop}(hu:A.units+1<cLine)(I:Inv X pins σ H s)(e:Rd H a (.dT kvs))(hb:jR X.K H b (ks.map kV))(l:fT kvs ks=some v)
  (h:∀w' s',Inv X pins σ H s'->RelV v w'->Q w' s'):wpAny (model X.prog X.w) A (getItem (.ref a) (.ref b)) Q E s:=by
 obtain ⟨z,hd,xs,rel,dd⟩:=qI I.bp e;obtain ⟨w',hw,rw'⟩:=pP.some_of (v:=v) (o:=(atKey xs ks).map (·.2)) (by rw[<-l];exact rel.val ks);obtain ⟨p,hp,hp2⟩:=Option.map_eq_some_iff.mp hw;exact wpAny_getItem_heap (tupleKind_room_in1 hu) (Ax I hb) dd hp (by rw[hp2];exact h w' _ (I.tok _) rw')
theorem get_dict (hu:X.A.units+1<cLine):GA X (Bk X.K):=by
 intro pins s σ H o i ov iv Q I ro ri h;obtain ⟨a,b,kvs,ks,v,rfl,rfl,e,hb,l,q⟩:=h;cases ro;cases ri;exact uc hu I e hb l λw' s' I' rw'=>⟨v,H,I',rw',q⟩
noncomputable def Ef (K:Frag):xZ:=λx y v H Q=>∃a b kvs ks,x=.ref a/\y=.ref b/\H a=some (.dT kvs)/\jR K H b (ks.map kV)/\(fT kvs ks≠none\/H b=some (.tup (ks.map kV)))/\kvs.length<sizeLine/\Q (upd H a (.dT (putK kvs ks v)))
theorem KT.old {H:Hp}{kvs:List (List Key×V)}{xs:List (List Key×Addr×Value)}(r:KT H kvs xs)(k:List Key){b:Addr}{y:V}{u:Value}(hb:fT kvs k≠none)(ry:RelV y u):KT H (putK kvs k y) (storedH xs k b u):=by
 have e:(kvs.any λkv=>decide (kv.1=k))=(atKey xs k).isSome:=by rw[mh,(r.val k).fY,Option.isSome_map]
 have q:(atKey xs k).isSome=true:=by
  rw[<-e,mh];cases z:fT kvs k with
  | none=>exact absurd z hb
  | some _=>rfl
 unfold putK storedH;rw[e,if_pos q,if_pos q];exact r.HE k ry
theorem set_dict (hu:X.A.units+1<cLine):Eu X (Ef X.K):=by
 intro pins s σ H o i v ov iv u Q I ro ri rv h;obtain ⟨a,b,kvs,ks,rfl,rfl,e,hb,hk,l,q⟩:=h;cases ro;cases ri;obtain ⟨z,hd,xs,rel,dd⟩:=GN I.bp e;have hz:xs.length<=sizeLine:=by rw[<-Paired.length rel];exact z
 have hl:(putK kvs ks v).length<=sizeLine:=by have:=uj kvs ks v;lia
 have rel':KT H (putK kvs ks v) (storedH xs ks b u):=by
  rcases hk with hk | hk
  .exact rel.old ks hk rv
  .exact rel.put ks hk rv
 refine wpAny_setItem_heap (hsz:=hz) (tupleKind_room_in1 hu) (Ax I hb) dd λh' dd' hs=>⟨_,?_,q⟩
 obtain ⟨o',es,ep,hq,h2,h3,h4,_,h5⟩:=dd';exact wH I (by rw[e];exact True.intro) hs ⟨o',hq⟩ ⟨hl,hd,_,rel'.keeps λc ys ec=>by rw[aj (xp ec e λz=>nomatch z)];exact ec,o',es,ep,hq,h2,h3,h4,h5⟩
theorem xB {o i:Expr}{pos:Pos}{td ty:TE}(hu:X.A.units+1<cLine)(ho:PE X o td)(hi:PE X i ty)(hs:Es i):PE X (.Subscript o i pos) (Gm (Bk X.K) td ty):=by
 intro pins s σ H Q I h;refine Dp PySem.F.slot_dict_getitem.lookup hs (bV (ho pins s σ H _ I h) λu s1 ⟨x,H1,I1,rx,q1⟩=>bV (hi pins s1 σ H1 _ I1 q1) ?_);rintro iv s2 ⟨y,H2,I2,ry,a,b,kvs,ks,v,ex,ey,e,hb,l,q2⟩;subst ex ey;cases rx;cases ry;obtain ⟨_,_,xs,_,ob,_,_,h1,h2,_⟩:=qI I2.bp e;exact ⟨⟨ob,h1,h2.1⟩,uc hu I2 e hb l λw' s3 I3 rw'=>⟨v,H2,I3,rw',q2⟩⟩
end
end L2
namespace DL
open PySem L2
noncomputable abbrev dE:=List ((Int×Int)×Int)
noncomputable def bh (kvs:dE)(k:Int×Int):Option Int:=(kvs.find? λp=>decide (p.1=k)).map (·.2)
noncomputable def putD (kvs:dE)(k:Int×Int)(v:Int):dE:=if (kvs.any λp=>decide (p.1=k))=true then kvs.map (λp=>if p.1=k then (p.1,v) else p) else kvs++[(k,v)]
noncomputable def k2 (k:Int×Int):List Key:=[Sum.inl k.1,Sum.inl k.2]
theorem oK {a b:Int×Int}:k2 a=k2 b↔a=b:=by
 constructor
 .intro h;unfold k2 at h;injection h with h1 h2
  injection h2 with h2 _
  exact Prod.ext (Sum.inl.inj h1) (Sum.inl.inj h2)
 .rintro rfl;rfl
theorem mj (kvs:dE)(k:Int×Int):fT (encD kvs) (k2 k)=(bh kvs k).map V.int:=by
 induction kvs with
 | nil=>rfl
 | cons p r ih =>
  have e:encD (p::r)=(k2 p.1,V.int p.2)::encD r:=rfl;rw[e];by_cases h:p.1=k
  .rw[mm (p:=(k2 p.1,V.int p.2)) (oK.mpr h)];simp[bh,List.find?_cons,h]
  .rw[ml (p:=(k2 p.1,V.int p.2)) (λz=>h (oK.mp z)),ih];simp[bh,List.find?_cons,h]
theorem BJ (kvs:dE)(k:Int×Int):((encD kvs).any λkv=>decide (kv.1=k2 k))=kvs.any λp=>decide (p.1=k):=by
 induction kvs with
 | nil=>rfl
 | cons p r ih =>
  have e:encD (p::r)=(k2 p.1,V.int p.2)::encD r:=rfl;rw[e,List.any_cons,List.any_cons,ih];congr 1;exact decide_eq_decide.mpr oK
theorem o8 (kvs:dE)(k:Int×Int)(v:Int):putK (encD kvs) (k2 k) (.int v)=encD (putD kvs k v):=by
 unfold putK putD;rw[BJ];by_cases h:(kvs.any λp=>decide (p.1=k))=true
 .rw[if_pos h,if_pos h];unfold encD;rw[map_map,map_map];refine map_congr_left λp _=>?_;show (if k2 p.1=k2 k then (k2 p.1,V.int v) else (k2 p.1,V.int p.2))=_;show _=(k2 (if p.1=k then (p.1,v) else p).1,V.int (if p.1=k then (p.1,v) else p).2)
  by_cases e:p.1=k
  .rw[if_pos (oK.mpr e),if_pos e]
  .rw[if_neg (λz=>e (oK.mp z)),if_neg e]
 .rw[if_neg h,if_neg h];unfold encD;rw[map_append];rfl
theorem jx (kvs:dE):(encD kvs).length=kvs.length:=by unfold encD;rw[length_map]
theorem xA {K:Frag}{G:Hp}{v:V}{i j:Int}(r:Rep K G v (.tup [.int i,.int j])):∃b,v=.ref b/\jR K G b ((k2 (i,j)).map kV):=by
 obtain ⟨b,vs,rfl,e,rr⟩:=r.eW;refine ⟨b,rfl,?_⟩;cases rr with
 | cons r1 rr=>cases rr with
  | cons r2 rr=>cases rr;cases r1;cases r2;exact e
theorem aX.Di {K:Frag}{H0 G H:Hp}{σ:St}{ρ:aB}{i:Nat}{a:Addr}{d d':D}{ob:HO}(e:aX K H0 G H σ ρ)(h1:aT ρ i=some (.o d))(h2:σ[i]?=some (some (.ref a)))(r:bQ K G (upd H a ob) a d'):aX K H0 G (upd H a ob) σ (dput ρ i (.o d')):=by
 obtain ⟨o,e⟩:=e;obtain ⟨a',h3,h4,h4',h5⟩:=e.o i _ h1;rw[h2] at h3;cases h3;refine ⟨o,by rw[dG];exact e.len,λj d q=>?_,λj d q=>?_,λj t dss q=>?_⟩
 .rcases aL q with ⟨rfl,_,q⟩ | ⟨hne,q⟩
  .cases q
  .exact e.p j d q
 .rcases aL q with ⟨rfl,_,q⟩ | ⟨hne,q⟩
  .cases q;exact ⟨a,h2,h4,h4',r⟩
  .obtain ⟨b,k1,k2,k2',k3⟩:=e.o j d q;refine ⟨b,k1,k2,k2',k3.fS (aq.refl _) k3.1 λo z=>?_⟩;rw[aj (by rintro rfl;exact hne (h4'.symm.trans k2'))];exact z
 .rcases aL q with ⟨rfl,_,q⟩ | ⟨hne,q⟩
  .cases q
  .obtain ⟨b,k1,k2⟩:=e.n j t dss q;refine ⟨b,k1,k2.fS (aq.refl _) λx z1 z2 z3 z4=>⟨z3,z2,λo z=>?_⟩⟩;rw[aj (by rintro rfl;exact hne (h4'.symm.trans z2))];exact z
theorem aX.put2 {K:Frag}{H0 G H G' H':Hp}{σ:St}{ρ:aB}{i j:Nat}{b c:Addr}{d d':D}(h:aX K H0 G H σ ρ)(w:Wd H G H' G')(hh:aq H0 H)(hij:i≠j)(hb:H b=none)(hc:H c=none)(bc:b≠c)(r:bQ K G' H' b d)(r':bQ K G' H' c d') :
  aX K H0 G' H' ((σ.set i (some (.ref b))).set j (some (.ref c))) (dput (dput ρ i (.o d)) j (.o d')):=by
 obtain ⟨o,h⟩:=h;have h2:=(h.BI (o':=λx=>if x=b then i else if x=c then j else o x) λx q=>by
  rw[if_neg λz:x=b=>q (z ▸ hb),if_neg λz:x=c=>q (z ▸ hc)]).on w
 have oc:(if c=b then i else if c=c then j else o c)=j:=by rw[if_neg bc.symm,if_pos rfl]
 refine ⟨λx=>if x=b then i else if x=c then j else o x,by rw[length_set,length_set,dG,dG];exact h.len,λm d e=>?_,λm d e=>?_,λm t dss e=>?_⟩
 .rcases aL e with ⟨rfl,hl,e⟩ | ⟨hne,e⟩
  .cases e
  .rcases aL e with ⟨rfl,hl,e⟩ | ⟨hne',e⟩
   .cases e
   .obtain ⟨v,h1,h3⟩:=h2.p m d e;exact ⟨v,by rw[br hne,br hne'];exact h1,h3⟩
 .rcases aL e with ⟨rfl,hl,e⟩ | ⟨hne,e⟩
  .cases e;exact ⟨c,iz (by rw[length_set,h.len];rw[dG] at hl;exact hl),hh.free hc,oc,r'⟩
  .rcases aL e with ⟨rfl,hl,e⟩ | ⟨hne',e⟩
   .cases e;exact ⟨b,by rw[br hne];exact iz (by rw[h.len];exact hl),hh.free hb,if_pos rfl,r⟩
   .obtain ⟨v,h1,h3⟩:=h2.o m d e;exact ⟨v,by rw[br hne,br hne'];exact h1,h3⟩
 .rcases aL e with ⟨rfl,hl,e⟩ | ⟨hne,e⟩
  .cases e
  .rcases aL e with ⟨rfl,hl,e⟩ | ⟨hne',e⟩
   .cases e
   .obtain ⟨v,h1,h3⟩:=h2.n m t dss e;exact ⟨v,by rw[br hne,br hne'];exact h1,h3⟩
section
variable {X:Cx} {e e1 e2 o k:Expr} {te t1 t2 ta tk:DT} {i:Nat} {x:Str} {pos px lp tpos sp:Pos}
theorem rX {d:D}{P:Int->Prop}(h:match d with | .int v=>P v | _=>False):∃v,d=.int v/\P v:=by
 cases d with
 | int v=>exact ⟨v,rfl,h⟩
 | _=>exact (show False from h).elim
theorem CW {d:D}{P:Int->Int->Prop}(h:match d with | .tup [.int z,.int y]=>P z y | _=>False):∃z y,d=.tup [.int z,.int y]/\P z y:=by
 cases d with
 | tup us =>
  cases us with
  | nil=>exact (show False from h).elim
  | cons a us =>
   cases a with
   | int z =>
    cases us with
    | nil=>exact (show False from h).elim
    | cons b us =>
     cases b with
     | int y =>
      cases us with
      | nil=>exact ⟨z,y,rfl,h⟩
      | cons=>exact (show False from h).elim
     | _=>exact (show False from h).elim
   | _=>exact (show False from h).elim
 | _=>exact (show False from h).elim
theorem vx {o:Option B}{P:List ((Int×Int)×Int)->Prop}(h:match o with | some (.o (.dct kvs))=>P kvs | _=>False):∃kvs,o=some (.o (.dct kvs))/\P kvs:=by
 cases o with
 | none=>exact (show False from h).elim
 | some b =>
  cases b with
  | o d =>
   cases d with
   | dct kvs=>exact ⟨kvs,rfl,h⟩
   | _=>exact (show False from h).elim
  | _=>exact (show False from h).elim
noncomputable def zO:DT:=λ_ Q=>Q (.o (.dct []))
theorem rN:DE X (.Dict [] [] pos) zO:=
 DE.of uM (by rintro σ H Q ⟨G,ρ,P,s,_,h,k⟩ p hp;exact k _ _ _ G h ((Wd.refl s).own hp (s.free hp)) ⟨p,rfl,hp,s.free hp,ao⟩)
noncomputable def m8:D2:=λx y Q=>match x,y with
 | .dct kvs,.tup [.int i,.int j]=>∃v,bh kvs (i,j)=some v/\Q (.p (.int v))
 | _,_=>False
theorem Cf {dx dy:D}{P:B->Prop}(h:m8 dx dy P):∃kvs i j v,dx=.dct kvs/\dy=.tup [.int i,.int j]/\bh kvs (i,j)=some v/\P (.p (.int v)):=by
 cases dx with
 | dct kvs =>
  cases dy with
  | tup us =>
   cases us with
   | nil=>exact (show False from h).elim
   | cons a us =>
    cases a with
    | int z =>
     cases us with
     | nil=>exact (show False from h).elim
     | cons b us =>
      cases b with
      | int y =>
       cases us with
       | nil =>
        obtain ⟨v,h⟩:=h;exact ⟨kvs,z,y,v,rfl,rfl,h⟩
       | cons=>exact (show False from h).elim
      | _=>exact (show False from h).elim
    | _=>exact (show False from h).elim
  | _=>exact (show False from h).elim
 | _=>exact (show False from h).elim
theorem jU {n:Nat}(hr:cY n X.A)(ha:DE X o ta)(hk:DE X k tk)(hs:autoParam (Es k) aZh._auto_1):DE X (.Subscript o k pos) (g6 m8 ta tk):=
 DE.of (xB (ki hr) ha.pe hk.pe hs) (oj λH G x y dx dy P Q s rx ry h kk=>by
  obtain ⟨kvs,i,j,v,rfl,rfl,h1,h2⟩:=Cf h;obtain ⟨b,rfl,hb⟩:=xA ry;cases rx with
  | dct e=>exact ⟨_,b,_,_,.int v,rfl,rfl,iZ s e,aM s hb,by rw[mj,h1];rfl,kk _ _ H G h2 (Wd.refl s) (.int _)⟩)
noncomputable def wo (i:Nat)(t1 t2 te:DT):fu:=λE ρ=>match aT ρ i with
 | some (.o (.dct kvs))=>te (bu ρ) λb=>match b.val with
  | .int v=>t1 (bu ρ) λb1=>match b1.val with
   | .int z=>t2 (bu ρ) λb2=>match b2.val with
    | .int y=>kvs.length<sizeLine/\E.nx (dput ρ i (.o (.dct (putD kvs (z,y) v))))
    | _=>False
   | _=>False
  | _=>False
 | _=>False
theorem rS {n:Nat}{x1}(hr:cY n X.A)(hN:X.N[i]?=some x)(hv:vj X.env.scope x)(h1:DE X e1 t1)(h2:DE X e2 t2)(he:DE X e te)(hd:autoParam ((x == ("__debug__" : Str))=false) aZb._auto_1)(hcd:autoParam ((x == ("__classdict__" : Str))=false) aZb._auto_1)
    (hs0:autoParam (starEach [e1,e2] X.env=(false,eval e1 X.env)::starEach [e2] X.env) aZa._auto_1) (hs1:autoParam (starEach [e2] X.env=(false,eval e2 X.env)::starEach [] X.env) aZa._auto_1)
    (ha:autoParam (∀v,assign (.Subscript (.Name x px) (.Tuple [e1,e2] x1 lp) tpos) X.env v=(do
      let ov <-holding [v] (eval (.Name x px) X.env)
      let iv <-holding [v,ov] (eval (.Tuple [e1,e2] x1 lp) X.env)
      standAt tpos
      holding [v,ov,iv] (setItem ov iv v)
      release [v,ov,iv] [])) aZc._auto_1)
    (hs:autoParam (swapsWithSole [.Subscript (.Name x px) (.Tuple [e1,e2] x1 lp) tpos] e pos.line X.env=pure false) aZa._auto_1) (hw:autoParam (swappedStores [.Subscript (.Name x px) (.Tuple [e1,e2] x1 lp) tpos] e X.env=pure none) aZa._auto_1)
    (h0:autoParam ((assignEach [.Subscript (.Name x px) (.Tuple [e1,e2] x1 lp) tpos] X.env).map (·.2) = [assign (.Subscript (.Name x px) (.Tuple [e1,e2] x1 lp) tpos) X.env]) aZa._auto_1) :
    DS X (.Assign [.Subscript (.Name x px) (.Tuple [e1,e2] x1 lp) tpos] e pos) (wo i t1 t2 te):=DS.mk λH0 G0 =>
  PS.imp (sA he.pe (A5 (gz hN hv hd hcd) (vP (eT h1.pe (eT h2.pe kO hs1) hs0)) (set_dict (ki hr)) ha) hs hw h0)<|by
    rintro Dn σ H ⟨E,G,ρ,eo,w,en,h⟩;unfold wo at h;obtain ⟨kvs,q,h⟩:=vx h
    · skip
      obtain ⟨a,ha1,ha2,ha3,ha4⟩:=en.o i _ q;have ha4:H a=some (.dT (encD kvs)):=ha4;obtain ⟨G1,w1,sg,en1⟩:=en.freeze w;refine ⟨G1,bu ρ,_,w1.gh,en1.p,h,λb v H' G' p' w' r'=>?_⟩;obtain ⟨vv,ev,p'⟩:=rX p'
      · skip
        have hvv:=hR w' r' ev;subst hvv;refine ⟨.ref a,ha1,G',bu ρ,_,w'.gh,eF.mono w'.gg en1.p,p',λb1 v1 H1 G1' p1 w1' r1=>?_⟩;obtain ⟨z,ez,p1⟩:=rX p1
        · skip
          have hz:=hR w1' r1 ez;subst hz;refine ⟨G1',bu ρ,_,w1'.gh,eF.mono (w'.trans w1').gg en1.p,p1,λb2 v2 H2 G2 p2 w2 r2=>?_⟩;obtain ⟨y,ey,p2⟩:=rX p2
          · skip
            have hy:=hR w2 r2 ey;subst hy;obtain ⟨hl,p2⟩:=p2;refine ⟨eu (by show 2<=1000;decide),λp hp=>?_⟩;have s2:aq H H2:=(w'.hh.trans w1'.hh).trans w2.hh;have e2:H2 a=some (.dT (encD kvs)):=s2 _ _ ha4;have pa:a≠p:=by rintro rfl;rw[e2] at hp;cases hp
            have hu:upd H2 p (.tup [.int z,.int y]) a=some (.dT (encD kvs)):=by rw[aj pa];exact e2
            refine ⟨a,p,encD kvs,k2 (z,y),rfl,rfl,hu,.inl (.inl ao),.inr ao,by rw[jx];exact hl,?_⟩;rw[o8];have s3:aq H (upd H2 p (.tup [.int z,.int y])):=s2.trans (fB hp);have wb:Wd H0 G0 (upd H2 p (.tup [.int z,.int y])) G:=⟨w.hh.trans s3,w.gg,w.gh.trans s3,w.old⟩
            exact eo.nx σ _ G _ (wb.own ha2 ha3) ((en.back s3).Di q ha1 ⟨ha3,ao⟩) p2
noncomputable def wm (i:Nat)(tk te:DT)(f:Int->Int->Int):fu:=λE ρ=>match aT ρ i with
 | some (.o (.dct kvs))=>tk (bu ρ) λb=>match b.val with
  | .tup [.int z,.int y]=>∃m,bh kvs (z,y)=some m/\te (bu ρ) λb=>match b.val with
   | .int v=>kvs.length<sizeLine/\E.nx (dput ρ i (.o (.dct (putD kvs (z,y) (f m v)))))
   | _=>False
  | _=>False
 | _=>False
theorem B6 {op:Operator}{f:Int->Int->Int}(h:PS X (.AugAssign (.Subscript (.Name x px) k tpos) op e pos) (Ei (Ds i) (cE X.K tk) (cE X.K te) (Bk X.K) (Im f) (Ef X.K))) :
  DS X (.AugAssign (.Subscript (.Name x px) k tpos) op e pos) (wm i tk te f):=DS.mk λH0 G0 =>
 PS.imp h<|by
  rintro Dn σ H ⟨E,G,ρ,eo,w,en,h⟩;unfold wm at h;obtain ⟨kvs,q,h⟩:=vx h
  .skip
   obtain ⟨a,ha1,ha2,ha3,ha4⟩:=en.o i _ q;have ha4:H a=some (.dT (encD kvs)):=ha4;obtain ⟨G1,w1,sg,en1⟩:=en.freeze w;refine ⟨.ref a,ha1,G1,bu ρ,_,w1.gh,en1.p,h,λb v H' G' p' w' r'=>?_⟩;obtain ⟨G2,w2,r2⟩:=r'.give w';obtain ⟨z,y,ez,m,hm,p'⟩:=CW p'
   .skip
    rw[ez] at r2;obtain ⟨c,rfl,hc⟩:=xA r2;have hv:fT (encD kvs) (k2 (z,y))=some (.int m):=by rw[mj,hm];rfl
    refine ⟨a,c,encD kvs,k2 (z,y),.int m,rfl,rfl,.inl (w2.hh _ _ ha4),aM w2.gh hc,hv,?_⟩;refine ⟨G2,bu ρ,_,w2.gh,eF.mono w2.gg en1.p,p',λb3 v3 H3 G3 p3 w3 r3=>?_⟩;obtain ⟨n,en3,p3⟩:=rX p3
    .skip
     obtain ⟨hl,p3⟩:=p3;have s3:aq H H3:=w2.hh.trans w3.hh;refine ⟨m,n,rfl,hR w3 r3 en3,a,c,encD kvs,k2 (z,y),rfl,rfl,s3 _ _ ha4,aM (w2.gh.trans w3.hh) hc,.inl (by rw[hv];simp),by rw[jx];exact hl,?_⟩;rw[o8];have wb:Wd H0 G0 H3 G:=⟨w.hh.trans s3,w.gg,w.gh.trans s3,w.old⟩
     exact eo.nx σ _ G _ (wb.own ha2 ha3) ((en.back s3).Di q ha1 ⟨ha3,ao⟩) p3
noncomputable def rK (i j:Nat):fu:=λE ρ=>match aT ρ i,aT ρ j with
 | some (.o d),some (.o d')=>i≠j/\E.rt (.n true [d,d'])
 | _,_=>False
set_option tactic.hygienic true in
theorem Aa (i j:Nat){x y:Str}{px py:Pos}{x1}(hN:autoParam (X.N[i]?=some x) aZa._auto_1)(hv:autoParam (vj X.env.scope x) aZe._auto_1)(hd:autoParam ((x == ("__debug__" : Str))=false) aZb._auto_1)
  (hcd:autoParam ((x == ("__classdict__" : Str))=false) aZb._auto_1) (hN':autoParam (X.N[j]?=some y) aZa._auto_1) (hv':autoParam (vj X.env.scope y) aZe._auto_1) (hd':autoParam ((y == ("__debug__" : Str))=false) aZb._auto_1)
  (hcd':autoParam ((y == ("__classdict__" : Str))=false) aZb._auto_1) (hs0:autoParam (starEach [.Name x px,.Name y py] X.env=(false,eval (.Name x px) X.env)::starEach [.Name y py] X.env) aZa._auto_1) (hs1:autoParam (starEach [.Name y py] X.env=(false,eval (.Name y py) X.env)::starEach [] X.env) aZa._auto_1) :
  DS X (.Return (some (.Tuple [.Name x px,.Name y py] x1 lp)) pos) (rK i j):=DS.mk λH0 G0 =>
 PS.imp (oZ (vP (eT (gz hN hv hd hcd) (eT (gz hN' hv' hd' hcd') kO hs1) hs0)))<|by
  rintro Dn σ H ⟨E,G,ρ,eo,w,en,h⟩;unfold rK at h;split at h
  .rename_i d d' q q';obtain ⟨hij,h⟩:=h;obtain ⟨o,en⟩:=en;obtain ⟨a,h1,h2,h2',h3⟩:=en.o i d q;obtain ⟨b,g1,g2,g2',g3⟩:=en.o j d' q';have ab:a≠b:=λz=>hij (by rw[<-h2',<-g2',z]);refine ⟨.ref a,h1,.ref b,g1,eu (by show 2<=1000;decide),λp hp=>?_⟩;have pa:a≠p:=by rintro rfl;exact h3.there hp
   have pb:b≠p:=by rintro rfl;exact g3.there hp
   have gp:G p=none:=w.gh.free hp;have st:∀z dz,bQ X.K G H z dz->z≠p->bQ X.K (upd G p (.tup [V.ref a,V.ref b])) (upd H p (.tup [V.ref a,V.ref b])) z dz:=λz dz k n=>k.fS (fB gp) (by rw[aj n];exact k.1) λo q=>by rw[aj n];exact q
   refine eo.rt (.n true [d,d']) _ _ (upd G p (.tup [V.ref a,V.ref b])) (w.new hp) ⟨p,[a,b],rfl,ao,by simp[ab],.cons ⟨h2,st a d h3 pa⟩ (.cons ⟨g2,st b d' g3 pb⟩ .nil)⟩ h
  .exact h.elim
noncomputable def EI (te:DT)(i j:Nat):fu:=λE ρ=>te ρ λb=>match b with
 | .n true [d,d']=>i≠j/\E.nx (dput (dput ρ i (.o d)) j (.o d'))
 | _=>False
theorem Hh {b:B}{P:D->D->Prop}(h:match b with | .n true [d,d']=>P d d' | _=>False):∃d d',b=.n true [d,d']/\P d d':=by
 cases b with
 | n t ds =>
  cases t with
  | true =>
   cases ds with
   | nil=>exact (show False from h).elim
   | cons d ds =>
    cases ds with
    | nil=>exact (show False from h).elim
    | cons d' ds =>
     cases ds with
     | nil=>exact ⟨d,d',rfl,h⟩
     | cons=>exact (show False from h).elim
  | false=>exact (show False from h).elim
 | _=>exact (show False from h).elim
set_option tactic.hygienic true in
theorem EO {tg:Expr}{i j:Nat}(he:DE X e te)(hg:PG X tg ((Tg.t [i,j]).v X.K))(hs:autoParam (swapsWithSole [tg] e pos.line X.env=pure false) aZa._auto_1)(hw:autoParam (swappedStores [tg] e X.env=pure none) aZa._auto_1)
  (h1:autoParam ((assignEach [tg] X.env).map (·.2) = [assign tg X.env]) aZa._auto_1):DS X (.Assign [tg] e pos) (EI te i j):=DS.mk λH0 G0 =>
 PS.imp (sA he.pe hg hs hw h1)<|by
  rintro Dn σ H ⟨E,G,ρ,eo,w,en,h⟩;refine ⟨G,ρ,_,w.gh,en.p,h,λb v H' G' p' w' r'=>?_⟩;obtain ⟨d,d',rfl,hij,p'⟩:=Hh p'
  .skip
   obtain ⟨a,as,rfl,q,nd,pr⟩:=r';cases pr with
   | cons f pr=>cases pr with
    | cons g pr =>
     cases pr;rename_i b c;have bc:b≠c:=by simp at nd;exact nd
     refine ⟨a,[.ref b,.ref c],rfl,.inl (aM w'.gh (.inl (.inl q))),rfl,.ref b,[.ref c],rfl,.ref c,[],rfl,rfl,?_⟩;exact eo.nx _ _ G' _ (w.trans w') (aX.put2 en w' w.hh hij f.1 g.1 bc f.2 g.2) p'
end
end DL
namespace DL
open PySem L2
theorem GD {K:Frag}{H0 G0 G H G1 H' G':Hp}(w:Wd H0 G0 H G)(w1:Wd H0 G0 H G1)(w':Wd H G1 H' G') :
  ∃G3,Wd H0 G0 H' G3/\aq G G3/\(∀c us,jR K G' c us->jR K G3 c us)/\(∀c us,H' c=some (.tup us)->G3 c=some (.tup us))/\∀x,(∀us,H' x≠some (.tup us))->(∀o us,H' x≠some (.bu o us))->G3 x=G x:=by
 classical
 have gh':aq G H':=w.gh.trans w'.hh;let C:Addr->Prop:=λc=>(∃us,H' c=some (.tup us))\/(H0 c=none/\∃o us,H' c=some (.bu o us))
 obtain ⟨G3,yes,no⟩ : ∃G3:Hp,(∀c,C c->G3 c=H' c)/\∀c,¬C c->G3 c=G c:=⟨λc=>if C c then H' c else G c,λc h=>if_pos h,λc h=>if_neg h⟩
 have sg:aq G G3:=λc o e=>by
  by_cases z:C c
  .rw[yes c z];exact gh' _ _ e
  .rw[no c z];exact e
 refine ⟨G3,⟨w.hh.trans w'.hh,w.gg.trans sg,λc o e=>?_,λc hc=>?_⟩,sg,λc us h=>?_,λc us h=>by rw[yes c (.inl ⟨us,h⟩)];exact h,λx h1 h2=>no x ?_⟩
 .by_cases z:C c
  .rw[yes c z] at e;exact e
  .rw[no c z] at e;exact gh' _ _ e
 .rw[no c ?_]
  .exact w.old c hc
  .obtain ⟨o,e,n⟩:=hc;rintro (⟨us,z⟩ | ⟨z,_⟩)
   .have:=(w.hh.trans w'.hh) _ _ e;rw[z] at this;cases this;exact n us rfl
   .rw[z] at e;cases e
 .rcases h with h | h
  .rcases h with h | ⟨o,h⟩
   .have e:=w'.gh _ _ h;exact .inl (.inl (by rw[yes c (.inl ⟨us,e⟩)];exact e))
   .have e:=w'.gh _ _ h;by_cases z:H0 c=none
    .exact .inl (.inr ⟨o,by rw[yes c (.inr ⟨z,o,_,e⟩)];exact e⟩)
    .have cg:Em H0 c:=by
      cases q:H0 c with
      | none=>exact absurd q z
      | some y =>
       have:=(w.hh.trans w'.hh) _ _ q;rw[e] at this;cases this;exact ⟨_,q,λ_ z=>nomatch z⟩
     have n:¬C c:=by
      rintro (⟨us',k⟩ | ⟨k,_⟩)
      .rw[e] at k;cases k
      .exact z k
     refine .inl (.inr ⟨o,?_⟩);rw[no c n,w.old c cg,<-(w1.trans w').old c cg];exact h
  .exact .inr h
 .rintro (⟨us,z⟩ | ⟨_,o,us,z⟩)
  .exact h1 us z
  .exact h2 o us z
theorem aX.more {K:Frag}{H0 G H G3:Hp}{σ:St}{ρ:aB}(e:aX K H0 G H σ ρ)(sg:aq G G3)(hk:∀x,G x=none->((∃vs,H x=some (.lst vs))\/∃kvs,H x=some (.dT kvs))->G3 x=none):aX K H0 G3 H σ ρ:=by
 obtain ⟨o,e⟩:=e;have own:∀x d,bQ K G H x d->bQ K G3 H x d:=λx d q=>by
  refine q.fS sg (hk x q.1 ?_) λo z=>z;obtain ⟨k1,k2⟩:=q;cases d with
  | lst ds=>obtain ⟨vs,k3,_⟩:=k2;exact .inl ⟨vs,k3⟩
  | dct kvs=>exact .inr ⟨_,k2⟩
  | sen kvs=>exact .inr ⟨_,k2⟩
  | non=>exact k2.elim
  | bl _=>exact k2.elim
  | int _=>exact k2.elim
  | str _=>exact k2.elim
  | tup _=>exact k2.elim
  | scr _=>exact k2.elim
 refine ⟨o,e.len,λi d q=>?_,λi d q=>?_,λi t dss q=>?_⟩
 .obtain ⟨v,h1,h2⟩:=e.p i d q;exact ⟨v,h1,h2.mono sg⟩
 .obtain ⟨b,h1,h2,h3,h4⟩:=e.o i d q;exact ⟨b,h1,h2,h3,own b d h4⟩
 .obtain ⟨b,h1,as,nd,pr,z⟩:=e.n i t dss q;refine ⟨b,h1,as,nd,gO (by rintro x d _ ⟨k1,k2,k3⟩;exact ⟨k1,k2,own x _ k3⟩) pr,?_⟩;cases t with
  | true=>exact sg _ _ z
  | false =>
   obtain ⟨z1,z2,z3,z4,z5⟩:=z;exact ⟨z1,z2,hk b z3 (.inl ⟨_,z5⟩),z4,z5⟩
noncomputable def D.flat:D->Bool
 | .tup es=>es.all D.sc
 | d=>d.sc
theorem Rep.flat {K:Frag}{G' G3:Hp}{v:V}{d:D}(k:∀c us,G' c=some (.tup us)->G3 c=some (.tup us))(r:Rep K G' v d)(f:d.flat=true):Rep K G3 v d:=by
 cases d with
 | tup es =>
  obtain ⟨a,vs,rfl,e,rr⟩:=r.jd;exact Rep.sS (k _ _ e) (Dg rr f)
 | non=>exact r.sc f
 | bl _=>exact r.sc f
 | int _=>exact r.sc f
 | str _=>exact r.sc f
 | lst _=>exact r.sc f
 | scr _=>exact r.sc f
 | dct _=>exact r.sc f
 | sen _=>exact r.sc f
theorem aR.flat {K:Frag}{G' G3:Hp}{vs:List V}{ds:List D}(k:∀c us,G' c=some (.tup us)->G3 c=some (.tup us))(r:aR K G' vs ds)(f:ds.all D.flat=true):aR K G3 vs ds:=by
 induction r with
 | nil=>exact .nil
 | cons h _ ih =>
  rw[List.all_cons,Bool.and_eq_true] at f;exact .cons (h.flat k f.1) (ih f.2)
section
variable {X:Cx} {tg iter:Expr} {te:DT} {body:List Stmt} {g:Tg} {tb:fu} {pos:Pos}
end
section
variable {X:Cx} {e k m:Expr} {tk tm te:DT} {i:Nat} {x:Str} {pos px sp tpos:Pos}
end
end DL
namespace DIt
open PySem PySem.W PySem.Calls PyProof.Rows
structure At (h:Heap)(d:Addr)(es:Array DictEntry)(ep:Nat):Prop where
 ex:∃o,h.get? d=some o/\o.ExactDict/\o.data=.dict es ep
theorem At.ty {s:Shared}{d es ep}(x:At s.heap d es ep):s.TypeIs (.ref d) "dict":=by
 obtain ⟨o,h1,h2,_⟩:=x.ex;exact ⟨o,h1,h2.1⟩
theorem At.keep {h h':Heap}{d es ep}(x:At h d es ep)(k:∀o,h.get? d=some o->h'.get? d=some o):At h' d es ep:=by
 obtain ⟨o,h1,r⟩:=x.ex;exact ⟨o,k _ h1,r⟩
theorem At.lt {h:Heap}{d es ep}(x:At h d es ep):d<h.objs.size:=by
 obtain ⟨o,h1,_⟩:=x.ex;exact Heap.lt_size h1
section
variable {prog:Program} {w:World} {A:Around} {E:Value->Shared->Prop} {s:Shared} {d it:Addr} {es:Array DictEntry} {ep i:Nat}
theorem start {Q:Value->Shared->Prop}(hd:(d == sysModules)=false)(x:At s.heap d es ep)
  (q:Q (.ref s.heap.objs.size) { s with heap:=s.heap.push { cls:=.type "dict_keyiterator",data:=.fields #[.ref d,.int 0 0,.int es.size 0,.int ep 0] } }):wpAny (model prog w) A (pyIter (.ref d)) Q E s:=by
 obtain ⟨o,e1,e2,e3⟩:=x.ex;have ty:=x.ty;refine wpAny_pyIter_slot ty PySem.F.slot_dict_iter (wpAny_call_entry PySem.F.slot_dict_iter ty PySem.F.entry_dict_iter ?_ (PySem.F.args_dict_iter_1 _));unfold Builtin.«dict.__iter__» Builtin.Dict.dictSlotNone;refine wpAny_bind (wpAny_bind (wpAny_notOrdered_dict ty (show wpAny _ _ (pure (Value.ref d)) _ _ s from wpAny_pure ?_)));show wpAny _ _ (Builtin.Dict.showsAll d >>= _) _ _ s;unfold Builtin.Dict.showsAll;rw[if_neg (show ¬(d == sysModules)=true by rw[hd];exact Bool.false_ne_true)];refine wpAny_bind (wpAny_pure (wpAny_bind (wpAny_dictEntries e1 e3 (wpAny_bind (wpAny_dictEpoch e1 e3 ?_)))));refine wpAny_bind (wpAny_newObj_type (wpAny_pure ⟨_,rfl,"dict_keyiterator",_,⟨_,Heap.get?_push_size _ rfl,rfl⟩,PySem.F.slot_dict_keyiterator_next.lookup,?_⟩));simpa [rawInt] using q
theorem item {Q:Option Value->Shared->Prop}(hit:s.heap.IsKeyIter it d i es.size ep)(x:At s.heap d es ep)(hi:i<es.size)
  (hQ:∀h',h'.IsKeyIter it d (i+1) es.size ep->Heap.SameBut it s.heap h'->Q (some es[i].key) { s with heap:=h' }):wpAny (model prog w) A (pyNext (.ref it)) Q E s:=by
 obtain ⟨o,f1,f2,f3⟩:=id hit;obtain ⟨od,e1,e2,e3⟩:=x.ex;unfold pyNext;refine wpAny_bind (wpAny_attempt (wpAny_callSpecial?_slot (name:=Str.ofString "__next__") hit.typeIs PySem.F.slot_dict_keyiterator_next (wpAny_call_entry PySem.F.slot_dict_keyiterator_next hit.typeIs PySem.F.entry_dict_keyiterator_next ?_ (PySem.F.args_dict_keyiterator_next_1 _))));refine wpAny_bind (wpAny_pure (wpAny_bind (wpAny_bind ?_)));first | refine wpAny_bind (wpAny_typeNameOfWhole_keyiter hit.typeIs (wpAny_pure (wpAny_bind (wpAny_fieldsOf f1 f3 ?_)))) | refine wpAny_bind (wpAny_typeNameOf_keyiter hit.typeIs (wpAny_pure (wpAny_bind (wpAny_fieldsOf f1 f3 ?_))))
 have own:Builtin.Dict_items.ownsTuple "dict_keyiterator" = false:=by decide
 simp only[own,Bool.false_eq_true,if_false];show wpAny _ _ (if (Value.ref d == Value.none)=true then _ else _) _ _ s;rw[if_neg (show ¬(Value.ref d == Value.none)=true from Bool.false_ne_true)];refine wpAny_bind (wpAny_pure (wpAny_bind (wpAny_dictEntries e1 e3 ?_)));rw[if_neg (show ¬_ by simp)];refine wpAny_bind (wpAny_pure (wpAny_bind (wpAny_dictEpoch e1 e3 ?_)));rw[if_neg (show ¬_ by simp)];refine wpAny_pure ?_;simp only[show ¬((i:Int)<0) from by lia,if_false,Int.toNat_natCast,Array.getElem?_eq_getElem hi];refine wpAny_bind ?_;first | refine wpAny_bind (wpAny_typeNameOfWhole_keyiter hit.typeIs (wpAny_pure (wpAny_bind (wpAny_isOneOf_keyiter hit.typeIs ?_)))) | refine wpAny_bind (wpAny_typeNameOf_keyiter hit.typeIs (wpAny_pure (wpAny_bind (wpAny_isOneOf_keyiter hit.typeIs ?_))))
 first | refine wpAny_bind (wpAny_isOneOf_keyiter hit.typeIs ?_) | skip
 show wpAny _ _ (setField (.ref it) 1 (rawInt ((i:Int)+1)) >>= _) _ _ s;refine wpAny_bind (wpAny_setField f1 f3 (by simp) ?_);have hit':(s.heap.update it (Obj.mapFields (·.setIfInBounds 1 (rawInt ((i:Int)+1))))).IsKeyIter it d (i+1) es.size ep:=
  ⟨_,Heap.get?_update_self _ f1 (Obj.isFreed_of_fields (Obj.data_mapFields f3 _)),(Obj.cls_mapFields ..).trans f2,by rw[Obj.data_mapFields f3];simp[rawInt]⟩
 refine wpAny_bind (wpAny_holding (wpAny_bind (wpAny_isOneOf_keyiter (s:={ s with heap:=s.heap.update it (Obj.mapFields (·.setIfInBounds 1 (rawInt ((i:Int)+1)))) }) hit'.typeIs ?_)));show wpAny _ _ (pure es[i].key) _ _ _;exact wpAny_pure (wpAny_pure ⟨_,rfl,wpAny_pure (hQ _ hit' (Heap.SameBut.update ..))⟩)
theorem done {Q:Option Value->Shared->Prop}(hh:A.handled=none)(hit:s.heap.IsKeyIter it d es.size es.size ep)(x:At s.heap d es ep)(hQ:∀h',Heap.ExtBut it s.heap h'->Q none { s with heap:=h' }):wpAny (model prog w) A (pyNext (.ref it)) Q E s:=by
 obtain ⟨o,f1,f2,f3⟩:=id hit;obtain ⟨od,e1,e2,e3⟩:=x.ex;unfold pyNext;refine wpAny_bind (wpAny_attempt (wpAny_callSpecial?_slot (name:=Str.ofString "__next__") hit.typeIs PySem.F.slot_dict_keyiterator_next (wpAny_call_entry PySem.F.slot_dict_keyiterator_next hit.typeIs PySem.F.entry_dict_keyiterator_next ?_ (PySem.F.args_dict_keyiterator_next_1 _))));refine wpAny_bind (wpAny_pure (wpAny_bind (wpAny_bind ?_)));first | refine wpAny_bind (wpAny_typeNameOfWhole_keyiter hit.typeIs (wpAny_pure (wpAny_bind (wpAny_fieldsOf f1 f3 ?_)))) | refine wpAny_bind (wpAny_typeNameOf_keyiter hit.typeIs (wpAny_pure (wpAny_bind (wpAny_fieldsOf f1 f3 ?_))))
 have own:Builtin.Dict_items.ownsTuple "dict_keyiterator" = false:=by decide
 simp only[own,Bool.false_eq_true,if_false];show wpAny _ _ (if (Value.ref d == Value.none)=true then _ else _) _ _ s;rw[if_neg (show ¬(Value.ref d == Value.none)=true from Bool.false_ne_true)];refine wpAny_bind (wpAny_pure (wpAny_bind (wpAny_dictEntries e1 e3 ?_)));rw[if_neg (show ¬_ by simp)];refine wpAny_bind (wpAny_pure (wpAny_bind (wpAny_dictEpoch e1 e3 ?_)));rw[if_neg (show ¬_ by simp)];refine wpAny_pure ?_;simp only[show ¬((es.size:Int)<0) from by lia,if_false,Int.toNat_natCast,Array.getElem?_eq_none (Nat.le_refl es.size)];refine wpAny_bind ?_;first | refine wpAny_bind (wpAny_typeNameOfWhole_keyiter hit.typeIs (wpAny_pure ?_)) | skip
 show wpAny _ _ (setField (.ref it) 0 .none >>= _) _ _ s;refine wpAny_bind (wpAny_setField f1 f3 (by simp) ?_);show wpAny _ _ (newExc (.type "StopIteration") [] >>= _) _ _ _;refine wpAny_bind ?_;simp only[newExc,newTuple];refine wpAny_bind (wpAny_newObj_type (wpAny_bind (m:=firstArgMember _ _) (wpAny_of_eq (a:=Value.none) (by first | rfl | (simp only[firstArgMember];rfl)) (wpAny_newObj_type ?_ (by size_fits)))) (by size_fits));simp only[raiseNew];refine wpAny_bind (wpAny_handled ?_);rw[show A.in1.handled=none from hh];refine wpAny_bind (wpAny_pure (wpAny_throw ?_));refine wpAny_bind (wpAny_isInstance (T:="StopIteration") (b:=true) ⟨_,Heap.get?_push_size _ rfl,rfl⟩ isSubtype_stop (wpAny_pure (hQ _ (((Heap.SameBut.update ..).extBut.push _).push _))))
theorem walk (hh:A.handled=none)(I d:Addr)(hne:d≠I)(es:Array DictEntry)(ep:Nat) :
  Walks prog w A I [I,d] [I] es.size (λi v=>∃e,es[i]?=some e/\v=e.key) (λi h=>h.IsKeyIter I d i es.size ep/\At h d es ep) where
 sub:=λb hb=>by simp at hb;simp[hb]
 frame:=λ_ _ _ st hk=>⟨st.1.at λo e=>hk I (by simp) o e,st.2.keep λo e=>hk d (by simp) o e⟩
 item:=λi s Q E hi st hQ=>item st.1 st.2 hi λh' k hs'=>hQ _ h' s.toks ⟨es[i],by simp[hi],rfl⟩ ⟨k,st.2.keep λo e=>hs'.extBut d o hne e⟩ λb o hb e=>hs'.extBut b o (λh=>hb (by simp[h])) e
 done:=λs Q E st hQ=>done hh st.1 st.2 λh' he'=>hQ h' s.toks λb o hb e=>he' b o (λh=>hb (by simp[h])) e
 self:=λ_ _ _ _ st hQ=>wpAny_pyIter_keyiter st.1 hQ
theorem src (lo:(d == sysModules)=false):KdlSrc prog w "dict" d d es.size (λi v=>∃e,es[i]?=some e/\v=e.key) (λh=>At h d es ep) where
 type:=λ_ hm=>hm.ty
 there:=λ_ hm=>⟨hm.lt,hm.lt⟩
 keep:=λ_ _ hm hk=>hm.keep λo e=>hk d (.inl rfl) o e
 notList:=by decide
 notTuple:=by decide
 hint:=λ_ _ _ _ hm hq=>kdl_hint_dict hm.ty hq
 iter:=λ_ _ hh hm=>⟨_,_,(λ_ _ hq=>start lo hm hq),walk hh _ d (Nat.ne_of_lt hm.lt) es ep,⟨⟨_,Heap.get?_push_size _ rfl,rfl,rfl⟩,hm.keep λo e=>Heap.get?_push_of_some _ e⟩⟩
end
end DIt
namespace SoT
open PySem PySem.W PySem.Calls PyProof.Rows
noncomputable def AB (fin:Bool):List Int->List Int->Bool
 | a::r,b::r'=>if a=b then AB fin r r' else decide (a<b)
 | _,_=>fin
noncomputable def Tp (h:Heap)(v:Value)(ns:List Int):Prop:=∃a o xs n,v=.ref a/\h.get? a=some o/\o.cls=.type "tuple"/\o.data=.seq xs n/\IntsAre xs.toList ns
theorem Tp.keep {h h':Heap}{v:Value}{ns:List Int}(k:∀b o,h.get? b=some o->o.cls=.type "tuple"->h'.get? b=some o)(t:Tp h v ns):Tp h' v ns:=by
 obtain ⟨a,o,xs,n,e,h1,h2,r⟩:=t;exact ⟨a,o,xs,n,e,k a o h1 h2,h2,r⟩
section
variable {prog:Program} {w:World} {A:Around} {E:Value->Shared->Prop} {s:Shared}
theorem Ff {b:Bool}{x y:Int}{t u:Tok}{Q:Bool->Shared->Prop}(h:Q (decide (x<y)) s):wpAny (model prog w) A (oneLt' b (.int x t) (.int y u)) Q E s:=by
 cases b with
 | true=>exact oneLt_int h
 | false=>exact kat_one _ _ (PyProof.Rows.lt_int (show Q (decide (x<y)) s from h))
theorem xl {b fin:Bool}{Q:Bool->Shared->Prop}:∀{us vs:List Value} {ns ms:List Int} (i:Nat),IntsAre us ns->IntsAre vs ms->Q (AB fin ns ms) s->KatLex prog w A b fin Q (us.zip vs) i s
 | _,_,_,_,_,.nil,.nil,h=>h
 | _,_,_,_,_,.nil,.cons _ _ _,h=>h
 | _,_,_,_,_,.cons _ _ _,.nil,h=>h
 | _,_,_,_,i,.cons x t r,.cons y u r',h=>by
  rw[List.zip_cons_cons];refine kat_cons (wpAny_eqBool_int ?_);have h':Q (if x=y then AB fin _ _ else decide (x<y)) s:=h;by_cases e:x=y
  .rw[if_pos e] at h';rw[show (x == y)=true by simp[e]];exact kat_yes (xl (i+1) r r' h')
  .rw[if_neg e] at h';rw[show (x == y)=false by simp[e]];exact kat_no (Ff h')
theorem E1 {v u:Value}{ns ms:List Int}{Q:Bool->Shared->Prop}(hv:Tp s.heap v ns)(hu:Tp s.heap u ms)(h:Q (AB (decide (ns.length<ms.length)) ns ms) s):wpAny (model prog w) A (keyLt' (tuples' true) v u) Q E s:=by
 obtain ⟨a,o,xs,n,rfl,h1,h2,h3,h4⟩:=hv;obtain ⟨a',o',xs',n',rfl,g1,g2,g3,g4⟩:=hu;have il:∀{us:List Value} {ns:List Int},IntsAre us ns->us.length=ns.length:=λr=>by
  induction r with
  | nil=>rfl
  | cons _ _ _ ih=>simp[ih]
 have e1:xs.size=ns.length:=by rw[<-il h4];simp
 have e2:xs'.size=ms.length:=by rw[<-il g4];simp
 refine kat_lt h1 h3 g1 g3 (xl 0 h4 g4 ?_);rw[e1,e2];exact h
theorem Aw {h:Heap}:∀{vs:List Value} {nss:List (List Int)},vs.length=nss.length->(∀(i:Nat) v ns,vs[i]?=some v->nss[i]?=some ns->0<ns.length/\Tp h v ns)->∃fs,KatTups h vs fs/\fs.length=vs.length/\∀f∈fs,∃n t,f=Value.int n t
 | [],[],_,_=>⟨[],KatTups.nil,rfl,λ_ z=>nomatch z⟩
 | v::vs,ns::nss,e,f=>by
  obtain ⟨fs,h1,h2,h3⟩:=Aw (vs:=vs) (nss:=nss) (by simpa using e) λi v ns a b=>f (i+1) v ns (by simpa using a) (by simpa using b);obtain ⟨hl,a,o,xs,n,rfl,g1,g2,g3,g4⟩:=f 0 v ns rfl rfl;cases ns with
  | nil=>simp at hl
  | cons x r =>
   cases q:xs.toList with
   | nil=>rw[q] at g4;cases g4
   | cons u us =>
    rw[q] at g4;cases g4 with
    | cons _ t _ =>
     refine ⟨.int x t::fs,KatTups.cons g1 g2 g3 (by rw[<-Array.getElem?_toList,q];rfl) h1,by simp[h2],λf hf=>?_⟩;rcases List.mem_cons.mp hf with rfl | hf
     .exact ⟨x,t,rfl⟩
     .exact h3 f hf
theorem nJ {h:Heap}{a:Addr}{vs:List Value}{out:Array Value}{b:Addr}{o:Obj}(hb:b≠a)(e:h.get? b=some o):(sortedHeap h a vs out).get? b=some o:=by
 unfold sortedHeap;refine (Heap.get?_update_other _ _ (Ne.symm hb)).trans (Heap.get?_push_of_some _ (Heap.get?_push_of_some _ ((Heap.get?_update_other _ _ (Ne.symm hb)).trans e)))
end
end SoT
namespace L2
open PySem PySem.Spec PyProof.Rows
section
variable {X:Cx}
set_option tactic.hygienic true in
theorem oC {P:Program}{w:World}{H:Hp}:∀{ps:List ((Int×Int)×Int)} {xs:List (List Key×Addr×Value)},KT H (DL.encD ps) xs->∃bs:List Addr,Paired (λb p=>H b=some (.tup [.int p.1.1,.int p.1.2])) bs ps/\(xs.map (entryOfKey (tupleKind (cq P w)))).map (·.key)=bs.map Value.ref
 | [],_,r=>by
  have r':KT H [] _:=r;cases r';exact ⟨[],.nil,rfl⟩
 | p::ps,_,r=>by
  have r':KT H ((DL.k2 p.1,V.int p.2)::DL.encD ps) _:=r;cases r' with
  | cons h t =>
   obtain ⟨bs,h1,h2⟩:=oC (P:=P) (w:=w) t;rename_i q qs;refine ⟨q.2.1::bs,.cons h.2.1 h1,?_⟩;rw[map_cons,map_cons,map_cons,h2];rfl
end
end L2
namespace DL
open PySem L2
noncomputable def iq (kvs:dE):List D:=kvs.map λp=>.tup [.int p.1.1,.int p.1.2]
theorem zq {K:Frag}{H G:Hp}{l:Addr}{bs:List Addr}{ps:dE}(s:aq G H)(hl:H l=none)(hb:Paired (λb p=>H b=some (.tup [.int p.1.1,.int p.1.2])) bs ps) :
  ∃G',Wd H G (upd H l (.lst (bs.map V.ref))) G'/\gc K H G' (upd H l (.lst (bs.map V.ref))) (.ref l) (.o (.lst (iq ps))):=by
 obtain ⟨G3,w3,s3,k3,t3,o3⟩:=GD (K:=K) (Wd.refl s) (Wd.refl s) ((Wd.refl s).own hl (s.free hl) (o:=.lst (bs.map V.ref)));have hl3:G3 l=none:=by
  rw[o3 l (λus z=>by rw[ao] at z;cases z) (λo us z=>by rw[ao] at z;cases z)];exact s.free hl
 refine ⟨G3,w3,l,rfl,hl,hl3,bs.map V.ref,ao,?_⟩;unfold iq;clear w3 s3 k3 o3 hl3;induction hb with
 | nil=>exact .nil
 | @cons b p bs ps h _ ih =>
  refine .cons ?_ (ih ?_)
  .refine Rep.sS (t3 b _ ?_) (.cons (.int _) (.cons (.int _) .nil));rw[aj (by rintro rfl;rw[h] at hl;cases hl)];exact h
  .intro c us z;refine t3 c us ?_;by_cases e:c=l
   .subst e;rw[ao] at z;cases z
   .rw[aj e] at z ⊢;exact z
end DL
namespace L2
open PySem PySem.Spec PyProof.Rows
end L2
namespace DL
open PySem L2
end DL
namespace PySem
section
variable {prog:Program} {w:World} {K:Type} [DecidableEq K] {knd:HeapKind prog w K} {A:Around} {E:Value->Shared->Prop} {s:Shared}
end
end PySem
namespace L2
open PySem PySem.Spec PyProof.Rows
section
variable {X:Cx} {pins:List (Addr×Obj)} {σ:St} {H:Hp} {s:Shared} {a b:Addr}
variable {o e f:Expr} {apos cpos:Pos} {td ty tx:TE}
end
end L2
namespace DL
open PySem L2
section
variable {X:Cx} {e f o k:Expr} {te tf td tk:DT} {i j:Nat} {x y:Str} {pos px py apos cpos lp tpos sp:Pos}
noncomputable def CT (K:Frag)(mg:Str->Option Value)(x:Str)(i j:Int):Prop:=∃a,mg x=some (.ref a)/\∀H,jR K H a [.int i,.int j]
end
end DL
namespace L2
open PySem PySem.Spec PyProof.Rows
section
variable {prog:Program} {w:World} {A:Around} {E:Value->Shared->Prop} {s:Shared}
variable {h₀:Heap} {L:Addr} {m:Str->Option Value} {news:List (Addr×Obj)} {b:Bool}
end
end L2
namespace L2
open PySem PySem.Spec PyProof.Rows PySem.W
noncomputable def TabAt (H:Hp)(P:Addr)(q:Str):Prop:=∃qs t,H P=some (.tbl qs)/\qs[0]?=some (.str q t)
theorem TabAt.un {fs ex:List Addr}{H H':Hp}{h h':Heap}{P:Addr}{q:Str}(u:Un fs ex H H' h h')(x:TabAt H P q):TabAt H' P q:=by
 obtain ⟨qs,t,e,e2⟩:=x;obtain ⟨more,e3⟩:=u.nL P qs e;refine ⟨_,t,e3,?_⟩;have hl:0<qs.size:=by
  rcases Nat.eq_zero_or_pos qs.size with z | z
  .rw[Array.getElem?_eq_none (by lia)] at e2;cases e2
  .exact z
 rw[Array.getElem?_append_left hl];exact e2
theorem nz {a b:Int}{t u:Tok}{c:Value}:∀{l:List Value},TriplesOk l->TriplesOk (l++[.int a t,.int b u,c])
 | [],_=>trivial
 | .int _ _::.int _ _::_::rest,h=>nz (l:=rest) h
set_option tactic.hygienic true in
theorem qq {p:Pos}{a b:Int}{t u:Tok}{c cv:Value}:∀{l:List Value},TriplesOk l->codeAmong p (l++[.int a t,.int b u,c])=some cv->codeAmong p l=some cv\/cv=c
 | [],_,h=>by
  simp only[List.nil_append,codeAmong] at h;split at h
  .exact .inr (Option.some.inj h).symm
  .cases h
 | .int x _::.int y _::d::rest,ht,h=>by
  simp only[List.cons_append,codeAmong] at h ⊢;split at h
  .rename_i hc;rw[if_pos hc];exact .inl h
  .rename_i hc;rw[if_neg hc];exact qq (l:=rest) ht h
noncomputable def bb (mg:Str->Option Value)(h:Heap):Prop:=∃bm ob,mg "__builtins__" = some (.ref bm)/\bm≠builtinsNs/\h.get? bm=some ob/\ob.cls=.type "module"/\ob.dict=some builtinsNs/\ob.data=.plain
section
variable {X:Cx} {pins:List (Addr×Obj)} {σ:St} {H:Hp} {s:Shared} {P c:Addr} {E:Value->Shared->Prop} {Q:Value->Shared->Prop}
theorem Az {params:Arguments}{body:Expr}{scope:Scope}{pos:Pos}{clos:List (Str×Addr)}(I:Inv X pins σ H s)(hcode:X.env.code=.ref c)(C:CodeHd X.base c P)(B:bb X.mg X.base)
  (hT:TabAt X.H₀ P (X.env.qual++"<lambda>")) (hcl:closureFor scope X.env=pure clos) (hdef:defaultsOf params X.env=([],[]))
  (h:∀f c' ctv pm h' tk H',Inv X pins σ H' { s with heap:=h',toks:=tk }->(H'=H\/(H c'=none/\H'=upd H c' (.own P)))->h'.get? f=some (kla_obj "<lambda>" (X.env.qual++"<lambda>") params body scope clos pm c' ctv)->H' f=none->s.heap.objs.size<=f ->
   h'.CodeRec (.ref c') (X.env.qual++"<lambda>")->Q (.ref f) { s with heap:=h',toks:=tk }) :
  wpAny (model X.prog X.w) X.A (eval (.Lambda params body scope pos) X.env) Q E s:=by
 obtain ⟨qs,t,hP,hq0⟩:=hT.un I.base;obtain ⟨tb,htb,htr,hcs⟩:=I.bp P _ hP;have hg:=I.mod.glob.keeps I.bk;have hgP:mainGlobals≠P:=λz=>by
  obtain ⟨o,es,ep,e,hd,_⟩:=hg;rw[z,htb] at e;cases e;cases hd
 obtain ⟨bm,ob,b1,b2,b3,b4,b5,b6⟩:=B;have b3':=I.bk _ _ b3;have hbP:bm≠P:=λz=>by rw[z,htb] at b3';cases b3';cases b4
 have hbG:bm≠mainGlobals:=λz=>by
  obtain ⟨o,es,ep,e,hd,_⟩:=hg;rw[z,e] at b3';cases b3';rw[hd] at b6;cases b6
 have hB:s.heap.BuiltinsAt X.mg P:=⟨bm,ob,b1,b2,hbG,hbP,b3',b4,b5,b6⟩
 refine kla_eval hdef ?_;cases hf:codeAmong pos tb.toList with
 | none =>
  refine kla_makeFunction hcl I.ok.glob hg hcode (C.keeps I.bk) htb htr hf hgP hB λc' ctv h' tk hx hge hlt hrec htb'=>?_;have hn:H c'=none:=I.bp.fresh hge;have hPc:P≠c':=aZ hP hn;have keep:∀b o,b≠P->s.heap.get? b=some o->(h'.push (kla_obj "<lambda>" (X.env.qual++"<lambda>") params body scope clos ((X.mg "__name__").getD .none) c' ctv)).get? b=some o:=λb o hb e=>Heap.get?_push_of_some _ (hx b o hb e);have neP:∀b,H b=none->b≠P:=λb e z=>by rw[z,hP] at e;cases e
  have hrec':=hrec.push (kla_obj "<lambda>" (X.env.qual++"<lambda>") params body scope clos ((X.mg "__name__").getD .none) c' ctv);have htb2:=Heap.get?_push_of_some (kla_obj "<lambda>" (X.env.qual++"<lambda>") params body scope clos ((X.mg "__name__").getD .none) c' ctv) htb';have hown:upd H c' (.own P) P=some (.tbl qs):=by rw[aj hPc];exact hP
  have nc:∀b u,H b=some u->upd H c' (.own P) b=some u:=λb u e=>by rw[aj (aZ e hn)];exact e
  have bp:j3 X.prog X.w (upd H c' (.own P)) (h'.push (kla_obj "<lambda>" (X.env.qual++"<lambda>") params body scope clos ((X.mg "__name__").getD .none) c' ctv)):=λb u e=>by
   by_cases hb:b=c'
   .subst hb;rw[ao] at e;cases e;obtain ⟨c2,o2,vs2,t2,e2,g2,_⟩:=hrec';cases e2;exact ⟨_,g2⟩
   .rw[aj hb] at e;by_cases hbP':b=P
    .subst hbP';rw[hP] at e;cases e;have el:(tb++#[rawInt pos.line,rawInt pos.col,Value.ref c']).toList=tb.toList++[rawInt pos.line,rawInt pos.col,Value.ref c']:=by simp
     refine ⟨_,htb2,by rw[el];exact nz htr,λp cv z=>?_⟩;rw[el] at z;rcases qq htr z with z | z
     .obtain ⟨d,q,u,r1,r2,r3,r4⟩:=hcs p cv z;refine ⟨d,q,u,r1,r2,nc _ _ r3,?_⟩;obtain ⟨d2,o2,vs2,t2,e2,g2,r5⟩:=r4;cases e2;exact ⟨d,o2,vs2,t2,rfl,keep _ _ (xp r3 hP (by intro z;cases z)) g2,r5⟩
     .exact ⟨c',_,t,z,hq0,ao,hrec'⟩
    .refine (I.bp b u e).fS (λd v hd g=>keep d v ?_ g) (λd q=>nc _ _ q) λd xs q=>nc _ _ q;rcases hd with rfl | hd
     .exact hbP'
     .exact xp hd hP (by intro z;cases z)
  have hfn:H h'.objs.size=none:=I.bp.fresh (Nat.le_trans hge (Nat.le_of_lt hlt));refine h h'.objs.size c' ctv _ _ tk (upd H c' (.own P)) (I.un (t':=tk) ⟨λb o e n _ _=>keep b o (neP b n) e,λb o e n _ _=>⟨o.slots,keep b o (neP b n) e⟩,λb o e n _=>?_,λb o e _=>?_,λb xs e=>nc _ _ e,λb o u e=>nc _ _ e,λb ps e=>⟨#[],by rw[nc _ _ e];simp⟩⟩ bp) (.inr ⟨hn,rfl⟩)
   (Heap.get?_push_size _ rfl) ?_ (Nat.le_trans hge (Nat.le_of_lt hlt)) hrec'
  .rw[aj (Nat.ne_of_lt (Nat.lt_of_lt_of_le (Heap.lt_size e) hge))];exact n
  .by_cases hb:b=P
   .subst hb;exact ⟨_,htb2⟩
   .exact ⟨_,keep b o hb e⟩
  .rw[aj (Nat.ne_of_gt hlt)];exact hfn
 | some cv =>
  obtain ⟨c',q,u,rfl,r2,r3,r4⟩:=hcs pos cv hf;rw[hq0] at r2;cases r2;refine kla_makeFunctionHit hcl I.ok.glob hg hcode (C.keeps I.bk) htb htr hf hB λctv h' tk hk hsz=>?_;have keep:∀b o,s.heap.get? b=some o->(h'.push (kla_obj "<lambda>" (X.env.qual++"<lambda>") params body scope clos ((X.mg "__name__").getD .none) c' ctv)).get? b=some o:=λb o e=>Heap.get?_push_of_some _ (hk b o e);exact h h'.objs.size c' ctv _ _ tk H (I.kept keep) (.inl rfl) (Heap.get?_push_size _ rfl) (I.bp.fresh hsz) hsz (r4.keeps keep)
end
end L2
namespace L2
open PySem PySem.Spec PyProof.Rows PySem.W
section
variable {X:Cx} {pins:List (Addr×Obj)} {σ:St} {H:Hp} {s:Shared} {A:Around} {E:Value->Shared->Prop} {Q:Value->Shared->Prop}
end
end L2
namespace L2
open PySem PySem.Spec PyProof.Rows PySem.W
end L2
namespace L2
open PySem PySem.Spec PyProof.Rows PySem.W
section
variable {X:Cx} {pins:List (Addr×Obj)} {σ:St} {H:Hp} {s:Shared}
end
section
variable {X:Cx}
end
end L2
namespace L2
open PySem PySem.Spec PyProof.Rows PySem.W
theorem TabAt.same {H H':Hp}{P:Addr}{q:Str}(s:aq H H')(x:TabAt H P q):TabAt H' P q:=by
 obtain ⟨qs,t,e,e2⟩:=x;exact ⟨qs,t,s _ _ e,e2⟩
theorem PE.tab {X:Cx}{e:Expr}{t:TE}{P:Addr}{q:Str}(h:PE X e t)(hT:TabAt X.H₀ P q):PE X e (λσ H Q=>TabAt H P q->t σ H Q):=
 λpins s σ H Q I hw=>h pins s σ H Q I (hw (hT.un I.base))
structure En (K:Frag)(x qual:Str)(st:Stmt)(f:Addr)(fd:FuncData)(P:Addr):Prop where
 ex:∃(oc:Value) (od:Option Addr) (kV doc pm:Value) (an:Option Addr) (c:Addr) (ct:Value) (osl:Array (Option Value)),
  fd=fnOf x qual (az st) (av st) (af st) .none kV doc pm an (.ref c) ct/\K.lookup f=some ⟨oc,od,.func fd,osl⟩/\codeIn K (.ref c) qual=true/\codeHdIn K c P=true
theorem Ce {K:Frag}{x qual:Str}{st:Stmt}{f c P:Addr}{oc:Value}{od an:Option Addr}{osl:Array (Option Value)}{kV doc pm ct:Value}(l:K.lookup f=some ⟨oc,od,.func (fnOf x qual (az st) (av st) (af st) .none kV doc pm an (.ref c) ct),osl⟩)
  (h:codeIn K (.ref c) qual=true) (h2:codeHdIn K c P=true):En K x qual st f (fnOf x qual (az st) (av st) (af st) .none kV doc pm an (.ref c) ct) P:=⟨oc,od,kV,doc,pm,an,c,ct,osl,rfl,l,h,h2⟩
end L2
namespace DL
open PySem L2 PyProof.Rows PySem.W
noncomputable def nK (K:Frag)(P:Addr)(q:Str)(R:DR):Sp:=λvs H Q E=>TabAt H P q/\bN K R vs H Q E
section
variable {X:Cx} {e:Expr} {es:List Expr} {pos:Pos}
theorem vz {x:Str}{k:Nat}{ps:List Str}{R:DR}{p:Pos}{t:eB}{P:Addr}{q:Str}(hT:TabAt X.H₀ P q)(F:Fn X.prog X.w X.K X.mg X.base x k ps (nK X.K P q R))(hr:cY k X.A)(hg:Gl X x)(ha:DA X (e::es) t)
  (hdb:autoParam ((x == ("__debug__" : Str))=false) aZb._auto_1) (he:autoParam (starEach (e::es) X.env=(false,eval e X.env)::starEach es X.env) aZa._auto_1) (hpl:autoParam ((backTo pos (starEach es X.env)).any (·.1)=false) aZa._auto_1) :
  DE X (.Call (.Name x p) (e::es) [] pos) (cN R t):=
 DE.of ((AZ F hr hg ha.pa hdb he hpl).tab hT)<|by
  rintro σ H Q ⟨G,ρ,PP,s,re,h,k⟩ tb;refine ⟨G,ρ,_,s,re,h,λds vs H1 G1 p1 l1 w1 r1=>?_⟩;show nK X.K P q R (vs++[]) H1 Q E0;rw[append_nil];exact ⟨tb.same w1.hh,ds,G1,PP,w1.gh,r1,p1,qM k w1⟩
end
section
variable {P:Program} {w:World} {K:Frag} {mg:Str->Option Value} {base:Heap}
theorem Hj {x qual:Str}{st:Stmt}{f Pt:Addr}{q:Str}{fd:FuncData}{N ps:List Str}{k:Nat}{R:DR}(F:je K x qual st f fd)(S:aC N ps (af st))(len:∀ds Q,R ds Q->ds.length=ps.length)
  (hbody:∀(cdv:Value) (A:Around) (outer:List Env) (s:Shared) (H:Hp) (E:XK),cY k (A.deeper (envOfC qual (af st) s.heap.objs.size f cdv))->TabAt H Pt q ->
   ∃t,sT (rG fU P w K mg base N qual (af st) f cdv A outer s H E).Eb (av st) t/\∀ds Q,R ds Q->t { nx:=λ_=>Q (.p .non),rt:=Q } (ba N.length ds)):bx P w K mg base fU (k+1) f fd ps (nK K Pt q R):=by
 refine F.ok S (by rintro vs H Q E ⟨_,ds,G,P,s,r,h,_⟩;rw[Paired.length r];exact len ds P h) ?_;rintro cdv A outer s H vs Q E hr ⟨tb,ds,G,P,sg,r,h,k⟩;obtain ⟨t,h1,h2⟩:=hbody cdv A outer s H E hr tb;obtain ⟨e1,e2,e3⟩:=fZ (K:=K) N.length r;refine ⟨_,h1.C5 H G,_,G,_,?_,Wd.refl sg,aX.only e2 e1 (iB _ _),h2 ds P h⟩;exact ⟨λσ H' G' ρ w' _ p=>k _ _ H' G' p w' (show Rep K G' V.non D.non from .non),λσ H' G' ρ w' _ p=>p.elim,λσ H' G' ρ w' _ p=>p.elim,λb v H' G' w' r' p=>k b v H' G' p w' r'⟩
theorem Jk {x qual:Str}{st:Stmt}{f Pt:Addr}{q:Str}{fd:FuncData}{N ps:List Str}{k:Nat}{R:DR}(F:En K x qual st f fd Pt)(S:aC N ps (af st))(len:∀ds Q,R ds Q->ds.length=ps.length)
  (hbody:∀(c:Addr) (A:Around) (outer:List Env) (s:Shared) (H:Hp) (E:XK),cY k (A.deeper (envOfC qual (af st) s.heap.objs.size f (.ref c)))->TabAt H Pt q->codeHdIn K c Pt=true ->
   ∃t,sT (rG fU P w K mg base N qual (af st) f (.ref c) A outer s H E).Eb (av st) t/\∀ds Q,R ds Q->t { nx:=λ_=>Q (.p .non),rt:=Q } (ba N.length ds)):bx P w K mg base fU (k+1) f fd ps (nK K Pt q R):=by
 obtain ⟨oc,od,kV,doc,pm,an,c,ct,osl,rfl,lk,hcd,hC⟩:=F.ex;refine D3 lk hcd S (by rintro vs H Q E ⟨_,ds,G,P,s,r,h,_⟩;rw[Paired.length r];exact len ds P h) ?_;rintro A outer s H vs Q E hr ⟨tb,ds,G,P,sg,r,h,k⟩;obtain ⟨t,h1,h2⟩:=hbody c A outer s H E hr tb hC;obtain ⟨e1,e2,e3⟩:=fZ (K:=K) N.length r;refine ⟨_,(h1.C5 H G).Eb,_,G,_,?_,Wd.refl sg,aX.only e2 e1 (iB _ _),h2 ds P h⟩;exact ⟨λσ H' G' ρ w' _ p=>k _ _ H' G' p w' (show Rep K G' V.non D.non from .non),λσ H' G' ρ w' _ p=>p.elim,λσ H' G' ρ w' _ p=>p.elim,λb v H' G' w' r' p=>k b v H' G' p w' r'⟩
end
noncomputable def pG (K:Frag)(P:Addr)(q:Str):Sp:=λvs H Q E=>TabAt H P q/\HL K vs H Q E
theorem CA {P:Program}{w:World}{K:Frag}{mg:Str->Option Value}{base:Heap}{k:Nat}{f Pt:Addr}{q:Str}{fd:FuncData}{ps:List Str}(h:bx P w K mg base fU k f fd ps (nK K Pt q Bm)):bx P w K mg base fU k f fd ps (pG K Pt q):=
 h.imp λvs H Q E ⟨tb,a,ns,e,hs,hl,q⟩=>⟨tb,[.scr ns],H,λb=>b=.p (.bl true),aq.refl _,by rw[e];exact .cons (.scr hs) .nil,⟨ns,rfl,hl,rfl⟩,λb v H' G' hb w r=>by
  subst hb;have:v=.bl true:=Rep.gf r;rw[this];exact q H'⟩
end DL
namespace DL
open PySem PySem.Spec PyProof.Rows L2
noncomputable def kW (K:Frag)(Pt a:Addr)(qn:Str)(o:Obj)(xs:List V):Hp:=λb=>if b=Pt then some (.tbl #[.str qn 0]) else if b=a/\K.lookup a=none then some (.bu o (.lst xs)) else none
theorem sR {K:Frag}{Pt a b:Addr}{qn:Str}{o:Obj}{xs:List V}(h1:b≠Pt)(h2:b≠a):kW K Pt a qn o xs b=none:=by
 unfold kW;rw[if_neg h1,if_neg λz=>h2 z.1]
theorem yF {P:Program}{w:World}{K:Frag}{mg mb:Str->Option Value}{k:Nat}{fa a Pt c:Addr}{qn:Str}{fd:FuncData}{x:Str}{s₁:Shared}{vs:List Value}{ns:List Int}
  (KX:K.In s₁.heap) (hns:s₁.heap.Ns mainGlobals mg) (hb:s₁.heap.Ns builtinsNs mb) (hbb:∀x:Str,x≠"__name__"->mb x=bootBuiltins x) (hlim:s₁.heap.NoLimit) (hg:s₁.gens = #[]) (BM:bb mg s₁.heap)
  (hPt:s₁.heap.get? Pt=some (tabObj #[])) (hK:K.lookup Pt=none) (hC:PySem.W.codeHdIn K c Pt=true)
  (ha:s₁.heap.get? a=some { cls:=.type "list",data:=.seq vs.toArray }) (hi:IntsAre vs ns) (hl:ns.length<=63) (hr:cY k callerA)
  (F:∀base:Heap,K.In base->base.Ns mainGlobals mg->bb mg base->bx P w K mg base fU k fa fd [x] (pG K Pt qn)) (hbind:∀(s:Shared) (u:Value),BindsTo s fd ⟨[u],[]⟩ [(x,u)]) :
  codeAny (model P w) callerA (.call (.ref fa) ⟨[.ref a],[]⟩) (λr s'=>r=.ok (.ret (.bool true))/\OldK s₁.heap s'.heap/\s'.os=s₁.os/\AllBare s'.gens) s₁:=by
 have rv:=rj hi;have lenV:=hi.length;have haP:a≠Pt:=λz=>by rw[z,hPt] at ha;cases ha
 generalize hH:kW K Pt a qn { cls:=.type "list",data:=.seq vs.toArray } (ns.map V.int)=H;have hHP:H Pt=some (.tbl #[.str qn 0]):=by rw[<-hH];unfold kW;rw[if_pos rfl]
 have hHo:∀b,b≠Pt->b≠a->H b=none:=λb h1 h2=>by rw[<-hH];exact sR h1 h2
 have hHa:H a=none/\(∃o,K.lookup a=some o)\/H a=some (.bu { cls:=.type "list",data:=.seq vs.toArray } (.lst (ns.map V.int)))/\K.lookup a=none:=by
  rw[<-hH];unfold kW;rw[if_neg haP];cases q:K.lookup a with
  | none=>exact .inr ⟨by rw[if_pos ⟨rfl,rfl⟩],rfl⟩
  | some o=>exact .inl ⟨by rw[if_neg (λz=>nomatch z.2)],o,rfl⟩
 have small:ns.length<=sizeLine:=by rw[sizeLine_eq];lia
 have bp:j3 P w H s₁.heap:=λb u e=>by
  by_cases h1:b=Pt
  .subst h1;rw[hHP] at e;cases e;exact ⟨#[],hPt,trivial,λpos cv z=>nomatch z⟩
  .by_cases h2:b=a
   .subst h2;rcases hHa with ⟨z,_⟩ | ⟨z,_⟩
    .rw[z] at e;cases e
    .rw[z] at e;cases e;exact ⟨ha,by rw[length_map];exact small,vs,_,rv,ha⟩
   .rw[hHo b h1 h2] at e;cases e
 have dictFree:∀{b:Addr} {o:Obj},s₁.heap.get? b=some o->o.cls≠.none->o.cls≠.type "list"->H b=none:=λ{b o} e d1 d2=>hHo b (λz=>by rw[z,hPt] at e;cases e;exact d1 rfl) (λz=>by rw[z,ha] at e;cases e;exact d2 rfl);have nsFree:∀{b:Addr} {m:Str->Option Value},s₁.heap.Ns b m->(rW s₁.heap H).Ns b m:=λ{b m} ⟨o,es,ep,e,d,r⟩ =>
  ⟨o,es,ep,oI e (hHo b (λz=>by rw[z,hPt] at e;cases e;cases d) (λz=>by rw[z,ha] at e;cases e;cases d)),d,r⟩
 have hKb:K.In (rW s₁.heap H):=λb o e=>oI (KX b o e) (by
  by_cases h1:b=Pt
  .subst h1;rw[hK] at e;cases e
  .by_cases h2:b=a
   .subst h2;rcases hHa with ⟨z,_⟩ | ⟨_,z⟩
    .exact z
    .rw[z] at e;cases e
   .exact hHo b h1 h2)
 have hM:Mod K mg (rW s₁.heap H):=⟨hKb,nsFree hns,⟨mb,nsFree hb,hbb⟩,let ⟨mc,h1,h2⟩:=hlim;⟨mc,nsFree h1,h2⟩⟩
 have hB:bb mg (rW s₁.heap H):=by
  obtain ⟨bm,ob,b1,b2,b3,b4,b5,b6⟩:=BM;exact ⟨bm,ob,b1,b2,oI b3 (dictFree b3 (by rw[b4];intro z;cases z) (by rw[b4];decide)),b4,b5,b6⟩
 have e0:BC P w K mg (rW s₁.heap H) callerA [] s₁ H:=⟨rfl,hM,λb o e=>CP e,Nat.le_of_eq (yx _ _),trivial,λb hb=>absurd (show b∈([]:List Addr) from hb) (by simp),bp,.of_eq hg⟩
 have hS:fV K H a (ns.map V.int):=by
  rcases hHa with ⟨_,o,z⟩ | ⟨z,_⟩
  .have e:=KX a o z;rw[ha] at e;cases e;exact .inr ⟨_,vs.toArray,_,z,rfl,rfl,rfl,by rw[size_toArray,lenV];exact small,by simpa using rv⟩
  .exact .inl (.inr ⟨_,z⟩)
 refine codeAny_mono ((F _ hKb (nsFree hns) hB).run callerA [] s₁ H ⟨[.ref a],[]⟩ [.ref a] [.ref a] (λv _=>v=.bl true) (λ_ _ _=>False) hr e0 (hbind s₁ (.ref a)) (.cons rfl .nil) ⟨⟨_,0,hHP,rfl⟩,a,ns,rfl,hS,hl,λ_=>rfl⟩) λr s' h=>?_;cases r with
 | error e=>exact False.elim h
 | ok fl =>
  cases fl with
  | next=>exact False.elim h
  | brk=>exact False.elim h
  | cont=>exact False.elim h
  | ret u =>
   obtain ⟨v,H',os,bare,un,hok',r',q⟩:=h;have q':v=.bl true:=q;subst q';obtain rfl:u=Value.bool true:=r';refine ⟨rfl,⟨λb o e=>?_,λb o e=>un.there b o e (by simp)⟩,os,bare⟩;by_cases h1:b=Pt
   .subst h1;rw[hPt] at e;cases e;obtain ⟨more,e2⟩:=un.nL _ _ hHP;obtain ⟨tb,e3,_⟩:=hok' _ _ e2;refine .inr (.inl ⟨((codeHd_of_K KX hC).tab hPt).isCodeTable,rfl,#[],tb,rfl,?_⟩);rw[e3];simp
   .refine .inl ?_;cases q:H b with
    | none=>exact un.keep b o e q (by intro z;exact absurd (show b∈([]:List Addr) from z) (by simp)) (by simp)
    | some u =>
     by_cases h2:b=a
     .subst h2;rcases hHa with ⟨z,_⟩ | ⟨z,_⟩
      .rw[q] at z;cases z
      .obtain ⟨e2,_⟩:=hok' _ _ (un.nE _ _ _ z);rw[ha] at e;cases e;exact e2
     .rw[hHo b h1 h2] at q;cases q
theorem By {l:PySem.W.OpenLaw}{k:Nat}{q:Program}{loose:List Str}{XP:(Str->Option Value)->Heap->Prop}{YP:World->Heap->Prop}{d:DefRec}{K:Params->Frag}{x qn:Str}{Pt:Addr}
  (hn:l.most=some 63) (hdf:d.params.defaults = []) (hr:cY k callerA) (hY:∀(w:World) (h:Heap),YP w h->(K w.params).In h/\h.get? Pt=some (tabObj #[]))
  (F:∀(w:World) (mg:Str->Option Value) (fa:Addr) (h:Heap),(K w.params).In h->h.Ns mainGlobals mg->mg d.name=some (.ref fa) ->
   ∃(fd:FuncData) (c:Addr),(K w.params).lookup Pt=none/\PySem.W.codeHdIn (K w.params) c Pt=true/\(∀(s:Shared) (u:Value),BindsTo s fd ⟨[u],[]⟩ [(x,u)]) /\
    ∀base:Heap,(K w.params).In base->base.Ns mainGlobals mg->bb mg base->bx l.prog w (K w.params) mg base fU k fa fd [x] (pG (K w.params) Pt qn)) :
  PySem.W.WalkO q loose XP YP l.row.toRowW d [] (λf vs=>PySem.call f vs):=by
 refine Att.tu hn hdf λw s₀ s₁ mg mb fa o pm cd doc a vs ns G Y ho hd hcd hmg hobj hints hlen hg=>?_;obtain ⟨KX,hPt⟩:=hY w _ Y;obtain ⟨fd,c,hK,hC,hb,hF⟩:=F w mg fa _ KX G.T.g hmg;obtain ⟨bm,ob,b1,b2,b3,b4,b5,b6⟩:=G.T.bmain;exact yF KX G.T.g G.T.b G.T.builtins G.T.nolimit hg ⟨bm,ob,b1,b2,b3,b4,b5,b6⟩ hPt hK hC hobj hints hlen hr hF hb
end DL
namespace Tim
open PySem PyProof.Rows
theorem FJ {α:Type}{R:α->α->Prop}:∀{l:List α},l.length=1->l.Pairwise R
 | [_],_=>List.pairwise_singleton _ _
theorem FK {α:Type}{R:α->α->Prop}:∀{l:List α},l.length<2->l.Pairwise R
 | [],_=>.nil
 | [_],_=>List.pairwise_singleton _ _
noncomputable def cP:Bool->Keyed->Array Keyed->Nat->Nat->Nat->StateT SortSt Sem (Option Nat):=sortPriv% PySem.Builtin.gallop
noncomputable def beyond (left:Bool)(key:Keyed)(arr:Array Keyed)(base:Nat)(i:Nat):StateT SortSt Sem (Option Bool):=do
  let x <-elem' arr (base+i)
  if left then lt' x key else return (<-lt' key x).map (!·)
noncomputable def rV (left:Bool)(key:Keyed)(arr:Array Keyed)(base n lo0 hi0:Nat):StateT SortSt Sem (Option Nat):=do
  let mut lo:=lo0
  let mut hi:=hi0
  for _ in [0:n] do
    if lo>=hi then break
    let m:=lo+(hi - lo) / 2
    let some more <-beyond left key arr base m | return none
    if more then lo:=m+1 else hi:=m
  return some hi
theorem vE (left:Bool)(key:Keyed)(arr:Array Keyed)(base n hint:Nat):cP left key arr base n hint=(do
  let mut lastofs:=0
  let mut ofs:=1
  let some right <-beyond left key arr base hint | return none
  if right then
    let maxofs:=n - hint
    for _ in [0:n] do
      if ofs>=maxofs then break
      let some more <-beyond left key arr base (hint+ofs) | return none
      if !more then break
      lastofs:=ofs
      ofs:=2*ofs+1
    rV left key arr base n (hint+lastofs+1) (hint+min ofs maxofs)
  else
    let maxofs:=hint+1
    for _ in [0:n] do
      if ofs>=maxofs then break
      let some found <-beyond left key arr base (hint - ofs) | return none
      if found then break
      lastofs:=ofs
      ofs:=2*ofs+1
    rV left key arr base n (hint+1 - min ofs maxofs) (hint - lastofs)):=rfl
section
variable {prog:Program} {w:World} {A:Around} {E:Value->Shared->Prop} {s:Shared}
theorem D5 {left:Bool}{key:Keyed}{arr:Array Keyed}{base n lo0 hi0:Nat}{st:SortSt}{Q:Option Nat->SortSt->Prop}(p:Nat->Bool)(mono:∀i j,i<=j->j<n->p j=true->p i=true)
  (hb:∀i,i<n->∀Q':Option Bool->SortSt->Prop,Q' (some (p i)) st->wpS (model prog w) A E s (beyond left key arr base i) Q' st)
  (h:∀k,k<=n->(∀i,i<k->p i=true)->(∀i,k<=i->i<n->p i=false)->Q (some k) st)
  (h1:lo0<=hi0) (h2:hi0<=n) (h3:∀i,i<lo0->p i=true) (h4:∀i,hi0<=i->i<n->p i=false) :
  wpS (model prog w) A E s (rV left key arr base n lo0 hi0) Q st:=by
 unfold rV;refine wpS_bind (wpS_mono (wpS_forRange (I:=λx c st'=>st'=st/\∃lo hi,c=(none,lo,hi)/\lo<=hi/\hi<=n/\hi - lo<=n - x/\(∀i,i<lo->p i=true)/\∀i,hi<=i->i<n->p i=false)
  (Q:=λc st'=>st'=st/\∃k,c.1=none/\c.2.2=k/\k<=n/\(∀i,i<k->p i=true)/\∀i,k<=i->i<n->p i=false) ?step ?fin ⟨rfl,lo0,hi0,rfl,h1,h2,by lia,h3,h4⟩) ?post)
 case step =>
  rintro x c st' _ hx ⟨rfl,lo,hi,rfl,a1,a2,a3,a4,a5⟩;dsimp only;by_cases c:lo>=hi
  .rw[if_pos c];have:lo=hi:=by lia
   subst this;exact wpS_pure ⟨rfl,lo,rfl,rfl,a2,a4,a5⟩
  .rw[if_neg c];refine wpS_bind (hb _ (by lia) _ ?_);dsimp only;cases hp:p (lo+(hi - lo) / 2) with
   | true =>
    simp only[if_true];exact wpS_pure ⟨rfl,_,_,rfl,by lia,a2,by lia,λi hi'=>mono i _ (by lia) (by lia) hp,a5⟩
   | false =>
    simp only[Bool.false_eq_true,if_false];refine wpS_pure ⟨rfl,_,_,rfl,by lia,by lia,by lia,a4,λi h5 h6=>?_⟩;cases hq:p i with
    | false=>rfl
    | true =>
     have:=mono _ i h5 h6 hq;rw[hp] at this;cases this
 case fin =>
  rintro c st' ⟨rfl,lo,hi,rfl,a1,a2,a3,a4,a5⟩;have:lo=hi:=by lia
  subst this;exact ⟨rfl,lo,rfl,rfl,a2,a4,a5⟩
 case post =>
  rintro c st' ⟨rfl,k,e1,e2,a2,a4,a5⟩;rw[e1];dsimp only;rw[e2];exact wpS_pure (h k a2 a4 a5)
theorem oH {left:Bool}{key:Keyed}{arr:Array Keyed}{base n hint:Nat}{st:SortSt}{Q:Option Nat->SortSt->Prop}(p:Nat->Bool)(hh:hint<n)(mono:∀i j,i<=j->j<n->p j=true->p i=true)
  (hb:∀i,i<n->∀Q':Option Bool->SortSt->Prop,Q' (some (p i)) st->wpS (model prog w) A E s (beyond left key arr base i) Q' st)
  (h:∀k,k<=n->(∀i,i<k->p i=true)->(∀i,k<=i->i<n->p i=false)->Q (some k) st):wpS (model prog w) A E s (cP left key arr base n hint) Q st:=by
 have anti:∀i j,i<=j->j<n->p i=false->p j=false:=λi j h1 h2 h3=>by
  cases hq:p j with
  | false=>rfl
  | true =>
   have:=mono i j h1 h2 hq;rw[h3] at this;cases this
 rw[vE];refine wpS_bind (hb hint hh _ ?_);dsimp only;cases hp:p hint with
 | true =>
  simp only[if_true];refine wpS_bind (wpS_mono (wpS_forRange (I:=λx c st'=>st'=st/\∃last ofs,c=(none,last,ofs)/\last<ofs/\x<ofs/\hint+last<n/\p (hint+last)=true)
   (Q:=λc st'=>st'=st/\∃last ofs,c=(none,last,ofs)/\last<ofs/\hint+last<n/\p (hint+last)=true/\(n - hint<=ofs\/(hint+ofs<n/\p (hint+ofs)=false))) ?step ?fin ⟨rfl,0,1,rfl,by lia,by lia,by lia,by rw[Nat.add_zero];exact hp⟩) ?post)
  case step =>
   rintro x c st' _ hx ⟨rfl,last,ofs,rfl,a1,a2,a3,a4⟩;dsimp only;by_cases c:ofs>=n - hint
   .rw[if_pos c];exact wpS_pure ⟨rfl,last,ofs,rfl,a1,a3,a4,.inl c⟩
   .rw[if_neg c];refine wpS_bind (hb _ (by lia) _ ?_);dsimp only;cases hq:p (hint+ofs) with
    | true =>
     simp only[Bool.not_true,Bool.false_eq_true,if_false];exact wpS_pure ⟨rfl,ofs,_,rfl,by lia,by lia,by lia,hq⟩
    | false =>
     simp only[Bool.not_false,if_true];exact wpS_pure ⟨rfl,last,ofs,rfl,a1,a3,a4,.inr ⟨by lia,hq⟩⟩
  case fin =>
   rintro c st' ⟨rfl,last,ofs,rfl,a1,a2,a3,a4⟩;exact ⟨rfl,last,ofs,rfl,a1,a3,a4,.inl (by lia)⟩
  case post =>
   rintro c st' ⟨rfl,last,ofs,rfl,a1,a3,a4,a5⟩;dsimp only;refine D5 (lo0:=hint+last+1) (hi0:=hint+min ofs (n - hint)) p mono hb h (by lia) (by lia) (λi hi=>mono i (hint+last) (by lia) a3 a4) λi h5 h6=>?_;rcases a5 with z | ⟨z1,z2⟩
   .lia
   .exact anti (hint+ofs) i (by lia) h6 z2
 | false =>
  simp only[Bool.false_eq_true,if_false];refine wpS_bind (wpS_mono (wpS_forRange (I:=λx c st'=>st'=st/\∃last ofs,c=(none,last,ofs)/\last<ofs/\x<ofs/\last<=hint/\p (hint - last)=false)
   (Q:=λc st'=>st'=st/\∃last ofs,c=(none,last,ofs)/\last<ofs/\last<=hint/\p (hint - last)=false/\(hint+1<=ofs\/(ofs<=hint/\p (hint - ofs)=true))) ?step ?fin ⟨rfl,0,1,rfl,by lia,by lia,by lia,by rw[Nat.sub_zero];exact hp⟩) ?post)
  case step =>
   rintro x c st' _ hx ⟨rfl,last,ofs,rfl,a1,a2,a3,a4⟩;dsimp only;by_cases c:ofs>=hint+1
   .rw[if_pos c];exact wpS_pure ⟨rfl,last,ofs,rfl,a1,a3,a4,.inl c⟩
   .rw[if_neg c];refine wpS_bind (hb _ (by lia) _ ?_);dsimp only;cases hq:p (hint - ofs) with
    | true =>
     simp only[if_true];exact wpS_pure ⟨rfl,last,ofs,rfl,a1,a3,a4,.inr ⟨by lia,hq⟩⟩
    | false =>
     simp only[Bool.false_eq_true,if_false];exact wpS_pure ⟨rfl,ofs,_,rfl,by lia,by lia,by lia,hq⟩
  case fin =>
   rintro c st' ⟨rfl,last,ofs,rfl,a1,a2,a3,a4⟩;exact ⟨rfl,last,ofs,rfl,a1,a3,a4,.inl (by lia)⟩
  case post =>
   rintro c st' ⟨rfl,last,ofs,rfl,a1,a3,a4,a5⟩;dsimp only;refine D5 (lo0:=hint+1 - min ofs (hint+1)) (hi0:=hint - last) p mono hb h (by lia) (by lia) (λi hi=>?_) λi h5 h6=>anti (hint - last) i (by lia) h6 a4;rcases a5 with z | ⟨z1,z2⟩
   .lia
   .exact mono i (hint - ofs) (by lia) (by lia) z2
end
end Tim
namespace Tim
open PySem PyProof.Rows
noncomputable def bq:Nat->StateT SortSt Sem Unit:=sortPriv% PySem.Builtin.setMinGallop
noncomputable def lL:Array Keyed->Array Keyed->StateT SortSt Sem (Array Keyed):=sortPriv% PySem.Builtin.mergeLo
noncomputable def setG (st:SortSt)(g:Nat):SortSt:=SortSt.mk' (kindOf st) (arrOf st) (pendingOf st) g (failedOf st)
theorem dq (g:Nat):bq g=modify λs=>setG s g:=rfl
noncomputable def d4 (a b out:Array Keyed)(ia ib:Nat):Array Keyed:=out++a.extract ia a.size++b.extract ib b.size
noncomputable def jy (a b out:Array Keyed)(ia ib:Nat):Array Keyed:=out++b.extract ib b.size++a.extract ia a.size
theorem se (a b:Array Keyed):lL a b=(do
  rule "list.sort.merge-lo"
  let total:=a.size+b.size
  let mut out:Array Keyed:=#[<-elem' b 0]
  let mut ia:=0
  let mut ib:=1
  if ib == b.size then return d4 a b out ia ib
  if ia+1 == a.size then return jy a b out ia ib
  let mut minGallop:=gallopOf (<-get)
  for _ in [0:total] do
    let mut acount:=0
    let mut bcount:=0
    for _ in [0:total] do
      let some bWins <-lt' (<-elem' b ib) (<-elem' a ia) | return d4 a b out ia ib
      if bWins then
        out:=out.push (<-elem' b ib);ib:=ib+1;bcount:=bcount+1;acount:=0
        if ib == b.size then return d4 a b out ia ib
        if bcount>=minGallop then break
      else
        out:=out.push (<-elem' a ia);ia:=ia+1;acount:=acount+1;bcount:=0
        if ia+1 == a.size then return jy a b out ia ib
        if acount>=minGallop then break
    rule "list.sort.gallop"
    minGallop:=minGallop+1
    for _ in [0:total] do
      if minGallop>1 then minGallop:=minGallop - 1
      bq minGallop
      let some k <-cP false (<-elem' b ib) a ia (a.size - ia) 0 | return d4 a b out ia ib
      acount:=k
      if k>0 then
        out:=out++a.extract ia (ia+k);ia:=ia+k
        if ia+1 == a.size then return jy a b out ia ib
        if ia == a.size then return d4 a b out ia ib
      out:=out.push (<-elem' b ib);ib:=ib+1
      if ib == b.size then return d4 a b out ia ib
      let some k <-cP true (<-elem' a ia) b ib (b.size - ib) 0 | return d4 a b out ia ib
      bcount:=k
      if k>0 then
        out:=out++b.extract ib (ib+k);ib:=ib+k
        if ib == b.size then return d4 a b out ia ib
      out:=out.push (<-elem' a ia);ia:=ia+1
      if ia+1 == a.size then return jy a b out ia ib
      if acount<7 && bcount<7 then break
    minGallop:=minGallop+1
    bq minGallop
  unsupported "internal:list.sort.merge-bound"):=rfl
structure Ord (Dm:Keyed->Prop)(R:Keyed->Keyed->Bool):Prop where
 tr:∀x y z,Dm x->Dm y->Dm z->R y x=false->R z y=false->R z x=false
 DF:∀x y,Dm x->Dm y->R x y=true->R y x=false
noncomputable def gd (R:Keyed->Keyed->Bool)(l:List Keyed):Prop:=l.Pairwise λx y=>R y x=false
structure MI (R:Keyed->Keyed->Bool)(la lb:List Keyed)(out:List Keyed)(ia ib:Nat):Prop where
 perm:out.Perm (la.take ia++lb.take ib)
 FV:gd R out
 GI:∀x∈out,∀y∈la.drop ia++lb.drop ib,R y x=false
section
variable {R:Keyed->Keyed->Bool} {la lb out:List Keyed} {ia ib:Nat}
theorem jN (l:List Keyed)(i k:Nat):l.take (i+k)=l.take i++(l.drop i).take k:=by rw[List.take_add]
theorem MI.vS (M:MI R la lb out ia ib)(k:Nat)(hs:gd R la)(hc:∀x∈(la.drop ia).take k,∀y∈lb.drop ib,R y x=false):MI R la lb (out++(la.drop ia).take k) (ia+k) ib:=by
 have hd:gd R (la.drop ia):=List.Pairwise.sublist (List.drop_sublist _ _) hs;have hsplit:(la.drop ia)=(la.drop ia).take k++la.drop (ia+k):=by rw[<-List.drop_drop,take_append_drop]
 refine ⟨?_,?_,?_⟩
 .rw[jN];have:=M.perm.append_right ((la.drop ia).take k);refine this.trans ?_;rw[append_assoc,append_assoc];exact List.Perm.append_left _ perm_append_comm
 .refine pairwise_append.mpr ⟨M.FV,List.Pairwise.sublist (List.take_sublist _ _) hd,λx hx y hy=>M.GI x hx y (mem_append_left _ (mem_of_mem_take hy))⟩
 .intro x hx y hy;rcases mem_append.mp hx with z | z
  .refine M.GI x z y ?_;rcases mem_append.mp hy with u | u
   .rw[<-List.drop_drop] at u;exact mem_append_left _ (mem_of_mem_drop u)
   .exact mem_append_right _ u
  .rcases mem_append.mp hy with u | u
   .unfold gd at hd;rw[hsplit] at hd;exact (pairwise_append.mp hd).2.2 x z y u
   .exact hc x z y u
theorem MI.vT (M:MI R la lb out ia ib)(k:Nat)(hs:gd R lb)(hc:∀x∈(lb.drop ib).take k,∀y∈la.drop ia,R y x=false):MI R la lb (out++(lb.drop ib).take k) ia (ib+k):=by
 have hd:gd R (lb.drop ib):=List.Pairwise.sublist (List.drop_sublist _ _) hs;have hsplit:(lb.drop ib)=(lb.drop ib).take k++lb.drop (ib+k):=by rw[<-List.drop_drop,take_append_drop]
 refine ⟨?_,?_,?_⟩
 .rw[jN,<-append_assoc];exact M.perm.append_right _
 .refine pairwise_append.mpr ⟨M.FV,List.Pairwise.sublist (List.take_sublist _ _) hd,λx hx y hy=>M.GI x hx y (mem_append_right _ (mem_of_mem_take hy))⟩
 .intro x hx y hy;rcases mem_append.mp hx with z | z
  .refine M.GI x z y ?_;rcases mem_append.mp hy with u | u
   .exact mem_append_left _ u
   .rw[<-List.drop_drop] at u;exact mem_append_right _ (mem_of_mem_drop u)
  .rcases mem_append.mp hy with u | u
   .exact hc x z y u
   .unfold gd at hd;rw[hsplit] at hd;exact (pairwise_append.mp hd).2.2 x z y u
theorem MI.fin (M:MI R la lb out ia ib){r:List Keyed}(hp:r.Perm (la.drop ia++lb.drop ib))(hs:gd R r):(out++r).Perm (la++lb)/\gd R (out++r):=by
 constructor
 .refine (M.perm.append hp).trans ?_;have e:la++lb=(la.take ia++la.drop ia)++(lb.take ib++lb.drop ib):=by rw[take_append_drop,take_append_drop]
  rw[e,append_assoc,append_assoc];refine List.Perm.append_left _ ?_;rw[<-append_assoc,<-append_assoc];exact List.Perm.append_right _ perm_append_comm
 .exact pairwise_append.mpr ⟨M.FV,hs,λx hx y hy=>M.GI x hx y (hp.mem_iff.mp hy)⟩
end
noncomputable def Good (R:Keyed->Keyed->Bool)(a b out:Array Keyed):Prop:=out.toList.Perm (a.toList++b.toList)/\gd R out.toList
section
variable {R:Keyed->Keyed->Bool} {a b out:Array Keyed} {ia ib:Nat}
theorem ik (a:Array Keyed)(i j:Nat):(a.extract i j).toList=(a.toList.drop i).take (j - i):=by rw[Array.toList_extract,List.extract_eq_take_drop]
theorem jW (a:Array Keyed)(i:Nat):(a.extract i a.size).toList=a.toList.drop i:=by
 rw[ik,take_of_length_le];rw[length_drop,length_toList];exact Nat.le_refl _
theorem MI.wM (M:MI R a.toList b.toList out.toList ia ib)(ha:gd R a.toList)(h:b.size<=ib):Good R a b (d4 a b out ia ib):=by
 have e:b.toList.drop ib = []:=List.drop_eq_nil_of_le (by rw[length_toList];exact h);have:=M.fin (r:=a.toList.drop ia) (by rw[e,append_nil]) (List.Pairwise.sublist (List.drop_sublist _ _) ha);unfold Good d4;rw[Array.toList_append,Array.toList_append,jW,jW,e,append_nil];exact this
theorem MI.GL (M:MI R a.toList b.toList out.toList ia ib)(hb:gd R b.toList)(h:a.size<=ia):Good R a b (d4 a b out ia ib):=by
 have e:a.toList.drop ia = []:=List.drop_eq_nil_of_le (by rw[length_toList];exact h);have:=M.fin (r:=b.toList.drop ib) (by rw[e,List.nil_append]) (List.Pairwise.sublist (List.drop_sublist _ _) hb);unfold Good d4;rw[Array.toList_append,Array.toList_append,jW,jW,e,append_nil];exact this
theorem MI.last (M:MI R a.toList b.toList out.toList ia ib)(hb:gd R b.toList)(h:ia+1=a.size)(hz:∀y∈b.toList,∀z∈a.toList.drop (a.size - 1),R z y=false):Good R a b (jy a b out ia ib):=by
 have hia:ia=a.size - 1:=by lia
 have hl:(a.toList.drop ia).length=1:=by rw[length_drop,length_toList];lia
 have hs1:gd R (a.toList.drop ia):=FJ hl;have:=M.fin (r:=b.toList.drop ib++a.toList.drop ia) perm_append_comm (pairwise_append.mpr ⟨List.Pairwise.sublist (List.drop_sublist _ _) hb,hs1,λx hx y hy=>hz x (mem_of_mem_drop hx) y (by rw[<-hia];exact hy)⟩);unfold Good jy;rw[Array.toList_append,Array.toList_append,jW,jW,append_assoc];exact this
end
end Tim
namespace Tim
open PySem PyProof.Rows
section
variable {Dm:Keyed->Prop} {R:Keyed->Keyed->Bool}
theorem Ord.IY (o:Ord Dm R){x:Keyed}(d:Dm x):R x x=false:=by
 cases h:R x x with
 | false=>rfl
 | true=>exact h.symm.trans (o.DF x x d d h)
theorem fx {l:List Keyed}{i:Nat}{y:Keyed}(h:y∈l.drop i):∃j,i<=j/\l[j]?=some y:=by
 obtain ⟨n,hn,e⟩:=List.mem_iff_getElem.mp h;refine ⟨i+n,Nat.le_add_right _ _,?_⟩;rw[<-e,List.getElem_drop];rw[length_drop] at hn;exact getElem?_eq_getElem (by lia)
theorem bE {l:List Keyed}{i k:Nat}{y:Keyed}(h:y∈(l.drop i).take k):∃j,j<k/\l[i+j]?=some y:=by
 obtain ⟨n,hn,e⟩:=List.mem_iff_getElem.mp h;rw[length_take,length_drop] at hn;refine ⟨n,by lia,?_⟩;rw[<-e,List.getElem_take,List.getElem_drop];exact getElem?_eq_getElem (by lia)
theorem gd.le (o:Ord Dm R){l:List Keyed}(hs:gd R l)(d:∀x∈l,Dm x){i j:Nat}{x y:Keyed}(h:i<=j)(ex:l[i]?=some x)(ey:l[j]?=some y):R y x=false:=by
 by_cases e:i=j
 .subst e;rw[ex] at ey;cases ey;exact o.IY (d x (mem_of_getElem? ex))
 .obtain ⟨h1,e1⟩:=List.getElem?_eq_some_iff.mp ex;obtain ⟨h2,e2⟩:=List.getElem?_eq_some_iff.mp ey;have:=pairwise_iff_getElem.mp hs i j h1 h2 (by lia);rw[e1,e2] at this;exact this
structure Pre (Dm:Keyed->Prop)(R:Keyed->Keyed->Bool)(a b:Array Keyed):Prop where
 o:Ord Dm R
 da:∀x∈a.toList,Dm x
 db:∀x∈b.toList,Dm x
 sa:gd R a.toList
 sb:gd R b.toList
 fst:∀x∈a.toList,∀y,b[0]?=some y->R y x=true
 lst:∀y∈b.toList,∀z,a[a.size - 1]?=some z->R y z=true
 na:0<a.size
 nb:0<b.size
variable {a b out:Array Keyed} {ia ib:Nat} {x y:Keyed}
noncomputable abbrev ML (R:Keyed->Keyed->Bool)(a b out:Array Keyed)(ia ib:Nat):Prop:=MI R a.toList b.toList out.toList ia ib
theorem vZ {a:Array Keyed}{i:Nat}{x:Keyed}(h:a[i]?=some x):a.toList[i]?=some x:=by rw[Array.getElem?_toList];exact h
theorem Pre.Bh (P:Pre Dm R a b)(M:ML R a b out ia ib)(hy:b[ib]?=some y)(h:∀j x,ia<=j->a[j]?=some x->R y x=true):ML R a b (out.push y) ia (ib+1):=by
 have e:(b.toList.drop ib).take 1 = [y]:=by
  have:=vZ hy;obtain ⟨h1,e1⟩:=List.getElem?_eq_some_iff.mp this;rw[drop_eq_getElem_cons h1,e1];rfl
 have:=M.vT 1 P.sb λz hz u hu=>by
  rw[e] at hz;cases mem_singleton.mp hz;obtain ⟨j,h1,h2⟩:=fx hu;rw[Array.getElem?_toList] at h2;exact P.o.DF _ _ (P.db _ (mem_of_getElem? (vZ hy))) (P.da _ (mem_of_mem_drop hu)) (h j u h1 h2)
 rw[e] at this;unfold ML;rw[Array.toList_push];exact this
theorem Pre.Ed (P:Pre Dm R a b)(M:ML R a b out ia ib)(hx:a[ia]?=some x)(h:∀j y,ib<=j->b[j]?=some y->R y x=false):ML R a b (out.push x) (ia+1) ib:=by
 have e:(a.toList.drop ia).take 1 = [x]:=by
  have:=vZ hx;obtain ⟨h1,e1⟩:=List.getElem?_eq_some_iff.mp this;rw[drop_eq_getElem_cons h1,e1];rfl
 have:=M.vS 1 P.sa λz hz u hu=>by
  rw[e] at hz;cases mem_singleton.mp hz;obtain ⟨j,h1,h2⟩:=fx hu;rw[Array.getElem?_toList] at h2;exact h j u h1 h2
 rw[e] at this;unfold ML;rw[Array.toList_push];exact this
theorem Pre.Da (P:Pre Dm R a b){i:Nat}(h:a[i]?=some x):Dm x:=P.da _ (mem_of_getElem? (vZ h))
theorem Pre.Db (P:Pre Dm R a b){i:Nat}(h:b[i]?=some x):Dm x:=P.db _ (mem_of_getElem? (vZ h))
theorem Pre.JT (P:Pre Dm R a b){i j:Nat}(h:i<=j)(hx:a[i]?=some x)(hy:a[j]?=some y):R y x=false:=P.sa.le P.o P.da h (vZ hx) (vZ hy)
theorem Pre.leB (P:Pre Dm R a b){i j:Nat}(h:i<=j)(hx:b[i]?=some x)(hy:b[j]?=some y):R y x=false:=P.sb.le P.o P.db h (vZ hx) (vZ hy)
theorem Pre.JY (P:Pre Dm R a b){i j:Nat}{z:Keyed}(dy:Dm y)(h:i<=j)(hx:a[i]?=some x)(hz:a[j]?=some z)(hl:R y x=true):R y z=true:=by
 cases q:R y z with
 | true=>rfl
 | false =>
  have:=P.o.tr x z y (P.Da hx) (P.Da hz) dy (P.JT h hx hz) q;rw[hl] at this;cases this
theorem Pre.JG (P:Pre Dm R a b){i j:Nat}{z:Keyed}(dx:Dm x)(h:i<=j)(hy:b[i]?=some y)(hz:b[j]?=some z)(hl:R y x=false):R z x=false:=
 P.o.tr x y z dx (P.Db hy) (P.Db hz) hl (P.leB h hy hz)
theorem Pre.Ik (P:Pre Dm R a b){i j:Nat}{z:Keyed}(dy:Dm y)(h:i<=j)(hx:a[i]?=some x)(hz:a[j]?=some z)(hl:R y z=false):R y x=false:=
 P.o.tr x z y (P.Da hx) (P.Da hz) dy (P.JT h hx hz) hl
theorem Pre.JR (P:Pre Dm R a b){i j:Nat}{z:Keyed}(dx:Dm x)(h:i<=j)(hy:b[i]?=some y)(hz:b[j]?=some z)(hl:R z x=true):R y x=true:=by
 cases q:R y x with
 | true=>rfl
 | false =>
  have:=P.JG dx h hy hz q;rw[hl] at this;cases this
theorem Pre.HN (P:Pre Dm R a b)(M:ML R a b out ia ib)(hx:a[ia]?=some x)(hy:b[ib]?=some y)(h:R y x=true):ML R a b (out.push y) ia (ib+1):=
 P.Bh M hy λj z h1 h2=>P.JY (P.Db hy) h1 hx h2 h
theorem Pre.HM (P:Pre Dm R a b)(M:ML R a b out ia ib)(hx:a[ia]?=some x)(hy:b[ib]?=some y)(h:R y x=false):ML R a b (out.push x) (ia+1) ib:=
 P.Ed M hx λj z h1 h2=>P.JG (P.Da hx) h1 hy h2 h
theorem Pre.Jt (P:Pre Dm R a b)(M:ML R a b out ia ib)(k:Nat)(hy:b[ib]?=some y)(h:∀i x,i<k->a[ia+i]?=some x->R y x=false):ML R a b (out++a.extract ia (ia+k)) (ia+k) ib:=by
 have:=M.vS k P.sa λz hz u hu=>by
  obtain ⟨j,h1,h2⟩:=fx hu;obtain ⟨i,h3,h4⟩:=bE hz;rw[Array.getElem?_toList] at h2 h4;exact P.JG (P.Da h4) h1 hy h2 (h i z h3 h4)
 unfold ML;rw[Array.toList_append,ik,show ia+k - ia=k by lia];exact this
theorem Pre.Ju (P:Pre Dm R a b)(M:ML R a b out ia ib)(k:Nat)(hx:a[ia]?=some x)(h:∀i y,i<k->b[ib+i]?=some y->R y x=true):ML R a b (out++b.extract ib (ib+k)) ia (ib+k):=by
 have:=M.vT k P.sb λz hz u hu=>by
  obtain ⟨j,h1,h2⟩:=fx hu;obtain ⟨i,h3,h4⟩:=bE hz;rw[Array.getElem?_toList] at h2 h4;exact P.o.DF _ _ (P.Db h4) (P.Da h2) (P.JY (P.Db h4) h1 hx h2 (h i z h3 h4))
 unfold ML;rw[Array.toList_append,ik,show ib+k - ib=k by lia];exact this
theorem Pre.last (P:Pre Dm R a b)(M:ML R a b out ia ib)(h:ia+1=a.size):Good R a b (jy a b out ia ib):=
 M.last P.sb h λy hy z hz=>by
  obtain ⟨j,h1,h2⟩:=fx hz;rw[Array.getElem?_toList] at h2;have h3:j<a.size:=(Array.getElem?_eq_some_iff.mp h2).1;have e:j=a.size - 1:=by lia
  subst e;exact P.o.DF _ _ (P.db _ hy) (P.Da h2) (P.lst y hy z h2)
theorem Pre.start (P:Pre Dm R a b)(hy:b[0]?=some y):ML R a b #[y] 0 1:=by
 have M0:ML R a b #[] 0 0:=⟨List.Perm.nil,List.Pairwise.nil,λx hx=>nomatch hx⟩
 have:=P.Bh M0 hy λj x _ hx=>P.fst x (mem_of_getElem? (vZ hx)) y hy;exact this
end
section
variable {prog:Program} {w:World} {A:Around} {E:Value->Shared->Prop} {s:Shared}
theorem aP {arr:Array Keyed}{i:Nat}{p:Keyed}{st:SortSt}{Q:Keyed->SortSt->Prop}(h:arr[i]?=some p)(hq:Q p st):wpS (model prog w) A E s (elem' arr i) Q st:=by
 rw[elem'_eq,h];exact wpS_pure hq
noncomputable def aq (st st':SortSt):Prop:=kindOf st'=kindOf st/\arrOf st'=arrOf st/\pendingOf st'=pendingOf st/\failedOf st'=failedOf st
theorem aq.yZ {st:SortSt}:aq st st:=⟨rfl,rfl,rfl,rfl⟩
theorem aq.setG {st st':SortSt}(h:aq st st')(g:Nat):aq st (setG st' g):=h
noncomputable def fM (prog:Program)(w:World)(A:Around)(E:Value->Shared->Prop)(s:Shared)(Dm:Keyed->Prop)(R:Keyed->Keyed->Bool)(κ:SortKind):Prop:=
 ∀(x y:Keyed) (st:SortSt) (Q:Option Bool->SortSt->Prop),Dm x->Dm y->kindOf st=κ->Q (some (R x y)) st->wpS (model prog w) A E s (lt' x y) Q st
variable {Dm:Keyed->Prop} {R:Keyed->Keyed->Bool} {κ:SortKind}
theorem mF (L:fM prog w A E s Dm R κ){key:Keyed}{arr:Array Keyed}{base n hint:Nat}{st:SortSt}{Q:Option Nat->SortSt->Prop}(hk:kindOf st=κ)(dk:Dm key)(hh:hint<n)(hn:base+n<=arr.size)
    (da:∀i x,i<n->arr[base+i]?=some x->Dm x) (mono:∀i j x y,i<=j->j<n->arr[base+i]?=some x->arr[base+j]?=some y->R key y=false->R key x=false)
    (h:∀k,k<=n->(∀i x,i<k->arr[base+i]?=some x->R key x=false)->(∀i x,k<=i->i<n->arr[base+i]?=some x->R key x=true)->Q (some k) st):wpS (model prog w) A E s (cP false key arr base n hint) Q st:=by
  have at_:∀i,i<n->∃x,arr[base+i]?=some x:=λi hi=>⟨arr[base+i]'(by lia),Array.getElem?_eq_getElem (by lia)⟩
  let p:Nat->Bool:=λi=>match arr[base+i]? with | some x=>!R key x | none=>false
  have pe:∀i x,arr[base+i]?=some x->p i = !R key x:=λi x e=>by show (match arr[base+i]? with | some x=>!R key x | none=>false)=_;rw[e]
  refine oH p hh (λi j h1 h2 h3=>?_) (λi hi Q' hq=>?_) λk hk h1 h2=>h k hk (λi x hi hx=>?_) λi x hi hin hx=>?_
  · obtain ⟨x, hx⟩ := at_ i (by lia);obtain ⟨y,hy⟩:=at_ j h2;rw[pe j y hy] at h3;rw[pe i x hx,mono i j x y h1 h2 hx hy (by simpa using h3)];rfl
  · obtain ⟨x,hx⟩:=at_ i hi;rw[pe i x hx] at hq;unfold beyond;refine wpS_bind (aP hx ?_);simp only[Bool.false_eq_true,if_false];refine wpS_bind (L key x st _ dk (da i x hi hx) hk ?_);exact wpS_pure hq
  · have:=h1 i hi;rw[pe i x hx] at this;simpa using this
  · have:=h2 i hi hin;rw[pe i x hx] at this;simpa using this
theorem oG (L:fM prog w A E s Dm R κ){key:Keyed}{arr:Array Keyed}{base n hint:Nat}{st:SortSt}{Q:Option Nat->SortSt->Prop}(hk:kindOf st=κ)(dk:Dm key)(hh:hint<n)(hn:base+n<=arr.size)
    (da:∀i x,i<n->arr[base+i]?=some x->Dm x) (mono:∀i j x y,i<=j->j<n->arr[base+i]?=some x->arr[base+j]?=some y->R y key=true->R x key=true)
    (h:∀k,k<=n->(∀i x,i<k->arr[base+i]?=some x->R x key=true)->(∀i x,k<=i->i<n->arr[base+i]?=some x->R x key=false)->Q (some k) st):wpS (model prog w) A E s (cP true key arr base n hint) Q st:=by
  have at_:∀i,i<n->∃x,arr[base+i]?=some x:=λi hi=>⟨arr[base+i]'(by lia),Array.getElem?_eq_getElem (by lia)⟩
  let p:Nat->Bool:=λi=>match arr[base+i]? with | some x=>R x key | none=>false
  have pe:∀i x,arr[base+i]?=some x->p i=R x key:=λi x e=>by show (match arr[base+i]? with | some x=>R x key | none=>false)=_;rw[e]
  refine oH p hh (λi j h1 h2 h3=>?_) (λi hi Q' hq=>?_) λk hk h1 h2=>h k hk (λi x hi hx=>?_) λi x hi hin hx=>?_
  · obtain ⟨x, hx⟩ := at_ i (by lia);obtain ⟨y,hy⟩:=at_ j h2;rw[pe j y hy] at h3;rw[pe i x hx,mono i j x y h1 h2 hx hy h3]
  · obtain ⟨x,hx⟩:=at_ i hi;rw[pe i x hx] at hq;unfold beyond;refine wpS_bind (aP hx ?_);simp only[if_true];exact L x key st _ (da i x hi hx) dk hk hq
  · have:=h1 i hi;rw[pe i x hx] at this;exact this
  · have:=h2 i hi hin;rw[pe i x hx] at this;exact this
end
end Tim
namespace Tim
open PySem PyProof.Rows
section
variable {prog:Program} {w:World} {A:Around} {E:Value->Shared->Prop} {s:Shared}
variable {Dm:Keyed->Prop} {R:Keyed->Keyed->Bool} {κ:SortKind}
noncomputable abbrev xX:=Option (Array Keyed)×Array Keyed×Nat×Nat×Nat×Nat×Nat
noncomputable def CH (a b out:Array Keyed)(ia ib g k k1:Nat):StateT SortSt Sem (ForInStep xX):=do
  let y <-elem' a ia
  if (ia+1+1 == a.size)=true then pure (.done (some (jy a b (out.push y) (ia+1) ib),out.push y,ia+1,ib,g,k,k1))
  else if (decide (k<7) && decide (k1<7))=true then pure (.done (none,out.push y,ia+1,ib,g,k,k1))
  else pure (.yield (none,out.push y,ia+1,ib,g,k,k1))
noncomputable def CG (a b out:Array Keyed)(ia ib g k bc:Nat):StateT SortSt Sem (ForInStep xX):=do
  let y <-elem' b ib
  if (ib+1 == b.size)=true then pure (.done (some (d4 a b (out.push y) ia (ib+1)),out.push y,ia,ib+1,g,k,bc))
  else do
    let v <-elem' a ia
    let r <-cP true v b (ib+1) (b.size - (ib+1)) 0
    match r with
    | some k1 =>
      if k1>0 then
        if (ib+1+k1 == b.size)=true then pure (.done (some (d4 a b (out.push y++b.extract (ib+1) (ib+1+k1)) ia (ib+1+k1)),out.push y++b.extract (ib+1) (ib+1+k1),ia,ib+1+k1,g,k,k1))
        else CH a b (out.push y++b.extract (ib+1) (ib+1+k1)) ia (ib+1+k1) g k k1
      else CH a b (out.push y) ia (ib+1) g k k1
    | _=>pure (.done (some (d4 a b (out.push y) ia (ib+1)),out.push y,ia,ib+1,g,k,bc))
noncomputable def AG (a b out:Array Keyed)(ia ib g ac bc:Nat):StateT SortSt Sem (ForInStep xX):=do
  bq g
  let y <-elem' b ib
  let r <-cP false y a ia (a.size - ia) 0
  match r with
  | some k =>
    if k>0 then
      if (ia+k+1 == a.size)=true then pure (.done (some (jy a b (out++a.extract ia (ia+k)) (ia+k) ib),out++a.extract ia (ia+k),ia+k,ib,g,k,bc))
      else if (ia+k == a.size)=true then pure (.done (some (d4 a b (out++a.extract ia (ia+k)) (ia+k) ib),out++a.extract ia (ia+k),ia+k,ib,g,k,bc))
      else CG a b (out++a.extract ia (ia+k)) (ia+k) ib g k bc
    else CG a b out ia ib g k bc
  | _=>pure (.done (some (d4 a b out ia ib),out,ia,ib,g,ac,bc))
section
variable {a b out:Array Keyed} {ia ib g k k1 bc ac n0:Nat} {st:SortSt} {Q:ForInStep xX->SortSt->Prop}
noncomputable def QD (R:Keyed->Keyed->Bool)(a b:Array Keyed)(Q:ForInStep xX->SortSt->Prop)(st:SortSt):Prop:=∀r c,Good R a b r->Q (.done (some r,c)) st
noncomputable def QN (R:Keyed->Keyed->Bool)(a b:Array Keyed)(n0:Nat)(Q:ForInStep xX->SortSt->Prop)(st:SortSt):Prop:=∀out ia ib g k k1,ML R a b out ia ib->ib<b.size->ia+1<a.size->n0<ia+ib->Q (.done (none,out,ia,ib,g,k,k1)) st/\Q (.yield (none,out,ia,ib,g,k,k1)) st
theorem uo (P:Pre Dm R a b)(M:ML R a b out ia ib)(h1:ib<b.size)(h2:ia+1<a.size){v:Keyed}(hv:a[ia]?=some v)(hb:∀j x,ib<=j->b[j]?=some x->R x v=false)(hn:n0<=ia+ib)(qd:QD R a b Q st)(qn:QN R a b n0 Q st):wpS (model prog w) A E s (CH a b out ia ib g k k1) Q st:=by
 unfold CH;refine wpS_bind (aP hv ?_);have M3:=P.Ed M hv hb;split
 case isTrue c=>exact wpS_pure (qd _ _ (P.last M3 (beq_iff_eq.mp c)))
 case isFalse c =>
  rw[beq_iff_eq] at c;have z:=qn _ _ _ g k k1 M3 h1 (by lia) (by lia);split
  .exact wpS_pure z.1
  .exact wpS_pure z.2
theorem um (L:fM prog w A E s Dm R κ)(P:Pre Dm R a b)(hk:kindOf st=κ)(M:ML R a b out ia ib)(h1:ib<b.size)(h2:ia+1<a.size){u:Keyed}(hu:b[ib]?=some u)(ha:∀j x,ia<=j->a[j]?=some x->R u x=true)(hn:n0<=ia+ib)(qd:QD R a b Q st)(qn:QN R a b n0 Q st):wpS (model prog w) A E s (CG a b out ia ib g k bc) Q st:=by
 unfold CG;refine wpS_bind (aP hu ?_);have M2:=P.Bh M hu ha;by_cases c7:(ib+1 == b.size)=true
 .rw[if_pos c7];exact wpS_pure (qd _ _ (M2.wM P.sa (by rw[<-beq_iff_eq.mp c7];exact Nat.le_refl _)))
 rw[if_neg c7];have h1':ib+1<b.size:=by
  have:¬ib+1=b.size:=λe=>c7 (beq_iff_eq.mpr e);lia
 obtain ⟨v,hv⟩ : ∃x,a[ia]?=some x:=⟨a[ia],Array.getElem?_eq_getElem (by lia)⟩
 refine wpS_bind (aP hv ?_);refine wpS_bind (oG L hk (P.Da hv) (by lia) (by lia) (λi x _ hx=>P.Db hx) (λi j x y hij _ hx hy=>P.JR (P.Da hv) (by lia) hx hy) λm hm m1 m2=>?_);dsimp only;have m2':∀j x,ib+1+m<=j->b[j]?=some x->R x v=false:=λj x hj hx=>by
  have hjs:j<b.size:=(Array.getElem?_eq_some_iff.mp hx).1;exact m2 (j - (ib+1)) x (by lia) (by lia) (by rw[show ib+1+(j - (ib+1))=j by lia];exact hx)
 by_cases c8:m>0
 .rw[if_pos c8];have Mm:=P.Ju M2 m hv m1;by_cases c9:(ib+1+m == b.size)=true
  .rw[if_pos c9];exact wpS_pure (qd _ _ (Mm.wM P.sa (by rw[<-beq_iff_eq.mp c9];exact Nat.le_refl _)))
  rw[if_neg c9];have h1'':ib+1+m<b.size:=by
   have:¬ib+1+m=b.size:=λe=>c9 (beq_iff_eq.mpr e);lia
  exact uo P Mm h1'' h2 hv m2' (by lia) qd qn
 .rw[if_neg c8];have e0:m=0:=by lia
  subst e0;exact uo P M2 h1' h2 hv m2' (by lia) qd qn
theorem AH (L:fM prog w A E s Dm R κ)(P:Pre Dm R a b)(hk:kindOf st=κ)(M:ML R a b out ia ib)(h1:ib<b.size)(h2:ia+1<a.size)(hn:n0<=ia+ib)(qd:QD R a b Q (setG st g))(qn:QN R a b n0 Q (setG st g)):wpS (model prog w) A E s (AG a b out ia ib g ac bc) Q st:=by
 unfold AG;rw[dq];obtain ⟨u,hu⟩ : ∃x,b[ib]?=some x:=⟨b[ib],Array.getElem?_eq_getElem h1⟩
 refine wpS_bind (wpS_modify (wpS_bind (aP hu ?_)));have hk':kindOf (setG st g)=κ:=hk;refine wpS_bind (mF L hk' (P.Db hu) (by lia) (by lia) (λi x _ hx=>P.Da hx) (λi j x y hij _ hx hy=>P.Ik (P.Db hu) (by lia) hx hy) λk hkn k1 k2=>?_);dsimp only;have k2':∀j x,ia+k<=j->a[j]?=some x->R u x=true:=λj x hj hx=>by
  have hjs:j<a.size:=(Array.getElem?_eq_some_iff.mp hx).1;exact k2 (j - ia) x (by lia) (by lia) (by rw[show ia+(j - ia)=j by lia];exact hx)
 by_cases c4:k>0
 .rw[if_pos c4];have Mk:=P.Jt M k hu k1;by_cases c5:(ia+k+1 == a.size)=true
  .rw[if_pos c5];exact wpS_pure (qd _ _ (P.last Mk (beq_iff_eq.mp c5)))
  rw[if_neg c5];by_cases c6:(ia+k == a.size)=true
  .rw[if_pos c6];exact wpS_pure (qd _ _ (Mk.GL P.sb (by rw[<-beq_iff_eq.mp c6];exact Nat.le_refl _)))
  rw[if_neg c6];have h2':ia+k+1<a.size:=by
   have:¬ia+k+1=a.size:=λe=>c5 (beq_iff_eq.mpr e);have:¬ia+k=a.size:=λe=>c6 (beq_iff_eq.mpr e);lia
  exact um L P hk' Mk h1 h2' hu k2' (by lia) qd qn
 .rw[if_neg c4];have e0:k=0:=by lia
  subst e0;exact um L P hk' M h1 h2 hu k2' hn qd qn
end
noncomputable abbrev DC:=Option (Array Keyed)×Array Keyed×Nat×Nat×Nat×Nat
noncomputable abbrev BG:=Option (Array Keyed)×Array Keyed×Nat×Nat×Nat
noncomputable def Jh (a b:Array Keyed)(g:Nat)(c:DC):StateT SortSt Sem (ForInStep DC):=do
  let y <-elem' b c.2.2.2.1
  let x <-elem' a c.2.2.1
  let r <-lt' y x
  match r with
  | some bW =>
    if bW=true then do
      let z <-elem' b c.2.2.2.1
      if (c.2.2.2.1+1 == b.size)=true then pure (.done (some (d4 a b (c.2.1.push z) c.2.2.1 (c.2.2.2.1+1)),c.2.1.push z,c.2.2.1,c.2.2.2.1+1,0,c.2.2.2.2.2+1))
      else if c.2.2.2.2.2+1>=g then pure (.done (none,c.2.1.push z,c.2.2.1,c.2.2.2.1+1,0,c.2.2.2.2.2+1))
      else pure (.yield (none,c.2.1.push z,c.2.2.1,c.2.2.2.1+1,0,c.2.2.2.2.2+1))
    else do
      let z <-elem' a c.2.2.1
      if (c.2.2.1+1+1 == a.size)=true then pure (.done (some (jy a b (c.2.1.push z) (c.2.2.1+1) c.2.2.2.1),c.2.1.push z,c.2.2.1+1,c.2.2.2.1,c.2.2.2.2.1+1,0))
      else if c.2.2.2.2.1+1>=g then pure (.done (none,c.2.1.push z,c.2.2.1+1,c.2.2.2.1,c.2.2.2.2.1+1,0))
      else pure (.yield (none,c.2.1.push z,c.2.2.1+1,c.2.2.2.1,c.2.2.2.2.1+1,0))
  | _=>pure (.done (some (d4 a b c.2.1 c.2.2.1 c.2.2.2.1),c.2.1,c.2.2.1,c.2.2.2.1,c.2.2.2.2.1,c.2.2.2.2.2))
noncomputable def Jf (a b:Array Keyed)(c:xX):StateT SortSt Sem (ForInStep xX):=if c.2.2.2.2.1>1 then AG a b c.2.1 c.2.2.1 c.2.2.2.1 (c.2.2.2.2.1 - 1) c.2.2.2.2.2.1 c.2.2.2.2.2.2 else AG a b c.2.1 c.2.2.1 c.2.2.2.1 c.2.2.2.2.1 c.2.2.2.2.2.1 c.2.2.2.2.2.2
noncomputable def Je (a b:Array Keyed)(g:Nat)(c:DC):StateT SortSt Sem (ForInStep BG):=do
  liftM (rule "list.sort.gallop")
  let d <-forIn [:a.size+b.size] ((none,c.2.1,c.2.2.1,c.2.2.2.1,g+1,c.2.2.2.2.1,c.2.2.2.2.2):xX) λ_ d=>Jf a b d
  match d.1 with
  | some r=>pure (.done (some r,d.2.1,d.2.2.1,d.2.2.2.1,d.2.2.2.2.1))
  | none=>do
    bq (d.2.2.2.2.1+1)
    pure (.yield (none,d.2.1,d.2.2.1,d.2.2.2.1,d.2.2.2.2.1+1))
noncomputable def Jg (a b:Array Keyed)(c:BG):StateT SortSt Sem (ForInStep BG):=do
  let d <-forIn [:a.size+b.size] ((none,c.2.1,c.2.2.1,c.2.2.2.1,0,0):DC) λ_ d=>Jh a b c.2.2.2.2 d
  match d.1 with
  | some r=>pure (.done (some r,d.2.1,d.2.2.1,d.2.2.2.1,c.2.2.2.2))
  | none=>Je a b c.2.2.2.2 d
theorem bind_eq {α β:Type}{x y:StateT SortSt Sem α}{f g:α->StateT SortSt Sem β}(h1:x=y)(h2:∀a,f a=g a):(x >>= f)=(y >>= g):=by rw[h1,funext h2]
theorem sf (a b:Array Keyed):lL a b=(do
  liftM (rule "list.sort.merge-lo")
  let x <-elem' b 0
  if (1 == b.size)=true then pure (d4 a b #[x] 0 1)
  else if (0+1 == a.size)=true then pure (jy a b #[x] 0 1)
  else do
    let s <-get
    let c <-forIn [:a.size+b.size] ((none,#[x],0,1,gallopOf s):BG) λ_ c=>Jg a b c
    match c.1 with
    | some r=>pure r
    | none=>liftM (unsupported "internal:list.sort.merge-bound")):=by
  rw[se];dsimp only;refine bind_eq rfl λ_=>bind_eq rfl λx=>congrArg _ (congrArg _ (bind_eq rfl λs=>bind_eq (congrArg _ (funext λ_=>funext λc=>bind_eq rfl λd=>?_)) λc=>?_))
  · rcases d with ⟨_ | r,d⟩
    · refine bind_eq rfl λ_=>bind_eq rfl λd=>?_;rcases d with ⟨_ | r,d⟩<;>rfl
    · rfl
  · rcases c with ⟨_ | r,c⟩<;>rfl
section
variable {a b:Array Keyed} {st:SortSt}
noncomputable def xW (R:Keyed->Keyed->Bool)(a b:Array Keyed)(n:Nat)(out:Array Keyed)(ia ib:Nat):Prop:=ML R a b out ia ib/\ib<b.size/\ia+1<a.size/\n<=ia+ib
theorem CF (L:fM prog w A E s Dm R κ)(P:Pre Dm R a b)(hk:kindOf st=κ){n g ia ib ac bc:Nat}{out:Array Keyed}{Q:ForInStep DC->SortSt->Prop}(M0:xW R a b n out ia ib)(qd:∀r c,Good R a b r->Q (.done (some r,c)) st)(qn:∀out ia ib ac bc,xW R a b (n+1) out ia ib->Q (.done (none,out,ia,ib,ac,bc)) st/\Q (.yield (none,out,ia,ib,ac,bc)) st):wpS (model prog w) A E s (Jh a b g (none,out,ia,ib,ac,bc)) Q st:=by
 obtain ⟨M,h1,h2,h3⟩:=M0;unfold Jh;obtain ⟨u,hu⟩ : ∃x,b[ib]?=some x:=⟨b[ib],Array.getElem?_eq_getElem h1⟩
 obtain ⟨v,hv⟩ : ∃x,a[ia]?=some x:=⟨a[ia],Array.getElem?_eq_getElem (by lia)⟩
 refine wpS_bind (aP hu (wpS_bind (aP hv (wpS_bind (L u v _ _ (P.Db hu) (P.Da hv) hk ?_)))));cases c3:R u v with
 | true =>
  have M':=P.HN M hv hu c3;refine wpS_bind (aP hu ?_);split
  case isTrue c=>exact wpS_pure (qd _ _ (M'.wM P.sa (by rw[<-beq_iff_eq.mp c];exact Nat.le_refl _)))
  case isFalse c =>
   have c:¬ib+1=b.size:=λz=>c (beq_iff_eq.mpr z);have z:=qn (out.push u) ia (ib+1) 0 (bc+1) ⟨M',by lia,h2,by lia⟩;split
   .exact wpS_pure z.1
   .exact wpS_pure z.2
 | false =>
  have M':=P.HM M hv hu c3;refine wpS_bind (aP hv ?_);split
  case isTrue c=>exact wpS_pure (qd _ _ (P.last M' (beq_iff_eq.mp c)))
  case isFalse c =>
   have c:¬ia+1+1=a.size:=λz=>c (beq_iff_eq.mpr z);have z:=qn (out.push v) (ia+1) ib (ac+1) 0 ⟨M',h1,by lia,by lia⟩;split
   .exact wpS_pure z.1
   .exact wpS_pure z.2
theorem CC (L:fM prog w A E s Dm R κ)(P:Pre Dm R a b){st0:SortSt}(hk:kindOf st0=κ)(hS:aq st0 st){n:Nat}{d:xX}(h:d.1=none/\xW R a b n d.2.1 d.2.2.1 d.2.2.2.1){Q:ForInStep xX->SortSt->Prop}(qd:∀r c st',aq st0 st'->Good R a b r->Q (.done (some r,c)) st')(qn:∀d st',aq st0 st'->d.1=none/\xW R a b (n+1) d.2.1 d.2.2.1 d.2.2.2.1->Q (.done d) st'/\Q (.yield d) st'):wpS (model prog w) A E s (Jf a b d) Q st:=by
 obtain ⟨_,M,h1,h2,h3⟩:=h;have key:∀g,wpS (model prog w) A E s (AG a b d.2.1 d.2.2.1 d.2.2.2.1 g d.2.2.2.2.2.1 d.2.2.2.2.2.2) Q st:=λg =>
  AH (n0:=d.2.2.1+d.2.2.2.1) L P (hS.1.trans hk) M h1 h2 (Nat.le_refl _) (λr c hG=>qd r c _ (hS.setG _) hG) λout' ia' ib' g2 k k1 M' i1 i2 i3=>qn _ _ (hS.setG _) ⟨rfl,M',i1,i2,by dsimp only;lia⟩
 unfold Jf;split
 .exact key _
 .exact key _
theorem CB (L:fM prog w A E s Dm R κ)(P:Pre Dm R a b){st0:SortSt}(hk:kindOf st0=κ)(hS:aq st0 st){n g:Nat}{c:DC}(h:xW R a b n c.2.1 c.2.2.1 c.2.2.2.1){Q:ForInStep BG->SortSt->Prop}(qd:∀r c st',aq st0 st'->Good R a b r->Q (.done (some r,c)) st')(qn:∀d st',aq st0 st'->d.1=none/\xW R a b n d.2.1 d.2.2.1 d.2.2.2.1->Q (.yield d) st'):wpS (model prog w) A E s (Je a b g c) Q st:=by
 unfold Je;refine wpS_bind (wpS_lift (wpAny_rule ⟨rfl,wpS_bind (wpS_mono (wpS_forRange
  (I:=λy (d:xX) st'=>aq st0 st'/\d.1=none/\xW R a b (n+y) d.2.1 d.2.2.1 d.2.2.2.1)
  (Q:=λ(d:xX) st'=>aq st0 st'/\((∃r,d.1=some r/\Good R a b r)\/d.1=none/\xW R a b n d.2.1 d.2.2.1 d.2.2.2.1)) ?_ ?_ ⟨hS,rfl,h⟩) ?_)⟩))
 .rintro y d st' _ hy ⟨hS,z⟩;refine CC L P hk hS z (λr c st' hS hG=>⟨hS,.inl ⟨r,rfl,hG⟩⟩) λd st' hS z=>⟨⟨hS,.inr ⟨z.1,z.2.1,z.2.2.1,z.2.2.2.1,?_⟩⟩,hS,z⟩
  have:=z.2.2.2.2;lia
 .rintro d st' ⟨hS,_,M,h1,h2,h3⟩;lia
 .rintro d st' ⟨hS,⟨r,e,hG⟩ | ⟨e,z⟩⟩
  .rw[e];exact wpS_pure (qd _ _ _ hS hG)
  .rw[e];dsimp only;rw[dq];exact wpS_bind (wpS_modify (wpS_pure (qn _ _ (hS.setG _) ⟨rfl,z⟩)))
theorem CD (L:fM prog w A E s Dm R κ)(P:Pre Dm R a b){st0:SortSt}(hk:kindOf st0=κ)(hS:aq st0 st){n:Nat}{c:BG}(h:xW R a b n c.2.1 c.2.2.1 c.2.2.2.1){Q:ForInStep BG->SortSt->Prop}(qd:∀r c st',aq st0 st'->Good R a b r->Q (.done (some r,c)) st')(qn:∀d st',aq st0 st'->d.1=none/\xW R a b (n+1) d.2.1 d.2.2.1 d.2.2.2.1->Q (.yield d) st'):wpS (model prog w) A E s (Jg a b c) Q st:=by
 unfold Jg;refine wpS_bind (wpS_mono (wpS_forRange
  (I:=λy (d:DC) st'=>st'=st/\d.1=none/\xW R a b (n+y) d.2.1 d.2.2.1 d.2.2.2.1)
  (Q:=λ(d:DC) st'=>st'=st/\((∃r,d.1=some r/\Good R a b r)\/d.1=none/\xW R a b (n+1) d.2.1 d.2.2.1 d.2.2.2.1)) ?_ ?_ ⟨rfl,rfl,h⟩) ?_)
 .rintro y ⟨x,out,ia,ib,ac,bc⟩ st' _ hy ⟨rfl,e,z⟩;obtain rfl:x=none:=e;refine CF L P (hS.1.trans hk) z (λr c hG=>⟨rfl,.inl ⟨r,rfl,hG⟩⟩) λout ia ib ac bc z=>⟨⟨rfl,.inr ⟨rfl,z.1,z.2.1,z.2.2.1,?_⟩⟩,rfl,rfl,z⟩
  have:=z.2.2.2;dsimp only;lia
 .rintro d st' ⟨rfl,_,M,h1,h2,h3⟩;lia
 .rintro d st' ⟨rfl,⟨r,e,hG⟩ | ⟨e,z⟩⟩
  .rw[e];exact wpS_pure (qd _ _ _ hS hG)
  .rw[e];exact CB L P hk hS z qd qn
end
theorem uw (L:fM prog w A E s Dm R κ){a b:Array Keyed}(P:Pre Dm R a b){st:SortSt}(hk:kindOf st=κ){Q:Array Keyed->SortSt->Prop}(h:∀r st',aq st st'->Good R a b r->Q r st'):wpS (model prog w) A E s (lL a b) Q st:=by
 have pa:=P.na;have pb:=P.nb;obtain ⟨b0,hb0⟩ : ∃x,b[0]?=some x:=⟨b[0],Array.getElem?_eq_getElem pb⟩
 have M1:=P.start hb0;rw[sf];refine wpS_bind (wpS_lift (wpAny_rule ⟨rfl,wpS_bind (aP hb0 ?_)⟩));split
 case isTrue c=>exact wpS_pure (h _ _ .yZ (M1.wM P.sa (by rw[<-beq_iff_eq.mp c];exact Nat.le_refl _)))
 case isFalse c1 =>
  split
  case isTrue c=>exact wpS_pure (h _ _ .yZ (P.last M1 (beq_iff_eq.mp c)))
  case isFalse c2 =>
   rw[beq_iff_eq] at c1 c2;refine wpS_bind (wpS_get (wpS_bind (wpS_mono (wpS_forRange
    (I:=λx (c:BG) st'=>aq st st'/\c.1=none/\xW R a b (1+x) c.2.1 c.2.2.1 c.2.2.2.1)
    (Q:=λ(c:BG) st'=>aq st st'/\∃r,c.1=some r/\Good R a b r) ?_ ?_ ⟨.yZ,rfl,M1,?_⟩) ?_)))
   .rintro x c st' _ hx ⟨hS,_,z⟩;exact CD L P hk hS z (λr c st' hS hG=>⟨hS,r,rfl,hG⟩) λd st' hS z=>⟨hS,z⟩
   .rintro c st' ⟨hS,_,M,h1,h2,h3⟩;lia
   .dsimp only;lia
   .rintro c st' ⟨hS,r,e,hG⟩;rw[e];exact wpS_pure (h _ _ hS hG)
end
end Tim
namespace Tim
open PySem PyProof.Rows
noncomputable def lK:Array Keyed->Array Keyed->StateT SortSt Sem (Array Keyed):=sortPriv% PySem.Builtin.mergeHi
noncomputable def dZ (a b out:Array Keyed)(na nb:Nat):Array Keyed:=a.extract 0 na++b.extract 0 nb++out.reverse
noncomputable def pS (a b out:Array Keyed)(na nb:Nat):Array Keyed:=b.extract 0 nb++a.extract 0 na++out.reverse
theorem r9 (a b:Array Keyed):lK a b=(do
  rule "list.sort.merge-hi"
  let total:=a.size+b.size
  let mut na:=a.size - 1
  let mut nb:=b.size
  let mut out:Array Keyed:=#[<-elem' a na]
  if na == 0 then return dZ a b out na nb
  if nb == 1 then return pS a b out na nb
  let mut minGallop:=gallopOf (<-get)
  for _ in [0:total] do
    let mut acount:=0
    let mut bcount:=0
    for _ in [0:total] do
      let some aWins <-lt' (<-elem' b (nb - 1)) (<-elem' a (na - 1)) | return dZ a b out na nb
      if aWins then
        na:=na - 1;out:=out.push (<-elem' a na);acount:=acount+1;bcount:=0
        if na == 0 then return dZ a b out na nb
        if acount>=minGallop then break
      else
        nb:=nb - 1;out:=out.push (<-elem' b nb);bcount:=bcount+1;acount:=0
        if nb == 1 then return pS a b out na nb
        if bcount>=minGallop then break
    rule "list.sort.gallop"
    minGallop:=minGallop+1
    for _ in [0:total] do
      if minGallop>1 then minGallop:=minGallop - 1
      bq minGallop
      let some at_ <-cP false (<-elem' b (nb - 1)) a 0 na (na - 1) | return dZ a b out na nb
      let k:=na - at_
      acount:=k
      if k>0 then
        out:=out++(a.extract at_ na).reverse;na:=at_
        if na == 0 then return dZ a b out na nb
      nb:=nb - 1;out:=out.push (<-elem' b nb)
      if nb == 1 then return pS a b out na nb
      let some at_ <-cP true (<-elem' a (na - 1)) b 0 nb (nb - 1) | return dZ a b out na nb
      let k:=nb - at_
      bcount:=k
      if k>0 then
        out:=out++(b.extract at_ nb).reverse;nb:=at_
        if nb == 1 then return pS a b out na nb
        if nb == 0 then return dZ a b out na nb
      na:=na - 1;out:=out.push (<-elem' a na)
      if na == 0 then return dZ a b out na nb
      if acount<7 && bcount<7 then break
    minGallop:=minGallop+1
    bq minGallop
  unsupported "internal:list.sort.merge-bound"):=rfl
section
variable {Dm:Keyed->Prop} {R:Keyed->Keyed->Bool}
noncomputable abbrev Rf (R:Keyed->Keyed->Bool):Keyed->Keyed->Bool:=λx y=>R y x
theorem gd.rev {l:List Keyed}(h:gd R l):gd (Rf R) l.reverse:=List.pairwise_reverse.mpr h
theorem gd.Ig {l:List Keyed}(h:gd (Rf R) l):gd R l.reverse:=List.pairwise_reverse.mpr h
theorem nY (l:List Keyed){n m:Nat}(h1:m<=n)(h2:n<=l.length):(l.reverse.drop (l.length - n)).take (n - m)=((l.drop m).take (n - m)).reverse:=by
 rw[List.drop_reverse,List.take_reverse,<-List.drop_take,length_take];congr 2
 .congr 1;lia
 .congr 1;lia
theorem nX (l:List Keyed){n:Nat}(h2:n<=l.length):l.reverse.drop (l.length - n)=(l.take n).reverse:=by
 rw[List.drop_reverse];congr 2;lia
variable {a b out:Array Keyed} {na nb:Nat} {x y:Keyed}
noncomputable abbrev MH (R:Keyed->Keyed->Bool)(a b out:Array Keyed)(na nb:Nat):Prop:=MI (Rf R) a.toList.reverse b.toList.reverse out.toList (a.toList.length - na) (b.toList.length - nb)
theorem jz {l:List Keyed}{i:Nat}{y:Keyed}(h:y∈l.take i):∃j,j<i/\l[j]?=some y:=by
 have:=bE (i:=0) (by simpa using h);simpa using this
theorem Pre.HF (P:Pre Dm R a b)(M:MH R a b out na nb){m:Nat}(h1:m<=na)(h2:na<=a.size)(h3:nb<=b.size)(h:∀i x,m<=i->i<na->a[i]?=some x->∀j y,j<nb->b[j]?=some y->R x y=false){out':Array Keyed}(eo:out'.toList=out.toList++((a.toList.drop m).take (na - m)).reverse):MH R a b out' m nb:=by
 have hl:na<=a.toList.length:=by rw[length_toList];exact h2
 have hl':nb<=b.toList.length:=by rw[length_toList];exact h3
 have:=M.vS (na - m) P.sa.rev λz hz u hu=>by
  rw[nY _ h1 hl,List.mem_reverse] at hz;rw[nX _ hl',List.mem_reverse] at hu;obtain ⟨j,h4,h5⟩:=jz hu;obtain ⟨i,h6,h7⟩:=bE hz;rw[Array.getElem?_toList] at h5 h7;exact h (m+i) z (by lia) (by lia) h7 j u h4 h5
 rw[nY _ h1 hl,<-eo,show a.toList.length - na+(na - m)=a.toList.length - m by lia] at this;exact this
theorem Pre.HG (P:Pre Dm R a b)(M:MH R a b out na nb){m:Nat}(h1:m<=nb)(h2:na<=a.size)(h3:nb<=b.size)(h:∀i x,m<=i->i<nb->b[i]?=some x->∀j y,j<na->a[j]?=some y->R x y=false){out':Array Keyed}(eo:out'.toList=out.toList++((b.toList.drop m).take (nb - m)).reverse):MH R a b out' na m:=by
 have hl:na<=a.toList.length:=by rw[length_toList];exact h2
 have hl':nb<=b.toList.length:=by rw[length_toList];exact h3
 have:=M.vT (nb - m) P.sb.rev λz hz u hu=>by
  rw[nY _ h1 hl',List.mem_reverse] at hz;rw[nX _ hl,List.mem_reverse] at hu;obtain ⟨j,h4,h5⟩:=jz hu;obtain ⟨i,h6,h7⟩:=bE hz;rw[Array.getElem?_toList] at h5 h7;exact h (m+i) z (by lia) (by lia) h7 j u h4 h5
 rw[nY _ h1 hl',<-eo,show b.toList.length - nb+(nb - m)=b.toList.length - m by lia] at this;exact this
theorem xy {a:Array Keyed}{n:Nat}{x:Keyed}(h0:0<n)(h:a[n - 1]?=some x):((a.toList.drop (n - 1)).take (n - (n - 1))).reverse = [x]:=by
 have:=vZ h;obtain ⟨h1,e1⟩:=List.getElem?_eq_some_iff.mp this;rw[drop_eq_getElem_cons h1,e1,show n - (n - 1)=1 by lia];rfl
theorem Pre.ER (P:Pre Dm R a b)(M:MH R a b out na nb)(h0:0<na)(h2:na<=a.size)(h3:nb<=b.size)(hx:a[na - 1]?=some x)(h:∀j y,j<nb->b[j]?=some y->R x y=false):MH R a b (out.push x) (na - 1) nb:=
 P.HF M (by lia) h2 h3 (λi z h4 h5 h6=>by
  have e:i=na - 1:=by lia
  subst e;rw[hx] at h6;cases h6;exact h) (by rw[xy h0 hx,Array.toList_push])
theorem Pre.GO (P:Pre Dm R a b)(M:MH R a b out na nb)(h0:0<nb)(h2:na<=a.size)(h3:nb<=b.size)(hx:b[nb - 1]?=some x)(h:∀j y,j<na->a[j]?=some y->R x y=false):MH R a b (out.push x) na (nb - 1):=
 P.HG M (by lia) h2 h3 (λi z h4 h5 h6=>by
  have e:i=nb - 1:=by lia
  subst e;rw[hx] at h6;cases h6;exact h) (by rw[xy h0 hx,Array.toList_push])
theorem wN {a out:Array Keyed}{m n:Nat}:(out++(a.extract m n).reverse).toList=out.toList++((a.toList.drop m).take (n - m)).reverse:=by
 rw[Array.toList_append,Array.toList_reverse,ik]
theorem Pre.JO (P:Pre Dm R a b){i j:Nat}{z:Keyed}(dx:Dm x)(h:j<=i)(hy:b[i]?=some y)(hz:b[j]?=some z)(hl:R y x=true):R x z=false:=
 P.o.tr z y x (P.Db hz) (P.Db hy) dx (P.leB h hz hy) (P.o.DF _ _ (P.Db hy) dx hl)
theorem ES {res:Array Keyed}{r:List Keyed}(M:MH R a b out na nb)(h2:na<=a.size)(h3:nb<=b.size)(hp:r.Perm (a.toList.take na++b.toList.take nb))(hs:gd R r)(e:res.toList=r++out.toList.reverse):Good R a b res:=by
 have hl:na<=a.toList.length:=by rw[length_toList];exact h2
 have hl':nb<=b.toList.length:=by rw[length_toList];exact h3
 have:=M.fin (r:=r.reverse) (by
  rw[nX _ hl,nX _ hl'];exact (List.reverse_perm _).trans (hp.trans ((List.reverse_perm _).symm.append (List.reverse_perm _).symm))) hs.rev
 have e':res.toList=(out.toList++r.reverse).reverse:=by rw[e,List.reverse_append,List.reverse_reverse]
 refine ⟨?_,?_⟩
 .rw[e'];refine (List.reverse_perm _).trans (this.1.trans ((List.reverse_perm _).append (List.reverse_perm _)))
 .rw[e'];exact this.2.Ig
theorem yt (a:Array Keyed)(n:Nat):(a.extract 0 n).toList=a.toList.take n:=by
 rw[ik];simp
theorem Pre.Ea (P:Pre Dm R a b)(M:MH R a b out 0 nb)(h3:nb<=b.size):Good R a b (dZ a b out 0 nb):=
 ES (r:=b.toList.take nb) M (Nat.zero_le _) h3 (by simp) (List.Pairwise.sublist (List.take_sublist _ _) P.sb) (by
  unfold dZ;rw[Array.toList_append,Array.toList_append,yt,yt,Array.toList_reverse];simp)
theorem Pre.Ip (P:Pre Dm R a b)(M:MH R a b out na 0)(h3:na<=a.size):Good R a b (dZ a b out na 0):=
 ES (r:=a.toList.take na) M h3 (Nat.zero_le _) (by simp) (List.Pairwise.sublist (List.take_sublist _ _) P.sa) (by
  unfold dZ;rw[Array.toList_append,Array.toList_append,yt,yt,Array.toList_reverse];simp)
theorem Pre.CS (P:Pre Dm R a b)(M:MH R a b out na 1)(h2:na<=a.size)(h3:1<=b.size):Good R a b (pS a b out na 1):=by
 refine ES (r:=b.toList.take 1++a.toList.take na) M h2 h3 perm_append_comm ?_ (by
  unfold pS;rw[Array.toList_append,Array.toList_append,yt,yt,Array.toList_reverse])
 refine pairwise_append.mpr ⟨List.Pairwise.sublist (List.take_sublist _ _) P.sb,List.Pairwise.sublist (List.take_sublist _ _) P.sa,λx hx y hy=>?_⟩;obtain ⟨j,h4,h5⟩:=jz hx;have e:j=0:=by lia
 subst e;rw[Array.getElem?_toList] at h5;exact P.o.DF _ _ (P.Db h5) (P.da _ (mem_of_mem_take hy)) (P.fst y (mem_of_mem_take hy) x h5)
theorem Pre.kW (P:Pre Dm R a b)(hx:a[a.size - 1]?=some x):MH R a b #[x] (a.size - 1) b.size:=by
 have M0:MH R a b #[] a.size b.size:=by
  have e1:a.toList.length - a.size=0:=by rw[length_toList];lia
  have e2:b.toList.length - b.size=0:=by rw[length_toList];lia
  unfold MH;rw[e1,e2];exact ⟨List.Perm.nil,List.Pairwise.nil,λx hx=>nomatch hx⟩
 exact P.ER M0 P.na (Nat.le_refl _) (Nat.le_refl _) hx λj y _ hy=>P.o.DF _ _ (P.Db hy) (P.Da hx) (P.lst y (mem_of_getElem? (vZ hy)) x hx)
end
end Tim
namespace Tim
open PySem PyProof.Rows
section
variable {prog:Program} {w:World} {A:Around} {E:Value->Shared->Prop} {s:Shared}
variable {Dm:Keyed->Prop} {R:Keyed->Keyed->Bool} {κ:SortKind}
noncomputable abbrev xV:=Option (Array Keyed)×Nat×Nat×Array Keyed×Nat×Nat×Nat
noncomputable def Cn (a b out:Array Keyed)(na nb g k k1:Nat):StateT SortSt Sem (ForInStep xV):=do
  let y <-elem' a (na - 1)
  if (na - 1 == 0)=true then pure (.done (some (dZ a b (out.push y) (na - 1) nb),na - 1,nb,out.push y,g,k,k1))
  else if (decide (k<7) && decide (k1<7))=true then pure (.done (none,na - 1,nb,out.push y,g,k,k1))
  else pure (.yield (none,na - 1,nb,out.push y,g,k,k1))
noncomputable def Cm (a b out:Array Keyed)(na nb g k bc:Nat):StateT SortSt Sem (ForInStep xV):=do
  let y <-elem' b (nb - 1)
  if (nb - 1 == 1)=true then pure (.done (some (pS a b (out.push y) na (nb - 1)),na,nb - 1,out.push y,g,k,bc))
  else do
    let v <-elem' a (na - 1)
    let r <-cP true v b 0 (nb - 1) (nb - 1 - 1)
    match r with
    | some m =>
      if nb - 1 - m>0 then
        if (m == 1)=true then pure (.done (some (pS a b (out.push y++(b.extract m (nb - 1)).reverse) na m),na,m,out.push y++(b.extract m (nb - 1)).reverse,g,k,nb - 1 - m))
        else if (m == 0)=true then pure (.done (some (dZ a b (out.push y++(b.extract m (nb - 1)).reverse) na m),na,m,out.push y++(b.extract m (nb - 1)).reverse,g,k,nb - 1 - m))
        else Cn a b (out.push y++(b.extract m (nb - 1)).reverse) na m g k (nb - 1 - m)
      else Cn a b (out.push y) na (nb - 1) g k (nb - 1 - m)
    | _=>pure (.done (some (dZ a b (out.push y) na (nb - 1)),na,nb - 1,out.push y,g,k,bc))
noncomputable def Am (a b out:Array Keyed)(na nb g ac bc:Nat):StateT SortSt Sem (ForInStep xV):=do
  bq g
  let y <-elem' b (nb - 1)
  let r <-cP false y a 0 na (na - 1)
  match r with
  | some k =>
    if na - k>0 then
      if (k == 0)=true then pure (.done (some (dZ a b (out++(a.extract k na).reverse) k nb),k,nb,out++(a.extract k na).reverse,g,na - k,bc))
      else Cm a b (out++(a.extract k na).reverse) k nb g (na - k) bc
    else Cm a b out na nb g (na - k) bc
  | _=>pure (.done (some (dZ a b out na nb),na,nb,out,g,ac,bc))
section
variable {a b out:Array Keyed} {na nb g k k1 bc ac n0:Nat} {st:SortSt} {Q:ForInStep xV->SortSt->Prop}
noncomputable def IF (R:Keyed->Keyed->Bool)(a b:Array Keyed)(Q:ForInStep xV->SortSt->Prop)(st:SortSt):Prop:=∀r c,Good R a b r->Q (.done (some r,c)) st
noncomputable def IG (R:Keyed->Keyed->Bool)(a b:Array Keyed)(n0:Nat)(Q:ForInStep xV->SortSt->Prop)(st:SortSt):Prop:=∀na nb out g k k1,MH R a b out na nb->1<=na->2<=nb->na<=a.size->nb<=b.size->na+nb<n0->Q (.done (none,na,nb,out,g,k,k1)) st/\Q (.yield (none,na,nb,out,g,k,k1)) st
theorem uf (P:Pre Dm R a b)(M:MH R a b out na nb)(h1:1<=na)(h2:2<=nb)(ha:na<=a.size)(hb:nb<=b.size){v:Keyed}(hv:a[na - 1]?=some v)(hlt:∀j y,j<nb->b[j]?=some y->R y v=true)(hn:na+nb<=n0)(qd:IF R a b Q st)(qn:IG R a b n0 Q st):wpS (model prog w) A E s (Cn a b out na nb g k k1) Q st:=by
 unfold Cn;refine wpS_bind (aP hv ?_);have M3:=P.ER M (by lia) ha hb hv λj y hj hy=>P.o.DF _ _ (P.Db hy) (P.Da hv) (hlt j y hj hy);split
 case isTrue c =>
  rw[beq_iff_eq] at c;rw[c] at M3 ⊢;exact wpS_pure (qd _ _ (P.Ea M3 hb))
 case isFalse c =>
  rw[beq_iff_eq] at c;have z:=qn _ _ _ g k k1 M3 (by lia) h2 (by lia) hb (by lia);split
  .exact wpS_pure z.1
  .exact wpS_pure z.2
theorem ue (L:fM prog w A E s Dm R κ)(P:Pre Dm R a b)(hk:kindOf st=κ)(M:MH R a b out na nb)(h1:1<=na)(h2:2<=nb)(ha:na<=a.size)(hb:nb<=b.size){u:Keyed}(hu:b[nb - 1]?=some u)(hle:∀j y,j<na->a[j]?=some y->R u y=false)(hn:na+nb<=n0)(qd:IF R a b Q st)(qn:IG R a b n0 Q st):wpS (model prog w) A E s (Cm a b out na nb g k bc) Q st:=by
 unfold Cm;have pb:=P.nb;refine wpS_bind (aP hu ?_);have M2:=P.GO M (by lia) ha hb hu λj y hj hy=>hle j y hj hy;by_cases c7:(nb - 1 == 1)=true
 .rw[if_pos c7];rw[beq_iff_eq] at c7;rw[c7] at M2 ⊢;exact wpS_pure (qd _ _ (P.CS M2 ha pb))
 rw[if_neg c7];rw[beq_iff_eq] at c7;obtain ⟨v,hv⟩ : ∃x,a[na - 1]?=some x:=⟨a[na - 1],Array.getElem?_eq_getElem (by lia)⟩
 refine wpS_bind (aP hv ?_);refine wpS_bind (oG L hk (P.Da hv) (by lia) (by lia) (λi x _ hx=>P.Db hx) (λi j x y hij _ hx hy=>P.JR (P.Da hv) (by lia) hx hy) λm hm m1 m2=>?_);dsimp only;simp only[Nat.zero_add] at m1 m2;by_cases c8:nb - 1 - m>0
 .rw[if_pos c8];have Mm:=P.HG M2 hm ha (by lia) (λi x h4 h5 hx j y hj hy=>P.Ik (P.Db hx) (by lia) hy hv (m2 i x h4 h5 hx)) (out':=_++(b.extract m (nb - 1)).reverse) wN;by_cases c9:(m == 1)=true
  .rw[if_pos c9];rw[beq_iff_eq] at c9;rw[c9] at Mm ⊢;exact wpS_pure (qd _ _ (P.CS Mm ha pb))
  rw[if_neg c9];by_cases c10:(m == 0)=true
  .rw[if_pos c10];rw[beq_iff_eq] at c10;rw[c10] at Mm ⊢;exact wpS_pure (qd _ _ (P.Ip Mm ha))
  rw[if_neg c10];rw[beq_iff_eq] at c9 c10;exact uf P Mm h1 (by lia) ha (by lia) hv m1 (by lia) qd qn
 .rw[if_neg c8];have e0:m=nb - 1:=by lia
  subst e0;exact uf P M2 h1 (by lia) ha (by lia) hv m1 (by lia) qd qn
theorem An (L:fM prog w A E s Dm R κ)(P:Pre Dm R a b)(hk:kindOf st=κ)(M:MH R a b out na nb)(h1:1<=na)(h2:2<=nb)(ha:na<=a.size)(hb:nb<=b.size)(hn:na+nb<=n0)(qd:IF R a b Q (setG st g))(qn:IG R a b n0 Q (setG st g)):wpS (model prog w) A E s (Am a b out na nb g ac bc) Q st:=by
 unfold Am;rw[dq];obtain ⟨u,hu⟩ : ∃x,b[nb - 1]?=some x:=⟨b[nb - 1],Array.getElem?_eq_getElem (by lia)⟩
 refine wpS_bind (wpS_modify (wpS_bind (aP hu ?_)));have hk':kindOf (setG st g)=κ:=hk;refine wpS_bind (mF L hk' (P.Db hu) (by lia) (by lia) (λi x _ hx=>P.Da hx) (λi j x y hij _ hx hy=>P.Ik (P.Db hu) (by lia) hx hy) λk hkn k1 k2=>?_);dsimp only;simp only[Nat.zero_add] at k1 k2;by_cases c4:na - k>0
 .rw[if_pos c4];have Mk:=P.HF M hkn ha hb (λi x h4 h5 hx j y hj hy=>P.JO (P.Da hx) (by lia) hu hy (k2 i x h4 h5 hx)) (out':=out++(a.extract k na).reverse) wN;by_cases c5:(k == 0)=true
  .rw[if_pos c5];rw[beq_iff_eq] at c5;rw[c5] at Mk ⊢;exact wpS_pure (qd _ _ (P.Ea Mk hb))
  rw[if_neg c5];rw[beq_iff_eq] at c5;exact ue L P hk' Mk (by lia) h2 (by lia) hb hu k1 (by lia) qd qn
 .rw[if_neg c4];have e0:k=na:=by lia
  subst e0;exact ue L P hk' M h1 h2 ha hb hu k1 hn qd qn
end
noncomputable abbrev Dz:=Option (Array Keyed)×Nat×Nat×Array Keyed×Nat×Nat
noncomputable abbrev BD:=Option (Array Keyed)×Nat×Nat×Array Keyed×Nat
noncomputable def IV (a b:Array Keyed)(g:Nat)(c:Dz):StateT SortSt Sem (ForInStep Dz):=do
  let y <-elem' b (c.2.2.1 - 1)
  let x <-elem' a (c.2.1 - 1)
  let r <-lt' y x
  match r with
  | some aW =>
    if aW=true then do
      let z <-elem' a (c.2.1 - 1)
      if (c.2.1 - 1 == 0)=true then pure (.done (some (dZ a b (c.2.2.2.1.push z) (c.2.1 - 1) c.2.2.1),c.2.1 - 1,c.2.2.1,c.2.2.2.1.push z,c.2.2.2.2.1+1,0))
      else if c.2.2.2.2.1+1>=g then pure (.done (none,c.2.1 - 1,c.2.2.1,c.2.2.2.1.push z,c.2.2.2.2.1+1,0))
      else pure (.yield (none,c.2.1 - 1,c.2.2.1,c.2.2.2.1.push z,c.2.2.2.2.1+1,0))
    else do
      let z <-elem' b (c.2.2.1 - 1)
      if (c.2.2.1 - 1 == 1)=true then pure (.done (some (pS a b (c.2.2.2.1.push z) c.2.1 (c.2.2.1 - 1)),c.2.1,c.2.2.1 - 1,c.2.2.2.1.push z,0,c.2.2.2.2.2+1))
      else if c.2.2.2.2.2+1>=g then pure (.done (none,c.2.1,c.2.2.1 - 1,c.2.2.2.1.push z,0,c.2.2.2.2.2+1))
      else pure (.yield (none,c.2.1,c.2.2.1 - 1,c.2.2.2.1.push z,0,c.2.2.2.2.2+1))
  | _=>pure (.done (some (dZ a b c.2.2.2.1 c.2.1 c.2.2.1),c.2.1,c.2.2.1,c.2.2.2.1,c.2.2.2.2.1,c.2.2.2.2.2))
noncomputable def IT (a b:Array Keyed)(c:xV):StateT SortSt Sem (ForInStep xV):=if c.2.2.2.2.1>1 then Am a b c.2.2.2.1 c.2.1 c.2.2.1 (c.2.2.2.2.1 - 1) c.2.2.2.2.2.1 c.2.2.2.2.2.2 else Am a b c.2.2.2.1 c.2.1 c.2.2.1 c.2.2.2.2.1 c.2.2.2.2.2.1 c.2.2.2.2.2.2
noncomputable def IS (a b:Array Keyed)(g:Nat)(c:Dz):StateT SortSt Sem (ForInStep BD):=do
  liftM (rule "list.sort.gallop")
  let d <-forIn [:a.size+b.size] ((none,c.2.1,c.2.2.1,c.2.2.2.1,g+1,c.2.2.2.2.1,c.2.2.2.2.2):xV) λ_ d=>IT a b d
  match d.1 with
  | some r=>pure (.done (some r,d.2.1,d.2.2.1,d.2.2.2.1,d.2.2.2.2.1))
  | none=>do
    bq (d.2.2.2.2.1+1)
    pure (.yield (none,d.2.1,d.2.2.1,d.2.2.2.1,d.2.2.2.2.1+1))
noncomputable def IU (a b:Array Keyed)(c:BD):StateT SortSt Sem (ForInStep BD):=do
  let d <-forIn [:a.size+b.size] ((none,c.2.1,c.2.2.1,c.2.2.2.1,0,0):Dz) λ_ d=>IV a b c.2.2.2.2 d
  match d.1 with
  | some r=>pure (.done (some r,d.2.1,d.2.2.1,d.2.2.2.1,c.2.2.2.2))
  | none=>IS a b c.2.2.2.2 d
theorem sd (a b:Array Keyed):lK a b=(do
  liftM (rule "list.sort.merge-hi")
  let x <-elem' a (a.size - 1)
  if (a.size - 1 == 0)=true then pure (dZ a b #[x] (a.size - 1) b.size)
  else if (b.size == 1)=true then pure (pS a b #[x] (a.size - 1) b.size)
  else do
    let s <-get
    let c <-forIn [:a.size+b.size] ((none,a.size - 1,b.size,#[x],gallopOf s):BD) λ_ c=>IU a b c
    match c.1 with
    | some r=>pure r
    | none=>liftM (unsupported "internal:list.sort.merge-bound")):=by
  rw[r9];dsimp only;refine bind_eq rfl λ_=>bind_eq rfl λx=>congrArg _ (congrArg _ (bind_eq rfl λs=>bind_eq (congrArg _ (funext λ_=>funext λc=>bind_eq rfl λd=>?_)) λc=>?_))
  · rcases d with ⟨_ | r,d⟩
    · refine bind_eq rfl λ_=>bind_eq rfl λd=>?_;rcases d with ⟨_ | r,d⟩<;>rfl
    · rfl
  · rcases c with ⟨_ | r,c⟩<;>rfl
section
variable {a b:Array Keyed} {st:SortSt}
noncomputable def xU (R:Keyed->Keyed->Bool)(a b:Array Keyed)(n na nb:Nat)(out:Array Keyed):Prop:=MH R a b out na nb/\1<=na/\2<=nb/\na<=a.size/\nb<=b.size/\n+na+nb<=a.size+b.size
theorem Ck (L:fM prog w A E s Dm R κ)(P:Pre Dm R a b)(hk:kindOf st=κ){n g na nb ac bc:Nat}{out:Array Keyed}{Q:ForInStep Dz->SortSt->Prop}(M0:xU R a b n na nb out)(qd:∀r c,Good R a b r->Q (.done (some r,c)) st)(qn:∀na nb out ac bc,xU R a b (n+1) na nb out->Q (.done (none,na,nb,out,ac,bc)) st/\Q (.yield (none,na,nb,out,ac,bc)) st):wpS (model prog w) A E s (IV a b g (none,na,nb,out,ac,bc)) Q st:=by
 obtain ⟨M,h1,h2,ha,hb,h3⟩:=M0;unfold IV;obtain ⟨u,hu⟩ : ∃x,b[nb - 1]?=some x:=⟨b[nb - 1],Array.getElem?_eq_getElem (by lia)⟩
 obtain ⟨v,hv⟩ : ∃x,a[na - 1]?=some x:=⟨a[na - 1],Array.getElem?_eq_getElem (by lia)⟩
 refine wpS_bind (aP hu (wpS_bind (aP hv (wpS_bind (L u v _ _ (P.Db hu) (P.Da hv) hk ?_)))));cases c3:R u v with
 | true =>
  have M':=P.ER M (by lia) ha hb hv λj y hj hy=>P.JO (P.Da hv) (by lia) hu hy c3;refine wpS_bind (aP hv ?_);split
  case isTrue c =>
   have c:na - 1=0:=beq_iff_eq.mp c;refine wpS_pure (qd _ _ ?_);dsimp only;rw[c] at M' ⊢;exact P.Ea M' hb
  case isFalse c =>
   have c:¬na - 1=0:=λz=>c (beq_iff_eq.mpr z);have z:=qn (na - 1) nb (out.push v) (ac+1) 0 ⟨M',by lia,h2,by lia,hb,by lia⟩;split
   .exact wpS_pure z.1
   .exact wpS_pure z.2
 | false =>
  have M':=P.GO M (by lia) ha hb hu λj y hj hy=>P.Ik (P.Db hu) (by lia) hy hv c3;refine wpS_bind (aP hu ?_);split
  case isTrue c =>
   have c:nb - 1=1:=beq_iff_eq.mp c;refine wpS_pure (qd _ _ ?_);dsimp only;rw[c] at M' ⊢;exact P.CS M' ha P.nb
  case isFalse c =>
   have c:¬nb - 1=1:=λz=>c (beq_iff_eq.mpr z);have z:=qn na (nb - 1) (out.push u) 0 (bc+1) ⟨M',h1,by lia,ha,by lia,by lia⟩;split
   .exact wpS_pure z.1
   .exact wpS_pure z.2
theorem Ci (L:fM prog w A E s Dm R κ)(P:Pre Dm R a b){st0:SortSt}(hk:kindOf st0=κ)(hS:aq st0 st){n:Nat}{d:xV}(h:d.1=none/\xU R a b n d.2.1 d.2.2.1 d.2.2.2.1){Q:ForInStep xV->SortSt->Prop}(qd:∀r c st',aq st0 st'->Good R a b r->Q (.done (some r,c)) st')(qn:∀d st',aq st0 st'->d.1=none/\xU R a b (n+1) d.2.1 d.2.2.1 d.2.2.2.1->Q (.done d) st'/\Q (.yield d) st'):wpS (model prog w) A E s (IT a b d) Q st:=by
 obtain ⟨_,M,h1,h2,ha,hb,h3⟩:=h;have key:∀g,wpS (model prog w) A E s (Am a b d.2.2.2.1 d.2.1 d.2.2.1 g d.2.2.2.2.2.1 d.2.2.2.2.2.2) Q st:=λg =>
  An (n0:=d.2.1+d.2.2.1) L P (hS.1.trans hk) M h1 h2 ha hb (Nat.le_refl _) (λr c hG=>qd r c _ (hS.setG _) hG) λna' nb' out' g2 k k1 M' i1 i2 i3 i4 i5=>qn _ _ (hS.setG _) ⟨rfl,M',i1,i2,i3,i4,by dsimp only;lia⟩
 unfold IT;split
 .exact key _
 .exact key _
theorem Cg (L:fM prog w A E s Dm R κ)(P:Pre Dm R a b){st0:SortSt}(hk:kindOf st0=κ)(hS:aq st0 st){n g:Nat}{c:Dz}(h:xU R a b n c.2.1 c.2.2.1 c.2.2.2.1){Q:ForInStep BD->SortSt->Prop}(qd:∀r c st',aq st0 st'->Good R a b r->Q (.done (some r,c)) st')(qn:∀d st',aq st0 st'->d.1=none/\xU R a b n d.2.1 d.2.2.1 d.2.2.2.1->Q (.yield d) st'):wpS (model prog w) A E s (IS a b g c) Q st:=by
 unfold IS;refine wpS_bind (wpS_lift (wpAny_rule ⟨rfl,wpS_bind (wpS_mono (wpS_forRange
  (I:=λy (d:xV) st'=>aq st0 st'/\d.1=none/\xU R a b (n+y) d.2.1 d.2.2.1 d.2.2.2.1)
  (Q:=λ(d:xV) st'=>aq st0 st'/\((∃r,d.1=some r/\Good R a b r)\/d.1=none/\xU R a b n d.2.1 d.2.2.1 d.2.2.2.1)) ?_ ?_ ⟨hS,rfl,h⟩) ?_)⟩))
 .rintro y d st' _ hy ⟨hS,z⟩;refine Ci L P hk hS z (λr c st' hS hG=>⟨hS,.inl ⟨r,rfl,hG⟩⟩) λd st' hS z=>⟨⟨hS,.inr ⟨z.1,z.2.1,z.2.2.1,z.2.2.2.1,z.2.2.2.2.1,z.2.2.2.2.2.1,?_⟩⟩,hS,z⟩
  have:=z.2.2.2.2.2.2;lia
 .rintro d st' ⟨hS,_,M,h1,h2,h3,h4,h5⟩;lia
 .rintro d st' ⟨hS,⟨r,e,hG⟩ | ⟨e,z⟩⟩
  .rw[e];exact wpS_pure (qd _ _ _ hS hG)
  .rw[e];dsimp only;rw[dq];exact wpS_bind (wpS_modify (wpS_pure (qn _ _ (hS.setG _) ⟨rfl,z⟩)))
theorem Cj (L:fM prog w A E s Dm R κ)(P:Pre Dm R a b){st0:SortSt}(hk:kindOf st0=κ)(hS:aq st0 st){n:Nat}{c:BD}(h:xU R a b n c.2.1 c.2.2.1 c.2.2.2.1){Q:ForInStep BD->SortSt->Prop}(qd:∀r c st',aq st0 st'->Good R a b r->Q (.done (some r,c)) st')(qn:∀d st',aq st0 st'->d.1=none/\xU R a b (n+1) d.2.1 d.2.2.1 d.2.2.2.1->Q (.yield d) st'):wpS (model prog w) A E s (IU a b c) Q st:=by
 unfold IU;refine wpS_bind (wpS_mono (wpS_forRange
  (I:=λy (d:Dz) st'=>st'=st/\d.1=none/\xU R a b (n+y) d.2.1 d.2.2.1 d.2.2.2.1)
  (Q:=λ(d:Dz) st'=>st'=st/\((∃r,d.1=some r/\Good R a b r)\/d.1=none/\xU R a b (n+1) d.2.1 d.2.2.1 d.2.2.2.1)) ?_ ?_ ⟨rfl,rfl,h⟩) ?_)
 .rintro y ⟨x,na,nb,out,ac,bc⟩ st' _ hy ⟨rfl,e,z⟩;obtain rfl:x=none:=e;refine Ck L P (hS.1.trans hk) z (λr c hG=>⟨rfl,.inl ⟨r,rfl,hG⟩⟩) λna nb out ac bc z=>⟨⟨rfl,.inr ⟨rfl,z.1,z.2.1,z.2.2.1,z.2.2.2.1,z.2.2.2.2.1,?_⟩⟩,rfl,rfl,z⟩
  have:=z.2.2.2.2.2;dsimp only;lia
 .rintro d st' ⟨rfl,_,M,h1,h2,h3,h4,h5⟩;lia
 .rintro d st' ⟨rfl,⟨r,e,hG⟩ | ⟨e,z⟩⟩
  .rw[e];exact wpS_pure (qd _ _ _ hS hG)
  .rw[e];exact Cg L P hk hS z qd qn
end
theorem uv (L:fM prog w A E s Dm R κ){a b:Array Keyed}(P:Pre Dm R a b){st:SortSt}(hk:kindOf st=κ){Q:Array Keyed->SortSt->Prop}(h:∀r st',aq st st'->Good R a b r->Q r st'):wpS (model prog w) A E s (lK a b) Q st:=by
 have pa:=P.na;have pb:=P.nb;obtain ⟨a0,ha0⟩ : ∃x,a[a.size - 1]?=some x:=⟨a[a.size - 1],Array.getElem?_eq_getElem (by lia)⟩
 have M1:=P.kW ha0;rw[sd];refine wpS_bind (wpS_lift (wpAny_rule ⟨rfl,wpS_bind (aP ha0 ?_)⟩));split
 case isTrue c =>
  rw[beq_iff_eq] at c;rw[c] at M1 ⊢;exact wpS_pure (h _ _ .yZ (P.Ea M1 (Nat.le_refl _)))
 case isFalse c1 =>
  split
  case isTrue c =>
   rw[beq_iff_eq] at c;rw[c] at M1 ⊢;exact wpS_pure (h _ _ .yZ (P.CS M1 (by lia) pb))
  case isFalse c2 =>
   rw[beq_iff_eq] at c1 c2;refine wpS_bind (wpS_get (wpS_bind (wpS_mono (wpS_forRange
    (I:=λx (c:BD) st'=>aq st st'/\c.1=none/\xU R a b (1+x) c.2.1 c.2.2.1 c.2.2.2.1)
    (Q:=λ(c:BD) st'=>aq st st'/\∃r,c.1=some r/\Good R a b r) ?_ ?_ ⟨.yZ,rfl,M1,?_⟩) ?_)))
   .rintro x c st' _ hx ⟨hS,_,z⟩;exact Cj L P hk hS z (λr c st' hS hG=>⟨hS,r,rfl,hG⟩) λd st' hS z=>⟨hS,z⟩
   .rintro c st' ⟨hS,_,M,h1,h2,h3,h4,h5⟩;lia
   .dsimp only;lia
   .rintro c st' ⟨hS,r,e,hG⟩;rw[e];exact wpS_pure (h _ _ hS hG)
end
end Tim
namespace Tim
open PySem PyProof.Rows
noncomputable def putBack (sa:Nat)(merged:Array Keyed)(a:Array Keyed):Array Keyed:=merged.toList.zipIdx.foldl (λa (p,j)=>a.setIfInBounds (sa+j) p) a
theorem ur (i:Nat):mergeAt' i=(do
  let s <-get
  let (some (sa,na,power),some (sb,nb,_)):=((pendingOf s)[i]?,(pendingOf s)[i+1]?) | unsupported "internal:list.sort.pending"
  set (setPending s (((pendingOf s).setIfInBounds i (sa,na+nb,power)).eraseIdxIfInBounds (i+1)))
  let some k <-cP false (<-elem' (arrOf s) sb) (arrOf s) sa na 0 | return false
  let (sa,na):=(sa+k,na - k)
  if na == 0 then return true
  let some nb <-cP true (<-elem' (arrOf s) (sa+na - 1)) (arrOf s) sb nb (nb - 1) | return false
  if nb == 0 then return true
  let x:=(arrOf s).extract sa sb
  let y:=(arrOf s).extract sb (sb+nb)
  let merged <-if na<=nb then lL x y else lK x y
  modify λs=>setArr s (putBack sa merged (arrOf s))
  return (failedOf (<-get)).isNone):=rfl
theorem o7 (sa:Nat):∀(ms:List Keyed) (k:Nat) (arr:Array Keyed),sa+k+ms.length<=arr.size->((ms.zipIdx k).foldl (λ(a:Array Keyed) (pj:Keyed×Nat)=>a.setIfInBounds (sa+pj.2) pj.1) arr).toList=arr.toList.take (sa+k)++ms++arr.toList.drop (sa+k+ms.length)
 | [],k,arr,h=>by simp
 | m::ms,k,arr,h=>by
  rw[List.zipIdx_cons,List.foldl_cons,o7 sa ms (k+1) _ (by rw[Array.size_setIfInBounds];simp at h;lia),Array.toList_setIfInBounds];have hl:sa+k<arr.toList.length:=by rw[length_toList];simp at h;lia
  dsimp only;rw[show sa+(k+1)=sa+k+1 by lia,List.take_succ_eq_append_getElem (by rw[length_set];exact hl),List.getElem_set_self,List.take_set_of_le (Nat.le_refl _),List.drop_set_of_lt (by lia)];rw[append_assoc,append_assoc,append_assoc];simp only[List.singleton_append,List.cons_append,List.nil_append,length_cons];rw[show sa+k+1+ms.length=sa+k+(ms.length+1) by lia]
theorem sH {sa:Nat}{merged arr:Array Keyed}(h:sa+merged.size<=arr.size):(putBack sa merged arr).toList=arr.toList.take sa++merged.toList++arr.toList.drop (sa+merged.size):=by
 have:=o7 sa merged.toList 0 arr (by rw[length_toList];lia);rw[Nat.add_zero,length_toList] at this;exact this
section
variable {Dm:Keyed->Prop} {R:Keyed->Keyed->Bool}
noncomputable def seg (l:List Keyed)(s n:Nat):List Keyed:=(l.drop s).take n
theorem seg_at {l:List Keyed}{s n i:Nat}(h:i<n):(seg l s n)[i]?=l[s+i]?:=by
 unfold seg;rw[List.getElem?_take_of_lt h,List.getElem?_drop]
theorem gU {l:List Keyed}{s n i:Nat}{x:Keyed}(h:(seg l s n)[i]?=some x):i<n/\l[s+i]?=some x:=by
 have:i<n:=by
  have:=(List.getElem?_eq_some_iff.mp h).1;unfold seg at this;rw[length_take] at this;lia
 exact ⟨this,by rw[<-seg_at this];exact h⟩
theorem gW {l:List Keyed}{s n:Nat}{x:Keyed}(h:x∈seg l s n):∃i,i<n/\l[s+i]?=some x:=bE h
theorem lS (l:List Keyed)(s n m:Nat):seg l s (n+m)=seg l s n++seg l (s+n) m:=by
 unfold seg;rw[List.take_add,List.drop_drop]
theorem mW (l:List Keyed)(s n:Nat):l=l.take s++seg l s n++l.drop (s+n):=by
 unfold seg;rw[append_assoc,<-List.drop_drop,take_append_drop,take_append_drop]
theorem nZ (a:Array Keyed)(i j:Nat):(a.extract i j).toList=seg a.toList i (j - i):=ik a i j
theorem Au (o:Ord Dm R){X0 X1 Y0 Y1 m:List Keyed}(hd:∀x,x∈X0++X1++(Y0++Y1)->Dm x)(sX:gd R (X0++X1))(sY:gd R (Y0++Y1))(hm:m.Perm (X1++Y0))(sm:gd R m)
  (h0:∀x∈X0,∀y∈Y0++Y1,R y x=false) (h1:∀x∈X1,∀y∈Y1,R y x=false):gd R (X0++m++Y1):=by
 have a:=pairwise_append.mp sX;have b:=pairwise_append.mp sY;refine pairwise_append.mpr ⟨pairwise_append.mpr ⟨a.1,sm,λx hx y hy=>?_⟩,b.2.1,λx hx y hy=>?_⟩
 .rcases mem_append.mp (hm.mem_iff.mp hy) with z | z
  .exact a.2.2 x hx y z
  .exact h0 x hx y (mem_append_left _ z)
 .rcases mem_append.mp hx with z | z
  .exact h0 x z y (mem_append_right _ hy)
  .rcases mem_append.mp (hm.mem_iff.mp z) with u | u
   .exact h1 x u y hy
   .exact b.2.2 x u y hy
variable {prog:Program} {w:World} {A:Around} {E:Value->Shared->Prop} {s:Shared} {κ:SortKind}
theorem Dy {σ:Type}{M:Model}{st st':σ}{Q:PUnit->σ->Prop}(h:Q ⟨⟩ st'):wpS M A E s (set st':StateT σ Sem PUnit) Q st:=by
 unfold wpS;rw[StateT.run_set];exact wpAny_pure ⟨rfl,h⟩
noncomputable def Done (R:Keyed->Keyed->Bool)(l l':List Keyed)(s n:Nat):Prop:=∃m,l'=l.take s++m++l.drop (s+n)/\m.Perm (seg l s n)/\gd R m
theorem uu (L:fM prog w A E s Dm R κ)(o:Ord Dm R){st:SortSt}(hk:kindOf st=κ)(hf:failedOf st=none)(hd:∀x∈(arrOf st).toList,Dm x){i sa na pw sb nb pb:Nat}
    (h1:(pendingOf st)[i]?=some (sa,na,pw)) (h2:(pendingOf st)[i+1]?=some (sb,nb,pb)) (hs:sa+na=sb) (hn:1<=na) (hm:1<=nb) (hz:sb+nb<=(arrOf st).size)
    (sX:gd R (seg (arrOf st).toList sa na)) (sY:gd R (seg (arrOf st).toList sb nb)) {Q:Bool->SortSt->Prop}
    (h:∀st',kindOf st'=κ->failedOf st'=none->pendingOf st'=((pendingOf st).setIfInBounds i (sa,na+nb,pw)).eraseIdxIfInBounds (i+1)->Done R (arrOf st).toList (arrOf st').toList sa (na+nb)->Q true st'):wpS (model prog w) A E s (mergeAt' i) Q st:=by
  subst hs;generalize hl:(arrOf st).toList=l at *;have hlen:l.length=(arrOf st).size:=by rw[<-hl,length_toList]
  have at_:∀j,j<sa+na+nb->∃x,(arrOf st)[j]?=some x:=λj hj=>⟨(arrOf st)[j]'(by lia),Array.getElem?_eq_getElem (by lia)⟩
  have toL':∀{j x},(arrOf st)[j]?=some x->l[j]?=some x:=λ{j x} e=>by rw[<-hl];exact vZ e
  have D:∀{j x},(arrOf st)[j]?=some x->Dm x:=λ{j x} e=>hd x (mem_of_getElem? (toL' e));have dX:∀x∈seg l sa na,Dm x:=λx hx=>by obtain ⟨j,_,e⟩:=gW hx;exact hd x (mem_of_getElem? e)
  have dY:∀x∈seg l (sa+na) nb,Dm x:=λx hx=>by obtain ⟨j,_,e⟩:=gW hx;exact hd x (mem_of_getElem? e)
  have leX:∀{i j x y},i<=j->j<na->(arrOf st)[sa+i]?=some x->(arrOf st)[sa+j]?=some y->R y x=false:=λ{i j x y} hij hj hx hy =>
    sX.le o dX hij (by rw[seg_at (by lia)];exact toL' hx) (by rw[seg_at hj];exact toL' hy)
  have leY:∀{i j x y},i<=j->j<nb->(arrOf st)[sa+na+i]?=some x->(arrOf st)[sa+na+j]?=some y->R y x=false:=λ{i j x y} hij hj hx hy =>
    sY.le o dY hij (by rw[seg_at (by lia)];exact toL' hx) (by rw[seg_at hj];exact toL' hy)
  obtain ⟨y0,hy0⟩:=at_ (sa+na) (by lia);rw[ur];refine wpS_bind (wpS_get ?_);rw[h1,h2];dsimp (config:={ zeta:=false }) only;refine wpS_bind (Dy (wpS_bind (aP hy0 ?_)));refine wpS_bind (mF L hk (D hy0) (by lia) (by lia) (λi x _ hx=>D hx) (λi j x y hij hj hx hy hr=>o.tr x y y0 (D hx) (D hy) (D hy0) (leX hij hj hx hy) hr) λk hkn k1 k2=>?_);dsimp (config:={ zeta:=false }) only;have low:∀x∈seg l sa k,∀y∈seg l (sa+na) nb,R y x=false:=λx hx y hy=>by
    obtain ⟨i,h3,h4⟩:=gW hx;obtain ⟨j,h5,h6⟩:=gW hy;rw[<-hl,Array.getElem?_toList] at h4 h6;exact o.tr x y0 y (D h4) (D hy0) (D h6) (k1 i x h3 h4) (leY (i:=0) (Nat.zero_le _) h5 (by rw[Nat.add_zero];exact hy0) h6)
  by_cases c1:(na - k == 0)=true
  · rw[if_pos c1];rw[beq_iff_eq] at c1;have e:k=na:=by lia
    subst e;refine wpS_pure (h _ hk hf rfl ⟨seg l sa (k+nb),?_,.refl _,?_⟩)
    · show (arrOf st).toList=_;rw[hl];exact mW _ _ _
    · rw[lS];exact pairwise_append.mpr ⟨sX,sY,low⟩
  rw[if_neg c1];rw[beq_iff_eq] at c1;obtain ⟨z,hz'⟩:=at_ (sa+k+(na - k) - 1) (by lia);refine wpS_bind (aP hz' ?_);rw[show sa+k+(na - k) - 1=sa+(na - 1) by lia] at hz';refine wpS_bind (oG L hk (D hz') (by lia) (by lia) (λi x _ hx=>D hx) (λi j x y hij hj hx hy hr=>by
    cases q:R x z with
    | true=>rfl
    | false =>
      have:=o.tr z x y (D hz') (D hx) (D hy) q (leY hij hj hx hy);rw[hr] at this;cases this) λn hnn n1 n2=>?_)
  dsimp (config:={ zeta:=false }) only;have eX:seg l sa na=seg l sa k++seg l (sa+k) (na - k):=by rw[<-lS];congr 1;lia
  have eY:seg l (sa+na) nb=seg l (sa+na) n++seg l (sa+na+n) (nb - n):=by rw[<-lS];congr 1;lia
  have high:∀x∈seg l (sa+k) (na - k),∀y∈seg l (sa+na+n) (nb - n),R y x=false:=λx hx y hy=>by
    obtain ⟨i,h3,h4⟩:=gW hx;obtain ⟨j,h5,h6⟩:=gW hy;rw[<-hl,Array.getElem?_toList] at h4 h6;rw[Nat.add_assoc] at h4;rw[Nat.add_assoc (sa+na)] at h6;exact o.tr x z y (D h4) (D hz') (D h6) (leX (by lia) (by lia) h4 hz') (n2 _ y (by lia) (by lia) h6)
  have fin:∀m:List Keyed,m.Perm (seg l (sa+k) (na - k)++seg l (sa+na) n)->gd R m->(seg l sa k++m++seg l (sa+na+n) (nb - n)).Perm (seg l sa (na+nb))/\gd R (seg l sa k++m++seg l (sa+na+n) (nb - n)):=λm hp hs=>by
    constructor
    · rw[lS,eX,eY,append_assoc,append_assoc];refine List.Perm.append_left _ ?_;rw[<-append_assoc];exact hp.append_right _
    · exact Au o (X1:=seg l (sa+k) (na - k)) (Y0:=seg l (sa+na) n) (λx hx=>by
        rw[<-eX,<-eY] at hx;rcases mem_append.mp hx with q | q
        · exact dX x q
        · exact dY x q) (by rw[<-eX];exact sX) (by rw[<-eY];exact sY) hp hs (by rw[<-eY];exact low) high
  by_cases c2:(n == 0)=true
  · rw[if_pos c2];rw[beq_iff_eq] at c2;subst c2;have:=fin (seg l (sa+k) (na - k)) (by unfold seg;simp) (by
      rw[eX] at sX;exact (pairwise_append.mp sX).2.1)
    refine wpS_pure (h _ hk hf rfl ⟨_,?_,this.1,this.2⟩);show (arrOf st).toList=_;rw[hl,<-eX];rw[show sa+na+0=sa+na by lia,show nb - 0=nb by lia,<-lS];exact mW _ _ _
  rw[if_neg c2];rw[beq_iff_eq] at c2;have P:Pre Dm R ((arrOf st).extract (sa+k) (sa+na)) ((arrOf st).extract (sa+na) (sa+na+n)):=by
    have e1:((arrOf st).extract (sa+k) (sa+na)).toList=seg l (sa+k) (na - k):=by rw[nZ,hl];congr 1;lia
    have e2:((arrOf st).extract (sa+na) (sa+na+n)).toList=seg l (sa+na) n:=by rw[nZ,hl];congr 1;lia
    have z1:((arrOf st).extract (sa+k) (sa+na)).size=na - k:=by rw[Array.size_extract];lia
    have z2:((arrOf st).extract (sa+na) (sa+na+n)).size=n:=by rw[Array.size_extract];lia
    refine ⟨o,?_,?_,?_,?_,?_,?_,by lia,by lia⟩
    · rw[e1];exact λx hx=>dX x (by rw[eX];exact mem_append_right _ hx)
    · rw[e2];exact λx hx=>dY x (by rw[eY];exact mem_append_left _ hx)
    · rw[e1];rw[eX] at sX;exact (pairwise_append.mp sX).2.1
    · rw[e2];rw[eY] at sY;exact (pairwise_append.mp sY).1
    · rw[e1];intro x hx y hy;have hy':=vZ hy;rw[e2] at hy';obtain ⟨h3,h4⟩:=gU hy';rw[<-hl,Array.getElem?_toList,Nat.add_zero,hy0] at h4;cases h4;obtain ⟨j,h5,h6⟩:=gW hx;rw[<-hl,Array.getElem?_toList,Nat.add_assoc] at h6;exact k2 _ x (by lia) (by lia) h6
    · rw[e2];intro y hy x hx;have hx':=vZ hx;rw[e1,z1] at hx';obtain ⟨h3,h4⟩:=gU hx';rw[<-hl,Array.getElem?_toList,show sa+k+(na - k - 1)=sa+(na - 1) by lia,hz'] at h4;cases h4;obtain ⟨j,h5,h6⟩:=gW hy;rw[<-hl,Array.getElem?_toList] at h6;exact n1 j y h5 h6
  have back:∀(r:Array Keyed) (st':SortSt),aq (setPending st (((pendingOf st).setIfInBounds i (sa,na+nb,pw)).eraseIdxIfInBounds (i+1))) st'->Good R ((arrOf st).extract (sa+k) (sa+na)) ((arrOf st).extract (sa+na) (sa+na+n)) r ->
      Q true (setArr st' (putBack (sa+k) r (arrOf st')))/\failedOf st'=none:=λr st' hS hG=>by
    have hS1:kindOf st'=κ:=hS.1.trans hk;have hS2:arrOf st'=arrOf st:=hS.2.1;have hS4:failedOf st'=none:=hS.2.2.2.trans hf;obtain ⟨hp,hs⟩:=hG;rw[nZ,nZ,hl,show sa+na - (sa+k)=na - k by lia,show sa+na+n - (sa+na)=n by lia] at hp;have:=fin r.toList hp hs;have hlen2:r.size=na - k+n:=by
      have:=hp.length_eq;rw[length_append] at this;unfold seg at this;rw[length_take,length_take,length_drop,length_drop,length_toList] at this;lia
    refine ⟨h _ hS1 hS4 hS.2.2.1 ⟨_,?_,this.1,this.2⟩,hS4⟩;show (putBack (sa+k) r (arrOf st')).toList=_;rw[hS2,sH (by lia),hl];have t1:l.take (sa+k)=l.take sa++seg l sa k:=by unfold seg;rw[List.take_add]
    have t2:l.drop (sa+k+r.size)=seg l (sa+na+n) (nb - n)++l.drop (sa+(na+nb)):=by
      unfold seg;rw[show sa+k+r.size=sa+na+n by lia,show sa+(na+nb)=sa+na+n+(nb - n) by lia];have:=take_append_drop (nb - n) (l.drop (sa+na+n));rw[List.drop_drop] at this;exact this.symm
    rw[t1,t2];simp only[append_assoc]
  dsimp only;have post:∀(r:Array Keyed) (st':SortSt),aq (setPending st (((pendingOf st).setIfInBounds i (sa,na+nb,pw)).eraseIdxIfInBounds (i+1))) st'->Good R ((arrOf st).extract (sa+k) (sa+na)) ((arrOf st).extract (sa+na) (sa+na+n)) r ->
      wpS (model prog w) A E s (do modify λs=>setArr s (putBack (sa+k) r (arrOf s));let t <-get;pure (failedOf t).isNone) Q st':=λr st' hS hG=>by
    obtain ⟨q1,q2⟩:=back r st' hS hG;refine wpS_bind (wpS_modify (wpS_bind (wpS_get (wpS_pure ?_))));show Q (failedOf st').isNone _;rw[q2];exact q1
  split
  · exact wpS_bind (uw L P (st:=setPending st (((pendingOf st).setIfInBounds i (sa,na+nb,pw)).eraseIdxIfInBounds (i+1))) hk post)
  · exact wpS_bind (uv L P (st:=setPending st (((pendingOf st).setIfInBounds i (sa,na+nb,pw)).eraseIdxIfInBounds (i+1))) hk post)
end
end Tim
namespace Tim
open PySem PyProof.Rows
section
variable {prog:Program} {w:World} {A:Around} {E:Value->Shared->Prop} {s:Shared}
variable {Dm:Keyed->Prop} {rk:Keyed->Int} {κ:SortKind}
noncomputable def eA (rk:Keyed->Int):Keyed->Keyed->Bool:=λx y=>decide (rk x<rk y)
theorem zD:Ord Dm (eA rk):=⟨λx y z _ _ _ h1 h2=>by unfold eA at *;simp only[decide_eq_false_iff_not,Int.not_lt] at *;lia,λx y _ _ h=>by unfold eA at *;simp only[decide_eq_true_eq,decide_eq_false_iff_not] at *;lia⟩
noncomputable def Kr (rk:Keyed->Int)(xs:Array Keyed)(i:Nat):Int:=match xs[i]? with
 | some p=>rk p
 | none=>0
theorem jq {xs ys:Array Keyed}{i j:Nat}(h:xs[i]?=ys[j]?):Kr rk xs i=Kr rk ys j:=by unfold Kr;rw[h]
theorem nM {xs:Array Keyed}{i:Nat}{x:Keyed}(h:xs[i]?=some x):Kr rk xs i=rk x:=by unfold Kr;rw[h]
set_option tactic.hygienic true in
theorem mw {xs:Array Keyed}{i j:Nat}(hj:j<=xs.size)(k:Nat):Kr rk (mirror xs i j ((j - i) / 2)) k=if i<=k/\k<j then Kr rk xs (i+j - 1 - k) else Kr rk xs k:=by
 have e:=getElem?_mirror_all (i:=i) hj k;split
 .rename_i c;rw[if_pos c] at e;exact jq e
 .rename_i c;rw[if_neg c] at e;exact jq e
theorem rn {xs:Array Keyed}{i j:Nat}(hj:j<=xs.size)(heq:∀k,i<=k->k<j->Kr rk xs k=Kr rk xs (j - 1))(k:Nat):Kr rk (mirror xs i j ((j - i) / 2)) k=Kr rk xs k:=by
 rw[mw hj];split
 .rw[heq _ (by lia) (by lia),heq k (by lia) (by lia)]
 .rfl
structure Bs (κ:SortKind)(xs:Array Keyed)(p:Array (Nat×Nat×Nat))(lo:Nat)(st:SortSt):Prop where
 perm:(arrOf st).Perm xs
 kind:kindOf st=κ
 failed:failedOf st=none
 pend:pendingOf st=p
 low:∀i,i<lo->(arrOf st)[i]?=xs[i]?
variable {xs:Array Keyed} {p:Array (Nat×Nat×Nat)} {lo:Nat}
theorem Bs.size {st:SortSt}(B:Bs κ xs p lo st):(arrOf st).size=xs.size:=B.perm.size_eq
theorem Bs.mirror {st:SortSt}(B:Bs κ xs p lo st){i j:Nat}(h:lo<=i)(hj:j<=xs.size):Bs κ xs p lo (setArr st (mirror (arrOf st) i j ((j - i) / 2))):=
 ⟨(mirror_perm _ _ _ _).trans B.perm,B.kind,B.failed,B.pend,λk hk=>by
  show (PyProof.Rows.mirror (arrOf st) i j ((j - i) / 2))[k]?=_;rw[getElem?_mirror_all (by rw[B.size];exact hj),if_neg (by lia)];exact B.low k hk⟩
theorem Bs.bubble {st:SortSt}(B:Bs κ xs p lo st){k d:Nat}(hk:k<xs.size)(h:lo+d<=k):Bs κ xs p lo (setArr st (bubble (arrOf st) k d)):=
 ⟨(bubble_perm _ _ _).trans B.perm,B.kind,B.failed,B.pend,λi hi=>by
  show (PyProof.Rows.bubble (arrOf st) k d)[i]?=_;rw[getElem?_bubble (by rw[B.size];exact hk) d (by lia),if_neg (by lia),if_neg (by lia)];exact B.low i hi⟩
theorem Bs.lt (L:fM prog w A E s Dm (eA rk) κ)(D:∀x∈xs.toList,Dm x){st:SortSt}(B:Bs κ xs p lo st){i j:Nat}(hi:i<xs.size)(hj:j<xs.size){Q:Option Bool->SortSt->Prop}(h:Q (some (decide (Kr rk (arrOf st) i<Kr rk (arrOf st) j))) st):wpS (model prog w) A E s (ltAt' i j) Q st:=by
 have at_:∀k,k<xs.size->∃x,(arrOf st)[k]?=some x/\Dm x:=λk hk=>by
  have hk':k<(arrOf st).size:=by rw[B.size];exact hk
  exact ⟨(arrOf st)[k],Array.getElem?_eq_getElem hk',D _ ((Array.perm_iff_toList_perm.mp B.perm).mem_iff.mp (by simp))⟩
 obtain ⟨x,hx,dx⟩:=at_ i hi;obtain ⟨y,hy,dy⟩:=at_ j hj;rw[ltAt'_eq];refine wpS_bind (wpS_get ?_);refine wpS_bind (aP hx (wpS_bind (aP hy (L x y st _ dx dy B.kind ?_))));rw[nM hx,nM hy] at h;exact h
noncomputable def Up (rk:Keyed->Int)(lo:Nat)(xs:Array Keyed)(n:Nat):Prop:=∀i j,i<=j->j<n->Kr rk xs (lo+i)<=Kr rk xs (lo+j)
noncomputable def Dn (rk:Keyed->Int)(lo:Nat)(xs:Array Keyed)(n:Nat):Prop:=∀i j,i<=j->j<n->Kr rk xs (lo+j)<=Kr rk xs (lo+i)
theorem Up.step {ys:Array Keyed}{n:Nat}(h:Up rk lo ys n)(h1:1<=n)(hl:¬Kr rk ys (lo+n)<Kr rk ys (lo+n - 1)):Up rk lo ys (n+1):=λi j hij hj=>by
  by_cases c:j<n
  · exact h i j hij c
  · have e : j = n := by lia
    subst e;by_cases c2:i=j
    · subst c2;exact Int.le_refl _
    · have := h i (j - 1) (by lia) (by lia);rw[show lo+(j - 1)=lo+j - 1 by lia] at this;lia
theorem Dn.step {ys:Array Keyed}{n:Nat}(h:Dn rk lo ys n)(h1:1<=n)(hl:Kr rk ys (lo+n)<=Kr rk ys (lo+n - 1)):Dn rk lo ys (n+1):=λi j hij hj=>by
  by_cases c:j<n
  · exact h i j hij c
  · have e : j = n := by lia
    subst e;by_cases c2:i=j
    · subst c2;exact Int.le_refl _
    · have := h i (j - 1) (by lia) (by lia);rw[show lo+(j - 1)=lo+j - 1 by lia] at this;lia
theorem Dn.congr {ys zs:Array Keyed}{n:Nat}(h:Dn rk lo ys n)(e:∀k,Kr rk zs k=Kr rk ys k):Dn rk lo zs n:=λi j hij hj=>by rw[e,e];exact h i j hij hj
theorem Dn.rev {ys:Array Keyed}{n:Nat}(h:Dn rk lo ys n)(hn:lo+n<=ys.size):Up rk lo (mirror ys lo (lo+n) ((lo+n - lo) / 2)) n:=λi j hij hj=>by
 rw[mw hn,mw hn,if_pos (by lia),if_pos (by lia)];have:=h (n - 1 - j) (n - 1 - i) (by lia) (by lia);rw[show lo+(n - 1 - j)=lo+(lo+n) - 1 - (lo+j) by lia,show lo+(n - 1 - i)=lo+(lo+n) - 1 - (lo+i) by lia] at this;exact this
theorem Up.one {ys:Array Keyed}:Up rk lo ys 1:=λi j hij hj=>by
 have e1:i=0:=by lia
 have e2:j=0:=by lia
 subst e1 e2;exact Int.le_refl _
theorem Dn.one {ys:Array Keyed}:Dn rk lo ys 1:=λi j hij hj=>by
 have e1:i=0:=by lia
 have e2:j=0:=by lia
 subst e1 e2;exact Int.le_refl _
set_option tactic.hygienic true in
theorem rF (L:fM prog w A E s Dm (eA rk) κ)(D:∀x∈xs.toList,Dm x){st:SortSt}(B:Bs κ xs p lo st){nrem:Nat}(h1:1<=nrem)(h2:lo+nrem<=xs.size){Q:Option Nat->SortSt->Prop}
    (h:∀m st',Bs κ xs p lo st'->1<=m->m<=nrem->Up rk lo (arrOf st') m->Q (some m) st'):wpS (model prog w) A E s (countRun' lo nrem) Q st:=by
  rw[countRun'_eq];refine wpS_bind (wpS_mono (wpS_forRange (I:=λx c st'=>st'=st/\c=(none,x)/\Up rk lo (arrOf st) x)
    (Q:=λc st'=>st'=st/\∃n,c=(none,n)/\1<=n/\n<=nrem/\Up rk lo (arrOf st) n/\(n=nrem\/Kr rk (arrOf st) (lo+n)<Kr rk (arrOf st) (lo+n - 1))) ?s1 ?f1 ⟨rfl,rfl,.one⟩) ?post)
  case f1 =>
    rintro c st' ⟨rfl,rfl,hu⟩;rw[show max 1 nrem=nrem by lia] at hu ⊢;exact ⟨rfl,nrem,rfl,h1,Nat.le_refl _,hu,.inl rfl⟩
  case s1 =>
    rintro x c st' hx1 hx2 ⟨rfl,rfl,hu⟩;dsimp (config:={ zeta:=false }) only;refine wpS_bind (B.lt L D (by lia) (by lia) ?_);dsimp (config:={ zeta:=false }) only;split
    · rename_i c;exact wpS_pure ⟨rfl,x,rfl,hx1,by lia,hu,.inr (of_decide_eq_true c)⟩
    · rename_i c;exact wpS_pure ⟨rfl,rfl,hu.step hx1 λz=>c (decide_eq_true z)⟩
  case post =>
    rintro c st' ⟨rfl,n,rfl,n1,n2,hu,hor⟩;dsimp only;by_cases c1:(n == nrem)=true
    · rw[if_pos c1];exact wpS_pure (h n _ B n1 n2 hu)
    rw[if_neg c1];rw[beq_iff_eq] at c1;have hlt:=hor.resolve_left c1;have hsz:=B.size;refine (λ(tail:∀st1,Bs κ xs p lo st1->Dn rk lo (arrOf st1) (n+1)->wpS (model prog w) A E s ?X Q st1)=>?main) ?tl
    case main =>
     by_cases c2:n>1
     case pos =>
      rw[if_pos c2];refine wpS_bind (B.lt L D (by lia) (by lia) ?_);dsimp only;by_cases c3:Kr rk (arrOf st') lo<Kr rk (arrOf st') (lo+n - 1)
      · rw[if_pos (decide_eq_true c3)];exact wpS_pure (h n _ B n1 n2 hu)
      rw[if_neg (λz=>c3 (of_decide_eq_true z))];refine wpS_bind (wpS_reverse ?_);have heq:∀k,lo<=k->k<lo+n->Kr rk (arrOf st') k=Kr rk (arrOf st') (lo+n - 1):=λk k1 k2=>by
        have a1:=hu 0 (k - lo) (by lia) (by lia);have a2:=hu (k - lo) (n - 1) (by lia) (by lia);rw[show lo+(k - lo)=k by lia] at a1 a2;rw[show lo+(n - 1)=lo+n - 1 by lia] at a2;rw[Nat.add_zero] at a1;lia
      have ke:=rn (rk:=rk) (xs:=arrOf st') (i:=lo) (j:=lo+n) (by lia) heq;have B1:=B.mirror (i:=lo) (j:=lo+n) (Nat.le_refl _) (by lia);have d0:Dn rk lo (arrOf st') n:=λi j hij hj=>by
        rw[heq (lo+i) (by lia) (by lia),heq (lo+j) (by lia) (by lia)];exact Int.le_refl _
      have d1:Dn rk lo (mirror (arrOf st') lo (lo+n) ((lo+n - lo) / 2)) (n+1):=(d0.step n1 (by lia)).congr ke;exact tail _ B1 d1
     case neg =>
      rw[if_neg c2];have e:n=1:=by lia
      have B1:=B;have d1:Dn rk lo (arrOf st') (n+1):=Dn.step (by rw[e];exact .one) n1 (by lia);exact tail _ B1 d1
    case tl =>
      intro st1 B1 d1;refine wpS_bind (wpS_lift (wpAny_rule ⟨rfl,?_⟩));refine wpS_bind (wpS_mono (wpS_forRange (I:=λx c st2=>∃neq,c=(none,x,neq)/\Bs κ xs p lo st2/\Dn rk lo (arrOf st2) x/\neq+1<=x/\∀k,lo+x - (neq+1)<=k->k<lo+x->Kr rk (arrOf st2) k=Kr rk (arrOf st2) (lo+x - 1))
        (Q:=λc st2=>∃m neq,c=(none,m,neq)/\Bs κ xs p lo st2/\n+1<=m/\m<=nrem/\Dn rk lo (arrOf st2) m/\neq+1<=m/\∀k,lo+m - (neq+1)<=k->k<lo+m->Kr rk (arrOf st2) k=Kr rk (arrOf st2) (lo+m - 1)) ?s2 ?f2 ⟨0,rfl,B1,d1,by lia,λk k1 k2=>by congr 1;lia⟩) ?post2)
      case f2 =>
        rintro c st2 ⟨neq,rfl,B2,d2,q1,q2⟩;rw[show max (n+1) nrem=nrem by lia] at d2 q1 q2 ⊢;exact ⟨nrem,neq,rfl,B2,by lia,Nat.le_refl _,d2,q1,q2⟩
      case s2 =>
        rintro x c st2 hx1 hx2 ⟨neq,rfl,B2,d2,q1,q2⟩;have hs2:=B2.size;dsimp only;refine wpS_bind (B2.lt L D (by lia) (by lia) ?_);dsimp only;by_cases c4:Kr rk (arrOf st2) (lo+x)<Kr rk (arrOf st2) (lo+x - 1)
        · rw[if_pos (decide_eq_true c4)];have d3:=d2.step (by lia) (Int.le_of_lt c4);by_cases c5:neq>0
          · rw[if_pos c5];refine wpS_bind (wpS_reverse (wpS_pure ⟨0,rfl,B2.mirror (by lia) (by lia),d3.congr (rn (by lia) q2),by lia,λk k1 k2=>by congr 1;lia⟩))
          · rw[if_neg c5];exact wpS_pure ⟨0,rfl,B2,d3,by lia,λk k1 k2=>by congr 1;lia⟩
        · rw[if_neg (λz=>c4 (of_decide_eq_true z))];refine wpS_bind (B2.lt L D (by lia) (by lia) ?_);dsimp only;by_cases c5:Kr rk (arrOf st2) (lo+x - 1)<Kr rk (arrOf st2) (lo+x)
          · rw[if_pos (decide_eq_true c5)];exact wpS_pure ⟨x,neq,rfl,B2,by lia,by lia,d2,q1,q2⟩
          · rw[if_neg (λz=>c5 (of_decide_eq_true z))];refine wpS_pure ⟨neq+1,rfl,B2,d2.step (by lia) (by lia),by lia,λk k1 k2=>?_⟩;rw[show lo+(x+1) - 1=lo+x by lia];by_cases c6:k=lo+x
            · rw[c6]
            · have := q2 k (by lia) (by lia);lia
      case post2 =>
        rintro c st2 ⟨m,neq,rfl,B2,m1,m2,d2,q1,q2⟩;dsimp only;have hs2:=B2.size;refine (λ(tail:∀st3,Bs κ xs p lo st3->Dn rk lo (arrOf st3) m->wpS (model prog w) A E s ?X2 Q st3)=>?main) ?tl
        case main =>
         by_cases c4:neq>0
         case pos =>
          rw[if_pos c4];refine wpS_bind (wpS_reverse ?_);have B3:=B2.mirror (i:=lo+m - (neq+1)) (j:=lo+m) (by lia) (by lia);have d3:=d2.congr (zs:=mirror (arrOf st2) (lo+m - (neq+1)) (lo+m) ((lo+m - (lo+m - (neq+1))) / 2)) (rn (by lia) q2);exact tail _ B3 d3
         case neg =>
          rw[if_neg c4];have B3:=B2;have d3:=d2;exact tail _ B3 d3
        case tl =>
          intro st3 B3 d3;have hs3:=B3.size;refine wpS_bind (wpS_reverse ?_);have hs3:=B3.size;have B4:=B3.mirror (i:=lo) (j:=lo+m) (Nat.le_refl _) (by lia);have u4:=d3.rev (by lia);generalize hst4:setArr st3 (mirror (arrOf st3) lo (lo+m) ((lo+m - lo) / 2))=st4 at B4 ⊢;replace u4:Up rk lo (arrOf st4) m:=by rw[<-hst4];exact u4
          refine wpS_bind (wpS_mono (wpS_forRange (I:=λx c st'=>st'=st4/\c=(none,x)/\Up rk lo (arrOf st4) x)
            (Q:=λc st'=>st'=st4/\∃n,c=(none,n)/\1<=n/\n<=nrem/\Up rk lo (arrOf st4) n) ?s3 ?f3 ⟨rfl,rfl,u4⟩) ?post3)
          case f3 =>
            rintro c st' ⟨rfl,rfl,hu⟩;rw[show max m nrem=nrem by lia] at hu ⊢;exact ⟨rfl,nrem,rfl,h1,Nat.le_refl _,hu⟩
          case s3 =>
            rintro x c st' hx1 hx2 ⟨rfl,rfl,hu⟩;dsimp only;refine wpS_bind (B4.lt L D (by lia) (by lia) ?_);dsimp only;split
            · exact wpS_pure ⟨rfl,x,rfl,by lia,by lia,hu⟩
            · rename_i c;exact wpS_pure ⟨rfl,rfl,hu.step (by lia) λz=>c (decide_eq_true z)⟩
          case post3 =>
            rintro c st' ⟨rfl,n',rfl,z1,z2,hu⟩;dsimp only;exact wpS_pure (h n' _ B4 z1 z2 hu)
theorem qm {xs:Array Keyed}{src d:Nat}(hs:src<xs.size)(hd:d<=src)(k:Nat):Kr rk (bubble xs src d) k=if k=src - d then Kr rk xs src else if src - d<k/\k<=src then Kr rk xs (k - 1) else Kr rk xs k:=by
 have e:=getElem?_bubble hs d hd k;by_cases h1:k=src - d
 .rw[if_pos h1] at e ⊢;exact jq e
 .rw[if_neg h1] at e ⊢;by_cases h2:src - d<k/\k<=src
  .rw[if_pos h2] at e ⊢;exact jq e
  .rw[if_neg h2] at e ⊢;exact jq e
theorem og (L:fM prog w A E s Dm (eA rk) κ)(D:∀x∈xs.toList,Dm x){st:SortSt}(B:Bs κ xs p lo st){n ok:Nat}(h2:lo+n<=xs.size)(hu:Up rk lo (arrOf st) ok)(h1:1<=ok)(bp:ok<=n){Q:Bool->SortSt->Prop}
    (h:∀st',Bs κ xs p lo st'->Up rk lo (arrOf st') n->Q true st'):wpS (model prog w) A E s (binarySort' lo n ok) Q st:=by
  rw[binarySort'_eq];refine wpS_bind (wpS_mono (wpS_forRange (I:=λk c st'=>c=(none,())/\Bs κ xs p lo st'/\Up rk lo (arrOf st') k)
    (Q:=λc st'=>c=(none,())/\Bs κ xs p lo st'/\Up rk lo (arrOf st') n) ?step ?fin ⟨rfl,B,by rw[show max ok 1=ok by lia];exact hu⟩) ?post)
  case post =>
    rintro c st' ⟨rfl,B',hs'⟩;exact wpS_pure (h st' B' hs')
  case fin =>
    rintro c st' ⟨hc,B',hs'⟩;rw[show max (max ok 1) n=n by lia] at hs';exact ⟨hc,B',hs'⟩
  case step =>
    rintro k c st' hk1 hk2 ⟨rfl,B',hs'⟩;have hsz:=B'.size;dsimp only;refine wpS_bind (wpS_mono (wpS_forRange (I:=λx c st2=>st2=st'/\∃l r,c=(none,l,r)/\l<=r/\r<=k/\r - l<=k - x/\(∀i,i<l->Kr rk (arrOf st') (lo+i)<=Kr rk (arrOf st') (lo+k))/\∀i,r<=i->i<k->Kr rk (arrOf st') (lo+k)<Kr rk (arrOf st') (lo+i))
      (Q:=λc st2=>st2=st'/\∃l r,c=(none,l,r)/\l<=k/\(∀i,i<l->Kr rk (arrOf st') (lo+i)<=Kr rk (arrOf st') (lo+k))/\∀i,l<=i->i<k->Kr rk (arrOf st') (lo+k)<Kr rk (arrOf st') (lo+i)) ?istep ?ifin ⟨rfl,0,k,rfl,by lia,by lia,by lia,λi hi=>by lia,λi h1 h2=>by lia⟩) ?ipost)
    case ifin =>
      rintro c st2 ⟨rfl,l,r,rfl,a1,a2,a3,a4,a5⟩;have:l=r:=by lia
      subst this;exact ⟨rfl,l,l,rfl,a2,a4,a5⟩
    case istep =>
      rintro x c st2 _ hx ⟨rfl,l,r,rfl,a1,a2,a3,a4,a5⟩;dsimp only;by_cases c1:l>=r
      · rw[if_pos c1];have:l=r:=by lia
        subst this;exact wpS_pure ⟨rfl,l,l,rfl,a2,a4,a5⟩
      rw[if_neg c1];refine wpS_bind (B'.lt L D (by lia) (by lia) ?_);dsimp only;by_cases c2:Kr rk (arrOf st2) (lo+k)<Kr rk (arrOf st2) (lo+(l+r) / 2)
      · rw[if_pos (decide_eq_true c2)];refine wpS_pure ⟨rfl,l,_,rfl,by lia,by lia,by lia,a4,λi b1 b2=>?_⟩;have:=hs' ((l+r) / 2) i b1 b2;lia
      · rw[if_neg (λz=>c2 (of_decide_eq_true z))];refine wpS_pure ⟨rfl,_,r,rfl,by lia,by lia,by lia,λi b1=>?_,a5⟩;have:=hs' i ((l+r) / 2) (by lia) (by lia);lia
    case ipost =>
      rintro c st2 ⟨rfl,l,r,rfl,a1,a4,a5⟩;dsimp only;rw[moveDown'_eq];refine wpS_bind (wpS_modify (wpS_pure ⟨rfl,B'.bubble (by lia) (by lia),?_⟩));intro i j hij hj;show Kr rk (bubble (arrOf st2) (lo+k) (lo+k - (lo+l))) _<=Kr rk (bubble (arrOf st2) (lo+k) (lo+k - (lo+l))) _;rw[qm (by lia) (by lia),qm (by lia) (by lia),show lo+k - (lo+k - (lo+l))=lo+l by lia];have back:∀q,lo+l<lo+q->Kr rk (arrOf st2) (lo+q - 1)=Kr rk (arrOf st2) (lo+(q - 1)):=λq hq=>by congr 1;lia
      by_cases i1:lo+i=lo+l
      · rw[if_pos i1];by_cases j1:lo+j=lo+l
        · rw[if_pos j1];exact Int.le_refl _
        rw[if_neg j1,if_pos (by lia),back j (by lia)];exact Int.le_of_lt (a5 _ (by lia) (by lia))
      rw[if_neg i1];by_cases i2:lo+l<lo+i/\lo+i<=lo+k
      · rw [if_pos i2, if_neg (by lia), if_pos (by lia), back i (by lia), back j (by lia)];exact hs' _ _ (by lia) (by lia)
      rw[if_neg i2];by_cases j1:lo+j=lo+l
      · rw[if_pos j1];exact a4 _ (by lia)
      rw[if_neg j1];by_cases j2:lo+l<lo+j/\lo+j<=lo+k
      · rw [if_pos j2, back j (by lia)];exact hs' _ _ (by lia) (by lia)
      · rw[if_neg j2];exact hs' _ _ (by lia) (by lia)
end
end Tim
namespace Tim
open PySem PyProof.Rows
section
variable {R:Keyed->Keyed->Bool}
inductive Runs (R:Keyed->Keyed->Bool)(l:List Keyed):Nat->List (Nat×Nat×Nat)->Nat->Prop where
 | nil (s:Nat):Runs R l s [] s
 | cons {s n pw e:Nat} {rest:List (Nat×Nat×Nat)}:1<=n->gd R (seg l s n)->Runs R l (s+n) rest e->Runs R l s ((s,n,pw)::rest) e
theorem Runs.le {l:List Keyed}{s e:Nat}{p:List (Nat×Nat×Nat)}(h:Runs R l s p e):s+p.length<=e:=by
 induction h with
 | nil s=>exact Nat.le_refl _
 | cons h1 _ _ ih=>simp;lia
theorem Runs.append {l:List Keyed}{s m e:Nat}{p q:List (Nat×Nat×Nat)}(h:Runs R l s p m)(h':Runs R l m q e):Runs R l s (p++q) e:=by
 induction h with
 | nil s=>exact h'
 | cons h1 h2 _ ih=>exact .cons h1 h2 (ih h')
theorem Runs.split {l:List Keyed}{e:Nat}{q:List (Nat×Nat×Nat)}:∀{p:List (Nat×Nat×Nat)} {s:Nat},Runs R l s (p++q) e->∃m,Runs R l s p m/\Runs R l m q e
 | [],s,h=>⟨s,.nil s,h⟩
 | _::p,s,.cons h1 h2 h3=>by
  obtain ⟨m,a,b⟩:=Runs.split h3;exact ⟨m,.cons h1 h2 a,b⟩
theorem Runs.congr {l l':List Keyed}{s e:Nat}{p:List (Nat×Nat×Nat)}(h:Runs R l s p e)(hc:∀s' n',s<=s'->s'+n'<=e->seg l' s' n'=seg l s' n'):Runs R l' s p e:=by
 induction h with
 | nil s=>exact .nil s
 | cons h1 h2 h3 ih =>
  have:=h3.le;exact .cons h1 (by rw[hc _ _ (Nat.le_refl _) (by lia)];exact h2) (ih λs' n' a b=>hc s' n' (by lia) b)
theorem i9 {l l':List Keyed}{s n:Nat}(h:∀i,i<n->l'[s+i]?=l[s+i]?):seg l' s n=seg l s n:=by
  refine List.ext_getElem? λi=>?_;by_cases c:i<n
  · rw[seg_at c,seg_at c,h i c]
  · have : ∀ z : List Keyed, (seg z s n)[i]? = none := λz => List.getElem?_eq_none (by unfold seg;rw [length_take];lia);rw[this,this]
theorem Done.len {l l':List Keyed}{s n:Nat}(h:Done R l l' s n):l'.Perm l:=by
 obtain ⟨m,e,hp,_⟩:=h;rw[e];conv=>rhs;rw[mW l s n]
 exact (hp.append_left _).append_right _
theorem Done.below {l l':List Keyed}{s n i:Nat}(h:Done R l l' s n)(hz:s+n<=l.length)(hi:i<s):l'[i]?=l[i]?:=by
 obtain ⟨m,e,hp,_⟩:=h;rw[e,append_assoc,List.getElem?_append_left (by rw[length_take];lia),List.getElem?_take_of_lt hi]
theorem Done.Hd {l m:List Keyed}{s n:Nat}(hp:m.Perm (seg l s n))(hz:s+n<=l.length):m.length=n:=by
 rw[hp.length_eq];unfold seg;rw[length_take,length_drop];lia
theorem Done.above {l l':List Keyed}{s n i:Nat}(h:Done R l l' s n)(hz:s+n<=l.length)(hi:s+n<=i):l'[i]?=l[i]?:=by
 obtain ⟨m,e,hp,_⟩:=h;have hm:=Done.Hd hp hz;rw[e,List.getElem?_append_right (by rw[length_append,length_take,hm];lia),length_append,length_take,hm,List.getElem?_drop];congr 1;lia
theorem Done.FV {l l':List Keyed}{s n:Nat}(h:Done R l l' s n)(hz:s+n<=l.length):gd R (seg l' s n):=by
 obtain ⟨m,e,hp,hs⟩:=h;have hm:=Done.Hd hp hz;have:seg l' s n=m:=by
  unfold seg;rw[e,append_assoc,List.drop_append_of_le_length (by rw[length_take];lia),List.drop_eq_nil_of_le (by rw[length_take];lia),List.nil_append,List.take_append_of_le_length (by lia),take_of_length_le (by lia)]
 rw[this];exact hs
theorem qJ (X a b:Nat×Nat×Nat)(post:List (Nat×Nat×Nat)):∀pre:List (Nat×Nat×Nat),((pre++a::b::post).set pre.length X).eraseIdx (pre.length+1)=pre++X::post
 | []=>rfl
 | c::pre=>by
  have:=qJ X a b post pre;simp only[List.cons_append,length_cons,List.set_cons_succ,List.eraseIdx_cons_succ];rw[this]
end
section
variable {prog:Program} {w:World} {A:Around} {E:Value->Shared->Prop} {s:Shared}
variable {Dm:Keyed->Prop} {rk:Keyed->Int} {κ:SortKind}
structure vg (κ:SortKind)(rk:Keyed->Int)(xs:Array Keyed)(lo:Nat)(st:SortSt):Prop where
 perm:(arrOf st).Perm xs
 kind:kindOf st=κ
 failed:failedOf st=none
 runs:Runs (eA rk) (arrOf st).toList 0 (pendingOf st).toList lo
variable {xs:Array Keyed} {lo:Nat}
theorem vg.size {st:SortSt}(B:vg κ rk xs lo st):(arrOf st).size=xs.size:=B.perm.size_eq
theorem vg.merge (L:fM prog w A E s Dm (eA rk) κ)(D:∀x∈xs.toList,Dm x){st:SortSt}(B:vg κ rk xs lo st)(hlo:lo<=xs.size){i:Nat}(hi:i+1<(pendingOf st).size){Q:Bool->SortSt->Prop}
  (h:∀st',vg κ rk xs lo st'->(pendingOf st').size+1=(pendingOf st).size->(∀j,lo<=j->(arrOf st')[j]?=(arrOf st)[j]?)->Q true st'):wpS (model prog w) A E s (mergeAt' i) Q st:=by
 have hl:(pendingOf st).toList.length=(pendingOf st).size:=length_toList;obtain ⟨⟨sa,na,pw⟩,ha⟩ : ∃x,(pendingOf st)[i]?=some x:=⟨(pendingOf st)[i]'(by lia),Array.getElem?_eq_getElem (by lia)⟩
 obtain ⟨⟨sb,nb,pb⟩,hb⟩ : ∃x,(pendingOf st)[i+1]?=some x:=⟨(pendingOf st)[i+1]'(by lia),Array.getElem?_eq_getElem (by lia)⟩
 have e:(pendingOf st).toList=(pendingOf st).toList.take i++(sa,na,pw)::(sb,nb,pb)::(pendingOf st).toList.drop (i+2):=by
  conv=>lhs;rw[<-take_append_drop i (pendingOf st).toList]
  congr 1;rw[drop_eq_getElem_cons (by lia),drop_eq_getElem_cons (by lia)];rw[<-Array.getElem?_toList,List.getElem?_eq_some_iff] at ha hb;rw[ha.2,hb.2]
 have hr:=B.runs;rw[e] at hr;obtain ⟨m,r1,r2⟩:=hr.split;obtain ⟨rfl,na1,sX,r3⟩ : sa=m/\1<=na/\gd (eA rk) (seg (arrOf st).toList sa na)/\Runs (eA rk) (arrOf st).toList (sa+na) ((sb,nb,pb)::(pendingOf st).toList.drop (i+2)) lo:=by
  cases r2 with
  | cons a b c=>exact ⟨rfl,a,b,c⟩
 obtain ⟨rfl,nb1,sY,r4⟩ : sb=sa+na/\1<=nb/\gd (eA rk) (seg (arrOf st).toList sb nb)/\Runs (eA rk) (arrOf st).toList (sb+nb) ((pendingOf st).toList.drop (i+2)) lo:=by
  cases r3 with
  | cons a b c=>exact ⟨rfl,a,b,c⟩
 have hle:=r4.le;have hsz:=B.size;have hpl:((pendingOf st).toList.take i).length=i:=by rw[length_take];lia
 refine uu L zD B.kind B.failed (λx hx=>D x ((Array.perm_iff_toList_perm.mp B.perm).mem_iff.mp hx)) ha hb rfl na1 nb1 (by lia) sX sY λst' k' f' p' d'=>?_;have hz:sa+(na+nb)<=(arrOf st).toList.length:=by rw[length_toList];lia
 have pe:(pendingOf st').toList=(pendingOf st).toList.take i++(sa,na+nb,pw)::(pendingOf st).toList.drop (i+2):=by
  rw[p',Array.toList_eraseIdxIfInBounds,Array.toList_setIfInBounds];conv=>lhs;rw[e]
  have:=qJ (sa,na+nb,pw) (sa,na,pw) (sa+na,nb,pb) ((pendingOf st).toList.drop (i+2)) ((pendingOf st).toList.take i);rw[hpl] at this;exact this
 refine h st' ⟨(Array.perm_iff_toList_perm.mpr d'.len).trans B.perm,k',f',?_⟩ ?_ ?_
 .rw[pe];have r1le:=r1.le;refine (r1.congr λs' n' _ h2=>i9 λj hj=>d'.below hz (by lia)).append (.cons (by lia) (d'.FV hz) ?_);rw[<-Nat.add_assoc];exact r4.congr λs' n' h1 _=>i9 λj hj=>d'.above hz (by lia)
 .have:=congrArg List.length pe;rw[length_toList,length_append,length_cons,hpl,length_drop] at this;lia
 .intro j hj;have:=d'.above (i:=j) hz (by lia);rw[Array.getElem?_toList,Array.getElem?_toList] at this;exact this
theorem Up.FV {ys:Array Keyed}{n:Nat}(h:Up rk lo ys n):gd (eA rk) (seg ys.toList lo n):=by
 refine pairwise_iff_getElem.mpr λi j h1 h2 hij=>?_;have e1:=gU (getElem?_eq_getElem h1);have e2:=gU (getElem?_eq_getElem h2);have:=h i j (Nat.le_of_lt hij) e2.1;rw[nM (by rw[<-Array.getElem?_toList];exact e1.2),nM (by rw[<-Array.getElem?_toList];exact e2.2)] at this;unfold eA;simp only[decide_eq_false_iff_not,Int.not_lt];exact this
theorem u9:∀(p:List (Nat×Nat×Nat)) (f:Nat×Nat×Nat->Nat×Nat×Nat),(∀t,(f t).1=t.1/\(f t).2.1=t.2.1)->∀{R:Keyed->Keyed->Bool} {l:List Keyed} {s e i:Nat},Runs R l s p e->Runs R l s (p.modify i f) e
 | [],f,hf,_,_,_,_,i,h=>by rw[List.modify_nil];exact h
 | (s1,n,pw)::p,f,hf,_,_,_,_,0,.cons h1 h2 h3=>by
  rw[List.modify_zero_cons];have e:f (s1,n,pw)=(s1,n,(f (s1,n,pw)).2.2):=Prod.ext (hf _).1 (Prod.ext (hf _).2 rfl);rw[e];exact .cons h1 h2 h3
 | (s1,n,pw)::p,f,hf,_,_,_,_,i+1,.cons h1 h2 h3=>by
  rw[List.modify_succ_cons];exact .cons h1 h2 (u9 p f hf h3)
set_option tactic.hygienic true in
theorem lT (L:fM prog w A E s Dm (eA rk) κ)(D:∀x∈xs.toList,Dm x){st:SortSt}(ha:arrOf st=xs)(hk:kindOf st=κ)(hf:failedOf st=none)(hp:pendingOf st = #[]){Q:Unit->SortSt->Prop}
    (h:∀st',(arrOf st').Perm xs->failedOf st'=none->gd (eA rk) (arrOf st').toList->Q () st'):wpS (model prog w) A E s sortRuns' Q st:=by
  rw[sortRuns'_eq];refine wpS_bind (wpS_get ?_);dsimp only;rw[ha];generalize hmr:minRun' xs.size xs.size 0=mr;refine wpS_bind (wpS_mono (wpS_forRange (I:=λx c st'=>∃lo,c=(none,lo)/\vg κ rk xs lo st'/\lo<=xs.size/\min x xs.size<=lo) (Q:=λc st'=>c=(none,xs.size)/\vg κ rk xs xs.size st') ?step ?fin ⟨0,rfl,⟨by rw[ha],hk,hf,by rw[hp];exact .nil 0⟩,Nat.zero_le _,by lia⟩) ?post)
  case fin =>
    rintro c st' ⟨lo,rfl,S,h1,h2⟩;have e:lo=xs.size:=by lia
    subst e;exact ⟨rfl,S⟩
  case step =>
    rintro x c st' _ hx ⟨lo,rfl,S,h1,h2⟩;dsimp only;by_cases c1:lo>=xs.size
    · rw[if_pos c1];have e:lo=xs.size:=by lia
      subst e;exact wpS_pure ⟨rfl,S⟩
    rw[if_neg c1];have B0:Bs κ (arrOf st') (pendingOf st') lo st':=⟨.refl _,S.kind,S.failed,rfl,λ_ _=>rfl⟩
    have hsz:=S.size;have D':∀x∈(arrOf st').toList,Dm x:=λx hx=>D x ((Array.perm_iff_toList_perm.mp S.perm).mem_iff.mp hx);refine wpS_bind (rF L D' B0 (by lia) (by lia) λm st2 B1 m1 m2 u1=>?_);dsimp only;have cont:∀(n:Nat) (st3:SortSt),Bs κ (arrOf st') (pendingOf st') lo st3->1<=n->n<=xs.size - lo->Up rk lo (arrOf st3) n->vg κ rk xs lo st3/\gd (eA rk) (seg (arrOf st3).toList lo n):=λn st3 B3 n1 n2 u3 =>
      ⟨⟨B3.perm.trans S.perm,B3.kind,B3.failed,by
        rw[B3.pend];refine S.runs.congr λs' n' _ h'=>i9 λj hj=>?_;rw[Array.getElem?_toList,Array.getElem?_toList];exact B3.low _ (by lia)⟩,u3.FV⟩
    refine (λ(tail:∀(n:Nat) (st3:SortSt),vg κ rk xs lo st3->gd (eA rk) (seg (arrOf st3).toList lo n)->1<=n/\n<=xs.size - lo->wpS (model prog w) A E s ((?X:Nat->StateT SortSt Sem ?T) n) ?Q st3)=>?main) ?tl
    case main =>
     by_cases c2:m<mr
     case pos =>
      rw[if_pos c2];refine wpS_bind (wpS_lift (wpAny_rule ⟨rfl,?_⟩));refine wpS_bind (og L D' B1 (by lia) u1 m1 (by lia) λst3 B3 u3=>?_);simp only[Bool.not_true,Bool.false_eq_true,if_false];obtain ⟨S3,s3⟩:=cont (min (xs.size - lo) mr) st3 B3 (by lia) (by lia) u3;have nb:1<=min (xs.size - lo) mr/\min (xs.size - lo) mr<=xs.size - lo:=by lia
      generalize min (xs.size - lo) mr=n at s3 nb ⊢;exact tail n _ S3 s3 nb
     case neg =>
      rw[if_neg c2];obtain ⟨S3,s3⟩:=cont m st2 B1 m1 m2 u1;exact tail _ _ S3 s3 ⟨m1,m2⟩
    case tl =>
      intro n st3 S3 s3 nb;refine wpS_bind (wpS_get ?_);have pushed:∀st4:SortSt,vg κ rk xs lo st4->gd (eA rk) (seg (arrOf st4).toList lo n)->vg κ rk xs (lo+n) (setPending st4 ((pendingOf st4).push (lo,n,0))):=λst4 S4 s4 =>
        ⟨S4.perm,S4.kind,S4.failed,by
          show Runs _ (arrOf st4).toList 0 ((pendingOf st4).push (lo,n,0)).toList (lo+n);rw[Array.toList_push];exact S4.runs.append (.cons nb.1 s4 (.nil _))⟩
      split
      · rename_i s1 n1 _ hback;generalize power' _ _ _ _=pw;refine wpS_bind (wpS_mono (wpS_forRange (I:=λ_ c st4=>c=(none,())/\vg κ rk xs lo st4/\gd (eA rk) (seg (arrOf st4).toList lo n)) (Q:=λc st4=>c=(none,())/\vg κ rk xs lo st4/\gd (eA rk) (seg (arrOf st4).toList lo n)) ?ms (λ_ _ z=>z) ⟨rfl,S3,s3⟩) ?mp)
        case ms =>
          rintro y c st4 _ _ ⟨rfl,S4,s4⟩;refine wpS_bind (wpS_get ?_);split
          · rename_i older hq;split
            · exact wpS_pure ⟨rfl,S4,s4⟩
            · have hgt:1<(pendingOf st4).size:=by
                by_cases c:(pendingOf st4).size>1
                · exact c
                · rw[if_neg c] at hq;cases hq
              refine wpS_bind (S4.merge L D h1 (by lia) λst5 S5 _ k5=>?_);simp only[Bool.not_true,Bool.false_eq_true,if_false];refine wpS_pure ⟨rfl,S5,?_⟩;rw[i9 (l:=(arrOf st4).toList) λj hj=>by rw[Array.getElem?_toList,Array.getElem?_toList];exact k5 _ (by lia)];exact s4
          · exact wpS_pure ⟨rfl,S4,s4⟩
        case mp =>
          rintro c st4 ⟨rfl,S4,s4⟩;dsimp only;refine wpS_bind (wpS_modify (wpS_bind (wpS_modify (wpS_pure ⟨_,rfl,pushed _ ⟨S4.perm,S4.kind,S4.failed,?_⟩ s4,by lia,by lia⟩))));show Runs _ (arrOf st4).toList 0 ((pendingOf st4).modify _ _).toList lo;rw[Array.toList_modify];exact u9 _ (λx=>(x.1,x.2.1,pw)) (λt=>⟨rfl,rfl⟩) S4.runs
      · exact wpS_bind (wpS_modify (wpS_pure ⟨_,rfl,pushed _ S3 s3,by lia,by lia⟩))
  case post =>
    rintro c st' ⟨rfl,S⟩;dsimp only;refine wpS_bind (wpS_mono (wpS_forRange (I:=λx c st'=>c=(none,())/\vg κ rk xs xs.size st'/\((pendingOf st').size<=1\/(pendingOf st').size+x<=xs.size)) (Q:=λc st'=>c=(none,())/\vg κ rk xs xs.size st'/\(pendingOf st').size<=1) ?s2 ?f2 ⟨rfl,S,.inr (by have:=S.runs.le;rw[length_toList] at this;lia)⟩) ?post2)
    case f2 =>
      rintro c st' ⟨rfl,S,z⟩;exact ⟨rfl,S,by lia⟩
    case s2 =>
      rintro x c st' _ hx ⟨rfl,S,z⟩;refine wpS_bind (wpS_get ?_);by_cases c1:(pendingOf st').size<=1
      · rw[if_pos c1];exact wpS_pure ⟨rfl,S,c1⟩
      rw[if_neg c1];refine wpS_bind (S.merge L D (Nat.le_refl _) ?_ λst2 S2 e2 _=>?_)
      · (repeat' split)<;>lia
      · simp only[Bool.not_true,Bool.false_eq_true,if_false];exact wpS_pure ⟨rfl,S2,.inr (by lia)⟩
    case post2 =>
      rintro c st' ⟨rfl,S,z⟩;dsimp only;refine wpS_pure (h _ S.perm S.failed ?_);have hr:=S.runs;have hl:(pendingOf st').toList.length<=1:=by rw[length_toList];exact z
      have hsz:=S.size;generalize (pendingOf st').toList=q at hl hr;generalize xs.size=N at hr hsz;cases hr with
      | nil =>
        have:(arrOf st').toList = []:=List.eq_nil_of_length_eq_zero (by rw[length_toList,hsz]);rw[this];exact List.Pairwise.nil
      | @cons _ n pw _ rest a b c =>
        cases c with
        | nil =>
          unfold seg at b;rw[List.drop_zero,take_of_length_le (by rw[length_toList];lia)] at b;exact b
        | cons=>simp at hl
end
end Tim
namespace Tim
open PySem PySem.W PySem.Calls PyProof.Rows
section
variable {α:Type}
theorem qx {p q:α->Bool}:∀{l:List α},(∀x∈l,p x=true->q x=true)->(∃x∈l,q x=true/\p x=false)->l.countP p<l.countP q
 | [],_,⟨x,hx,_⟩=>nomatch hx
 | a::l,h,⟨x,hx,h1,h2⟩=>by
  rw[List.countP_cons,List.countP_cons];have hm:l.countP p<=l.countP q:=List.countP_mono_left λx hx=>h x (mem_cons_of_mem _ hx);rcases List.mem_cons.mp hx with e | hx'
  .subst e;rw[h1,h2];simp;lia
  .have ih:=qx (l:=l) (λx hx=>h x (mem_cons_of_mem _ hx)) ⟨x,hx',h1,h2⟩;have:=h a (mem_cons_self ..);cases hp:p a with
   | true=>rw[this hp];simp;lia
   | false=>simp;lia
noncomputable def rank (lt:α->α->Bool)(l:List α)(x:α):Int:=l.countP λz=>lt z x
theorem Df {lt:α->α->Bool}{l:List α}(IY:∀x,x∈l->lt x x=false)(tr:∀x y z,x∈l->y∈l->z∈l->lt x y=true->lt y z=true->lt x z=true)(ntr:∀x y z,x∈l->y∈l->z∈l->lt x y=false->lt z y=true->lt z x=true)
  {x y:α} (hx:x∈l) (hy:y∈l):decide (rank lt l x<rank lt l y)=lt x y:=by
 cases h:lt x y with
 | true =>
  refine decide_eq_true ?_;have:=qx (p:=λz=>lt z x) (q:=λz=>lt z y) (l:=l) (λz hz h1=>tr z x y hz hx hy h1 h) ⟨x,hx,h,IY x hx⟩;unfold rank;lia
 | false =>
  refine decide_eq_false ?_;have:=List.countP_mono_left (p:=λz=>lt z y) (q:=λz=>lt z x) (l:=l) λz hz h1=>ntr x y z hx hy hz h h1;unfold rank;lia
end
noncomputable abbrev fw:=SoT.AB false
theorem xj:∀a:List Int,fw a a=false
 | []=>rfl
 | x::a=>by
  show (if x=x then fw a a else decide (x<x))=false;rw[if_pos rfl];exact xj a
theorem oO (x y:Int)(a b:List Int):fw (x::a) (y::b)=if x=y then fw a b else decide (x<y):=rfl
theorem AD:∀{a b c:List Int},a.length=b.length->b.length=c.length->fw a b=true->fw b c=true->fw a c=true
  | [],[],[],_,_,h,_=>h
  | x::a,y::b,z::c,h1,h2,h3,h4=>by
    rw[oO] at h3 h4 ⊢;by_cases e1:x=y
    · rw[if_pos e1] at h3;by_cases e2:y=z
      · rw[if_pos e2] at h4;rw[if_pos (e1.trans e2)];exact AD (by simpa using h1) (by simpa using h2) h3 h4
      · rw[if_neg e2] at h4;rw[if_neg (by lia)];have:=of_decide_eq_true h4;exact decide_eq_true (by lia)
    · rw[if_neg e1] at h3;have d1:=of_decide_eq_true h3;by_cases e2:y=z
      · rw [if_neg (by lia)];exact decide_eq_true (by lia)
      · rw[if_neg e2] at h4;have d2:=of_decide_eq_true h4;rw[if_neg (by lia)];exact decide_eq_true (by lia)
theorem xk:∀{a b c:List Int},a.length=b.length->b.length=c.length->fw a b=false->fw c b=true->fw c a=true
  | [],[],[],_,_,_,h=>h
  | x::a,y::b,z::c,h1,h2,h3,h4=>by
    rw[oO] at h3 h4 ⊢;by_cases e1:x=y
    · rw[if_pos e1] at h3;by_cases e2:z=y
      · rw[if_pos e2] at h4;rw[if_pos (by lia)];exact xk (by simpa using h1) (by simpa using h2) h3 h4
      · rw[if_neg e2] at h4;have:=of_decide_eq_true h4;rw[if_neg (by lia)];exact decide_eq_true (by lia)
    · rw[if_neg e1] at h3;have d1:=of_decide_eq_false h3;by_cases e2:z=y
      · rw [if_neg (by lia)];exact decide_eq_true (by lia)
      · rw[if_neg e2] at h4;have d2:=of_decide_eq_true h4;rw[if_neg (by lia)];exact decide_eq_true (by lia)
section
variable {prog:Program} {w:World} {A:Around} {E:Value->Shared->Prop} {s:Shared}
noncomputable def vi (h:Heap)(vs:List Value)(f:Value->List Int)(c:Nat):Prop:=∀v∈vs,SoT.Tp h v (f v)/\(f v).length=c
theorem vi.keep {h h':Heap}{vs:List Value}{f:Value->List Int}{c:Nat}(k:∀b o,h.get? b=some o->o.cls=.type "tuple"->h'.get? b=some o)(t:vi h vs f c):vi h' vs f c:=λv hv=>⟨(t v hv).1.keep k,(t v hv).2⟩
theorem uR {vs:List Value}{f:Value->List Int}{c:Nat}(hT:∀v∈vs,(f v).length=c){x y:Value}(hx:x∈vs)(hy:y∈vs):decide (rank (λu v=>fw (f u) (f v)) vs x<rank (λu v=>fw (f u) (f v)) vs y)=fw (f x) (f y):=
 Df (lt:=λu v=>fw (f u) (f v)) (λu _=>xj _) (λu v z h1 h2 h3=>AD ((hT u h1).trans (hT v h2).symm) ((hT v h2).trans (hT z h3).symm)) (λu v z h1 h2 h3=>xk ((hT u h1).trans (hT v h2).symm) ((hT v h2).trans (hT z h3).symm)) hx hy
theorem yI {vs:List Value}{f:Value->List Int}{c:Nat}(hT:vi s.heap vs f c) :
  fM prog w A E s (λp=>p.1∈vs) (eA λp=>rank (λu v=>fw (f u) (f v)) vs p.1) (tuples' true):=by
 intro x y st Q hx hy hk h;have e:eA (λp:Keyed=>rank (λu v=>fw (f u) (f v)) vs p.1) x y=fw (f x.1) (f y.1):=by
  unfold eA;exact uR (λv hv=>(hT v hv).2) hx hy
 rw[e] at h;rw[lt'_eq];refine wpS_bind (wpS_get ?_);rw[hk];refine wpS_bind (wpS_lift (wpAny_attempt (SoT.E1 (hT _ hx).1 (hT _ hy).1 ⟨rfl,?_⟩)));rw[(hT _ hx).2,(hT _ hy).2,show decide (c<c)=false from decide_eq_false (Nat.lt_irrefl c)];exact wpS_pure h
theorem Ct {h:Heap}{f:Value->List Int}{c:Nat}(hc:0<c){vs:List Value}(hT:vi h vs f c):∃fs,KatTups h vs fs/\fs.length=vs.length/\∀f∈fs,∃n t,f=Value.int n t:=
 SoT.Aw (nss:=vs.map f) (by rw[length_map]) λi v ns h1 h2=>by
  rw[getElem?_map,h1] at h2;cases h2;have:=hT v (mem_of_getElem? h1);exact ⟨by rw[this.2];exact hc,this.1⟩
theorem pU {a:Addr}{vs:List Value}{n c:Nat}{f:Value->List Int}{P:PySem.Fin->Shared->Prop}(ho:s.heap.get? a=some (seqObj "list" vs.toArray n))(hT:vi s.heap vs f c)(hc:0<c)(hz:vs.length<=sizeLine)
    (h:∀out:List Value,out.Perm vs->out.Pairwise (λu v=>fw (f v) (f u)=false)->P (.done (.ret .none)) { s with heap:=sortedHeap s.heap a vs out.toArray }):wpAny (model prog w) A (Builtin.«list.sort» ⟨[.ref a],[]⟩) P E s:=by
  rw[list_sort_plain];have ha:a<s.heap.objs.size:=Heap.lt_size ho;refine wpAny_bind (listItems_at ho rfl (wpAny_bind (listUpdate_at ho rfl ?_ (by simpa using hz) (by simp))));obtain ⟨e1,ho1⟩ : ∃e1,(s.heap.update a (Obj.mapSeq λ_=>#[])).get? a=some (seqObj "list" #[] e1):=⟨_,get?_update_seq ho (λ_=>#[])⟩
  refine wpAny_bind (seqEpoch_at ho1 rfl (wpAny_bind (wpAny_newTuple (wpAny_bind (wpAny_newList (wpAny_holding ?_))) (by simpa using hz))));have ho6:(((s.heap.update a (Obj.mapSeq λ_=>#[])).push (seqObj "tuple" vs.toArray 0)).push (seqObj "list" #[] 0)).get? a=some (seqObj "list" #[] e1):=by
    rw[Heap.get?_push_ne _ _ _ (show a≠_ by rw[size_push',Heap.size_update];exact Nat.ne_of_lt (Nat.lt_succ_of_lt ha)),Heap.get?_push_ne _ _ _ (show a≠_ by rw[Heap.size_update];exact Nat.ne_of_lt ha)];exact ho1
  have keep:∀b o,s.heap.get? b=some o->o.cls=.type "tuple"->(((s.heap.update a (Obj.mapSeq λ_=>#[])).push (seqObj "tuple" vs.toArray 0)).push (seqObj "list" #[] 0)).get? b=some o:=λb o hb hc=>by
    have hba:a≠b:=by
      rintro rfl;rw[ho] at hb;cases hb;exact absurd hc (show ¬Value.type "list" = Value.type "tuple" by decide)
    exact Heap.get?_push_of_some _ (Heap.get?_push_of_some _ ((Heap.get?_update_other _ _ hba).trans hb))
  have hT':=hT.keep keep;show wpAny (model prog w) A _ P E { s with heap:=((s.heap.update a (Obj.mapSeq λ_=>#[])).push (seqObj "tuple" vs.toArray 0)).push (seqObj "list" #[] 0) };dsimp only;have zl:(vs.toArray.zip vs.toArray).toList=vs.zip vs:=by simp
  have fin:∀xs:Array Keyed,xs.Perm (vs.toArray.zip vs.toArray)->(∀p∈xs.toList,p.1=p.2/\p.1∈vs)/\(xs.map (·.2)).toList.Perm vs:=λxs hp=>by
    have hp':=Array.perm_iff_toList_perm.mp hp;rw[zl] at hp';refine ⟨λp hq=>?_,?_⟩
    · have:=hp'.mem_iff.mp hq;obtain ⟨u,v⟩:=p;exact mem_zip_self this
    · rw[Array.toList_map];have:=hp'.map (λp:Keyed=>p.2);rw[List.map_snd_zip (Nat.le_refl _)] at this;exact this
  by_cases h2:vs.toArray.size<2
  · rw[if_pos h2,if_pos h2];refine wpAny_bind (wpAny_pure ?_);rw[StateT.run_pure];refine wpAny_bind (wpAny_pure ?_);dsimp only;have ef:(arrOf (SortSt.mk' general' (vs.toArray.zip vs.toArray) #[] 7 none)).map (·.2)=vs.toArray:=by
      apply Array.ext';simp[List.map_snd_zip]
    rw[ef];refine wpAny_bind (seqEpoch_at ho6 rfl (wpAny_bind (listUpdate_at ho6 rfl ?_ (by simp) (by simp;lia))));simp only[bne_self_eq_false,Bool.false_eq_true,if_false];refine wpAny_pure (h vs (.refl _) ?_);have h2':vs.length<2:=by simpa using h2
    exact FK h2'
  · rw[if_neg h2,if_neg h2];obtain ⟨fs,k1,k2,k3⟩:=Ct hc hT';have h2':2<=vs.length:=by simpa using h2
    refine wpAny_bind (kat_kind (T:=.type "int") k1 (by lia) (λv hv=>?_) (by rfl) ?_)
    · obtain ⟨m,t,rfl⟩:=k3 v hv;exact .now
    · have e0 : (Value.type "int" != Value.type "tuple") = true := by decide
      rw[e0];refine wpAny_bind (wpAny_mono (lT (xs:=vs.toArray.zip vs.toArray) (yI hT') (λp hp=>?_) (st:=SortSt.mk' (tuples' true) (vs.toArray.zip vs.toArray) #[] 7 none)
        (Q:=λ_ st'=>(arrOf st').Perm (vs.toArray.zip vs.toArray)/\failedOf st'=none/\gd (eA λp=>rank (λu v=>fw (f u) (f v)) vs p.1) (arrOf st').toList) rfl rfl rfl rfl λst' a1 a2 a3=>⟨a1,a2,a3⟩) ?_ λ_ _ z=>z)
      · rw[zl] at hp;obtain ⟨u,v⟩:=p;exact (List.of_mem_zip hp).1
      · rintro ⟨⟨⟩,st'⟩ s' ⟨rfl,hp',hf',hs'⟩;dsimp only at hp' hf' hs' ⊢;obtain ⟨f1,f2⟩:=fin _ hp';have hsz:((arrOf st').map (·.2)).size<=sizeLine:=by
          have:=f2.length_eq;rw[length_toList] at this;lia
        refine wpAny_bind (seqEpoch_at ho6 rfl (wpAny_bind (listUpdate_at ho6 rfl ?_ (by simp) (Nat.le_succ_of_le hsz))));rw[hf'];simp only[bne_self_eq_false,Bool.false_eq_true,if_false];refine wpAny_pure ?_;have:=h ((arrOf st').map (·.2)).toList f2 ?_
        · rw[Array.toArray_toList] at this;exact this
        · rw[Array.toList_map,pairwise_map];refine List.Pairwise.imp_of_mem (λ{p q} hp hq hr=>?_) hs';obtain ⟨p1,p2⟩:=f1 p hp;obtain ⟨q1,q2⟩:=f1 q hq;have e:eA (λp:Keyed=>rank (λu v=>fw (f u) (f v)) vs p.1) q p=fw (f q.1) (f p.1):=by
            unfold eA;exact uR (λv hv=>(hT v hv).2) q2 p2
          rw[e] at hr;rw[<-p1,<-q1];exact hr
theorem vV {l:Addr}{vs:List Value}{c:Nat}{f:Value->List Int}{Q:Value->Shared->Prop}(hl:s.heap.IsList l vs.toArray)(hT:vi s.heap vs f c)(hc:0<c)(hz:vs.length<=sizeLine)
  (h:∀(D:Addr) (h':Heap) (n:Nat) (out:List Value),s.heap.objs.size<=D->(∀b o,s.heap.get? b=some o->h'.get? b=some o)->h'.get? D=some (seqObj "list" out.toArray n)->out.Perm vs->out.Pairwise (λu v=>fw (f v) (f u)=false)->Q (.ref D) { s with heap:=h' }) :
  wpAny (model prog w) A (call (.builtin "sorted") [.ref l]) Q E s:=by
 refine Calls.call_function_entry kind_sorted plain_sorted entry_sorted (args_sorted1 _) ?_;unfold Builtin.«sorted»;refine wpAny_bind (m:=checkCount "sorted" 1 1 _) (wpAny_pure ?_);refine wpAny_bind (collect_list hl ?_ hz);refine wpAny_bind (wpAny_newList ?_ hz);have hsz:((s.heap.push (seqObj "list" #[] 0)).update s.heap.objs.size (Obj.mapSeq (·++vs.toArray))).objs.size=s.heap.objs.size+1:=by
  rw[Heap.size_update,size_push']
 have hoL:(((s.heap.push (seqObj "list" #[] 0)).update s.heap.objs.size (Obj.mapSeq (·++vs.toArray))).push (seqObj "list" vs.toArray 0)).get? (s.heap.objs.size+1)=some (seqObj "list" vs.toArray 0):=by
  rw[<-hsz];exact Heap.get?_push_size _ rfl
 have keep:∀b o,s.heap.get? b=some o->(((s.heap.push (seqObj "list" #[] 0)).update s.heap.objs.size (Obj.mapSeq (·++vs.toArray))).push (seqObj "list" vs.toArray 0)).get? b=some o:=λb o q=>by
  have hlt:b<s.heap.objs.size:=Heap.lt_size q;rw[Heap.get?_push_ne _ _ _ (by rw[hsz];exact Nat.ne_of_lt (Nat.lt_succ_of_lt hlt)),Heap.get?_update_ne _ _ _ _ (Nat.ne_of_lt hlt),Heap.get?_push_ne _ _ _ (Nat.ne_of_lt hlt)];exact q
 show wpAny _ _ _ _ _ { s with heap:=((s.heap.push (seqObj "list" #[] 0)).update s.heap.objs.size (Obj.mapSeq (·++vs.toArray))).push (seqObj "list" vs.toArray 0) };rw[hsz];refine wpAny_bind (wpAny_holding (wpAny_call_entry slot_list_sort ⟨_,hoL,rfl⟩ entry_list_sort (pU hoL (hT.keep λb o hb _=>keep b o hb) hc hz λout p1 p2=>⟨_,rfl,?_⟩) (args_list_sort _)));obtain ⟨e1,ho1⟩ : ∃e1,(sortedHeap (((s.heap.push (seqObj "list" #[] 0)).update s.heap.objs.size (Obj.mapSeq (·++vs.toArray))).push (seqObj "list" vs.toArray 0)) (s.heap.objs.size+1) vs out.toArray).get? (s.heap.objs.size+1)=some (seqObj "list" out.toArray e1):=by
  unfold sortedHeap;obtain ⟨e2,ho2⟩ : ∃e2,((((s.heap.push (seqObj "list" #[] 0)).update s.heap.objs.size (Obj.mapSeq (·++vs.toArray))).push (seqObj "list" vs.toArray 0)).update (s.heap.objs.size+1) (Obj.mapSeq λ_=>#[])).get? (s.heap.objs.size+1)=some (seqObj "list" #[] e2):=⟨_,get?_update_seq hoL (λ_=>#[])⟩
  exact ⟨_,get?_update_seq (Heap.get?_push_of_some _ (Heap.get?_push_of_some _ ho2)) _⟩
 exact wpAny_pure ⟨_,rfl,h _ _ e1 out (Nat.le_succ _) (λb o hb=>SoT.nJ (Nat.ne_of_lt (Nat.lt_succ_of_lt (Heap.lt_size hb))) (keep b o hb)) ho1 p1 p2⟩
end
end Tim
set_option maxHeartbeats 4000000
namespace Tim
open PySem PySem.W PySem.Calls PyProof.Rows
section
variable {prog:Program} {w:World} {A:Around} {E:Value->Shared->Prop} {s:Shared}
noncomputable def Aq (p:Keyed):Prop:=∃n t,p.1=Value.int n t
theorem CK:fM prog w A E s Aq (eA λp=>numOf p.1) oneType':=by
 intro x y st Q hx hy hk h;obtain ⟨x1,x2⟩:=x;obtain ⟨y1,y2⟩:=y;obtain ⟨n,t,hx⟩:=hx;obtain ⟨m,u,hy⟩:=hy;dsimp only at hx hy;subst hx hy;rw[lt'_eq];refine wpS_bind (wpS_get ?_);rw[hk,keyLt'_oneType];refine wpS_bind (wpS_lift (wpAny_attempt (oneLt_int ⟨rfl,?_⟩)));exact wpS_pure h
theorem zc {xs:Array Keyed}(h:gd (eA λp=>numOf p.1) xs.toList):SortedTo xs xs.size:=λi j hij hj=>by
  by_cases e:i=j
  · subst e;exact Int.le_refl _
  · have hi : i < xs.size := by lia
    have:=pairwise_iff_getElem.mp h i j (by rw[length_toList];exact hi) (by rw[length_toList];exact hj) (by lia);unfold eA at this;rw[K_eq hi,K_eq hj];simp only[decide_eq_false_iff_not,Int.not_lt,Array.getElem_toList] at this;exact this
variable {a kS:Addr} {b:Bool} {vs:List Value} {kz:List Int} {keys:Array Value} {e e1:Nat} {P:PySem.Fin->Shared->Prop}
noncomputable def Rest (h h':Heap)(a kS:Addr):Prop:=∀c o,c≠a->c≠kS->h.get? c=some o->h'.get? c=some o
theorem uq {st:SortSt}(nk:s.heap.get? kS=some (seqObj "list" keys e))(na:s.heap.get? a=some (seqObj "list" #[] e1))(hka:kS≠a)
  (hk:IntsAre keys.toList kz) (hlen:kz.length=vs.length) (hz:vs.length<=sizeLine) (hp:(arrOf st).Perm (keys.zip vs.toArray)) (hs:SortedTo (arrOf st) (arrOf st).size) (hfl:failedOf st=none)
  (h:∀h' tk out c,Rest s.heap h' a kS->h'.get? a=some (seqObj "list" out c)->KskOut b kz vs out.toList->P (.done (.ret .none)) { s with heap:=h',toks:=tk }) :
  wpAny (model prog w) A (ksk_tail a b e1 (.ref kS) st) P E s:=by
 have hsz:keys.size=vs.length:=by
  have h1:=hk.length;rw[length_toList] at h1;lia
 have hsz2:(arrOf st).size=vs.length:=by rw[hp.size_eq,Array.size_zip,hsz,size_toArray,Nat.min_self]
 have hout:(if b then ((arrOf st).map (·.2)).reverse else (arrOf st).map (·.2)).size=vs.length:=by
  cases b with
  | false=>rw[if_neg (by decide),Array.size_map];exact hsz2
  | true=>rw[if_pos rfl,Array.size_reverse,Array.size_map];exact hsz2
 have s1:=Heap.SameBut.update s.heap kS (Obj.mapSeq λ_=>(#[]:Array Value));have na1:(s.heap.update kS (Obj.mapSeq λ_=>(#[]:Array Value))).get? a=some (seqObj "list" #[] e1):=(s1.2 a hka.symm).trans na;have s2:=Heap.SameBut.update (s.heap.update kS (Obj.mapSeq λ_=>(#[]:Array Value))) a (Obj.mapSeq λ_=>if b then ((arrOf st).map (·.2)).reverse else (arrOf st).map (·.2));have put:∀out:Array Value,∃c2,((s.heap.update kS (Obj.mapSeq λ_=>(#[]:Array Value))).update a (Obj.mapSeq λ_=>out)).get? a=some (seqObj "list" out c2):=λout=>⟨_,get?_update_seq na1 λ_=>out⟩
 obtain ⟨c2,hc2⟩:=put (if b then ((arrOf st).map (·.2)).reverse else (arrOf st).map (·.2));unfold ksk_tail;dsimp only;refine wpAny_bind (listUpdate_at nk rfl ?_ (by rw[hsz];exact hz) (Nat.zero_le _));refine wpAny_bind (wpAny_letGo (wpAny_bind (seqEpoch_at na1 rfl ?_)));refine wpAny_bind (listUpdate_at na1 rfl ?_ (Nat.zero_le _) (Nat.le_succ_of_le (Nat.le_trans (Nat.le_of_eq hout) hz)));rw[hfl];simp only[bne_self_eq_false,Bool.false_eq_true,if_false];exact wpAny_pure (h _ _ _ c2 (λc o h1 h2 ec=>(s2.2 c h1).trans ((s1.2 c h2).trans ec)) hc2 (ksk_out hk hp hs))
theorem CI (nk:s.heap.get? kS=some (seqObj "list" keys e))(na:s.heap.get? a=some (seqObj "list" #[] e1))(hka:kS≠a)(hk:IntsAre keys.toList kz)(hlen:kz.length=vs.length)(hz:vs.length<=sizeLine)
    (h:∀h' tk out c,Rest s.heap h' a kS->h'.get? a=some (seqObj "list" out c)->KskOut b kz vs out.toList->P (.done (.ret .none)) { s with heap:=h',toks:=tk }) :
    wpAny (model prog w) A (ksk_end a b vs.toArray e1 (.ref kS) keys) P E s:=by
  have hsz:keys.size=vs.length:=by
    have h1:=hk.length;rw[length_toList] at h1;lia
  have hzs:(keys.zip vs.toArray).size=vs.length:=by rw[Array.size_zip,hsz,size_toArray,Nat.min_self]
  have hstart:(if b=true then (keys.zip vs.toArray).reverse else keys.zip vs.toArray).Perm (keys.zip vs.toArray):=by
    cases b with
    | false=>exact Array.Perm.refl _
    | true=>exact Array.perm_iff_toList_perm.mpr (by rw[if_pos rfl,Array.toList_reverse];exact List.reverse_perm _)
  have main:wpAny (model prog w) A (do
      let kind <-if vs.toArray.size<2 then pure general' else keyKind' keys
      let ((),s) <-(if vs.toArray.size<2 then pure () else sortRuns').run (SortSt.mk' kind (if b then (keys.zip vs.toArray).reverse else keys.zip vs.toArray) #[] 7 none)
      ksk_tail a b e1 (.ref kS) s) P E s:=by
    by_cases h2:vs.toArray.size<2
    · rw[if_pos h2,if_pos h2];refine wpAny_bind (wpAny_pure ?_);dsimp only;rw[StateT.run_pure];refine wpAny_bind (wpAny_pure ?_);dsimp only;refine uq (st:=SortSt.mk' general' (if b=true then (keys.zip vs.toArray).reverse else keys.zip vs.toArray) #[] 7 none) nk na hka hk hlen hz hstart ?_ rfl h;intro i j hij hj;have hj2:j<(if b=true then (keys.zip vs.toArray).reverse else keys.zip vs.toArray).size:=hj;rw[hstart.size_eq,hzs] at hj2;rw[size_toArray] at h2;have:i=j:=by lia
      subst this;exact Int.le_refl _
    · rw[if_neg h2,if_neg h2];rw[size_toArray] at h2;rw[ksk_kind hk (by rw[hsz];lia)];refine wpAny_bind (wpAny_pure ?_);refine wpAny_bind (wpAny_mono (lT (xs:=if b=true then (keys.zip vs.toArray).reverse else keys.zip vs.toArray) CK (λp hp=>?_) (st:=SortSt.mk' oneType' (if b=true then (keys.zip vs.toArray).reverse else keys.zip vs.toArray) #[] 7 none)
        (Q:=λ_ st'=>(arrOf st').Perm (keys.zip vs.toArray)/\failedOf st'=none/\SortedTo (arrOf st') (arrOf st').size) rfl rfl rfl rfl λst' a1 a2 a3=>⟨a1.trans hstart,a2,zc a3⟩) ?_ λ_ _ z=>z)
      · exact ksk_intKeys hk p ((Array.perm_iff_toList_perm.mp hstart).mem_iff.mp hp)
      · rintro ⟨⟨⟩,st'⟩ s' ⟨rfl,hp,hf,hs⟩;dsimp only at hp hf hs ⊢;exact uq nk na hka hk hlen hz hp hs hf h
  unfold ksk_end;dsimp only;cases b with
  | false=>exact main
  | true=>exact wpAny_bind (wpAny_rule main)
noncomputable def Keeps (h h':Heap):Prop:=∀c o,h.get? c=some o->h'.get? c=some o
theorem AJ {f:Value}{h₀:Heap}(K0:Keeps h₀ s.heap)(fa:h₀.get? a=none)(fk:h₀.get? kS=none)(nk:s.heap.get? kS=some (seqObj "list" #[] 0))(na:s.heap.get? a=some (seqObj "list" #[] e1))(hka:kS≠a)(hlen:kz.length=vs.length)(hz:vs.length<=sizeLine)
  (turn:∀(i:Nat) (v:Value) (k:Int),vs[i]?=some v->kz[i]?=some k->∀(h:Heap) (tk:Nat),Keeps h₀ h->∀Q:Value->Shared->Prop,(∀h' tk' t',Keeps h h'->Q (.int k t') { s with heap:=h',toks:=tk' }) ->
   wpAny (model prog w) A (call f [v]) Q (λ_ _=>False) { s with heap:=h,toks:=tk })
  (h:∀h' tk out c,Keeps h₀ h'->h'.get? a=some (seqObj "list" out c)->KskOut b kz vs out.toList->P (.done (.ret .none)) { s with heap:=h',toks:=tk }) :
  wpAny (model prog w) A (ksk_rest a f b vs.toArray e1 (.ref kS)) P E s:=by
 unfold ksk_rest;refine wpAny_bind (wpAny_rule ?_);rw[List.forIn_toArray];refine wpAny_bind (ksk_fold (λi s'=>∃h' tk kA e,s' = { s with heap:=h',toks:=tk }/\Keeps h₀ h'/\h'.get? kS=some (seqObj "list" kA e)/\h'.get? a=some (seqObj "list" #[] e1)/\IntsAre kA.toList (kz.take i)) vs 0 s
  ⟨s.heap,s.toks,#[],0,rfl,K0,nk,na,by simpa using IntsAre.nil⟩ ?step ?done)
 case step =>
  rintro j x s' hx ⟨h',tk,kA,e,rfl,K',nk',na',hk⟩;simp only[Nat.zero_add] at hk ⊢;have hj:j<vs.length:=(List.getElem?_eq_some_iff.mp hx).1;obtain ⟨k,hkj⟩ : ∃k,kz[j]?=some k:=⟨_,getElem?_eq_getElem (by lia)⟩
  have hzz:kA.size<=j:=by
   have h1:=hk.length;rw[length_toList,length_take] at h1;lia
  refine wpAny_bind (wpAny_attempt (wpAny_mono (turn j x k hx hkj h' tk K' _ λg tk2 t2 kg=>?_) (λv s'' he=>he) λ_ _ hF=>hF.elim));dsimp only;have nk2:=kg _ _ nk';have na2:=kg _ _ na';have s1:=Heap.SameBut.update g kS (Obj.mapSeq (·.push (.int k t2)));obtain ⟨c2,hc2⟩ : ∃c2,(g.update kS (Obj.mapSeq (·.push (.int k t2)))).get? kS=some (seqObj "list" (kA.push (.int k t2)) c2):=⟨_,get?_update_seq nk2 (·.push (.int k t2))⟩
  have ek:kz.take (j+1)=kz.take j++[k]:=by rw[List.take_add_one,hkj];simp
  have ea:(kA.push (Value.int k t2)).toList=kA.toList++[Value.int k t2]:=by simp
  refine wpAny_bind (listUpdate_at nk2 rfl ?_ (by lia) (Nat.le_trans (Nat.le_of_eq (Array.size_push ..)) (by lia)));refine wpAny_pure ⟨rfl,_,_,kA.push (.int k t2),c2,rfl,λc o ec=>?_,hc2,(s1.2 a hka.symm).trans na2,by rw[ea,ek];exact ksk_snoc hk⟩;have hc:c≠kS:=λz=>by rw[z,fk] at ec;cases ec
  exact (s1.2 c hc).trans (kg _ _ (K' _ _ ec))
 case done =>
  rintro s' ⟨h',tk,kA,e,rfl,K',nk',na',hk⟩;have hk':IntsAre kA.toList kz:=by
   have e3:kz.take (0+vs.length)=kz:=take_of_length_le (by lia);rw[e3] at hk;exact hk
  refine wpAny_bind (listItems_at nk' rfl ?_);refine CI (s:={ s with heap:=h',toks:=tk }) nk' na' hka hk' hlen hz λh3 tk3 out c R3 n3 k3=>h h3 tk3 out c (λc o ec=>R3 c o (λz=>by rw[z,fa] at ec;cases ec) (λz=>by rw[z,fk] at ec;cases ec) (K' _ _ ec)) n3 k3
theorem AK {f:Value}{n:Nat}{h₀:Heap}(K0:Keeps h₀ s.heap)(fa:h₀.get? a=none)(hle:h₀.objs.size<=s.heap.objs.size)(ho:s.heap.get? a=some (seqObj "list" vs.toArray n))(hlen:kz.length=vs.length)(hz:vs.length<=sizeLine)
  (turn:∀(i:Nat) (v:Value) (k:Int),vs[i]?=some v->kz[i]?=some k->∀(h:Heap) (tk:Nat),Keeps h₀ h->∀Q:Value->Shared->Prop,(∀h' tk' t',Keeps h h'->Q (.int k t') { s with heap:=h',toks:=tk' }) ->
   wpAny (model prog w) A (call f [v]) Q (λ_ _=>False) { s with heap:=h,toks:=tk })
  (h:∀h' tk out c,Keeps h₀ h'->h'.get? a=some (seqObj "list" out c)->KskOut b kz vs out.toList->P (.done (.ret .none)) { s with heap:=h',toks:=tk }) :
  wpAny (model prog w) A (ksk_tree a f b) P E s:=by
 have ha:a<s.heap.objs.size:=Heap.lt_size ho;have s1:=Heap.SameBut.update s.heap a (Obj.mapSeq λ_=>(#[]:Array Value));obtain ⟨e1,ho1⟩ : ∃e1,(s.heap.update a (Obj.mapSeq λ_=>(#[]:Array Value))).get? a=some (seqObj "list" #[] e1):=⟨_,get?_update_seq ho λ_=>#[]⟩
 have hkS:((s.heap.update a (Obj.mapSeq λ_=>(#[]:Array Value))).push (seqObj "tuple" vs.toArray 0)).objs.size=s.heap.objs.size+1:=by rw[size_push',Heap.size_update]
 unfold ksk_tree;refine wpAny_bind (listItems_at ho rfl ?_);refine wpAny_bind (listUpdate_at ho rfl ?_ (by rw[size_toArray];exact hz) (Nat.zero_le _));refine wpAny_bind (seqEpoch_at ho1 rfl ?_);refine wpAny_bind (wpAny_newTuple ?_ (by simpa using hz));refine wpAny_bind (wpAny_newList ?_ (Nat.zero_le _));refine wpAny_holding ?_;refine AJ (s:={ s with heap:=((s.heap.update a (Obj.mapSeq λ_=>(#[]:Array Value))).push (seqObj "tuple" vs.toArray 0)).push (seqObj "list" #[] 0) }) (kS:=((s.heap.update a (Obj.mapSeq λ_=>(#[]:Array Value))).push (seqObj "tuple" vs.toArray 0)).objs.size)
  (λc o ec=>Heap.get?_push_of_some _ (Heap.get?_push_of_some _ ((s1.2 c λz=>by rw[z,fa] at ec;cases ec).trans (K0 _ _ ec)))) fa (Heap.get?_none_of_le (by rw[hkS];lia)) (Heap.get?_push_size _ rfl) (Heap.get?_push_of_some _ (Heap.get?_push_of_some _ ho1)) (by rw[hkS];exact Nat.ne_of_gt (Nat.lt_succ_of_lt ha)) hlen hz turn h
theorem vJ {l:Addr}{f:Value}{kw:List (Str×Value)}{Q:Value->Shared->Prop}(hl:s.heap.IsList l vs.toArray)(hlen:kz.length=vs.length)(hz:vs.length<=sizeLine)
  (ha1:argsOk "sorted" ⟨[.ref l],kw⟩) (ha2:∀x,argsOk "list.sort" ⟨[.ref x],kw⟩) (ht:∀x,Builtin.«list.sort» ⟨[.ref x],kw⟩=ksk_tree x f b)
  (turn:∀(i:Nat) (v:Value) (k:Int),vs[i]?=some v->kz[i]?=some k->∀(h:Heap) (tk:Nat),Keeps s.heap h->∀Q:Value->Shared->Prop,(∀h' tk' t',Keeps h h'->Q (.int k t') { s with heap:=h',toks:=tk' }) ->
   wpAny (model prog w) A.in1.in1 (call f [v]) Q (λ_ _=>False) { s with heap:=h,toks:=tk })
  (h:∀D h' tk out c,Keeps s.heap h'->s.heap.objs.size<=D->h'.get? D=some (seqObj "list" out c)->KskOut b kz vs out.toList->Q (.ref D) { s with heap:=h',toks:=tk }) :
  wpAny (model prog w) A (call (.builtin "sorted") [.ref l] kw) Q E s:=by
 refine call_function_entry_kw kind_sorted plain_sorted entry_sorted ha1 ?_;unfold Builtin.«sorted»;refine wpAny_bind (m:=checkCount "sorted" 1 1 _) (wpAny_pure ?_);refine wpAny_bind (collect_list hl ?_ hz);refine wpAny_bind (wpAny_newList ?_ hz);have hsz:((s.heap.push (seqObj "list" #[] 0)).update s.heap.objs.size (Obj.mapSeq (·++vs.toArray))).objs.size=s.heap.objs.size+1:=by
  rw[Heap.size_update,size_push']
 have hoL:(((s.heap.push (seqObj "list" #[] 0)).update s.heap.objs.size (Obj.mapSeq (·++vs.toArray))).push (seqObj "list" vs.toArray 0)).get? (s.heap.objs.size+1)=some (seqObj "list" vs.toArray 0):=by
  rw[<-hsz];exact Heap.get?_push_size _ rfl
 have keep:Keeps s.heap (((s.heap.push (seqObj "list" #[] 0)).update s.heap.objs.size (Obj.mapSeq (·++vs.toArray))).push (seqObj "list" vs.toArray 0)):=λb o q=>by
  have hlt:b<s.heap.objs.size:=Heap.lt_size q;rw[Heap.get?_push_ne _ _ _ (by rw[hsz];exact Nat.ne_of_lt (Nat.lt_succ_of_lt hlt)),Heap.get?_update_ne _ _ _ _ (Nat.ne_of_lt hlt),Heap.get?_push_ne _ _ _ (Nat.ne_of_lt hlt)];exact q
 show wpAny _ _ _ _ _ { s with heap:=((s.heap.push (seqObj "list" #[] 0)).update s.heap.objs.size (Obj.mapSeq (·++vs.toArray))).push (seqObj "list" vs.toArray 0) };rw[hsz];refine wpAny_bind (wpAny_holding (wpAny_call_entry_kw slot_list_sort ⟨_,hoL,rfl⟩ entry_list_sort ?body (ha2 _)))
 case body =>
  have ht':=ht (s.heap.objs.size+1);show wpAny (model prog w) A.in1.in1 (Builtin.«list.sort» ⟨[.ref (s.heap.objs.size+1)],kw⟩) _ _ _;rw[ht'];refine AK (h₀:=s.heap) (s:={ s with heap:=((s.heap.push (seqObj "list" #[] 0)).update s.heap.objs.size (Obj.mapSeq (·++vs.toArray))).push (seqObj "list" vs.toArray 0) })
   keep (Heap.get?_none_of_le (Nat.le_succ _)) (by rw[size_push',hsz];lia) hoL hlen hz turn λh' tk out c K' n' k'=>⟨_,rfl,?_⟩
  exact wpAny_pure ⟨_,rfl,h _ h' tk out c K' (Nat.le_succ _) n' k'⟩
end
end Tim
set_option maxHeartbeats 1000000
namespace L2
open PySem PySem.Spec PyProof.Rows PySem.W
section
variable {X:Cx} {pins:List (Addr×Obj)} {σ:St} {H:Hp} {s:Shared} {A:Around} {E:Value->Shared->Prop} {Q:Value->Shared->Prop}
theorem yE {f c' ta:Addr}{nm q x:Str}{params:Arguments}{scope:Scope}{pm ctv:Value}{ys:List V}{j k:Int}{kk:Nat}{p1 p4 p5:Pos}
  (I:Inv X pins σ H s) (ho:s.heap.get? f=some (kla_obj nm q params (.Subscript (.Name x p1) (.Constant (.int j) kk p4) p5) scope [] pm c' ctv)) (hcd:s.heap.CodeRec (.ref c') q)
  (ht:jR X.K H ta ys) (hy:gF ys j=some (.int k))
  (hbind:∀v,bindArgs (kla_fn nm q params (.Subscript (.Name x p1) (.Constant (.int j) kk p4) p5) scope [] pm (.ref c') ctv) ⟨[v],[]⟩=pure [(x,v)])
  (hk:scope.kind=.function) (hco:scope.isCoroutine=false) (hgen:scope.isGenerator=false) (hcell:∀z∈scope.names,z.2≠.cell) (hlx:scope.names.lookup x=some .local)
  (hdx:(x == ("__debug__" : Str))=false) (room:A.depth<recursionLimit)
  (h:∀h' tk t',(∀b o,s.heap.get? b=some o->h'.get? b=some o)->Q (.int k t') { s with heap:=h',toks:=tk }) :
  wpAny (model X.prog X.w) A (call (.ref f) [.ref ta]) Q E s:=by
 obtain ⟨us,r',pt,hz'⟩:=I.tuple ht;obtain ⟨j',g1,g2,g3,g4,g5⟩:=nO hy;obtain ⟨w2,ew2,rw2⟩:=r'.get g2;obtain ⟨t2,rfl⟩:=rw2;have hl':=r'.length;have hn:=mH;refine wpAny_call (kla_callFunE room ho rfl hco hgen rfl hcd ?_);rw[hbind];refine wpAny_pure (wpAny_newFunctionEnv hcell (λz hz=>by cases mem_singleton.mp hz;exact hlx) (λh₁ hns hsb=>⟨I.nolimit.fresh _ hsb,?_⟩) hk);have keep:∀b o,s.heap.get? b=some o->h₁.get? b=some o:=λb o e=>hsb.extBut b o (Nat.ne_of_lt (Heap.lt_size e)) (Heap.get?_push_of_some _ e);refine kla_codeExpr ?_;refine Subscript_ (wpAny_Name (wpAny_loadName_local (v:=.ref ta) hk hlx hns (by simp[List.lookup]) ?_) hdx);refine wpAny_Constant_int ?_;have pt1:IsTup h₁ ta us.toArray:=by
  obtain ⟨o,e,d⟩:=pt;exact ⟨o,keep _ _ e,d⟩
 refine subscriptTail_builtinR (x:=.int k t2) pt1.typeIs slot_tuple_getitem.lookup
  (getItem_tuple (j:=j') pt1 (by lia) (by lia) (by rw[size_toArray,<-hl'];exact g1) (by simpa using ew2) ⟨rfl,?_⟩) (by with_unfolding_all rfl)
 exact h _ _ _ keep
end
section
variable {X:Cx}
noncomputable def Bl:List V->Hp->VK->Prop:=λxs H Q=>∃(a:Addr) (ps:List ((Int×Int)×Int)),xs = [.ref a]/\Rd H a (.dT (DL.encD ps)) /\
 ∀(l:Addr) (bs:List Addr),H l=none->Paired (λb p=>H b=some (.tup [.int p.1.1,.int p.1.2])) bs ps->Q (.ref l) (upd H l (.lst (bs.map V.ref)))
theorem jZ:∀bs:List Addr,Vals (bs.map V.ref) (bs.map Value.ref)
 | []=>.nil
 | b::bs=>.cons rfl (jZ bs)
theorem vn (hc:X.calm=true):eD X (.type "list") Bl:=by
  intro pins s σ H xs us Q I r h;obtain ⟨a,ps,rfl,e,q⟩:=h;obtain ⟨u,rfl,ru⟩:=vals1 r;cases ru;obtain ⟨z,hd,xs,rel,o,es,ep,h1,h2,h3,h4,_⟩:=qI I.bp e;obtain ⟨bs,hb,hk⟩:=oC (P:=X.prog) (w:=X.w) rel;rw[<-h4] at hk;have hl:bs.length=ps.length:=Paired.length hb;have hsz:es.size=ps.length:=by
    have:=congrArg List.length hk;simp at this;lia
  have hz:es.size<=sizeLine:=by
    rw[hsz];have:(DL.encD ps).length=ps.length:=by unfold DL.encD;rw[length_map]
    lia
  refine kdl_call (DIt.src (ep:=ep) hd) (I.ok.hd hc) ⟨o,h1,h2,h3⟩ hz λh' tk acc' c' k' hD hacc=>?_;have ea:acc'.toList=bs.map Value.ref:=by
    rw[<-hk];refine List.ext_getElem? λj=>?_;rw[getElem?_map];by_cases hj:j<es.size
    · have h1 : acc'[j]? = some (acc'[j]'(by rw [hacc.1];exact hj)) := Array.getElem?_eq_getElem _;obtain ⟨en,e1,e2⟩:=hacc.2 j _ h1;rw[Array.getElem?_toList,Array.getElem?_toList,h1,e1,e2];rfl
    · rw [Array.getElem?_toList, Array.getElem?_toList, Array.getElem?_eq_none (by rw [hacc.1];lia), Array.getElem?_eq_none (by lia)];rfl
  refine ⟨.ref _,_,I.laid (t':=tk) k' (Nat.le_refl _) (o:=.lst (bs.map V.ref)) ⟨by rw[length_map];lia,bs.map Value.ref,c',jZ bs,?_⟩,rfl,q _ bs (I.bp.fresh (Nat.le_refl _)) hb⟩;rw[<-ea,Array.toArray_toList];exact hD
theorem jD {α β:Type}{g:α->β}:∀{l1 l2:List β},l1.Perm l2->∀zs:List α,l2=zs.map g->∃zs':List α,zs'.Perm zs/\l1=zs'.map g:=by
 intro l1 l2 h;induction h with
 | nil =>
  intro zs e;exact ⟨[],by rw[List.map_eq_nil_iff.mp e.symm],rfl⟩
 | cons x _ ih =>
  intro zs e;cases zs with
  | nil=>cases e
  | cons z zs =>
   rw[map_cons] at e;obtain ⟨e1,e2⟩:=List.cons.inj e;obtain ⟨zs',p,r⟩:=ih zs e2;exact ⟨z::zs',p.cons z,by rw[r,e1];rfl⟩
 | swap x y l =>
  intro zs e;match zs,e with
  | z::z'::zs,e =>
   rw[map_cons,map_cons] at e;obtain ⟨e1,e2⟩:=List.cons.inj e;obtain ⟨e3,e4⟩:=List.cons.inj e2;exact ⟨z'::z::zs,.swap _ _ _,by rw[e1,e3,e4];rfl⟩
 | trans _ _ ih1 ih2 =>
  intro zs e;obtain ⟨zs2,p2,r2⟩:=ih2 zs e;obtain ⟨zs1,p1,r1⟩:=ih1 zs2 r2;exact ⟨zs1,p1.trans p2,r1⟩
theorem gN {α β:Type}{R R':α->β->Prop}(f:∀a b,R a b->R' a b):∀{xs:List α} {ys:List β},Paired R xs ys->Paired R' xs ys
 | _,_,.nil=>.nil
 | _,_,.cons h t=>.cons (f _ _ h) (gN f t)
theorem iR {α β:Type}{R:α->β->Prop}:∀{xs:List α} {ys:List β},Paired R xs ys->∀{z:α×β},z∈xs.zip ys->R z.1 z.2
 | _,_,.nil,_,h=>nomatch h
 | _,_,.cons h t,z,hz=>by
  rw[List.zip_cons_cons] at hz;rcases List.mem_cons.mp hz with e | e
  .subst e;exact h
  .exact iR t e
theorem kj {α β:Type}{R:α->β->Prop}:∀{zs:List (α×β)},(∀z∈zs,R z.1 z.2)->Paired R (zs.map Prod.fst) (zs.map Prod.snd)
 | [],_=>.nil
 | z::zs,h=>.cons (h z (mem_cons_self ..)) (kj λy hy=>h y (mem_cons_of_mem _ hy))
noncomputable def xT (ps:List ((Int×Int)×Int)):Prop:=ps.Pairwise λp q=>q.1.2<=p.1.2
noncomputable def JV (t:TA):TA:=Ek (Iw Bl t) HW
noncomputable def FZ (t:TA):TE:=λσ H Q=>JV t σ H λus H2=>∃(l0:Addr) (bs:List Addr) (ps:List ((Int×Int)×Int)),us = [.ref l0]/\H2 l0=some (.lst (bs.map V.ref))/\Paired (λb p=>H2 b=some (.tup [.int p.1.1,.int p.1.2])) bs ps /\
 ∀(l:Addr) (bs':List Addr) (ps':List ((Int×Int)×Int)) (H3:Hp),aq H2 H3->H3 l=none->ps'.Perm ps->xT ps'->Paired (λb p=>H3 b=some (.tup [.int p.1.1,.int p.1.2])) bs' ps'->Q (.ref l) (upd H3 l (.lst (bs'.map V.ref)))
theorem A2 {P c:Addr}{x:Str}{params:Arguments}{scope:Scope}{e:Expr}{lpos kpos kpos2 cpos p pl posl pos p1 p4 p5:Pos}{kk jc:Nat}{t:TA}
    (hg:Gl X "sorted") (hm:X.mg "sorted" = none) (hgl:Gl X "list") (hml:X.mg "list" = none) (hc:X.calm=true) (room:cY 0 X.A)
    (hcode:X.env.code=.ref c) (C:CodeHd X.base c P) (B:bb X.mg X.base) (hT:TabAt X.H₀ P (X.env.qual++"<lambda>"))
    (hcl:closureFor scope X.env=pure []) (hdef:defaultsOf params X.env=([],[]))
    (hbind:∀q pm c' ctv v,bindArgs (kla_fn "<lambda>" q params (.Subscript (.Name x p1) (.Constant (.int 1) kk p4) p5) scope [] pm (.ref c') ctv) ⟨[v],[]⟩=pure [(x,v)])
    (hk:scope.kind=.function) (hco:scope.isCoroutine=false) (hgen:scope.isGenerator=false) (hcell:∀z∈scope.names,z.2≠.cell) (hlx:scope.names.lookup x=some .local)
    (hdx:(x == ("__debug__" : Str))=false)
    (ha:PA X [e] t) (he0:autoParam (starEach [e] X.env = [(false,eval e X.env)]) aZa._auto_1)
    (he:autoParam (starEach [.Call (.Name "list" pl) [e] [] posl] X.env = [(false,eval (.Call (.Name "list" pl) [e] [] posl) X.env)]) aZa._auto_1) :
    PE X (.Call (.Name "sorted" p) [.Call (.Name "list" pl) [e] [] posl] [⟨some "key",.Lambda params (.Subscript (.Name x p1) (.Constant (.int 1) kk p4) p5) scope lpos,kpos⟩,⟨some "reverse",.Constant (.bool true) jc cpos,kpos2⟩] pos) (FZ t):=by
  intro pins s σ H Q I h;have hpa:PA X [.Call (.Name "list" pl) [e] [] posl] (JV t):=eT (qX (vn hc) hgl hml boot_list ha (he:=by rw[he0];rfl) (hpl:=rfl)) kO (by rw[he];rfl);refine wpAny_Call_Name_kw (kL I hg hm (show bootBuiltins "sorted" = some (.builtin "sorted") by first | rfl | decide) ?_ (by decide) (by decide));refine callWith_kw (bV (hpa pos pins s σ H _ I h) ?_) (by rw[he];rfl) (by rw[he];rfl) rfl rfl;rintro us s1 ⟨vs,H1,I1,r1,q1⟩;obtain ⟨l0,bs,ps,rfl,hl0,hbs,fin⟩:=q1;obtain ⟨u,rfl,rx⟩:=vals1 r1;cases rx;show wpAny _ _ (evalAll [(do let v <-eval (.Lambda params (.Subscript (.Name x p1) (.Constant (.int 1) kk p4) p5) scope lpos) X.env;standAt pos;pure v),(do let v <-eval (.Constant (.bool true) jc cpos) X.env;standAt pos;pure v)]) _ _ s1;refine wpAny_evalAll_cons (wpAny_bind (Az I1 hcode C B hT hcl hdef λf c' ctv pm h3 tk3 H3 I3 hH3 ho hfn hge hrec=>wpAny_bind (wpAny_standAt (wpAny_pure (wpAny_evalAll_cons (wpAny_bind (wpAny_Constant_bool (wpAny_bind (wpAny_standAt (wpAny_pure (wpAny_evalAll_nil ?_)))))))))));show wpAny _ _ (call (.builtin "sorted") [.ref l0] [(Str.ofString "key",.ref f),(Str.ofString "reverse",.bool true)]) _ _ _;have s13:aq H1 H3:=by
    rcases hH3 with z | ⟨z,z'⟩
    · rw[z];exact aq.refl _
    · rw[z'];exact fB z
  have hbs3:Paired (λb p=>H3 b=some (.tup [.int p.1.1,.int p.1.2])) bs ps:=gN (λ_ _ z=>s13 _ _ z) hbs;have hl:bs.length=ps.length:=Paired.length hbs;obtain ⟨hz,its,n0,rv,hit⟩:=(show bZ X.prog X.w H3 h3 l0 (.lst (bs.map V.ref)) from I3.bp l0 _ (s13 _ _ hl0))
  have eits:its=bs.map Value.ref:=by
    clear hz hit hbs hbs3 hl hl0 fin;induction bs generalizing its with
    | nil=>cases rv;rfl
    | cons b bs ih =>
      cases rv with
      | cons h1 h2 =>
        cases h1;rw[ih _ h2];rfl
  subst eits;rw[length_map] at hz;refine Tim.vJ (b:=true) (kz:=ps.map λp=>p.1.2) (vs:=bs.map Value.ref) ⟨_,hit,rfl,_,rfl⟩ (by rw[length_map,length_map,hl]) (by rw[length_map];exact hz) (ksk_s2 _ _ _) (λx=>ksk_l2 _ _ _) (λx=>ksk_t2 _ x true)
    (λi' v k hv hk' h4 tk4 K4 Q4 q4=>?_) λD h5 eC out c5 K5 hD hDo ko=>?_
  · rw[getElem?_map] at hv hk';obtain ⟨p,hp,rfl⟩:=Option.map_eq_some_iff.mp hk';obtain ⟨b,eb,hb'⟩:=DL.bt hbs3 hp;rw[eb] at hv;cases hv;have I4:Inv X pins σ H3 { s1 with heap:=h4,toks:=tk4 }:=I3.kept (t':=tk4) K4;have hrec4:h4.CodeRec (.ref c') (X.env.qual++"<lambda>"):=by
      obtain ⟨c2,o2,vs2,t2,e2,gg,r2,r3⟩:=hrec;cases e2;exact ⟨c',o2,vs2,t2,rfl,K4 _ _ gg,r2,r3⟩
    refine yE (j:=1) (ys:=[.int p.1.1,.int p.1.2]) I4 (K4 f _ ho) hrec4 (.inl (.inl hb')) rfl (hbind _ _ _ _) hk hco hgen hcell hlx hdx ?_ λh' tk t' keep=>q4 h' tk t' keep;have:=room.dp;show X.A.depth<_;lia
  · obtain ⟨qs,hqp,hqo,hqs⟩:=ko;have ezip:(ps.map λp=>p.1.2).zip (bs.map Value.ref)=(bs.zip ps).map λz=>(z.2.1.2,Value.ref z.1):=by
      clear hz hit hbs hbs3 hl0 fin hqp rv;induction bs generalizing ps with
      | nil=>cases ps<;>rfl
      | cons b bs ih =>
        cases ps with
        | nil=>rfl
        | cons p ps =>
          rw[map_cons,map_cons,List.zip_cons_cons,List.zip_cons_cons,map_cons,ih ps (by simpa using hl)]
    rw[ezip] at hqp;obtain ⟨zs,hzp,rfl⟩:=jD hqp _ rfl;have eo:out.toList=(zs.map Prod.fst).map Value.ref:=by rw[hqo,map_map,map_map];rfl
    have zlen:zs.length=bs.length:=by rw[hzp.length_eq,List.length_zip];lia
    refine ⟨.ref D,_,I3.laid (s:={ s1 with heap:=h3,toks:=tk3 }) (t':=eC) K5 hD (o:=.lst ((zs.map Prod.fst).map V.ref)) ⟨by rw[length_map,length_map];lia,(zs.map Prod.fst).map Value.ref,c5,jZ _,?_⟩,rfl,fin D (zs.map Prod.fst) (zs.map Prod.snd) H3 s13 (I3.bp.fresh hD) ?_ ?_ ?_⟩
    · rw[<-eo,Array.toArray_toList];exact hDo
    · have:=hzp.map Prod.snd;rw[List.map_snd_zip (by lia)] at this;exact this
    · unfold xT;rw[pairwise_map] at hqs ⊢;exact hqs.imp λ{p q} z=>z
    · exact kj λz hz=>iR hbs3 (hzp.mem_iff.mp hz)
end
end L2
set_option maxHeartbeats 1000000
namespace L2
open PySem PySem.Spec PyProof.Rows
section
variable {X:Cx}
noncomputable def n4 (h:Heap):Value->List Int
 | .ref a=>match h.get? a with
  | some o=>match o.data with
   | .seq xs _=>xs.toList.map numOf
   | _=>[]
  | none=>[]
 | _=>[]
theorem Dv {h:Heap}{v:Value}{ns:List Int}(t:SoT.Tp h v ns):n4 h v=ns:=by
 obtain ⟨a,o,xs,n,rfl,h1,h2,h3,h4⟩:=t;unfold n4;dsimp only;rw[h1];dsimp only;rw[h3];exact h4.nums
noncomputable def FO (K:Frag):List V->Hp->VK->Prop:=λxs H Q=>∃(a:Addr) (bs:List Addr) (nss:List (List Int)) (c:Nat),xs = [.ref a]/\fV K H a (bs.map V.ref)/\Paired (λb ns=>jR K H b (ns.map V.int)) bs nss/\0<c/\(∀ns∈nss,ns.length=c) /\
 ∀(l:Addr) (zs:List (Addr×List Int)),H l=none->zs.Perm (bs.zip nss)->zs.Pairwise (λp q=>Tim.fw q.2 p.2=false)->Q (.ref l) (upd H l (.lst ((zs.map Prod.fst).map V.ref)))
theorem xF:∀{bs:List Addr} {its:List Value},Vals (bs.map V.ref) its->its=bs.map Value.ref
 | [],_,h=>by cases h;rfl
 | b::bs,_,h=>by
  cases h with
  | cons h1 h2 =>
   cases h1;rw[xF h2];rfl
theorem vo:eD X (.builtin "sorted") (FO X.K):=by
 intro pins s σ H xs us Q I r h;obtain ⟨a,bs,nss,c,rfl,hs,hb,hc,hl,q⟩:=h;obtain ⟨u,rfl,ru⟩:=vals1 r;cases ru;obtain ⟨its,rv,pl,hz⟩:=I.list hs;rw[length_map] at hz;cases xF rv;have hlen:bs.length=nss.length:=Paired.length hb;have tp:∀z∈bs.zip nss,SoT.Tp s.heap (.ref z.1) z.2:=λz hz'=>by
  obtain ⟨us,rr,⟨o,e1,e2,m,e3⟩,_⟩:=I.tuple (iR hb hz');exact ⟨z.1,o,us.toArray,m,rfl,e1,e2,e3,by simpa using intsAre_of rr⟩
 have tz:∀z∈bs.zip nss,n4 s.heap (.ref z.1)=z.2:=λz hz'=>Dv (tp z hz');have ebs:bs.map Value.ref=(bs.zip nss).map λz=>Value.ref z.1:=by
  have:(bs.zip nss).map Prod.fst=bs:=List.map_fst_zip (by lia);conv=>lhs;rw[<-this]
  rw[map_map];rfl
 refine Tim.vV (f:=n4 s.heap) (c:=c) pl.isList (λv hv=>?_) hc (by rw[length_map];exact hz) λD h' n out hD k' hDo hp ho=>?_
 .rw[ebs] at hv;obtain ⟨z,hz',rfl⟩:=mem_map.mp hv;have:=tp z hz';rw[tz z hz'];exact ⟨this,hl _ (List.of_mem_zip hz').2⟩
 .rw[ebs] at hp;obtain ⟨zs,hzp,rfl⟩:=jD hp _ rfl;have em:zs.map (λz=>Value.ref z.1)=(zs.map Prod.fst).map Value.ref:=by rw[map_map];rfl
  rw[em] at hDo;have zlen:zs.length=bs.length:=by rw[hzp.length_eq,List.length_zip];lia
  refine ⟨.ref D,_,I.laid (t':=s.toks) k' hD (o:=.lst ((zs.map Prod.fst).map V.ref)) ⟨by rw[length_map,length_map];lia,(zs.map Prod.fst).map Value.ref,n,jZ _,hDo⟩,rfl,q D zs (I.bp.fresh hD) hzp ?_⟩;rw[pairwise_map] at ho;refine List.Pairwise.imp_of_mem (λ{p q} h1 h2 z=>?_) ho;rw[tz p (hzp.mem_iff.mp h1),tz q (hzp.mem_iff.mp h2)] at z;exact z
end
end L2
namespace DL
open PySem L2 PyProof.Rows PySem.W
noncomputable def zh (ns:List Int):D:=.tup (ns.map D.int)
noncomputable def qo (mss:List (List Int)):Prop:=mss.Pairwise λa b=>Tim.fw b a=false
noncomputable def rL:DR:=λds P=>match ds with
 | [.lst xs]=>∃(nss:List (List Int)) (c:Nat),xs=nss.map zh/\0<c/\(∀ns∈nss,ns.length=c)/\∀mss:List (List Int),mss.Perm nss->qo mss->P (.o (.lst (mss.map zh)))
 | _=>False
theorem q8 {K:Frag}{G:Hp}:∀{us:List V} {nss:List (List Int)},aR K G us (nss.map zh)->∃bs:List Addr,us=bs.map V.ref/\Paired (λb ns=>G b=some (.tup (ns.map V.int))) bs nss
 | _,[],h=>by
  have h:aR K G _ []:=h;cases h;exact ⟨[],rfl,.nil⟩
 | _,ns::nss,h=>by
  have h:aR K G _ (zh ns::nss.map zh):=h;cases h with
  | cons h1 h2 =>
   obtain ⟨bs,rfl,hb⟩:=q8 h2;obtain ⟨b,vs,rfl,e,rr⟩:=Rep.jd h1;rw[d7 rr] at e;exact ⟨b::bs,rfl,.cons e hb⟩
theorem tE {X:Cx}:CallD X (.builtin "sorted") rL:=by
 refine ⟨_,vo,λH G vs ds P Q s r h k=>?_⟩;unfold rL at h;split at h
 .obtain ⟨nss,c,rfl,hc,hl,h⟩:=h;obtain ⟨v,rfl,rv⟩:=gC r;obtain ⟨a,us,rfl,e,rr⟩:=rv.lst_inv;obtain ⟨bs,rfl,hb⟩:=q8 rr;refine ⟨a,bs,nss,c,rfl,fV.of (s _ _ e),gN (λb ns z=>.inl (.inl (s _ _ z))) hb,hc,hl,λl zs hl' hp ho=>?_⟩;have hlen:bs.length=nss.length:=Paired.length hb;have hp2:(zs.map Prod.snd).Perm nss:=by
   have:=hp.map Prod.snd;rw[List.map_snd_zip (by lia)] at this;exact this
  have hr:aR X.K G ((zs.map Prod.fst).map V.ref) ((zs.map Prod.snd).map zh):=by
   have:∀z∈zs,G z.1=some (.tup (z.2.map V.int)):=λz hz=>iR hb (hp.mem_iff.mp hz);clear hp ho hp2;induction zs with
   | nil=>exact .nil
   | cons z zs ih=>exact .cons (Rep.sS (this z (mem_cons_self ..)) (ip z.2)) (ih λy hy=>this y (mem_cons_of_mem _ hy))
  obtain ⟨w2,r2⟩:=fO (Wd.refl s) hl' hr;exact k _ _ _ _ (h _ hp2 (by unfold qo;rw[pairwise_map];exact ho)) w2 r2
 .exact h.elim
section
variable {X:Cx} {e:Expr}
noncomputable def vt (t:eB):DT:=λρ Q=>t ρ λds=>match ds with
 | [.dct kvs]=>∀ps:dE,ps.Perm kvs->xT ps->Q (.o (.lst (iq ps)))
 | _=>False
set_option tactic.hygienic true in
theorem zV {P c:Addr}{x:Str}{params:Arguments}{scope:Scope}{lpos kpos kpos2 cpos p pl posl pos p1 p4 p5:Pos}{kk jc:Nat}{t:eB}
  (hg:Gl X "sorted") (hm:X.mg "sorted" = none) (hgl:Gl X "list") (hml:X.mg "list" = none) (hc:X.calm=true) (room:cY 0 X.A)
  (hcode:X.env.code=.ref c) (C:PySem.W.codeHdIn X.K c P=true) (Cu:X.K.In X.base) (B:bb X.mg X.base) (hT:TabAt X.H₀ P (X.env.qual++"<lambda>"))
  (hcl:closureFor scope X.env=pure []) (hdef:defaultsOf params X.env=([],[]))
  (hbind:∀q pm c' ctv v,bindArgs (kla_fn "<lambda>" q params (.Subscript (.Name x p1) (.Constant (.int 1) kk p4) p5) scope [] pm (.ref c') ctv) ⟨[v],[]⟩=pure [(x,v)])
  (hk:scope.kind=.function) (hco:scope.isCoroutine=false) (hgen:scope.isGenerator=false) (hcell:∀z∈scope.names,z.2≠.cell) (hlx:scope.names.lookup x=some .local)
  (hdx:(x == ("__debug__" : Str))=false)
  (ha:DA X [e] t) (he0:autoParam (starEach [e] X.env = [(false,eval e X.env)]) aZa._auto_1)
  (he:autoParam (starEach [.Call (.Name "list" pl) [e] [] posl] X.env = [(false,eval (.Call (.Name "list" pl) [e] [] posl) X.env)]) aZa._auto_1) :
  DE X (.Call (.Name "sorted" p) [.Call (.Name "list" pl) [e] [] posl] [⟨some "key",.Lambda params (.Subscript (.Name x p1) (.Constant (.int 1) kk p4) p5) scope lpos,kpos⟩,⟨some "reverse",.Constant (.bool true) jc cpos,kpos2⟩] pos) (vt t):=
 DE.of (A2 hg hm hgl hml hc room hcode (codeHd_of_K Cu C) B hT hcl hdef hbind hk hco hgen hcell hlx hdx ha.pa he0 he)<|by
  rintro σ H Q ⟨G,ρ,PP,s,re,h,k⟩;refine ⟨G,ρ,_,s,re,h,λds vs H1 G1 p1 l1 w1 r1=>?_⟩;split at p1
  .rename_i kvs;obtain ⟨v,rfl,rv⟩:=gC r1;cases rv with
   | dct e =>
    refine ⟨_,kvs,rfl,iZ w1.gh e,λl bs hl hb=>⟨l,bs,kvs,rfl,ao,?_,λl2 bs' ps' H3 s3 hl2 hp hf hb'=>?_⟩⟩
    .exact gN (λb p z=>by rw[aj (aZ z hl)];exact z) hb
    .have w3:Wd H G H3 G1:=⟨(w1.hh.trans (fB hl)).trans s3,w1.gg,(w1.gh.trans (fB hl)).trans s3,w1.old⟩
     obtain ⟨G',w',r'⟩:=zq (K:=X.K) w3.gh hl2 hb';refine k _ _ _ G' (p1 ps' hp hf) (w3.trans w') ?_;exact r'.ahead w3.hh
  .exact p1.elim
end
section
variable {X:Cx} {e:Expr} {te:DT} {i:Nat} {x:Str} {pos px:Pos}
theorem uz {K:Frag}{H0 G0 H G G1 H' G':Hp}{σ:L2.St}{ρ:aB}{v:V}{ds:List D}(w:Wd H0 G0 H G)(w1:Wd H0 G0 H G1)(en:aX K H0 G H σ ρ)(w':Wd H G1 H' G')(r':gc K H G' H' v (.o (.lst ds)))(fl:ds.all D.flat=true) :
  ∃(a:Addr) (vs:List V) (G4:Hp),v=.ref a/\H a=none/\H' a=some (.lst vs)/\G4 a=some (.lst vs)/\aR K G4 vs ds/\Wd H0 G0 H' G4/\aX K H0 G4 H' σ ρ:=by
 obtain ⟨a,rfl,ha,ga,vs,hv,rr⟩:=r';obtain ⟨G3,w3,s3,_,k4,o3⟩:=GD (K:=K) w w1 w';have k3:∀c us,G' c=some (.tup us)->G3 c=some (.tup us):=λc us e=>k4 c us (w'.gh _ _ e);have g3:G3 a=none:=by
  rw[o3 a (λus z=>by rw[hv] at z;cases z) (λo us z=>by rw[hv] at z;cases z)];exact w.gh.free ha
 have w4:Wd H0 G0 H' (upd G3 a (.lst vs)):=w3.give (.inl (w.hh.free ha)) g3 hv;have s4:aq G3 (upd G3 a (.lst vs)):=fB g3;have en4:aX K H0 (upd G3 a (.lst vs)) H' σ ρ:=(en.more (s3.trans s4) λx gx hx=>by
  have xa:x≠a:=by
   rintro rfl;rcases hx with ⟨_,z⟩ | ⟨_,z⟩<;>rw[ha] at z<;>cases z
  rw[aj xa,o3 x,gx]
  .intro us z;rcases hx with ⟨_,y⟩ | ⟨_,y⟩<;>have:=w'.hh _ _ y<;>rw[z] at this<;>cases this
  .intro o us z;rcases hx with ⟨_,y⟩ | ⟨_,y⟩<;>have:=w'.hh _ _ y<;>rw[z] at this<;>cases this).back w'.hh
 exact ⟨a,vs,_,rfl,ha,hv,ao,aR.mono s4 (aR.flat k3 rr fl),w4,en4⟩
noncomputable def zQ (i:Nat)(te:DT):fu:=λE ρ=>te (bu ρ) λb=>match b with
 | .o (.lst ds)=>ds.all D.flat=true/\E.nx (dput ρ i (.p (.lst ds)))
 | _=>False
set_option tactic.hygienic true in
theorem Ca (hN:X.N.Nodup)(hi:X.N[i]?=some x)(hx:Loc X.env.scope x)(he:DE X e te)(hs:autoParam (swapsWith e (some (.Name x px)) pos.line X.env=pure false) aZa._auto_1)(hf:autoParam (X.fn x=true\/X.env.scope.names.lookup x=some .local) aZd._auto_1) :
  DS X (.Assign [.Name x px] e pos) (zQ i te):=DS.mk λH0 G0=>PS.imp (sD hN hi hx he.pe hs hf)<|by
 rintro Dn σ H ⟨E,G,ρ,eo,w,en,h⟩;obtain ⟨G1,w1,sg,e1⟩:=en.freeze w;refine ⟨G1,bu ρ,_,w1.gh,e1.p,h,λb v H' G' p' w' r'=>?_⟩;split at p'
 .rename_i ds;obtain ⟨a,vs,G4,rfl,ha,hv,ga,rr,w4,en4⟩:=uz w w1 en w' r' p'.1;exact eo.nx _ H' G4 _ w4 (en4.yW i (Rep.CJ ga rr)) p'.2
 .exact p'.elim
variable {apos cpos spos:Pos}
noncomputable def wu (i:Nat)(te:DT):fu:=λE ρ=>match aT ρ i with
 | some (.o (.lst ds))=>te (bu ρ) λb=>match b with
  | .o (.lst es)=>es.all D.flat=true/\ds.length+es.length<=sizeLine/\E.nx (dput ρ i (.o (.lst (ds++es))))
  | _=>False
 | _=>False
set_option tactic.hygienic true in
theorem B7 (hN:X.N[i]?=some x)(hv:vj X.env.scope x)(he:DE X e te)(hd:autoParam ((x == ("__debug__" : Str))=false) aZb._auto_1)(hcd:autoParam ((x == ("__classdict__" : Str))=false) aZb._auto_1)
  (hbase:autoParam (attributeBase (.Name x px) "extend" X.env (eval (.Name x px) X.env)=eval (.Name x px) X.env) aZa._auto_1)
  (hfew:autoParam (((backTo cpos (starEach (e::[]) X.env)).all (λx=>!x.1) && (backToKw cpos (keywordEach [] X.env)).all (λx=>x.1.isSome)
   && decide ((e::[]).length+([]:List Keyword).length+(if ([]:List Keyword).isEmpty then 0 else 1)<30))=true) aZa._auto_1)
  (hline:autoParam ((apos.endLine == cpos.line)=true) aZa._auto_1) (hs:autoParam (starEach (e::[]) X.env=(false,eval e X.env)::starEach [] X.env) aZa._auto_1) (hplain:autoParam ((backTo cpos (starEach [] X.env)).any (·.1)=false) aZa._auto_1)
  (hsw:autoParam (swapsWith (.Call (.Attribute (.Name x px) "extend" apos) [e] [] cpos) none spos.line X.env=pure false) aZa._auto_1) :
  DS X (.Expr (.Call (.Attribute (.Name x px) "extend" apos) [e] [] cpos) spos) (wu i te):=DS.mk λH0 G0 =>
 PS.imp (sC (AY PySem.F.plainAttrs_list PySem.F.slot_list_extend PySem.F.type_list_extend yK (gz hN hv hd hcd) (eT he.pe kO hs) hbase hfew hline hs hplain) hsw)<|by
  rintro Dn σ H ⟨E,G,ρ,eo,w,en,h⟩;unfold wu at h;split at h
  .rename_i ds q;obtain ⟨a,h1,h2,h3,vs,h4,h5⟩:=en.o i _ q;obtain ⟨G1,w1,sg,e1⟩:=en.freeze w;refine ⟨_,h1,.inl ⟨rfl,_,fV.of h4⟩,G1,bu ρ,_,w1.gh,e1.p,h,λb v H' G' p' w' r'=>?_⟩;split at p'
   .rename_i es;obtain ⟨b,us,G4,rfl,hb,hb',gb,rr,w4,en4⟩:=uz w w1 en w' r' p'.1;have hl:H' a=some (.lst vs):=w'.hh _ _ h4;obtain ⟨a',k1,k2,k3⟩:=en4.o i _ q;rw[h1] at k1;cases k1;obtain ⟨k3b,vs',k5,k6⟩:=k3;rw[hl] at k5;cases k5;exact ⟨a,b,vs,us,rfl,rfl,hl,hb',by rw[Paired.length k6,Paired.length rr];exact p'.2.1,eo.nx σ _ G4 _ (w4.own k2 k3b) (en4.HK q h1 (cu k6 rr)) p'.2.2⟩
   .exact p'.elim
  .exact h.elim
end
section
variable {X:Cx} {e:Expr} {te:DT} {x:Str} {pos px:Pos}
noncomputable def zL (z y:Int)(te:DT):DT:=λρ Q=>te ρ λb=>match b.val with
 | .tup ds=>ds≠[]/\ds.length+2<=sizeLine/\Q (.p (.tup ([.int z,.int y]++ds)))
 | _=>False
noncomputable def wj (z y:Int)(te:DT):DT:=λρ Q=>te ρ λb=>match b.val with
 | .tup ds=>ds≠[]/\ds.length+2<=sizeLine/\Q (.p (.tup (ds++[.int z,.int y])))
 | _=>False
set_option tactic.hygienic true in
theorem BY {z y:Int}(he:DE X e te)(hB:CT X.K X.mg x z y)(hg:Gl X x)(hdb:autoParam ((x == ("__debug__" : Str))=false) aZb._auto_1):DE X (.BinOp e .Add (.Name x px) pos) (wj z y te):=by
 obtain ⟨c,hm,hc⟩:=hB;refine DE.of (A0 sx he.pe (nW (v:=.ref c) hg hm rfl hdb)) ?_;rintro σ H Q ⟨G,ρ,P,s,re,h,k⟩;refine ⟨G,ρ,_,s,re,h,λb v H1 G1 p1 w1 r1=>?_⟩;obtain ⟨G2,w2,r2⟩:=r1.give w1;split at p1
 .rename_i ds ee;rw[ee] at r2;obtain ⟨a,us,rfl,e',rr⟩:=r2.eW;refine ⟨a,c,us,[.int z,.int y],rfl,rfl,aM w2.gh e',hc _,λz=>?_,by rw[Paired.length rr];exact p1.2.1,λz=>(nomatch z),λ_ p hp=>?_⟩
  .subst z;cases rr;exact p1.1 rfl
  .obtain ⟨w3,r3⟩:=lZ w2 hp (cu rr (.cons (.int z) (.cons (.int y) .nil)));exact k _ _ _ _ p1.2.2 w3 r3
 .exact p1.elim
set_option tactic.hygienic true in
theorem BX {z y:Int}(he:DE X e te)(hB:CT X.K X.mg x z y)(hg:Gl X x)(hdb:autoParam ((x == ("__debug__" : Str))=false) aZb._auto_1):DE X (.BinOp (.Name x px) .Add e pos) (zL z y te):=by
 obtain ⟨c,hm,hc⟩:=hB;refine DE.of (A0 sx (nW (v:=.ref c) hg hm rfl hdb) he.pe) ?_;rintro σ H Q ⟨G,ρ,P,s,re,h,k⟩;refine ⟨G,ρ,_,s,re,h,λb v H1 G1 p1 w1 r1=>?_⟩;obtain ⟨G2,w2,r2⟩:=r1.give w1;split at p1
 .rename_i ds ee;rw[ee] at r2;obtain ⟨a,us,rfl,e',rr⟩:=r2.eW;refine ⟨c,a,[.int z,.int y],us,rfl,rfl,hc _,aM w2.gh e',(λz=>nomatch z),by rw[Paired.length rr,Nat.add_comm];exact p1.2.1,λz=>?_,λ_ p hp=>?_⟩
  .subst z;cases rr;exact (p1.1 rfl).elim
  .obtain ⟨w3,r3⟩:=lZ w2 hp (cu (.cons (.int z) (.cons (.int y) .nil)) rr);exact k _ _ _ _ p1.2.2 w3 r3
 .exact p1.elim
end
end DL
namespace DL
open PySem L2
noncomputable def zS:DR:=λds P=>match ds with
 | [.lst xs]=>P (.p (.tup xs))
 | _=>False
end DL
namespace PySem
open PyProof.Rows
section
variable {prog:Program} {w:World} {A:Around} {E:Value->Shared->Prop} {s:Shared} {l:Addr} {xs:Array (Int×Tok)}
theorem qO {Q:Value->Shared->Prop}(hl:s.heap.IsTuple l (intItems xs))(h:∀s₂,s₂ = { s with heap:=s.heap.push { cls:=.type "tuple_iterator",data:=.fields #[.ref l,.int 0 0] } }->s₂.heap.IsTupleIter s.heap.objs.size l 0/\s₂.heap.IsTuple l (intItems xs)->(∀b∈[s.heap.objs.size,l],b<s₂.heap.objs.size)->l≠s.heap.objs.size->Q (.ref s.heap.objs.size) s₂):wpAny (model prog w) A (pyIter (.ref l)) Q E s:=by
 have hlt:l<s.heap.objs.size:=by obtain ⟨o,e,_⟩:=hl;exact Heap.lt_size e
 refine wpAny_pyIter_tuple hl (h _ rfl ⟨⟨_,Heap.get?_push_size _ rfl,rfl,rfl⟩,hl.push _⟩ (λb hb=>?_) (Nat.ne_of_lt hlt));show b<(s.heap.push _).objs.size;rw[Heap.size_push];rcases List.mem_cons.mp hb with rfl | hb
 .exact Nat.lt_succ_self _
 .rw[mem_singleton.mp hb];exact Nat.lt_succ_of_lt hlt
theorem uJ {h':Heap}{o':Obj}(hk:∀b o,b∉[s.heap.objs.size]->(s.heap.push o').get? b=some o->h'.get? b=some o):∀b o,s.heap.get? b=some o->h'.get? b=some o:=λb o e =>
 hk b o (λhm=>Nat.ne_of_lt (Heap.lt_size e) (mem_singleton.mp hm)) (Heap.get?_push_of_some _ e)
theorem vK {Q:Value->Shared->Prop}(hh:A.handled=none)(hl:s.heap.IsTuple l (intItems xs))(hne:0<xs.size)
  (h:∀v h' tk,(intItems xs)[argBest (λi j=>decide (numAt xs i>numAt xs j)) (xs.size - 1)]?=some v->(∀b o,s.heap.get? b=some o->h'.get? b=some o)->Q v { s with heap:=h',toks:=tk }) :
  wpAny (model prog w) A (call (.builtin "max") [.ref l]) Q E s:=by
 refine call_max_walk (qO hl λs₂ e st hfp hlI=>?_);subst e;refine ⟨_,_,_,_,_,_,_,rfl,Walks.tuple (A:=A.in1) hh _ l hlI (intItems xs),st,hfp,by simpa [intItems] using hne,CmpOf.ints_gt (numAt xs) (λ_ _=>intItems_at),λv h' tk hP hk=>?_⟩;exact h v h' tk (by simpa [intItems] using hP) (uJ hk)
theorem vL {Q:Value->Shared->Prop}(hh:A.handled=none)(hl:s.heap.IsTuple l (intItems xs))(hne:0<xs.size)
  (h:∀v h' tk,(intItems xs)[argBest (λi j=>decide (numAt xs i<numAt xs j)) (xs.size - 1)]?=some v->(∀b o,s.heap.get? b=some o->h'.get? b=some o)->Q v { s with heap:=h',toks:=tk }) :
  wpAny (model prog w) A (call (.builtin "min") [.ref l]) Q E s:=by
 refine call_min_walk (qO hl λs₂ e st hfp hlI=>?_);subst e;refine ⟨_,_,_,_,_,_,_,rfl,Walks.tuple (A:=A.in1) hh _ l hlI (intItems xs),st,hfp,by simpa [intItems] using hne,CmpOf.ints_lt (numAt xs) (λ_ _=>intItems_at),λv h' tk hP hk=>?_⟩;exact h v h' tk (by simpa [intItems] using hP) (uJ hk)
end
end PySem
namespace L2
open PySem PySem.Spec PyProof.Rows
section
variable {X:Cx}
theorem yf (hc:X.calm=true):eD X (.builtin "max") (λxs H Q=>∃(p:Addr) (ns:List Int),xs = [.ref p]/\jR X.K H p (ns.map V.int)/\ns≠[]/\∀m:Int,m∈ns->(∀n∈ns,n<=m)->Q (.int m) H):=by
 intro pins s σ H xs us Q I r h;obtain ⟨p,ns,rfl,hp,hne,q⟩:=h;obtain ⟨u,rfl,ru⟩:=vals1 r;cases ru;obtain ⟨its,rv,pl,hz⟩:=I.tuple hp;have hi:IntsAre its ns:=intsAre_of rv;obtain ⟨zs,e⟩:=hi.allInts.items;have e3:zs.toList.map (·.1)=ns:=by rw[<-nums_intItems,<-e];exact hi.numsOf
 have hsz:0<zs.size:=by
  have:ns.length=zs.size:=by rw[<-e3];simp
  have:ns.length≠0:=λz=>hne (length_eq_zero_iff.mp z);lia
 refine vK (I.ok.hd hc) (xs:=zs) (e ▸ pl) hsz λv h' tk hv hk=>?_;obtain ⟨⟨t,rfl⟩,hm⟩:=rA hv;refine ⟨.int _,H,I.kept hk,⟨t,rfl⟩,q _ (e3 ▸ hm) λn hn=>?_⟩;obtain ⟨j,hj,ej⟩:=kN (e3 ▸ hn);rw[<-ej];exact (argBest_gt (numAt zs) (zs.size - 1)).2 j hj
theorem yh (hc:X.calm=true):eD X (.builtin "min") (λxs H Q=>∃(p:Addr) (ns:List Int),xs = [.ref p]/\jR X.K H p (ns.map V.int)/\ns≠[]/\∀m:Int,m∈ns->(∀n∈ns,m<=n)->Q (.int m) H):=by
 intro pins s σ H xs us Q I r h;obtain ⟨p,ns,rfl,hp,hne,q⟩:=h;obtain ⟨u,rfl,ru⟩:=vals1 r;cases ru;obtain ⟨its,rv,pl,hz⟩:=I.tuple hp;have hi:IntsAre its ns:=intsAre_of rv;obtain ⟨zs,e⟩:=hi.allInts.items;have e3:zs.toList.map (·.1)=ns:=by rw[<-nums_intItems,<-e];exact hi.numsOf
 have hsz:0<zs.size:=by
  have:ns.length=zs.size:=by rw[<-e3];simp
  have:ns.length≠0:=λz=>hne (length_eq_zero_iff.mp z);lia
 refine vL (I.ok.hd hc) (xs:=zs) (e ▸ pl) hsz λv h' tk hv hk=>?_;obtain ⟨⟨t,rfl⟩,hm⟩:=rA hv;refine ⟨.int _,H,I.kept hk,⟨t,rfl⟩,q _ (e3 ▸ hm) λn hn=>?_⟩;obtain ⟨j,hj,ej⟩:=kN (e3 ▸ hn);rw[<-ej];exact (argBest_lt (numAt zs) (zs.size - 1)).2 j hj
end
end L2
namespace DL
open PySem L2
noncomputable def DY:DR:=λds P=>match ds with
 | [.tup xs]=>∃ns:List Int,xs=ns.map D.int/\ns≠[]/\∀m,m∈ns->(∀n∈ns,n<=m)->P (.p (.int m))
 | _=>False
noncomputable def DZ:DR:=λds P=>match ds with
 | [.tup xs]=>∃ns:List Int,xs=ns.map D.int/\ns≠[]/\∀m,m∈ns->(∀n∈ns,m<=n)->P (.p (.int m))
 | _=>False
theorem BR {X:Cx}(hc:X.calm=true):CallD X (.builtin "max") DY:=by
 refine ⟨_,yf hc,λH G vs ds P Q s r h k=>?_⟩;unfold DY at h;split at h
 .obtain ⟨ns,rfl,hn,h⟩:=h;obtain ⟨v,rfl,rv⟩:=gC r;obtain ⟨a,us,rfl,e,rr⟩:=rv.eW;rw[d7 rr] at e;exact ⟨a,ns,rfl,aM s e,hn,λm h1 h2=>k _ _ H G (h m h1 h2) (Wd.refl s) (.int _)⟩
 .exact h.elim
theorem BU {X:Cx}(hc:X.calm=true):CallD X (.builtin "min") DZ:=by
 refine ⟨_,yh hc,λH G vs ds P Q s r h k=>?_⟩;unfold DZ at h;split at h
 .obtain ⟨ns,rfl,hn,h⟩:=h;obtain ⟨v,rfl,rv⟩:=gC r;obtain ⟨a,us,rfl,e,rr⟩:=rv.eW;rw[d7 rr] at e;exact ⟨a,ns,rfl,aM s e,hn,λm h1 h2=>k _ _ H G (h m h1 h2) (Wd.refl s) (.int _)⟩
 .exact h.elim
end DL
namespace L2
open PySem PySem.Spec PyProof.Rows
section
variable {X:Cx} {tg:Expr}
end
end L2
namespace DL
open PySem L2
section
variable {X:Cx} {tg:Expr} {pos:Pos}
end
end DL
namespace WS
open DL
noncomputable abbrev K2:=Int×Int
noncomputable abbrev P5:=Int×Int×Int×Int×Int
noncomputable def Bt:K2:=(-1,-1)
noncomputable def gk (p:P5):K2:=(p.1,p.2.1)
noncomputable def eC (p:P5):K2:=(p.2.2.1,p.2.2.2.1)
noncomputable def ht (p:P5):Int:=p.2.2.2.2
noncomputable def k4 (p:P5):List Int:=[p.1,p.2.1,p.2.2.1,p.2.2.2.1]
noncomputable def d5 (p:P5):D:=.tup [.int p.1,.int p.2.1,.int p.2.2.1,.int p.2.2.2.1,.int p.2.2.2.2]
noncomputable def Keyed (kvs:dE):Prop:=(kvs.map (·.1)).Nodup
theorem pL (k:K2):bh [] k=none:=rfl
theorem fi (p:K2×Int)(r:dE)(k:K2):bh (p::r) k=if p.1=k then some p.2 else bh r k:=by
 unfold bh;rw[List.find?_cons];by_cases h:p.1=k
 .rw[if_pos h,decide_eq_true h];rfl
 .rw[if_neg h,decide_eq_false h]
theorem jQ (a b:dE)(k:K2):bh (a++b) k=(bh a k).or (bh b k):=by
 induction a with
 | nil=>rfl
 | cons p r ih =>
  rw[List.cons_append,fi,fi,ih];split<;>rfl
theorem iD {kvs:dE}{k:K2}:bh kvs k=none↔k∉kvs.map (·.1):=by
 induction kvs with
 | nil=>simp[pL]
 | cons p r ih =>
  rw[fi,map_cons,List.mem_cons];by_cases h:p.1=k
  .rw[if_pos h];simp[h]
  .rw[if_neg h,ih];have:¬k=p.1:=λz=>h z.symm;simp[this]
theorem nN {kvs:dE}{k:K2}:(kvs.any λp=>decide (p.1=k))=true↔k∈kvs.map (·.1):=by
 rw[List.any_eq_true,mem_map];constructor
 .rintro ⟨p,h1,h2⟩;exact ⟨p,h1,by simpa using h2⟩
 .rintro ⟨p,h1,h2⟩;exact ⟨p,h1,by simpa using h2⟩
theorem AL (kvs:dE)(k:K2)(v:Int):(kvs.map λp=>if p.1=k then (p.1,v) else p).map (·.1)=kvs.map (·.1):=by
 rw[map_map];refine map_congr_left λp _=>?_;show (if p.1=k then (p.1,v) else p).1=p.1;split<;>rfl
set_option tactic.hygienic true in
theorem mf (kvs:dE)(k k':K2)(v:Int):bh (putD kvs k v) k'=if k=k' then some v else bh kvs k':=by
  unfold putD;split
  · rename_i h;have hm:=nN.mp h;clear h;induction kvs with
    | nil=>cases hm
    | cons p r ih =>
      rw[map_cons,fi,fi];by_cases e:p.1=k
      · rw[if_pos e];show (if p.1=k' then some v else _)=_;rw[e];by_cases e':k=k'
        · rw[if_pos e',if_pos e']
        · rw[if_neg e',if_neg e',if_neg e'];by_cases hr:k∈r.map (·.1)
          · rw[ih hr,if_neg e']
          · congr 1;conv=>rhs;rw[<-List.map_id r]
            refine map_congr_left λq hq=>?_;rw[if_neg (λz=>hr (mem_map.mpr ⟨q,hq,z⟩))];rfl
      · rw[if_neg e];have hm':k∈r.map (·.1):=by
          rw[map_cons,List.mem_cons] at hm;exact hm.resolve_left λz=>e z.symm
        rw[ih hm'];by_cases e':k=k'
        · rw[if_pos e',if_pos e',if_neg (λz=>e (z.trans e'.symm))]
        · rw[if_neg e',if_neg e']
  · rename_i h;have hm:k∉kvs.map (·.1):=λz=>h (nN.mpr z);rw[jQ,fi];by_cases e:k=k'
    · rw [if_pos e, if_pos e, iD.mpr (by rw [<- e];exact hm)];rfl
    · rw[if_neg e,if_neg e,pL];cases bh kvs k'<;>rfl
set_option tactic.hygienic true in
theorem yX {kvs:dE}(h:Keyed kvs)(k:K2)(v:Int):Keyed (putD kvs k v):=by
 unfold putD;split
 .unfold Keyed;rw[AL];exact h
 .rename_i hn;unfold Keyed;rw[map_append,nodup_append];refine ⟨h,by simp,λa ha b hb=>?_⟩;simp only[map_cons,List.map_nil,mem_singleton] at hb;rw[hb];rintro rfl;exact hn (nN.mpr ha)
theorem C7 (kvs:dE)(k:K2)(v:Int):(putD kvs k v).length<=kvs.length+1:=by
 unfold putD;split
 .rw[length_map];lia
 .rw[length_append];exact Nat.le_refl _
noncomputable abbrev Q2:=K2×Int
noncomputable def aE (k:K2)(qs:List Q2):Int:=((qs.filter λq=>decide (q.1=k)).map (·.2)).sum
noncomputable def gI (k:K2)(qs:List Q2):Option Int:=if k∈qs.map (·.1) then some (aE k qs) else none
theorem cW (k:K2)(a b:List Q2):aE k (a++b)=aE k a+aE k b:=by
 unfold aE;rw[filter_append,map_append,sum_append]
theorem jO {k:K2}{qs:List Q2}(h:k∉qs.map (·.1)):aE k qs=0:=by
 unfold aE;rw[List.filter_eq_nil_iff.mpr λq hq=>by
  rw[decide_eq_true_eq];exact λe=>h (mem_map.mpr ⟨q,hq,e⟩)]
 rfl
set_option tactic.hygienic true in
theorem iC (k:K2)(qs:List Q2):(gI k qs).getD 0=aE k qs:=by
 unfold gI;split
 .rfl
 .rename_i h;rw[jO h];rfl
theorem pK (k:K2)(q:Q2):aE k [q]=if q.1=k then q.2 else 0:=by
  unfold aE;by_cases h:q.1=k
  · rw [if_pos h, filter_cons, if_pos (by simpa using h)];simp
  · rw [if_neg h, filter_cons, if_neg (by simpa using h)];rfl
noncomputable def hE (s:S3):Int:=min s.1 s.2.1
noncomputable def kJ (s:S3):Int:=max s.1 s.2.1
noncomputable def strAt (ss:List S3)(n:Int):Option S3:=if 0<=n then ss[n.toNat]? else none
noncomputable def ar (ss:List S3)(k:K2):Option Int:=match strAt ss k.1 with
 | some s=>if 0<s.2.2/\hE s<=k.2/\k.2<kJ s then some s.2.2 else none
 | none=>none
theorem mQ (ss:List S3):ar ss Bt=none:=rfl
noncomputable def AM (g:Int)(p:P5):Bool:=decide (1<=ht p) && (if gk p=Bt\/eC p=Bt then decide (gk p≠eC p) else decide (p.2.1>=p.2.2.2.1+g))
noncomputable def gq (ps:List P5):List Q2:=ps.map λp=>(gk p,ht p)
noncomputable def tq (ps:List P5):List Q2:=ps.map λp=>(eC p,ht p)
structure Looks (g:Int)(hs cs:List S3)(ps:List P5):Prop where
 may:∀p∈ps,AM g p=true
 qT:(ps.map k4).Nodup
 ud:∀k,k≠Bt->gI k (gq ps)=ar hs k
 sW:∀k,k≠Bt->gI k (tq ps)=ar cs k
theorem xh {α:Type}{xs:List α}{e:α->D}(he:∀x y,e x=e y->x=y){g:Tg}{te:DT}{ρ:aB}{Q:B->Prop}(f:α->D)(hz:xs.length<=1000000)(h:∀x∈xs,g.d (e x) ρ λρ'=>te ρ' λb=>some b.val=some (f x))(q:Q (.o (.lst (xs.map f)))):D9 (xs.map e) g bj te ρ Q:=by
 classical
 refine nR (λd=>if h:∃x,e x=d then f h.choose else .non) f (λx _=>?_) hz h q;have hx:∃y,e y=e x:=⟨x,rfl⟩
 show (if h:∃y,e y=e x then f h.choose else .non)=f x;rw[dif_pos hx,he _ _ hx.choose_spec]
theorem A3 (a b c d:Int):sy (.tup [.int a,.int b]) (.tup [.int c,.int d])=decide (a=c/\b=d):=by
 rw[mO,lP,lP,oX,oX,show jl [] []=true from rfl];rw[Bool.and_true,Bool.eq_iff_iff,Bool.and_eq_true];simp
theorem zA (a b c d:Int):mq (.tup [.int a,.int b]) (.tup [.int c,.int d]):=.tup λi x y e1 e2=>by
 cases i with
 | zero=>cases e1;cases e2;exact .int _ _
 | succ i=>cases i with
  | zero=>cases e1;cases e2;exact .int _ _
  | succ i=>exact absurd e1 (by simp)
theorem CN {a b c d:Int}{Q:B->Prop}(h:Q (.p (.bl (!decide (a=c/\b=d))))):Gj (.tup [.int a,.int b]) (.tup [.int c,.int d]) Q:=by
 refine ⟨⟨zA a b c d,by simp only[ly,fX,ig,lu];decide⟩,?_⟩;rw[A3];exact h
theorem vX (ss:List S3)(s:S3)(n:Int):strAt (ss++[s]) n=if n=(ss.length:Int) then some s else strAt ss n:=by
 unfold strAt;by_cases h:0<=n
 .rw[if_pos h,if_pos h];by_cases e:n=(ss.length:Int)
  .rw[if_pos e,e,Int.toNat_natCast,List.getElem?_append_right (Nat.le_refl _)];simp
  .rw[if_neg e];by_cases h2:n.toNat<ss.length
   .rw[List.getElem?_append_left h2]
   .rw[List.getElem?_append_right (by lia),List.getElem?_eq_none (by simp;lia),List.getElem?_eq_none (by lia)]
 .rw[if_neg h,if_neg h,if_neg (by lia)]
theorem gQ (ss:List S3)(s:S3)(k:K2):ar (ss++[s]) k=if k.1=(ss.length:Int) then (if 0<s.2.2/\hE s<=k.2/\k.2<kJ s then some s.2.2 else none) else ar ss k:=by
 unfold ar;rw[vX];by_cases e:k.1=(ss.length:Int)
 .rw[if_pos e,if_pos e]
 .rw[if_neg e,if_neg e]
theorem gA {ss:List S3}{k:K2}(h:k.1=(ss.length:Int)):ar ss k=none:=by
 unfold ar strAt;rw[if_pos (by lia),List.getElem?_eq_none (by lia)]
end WS
namespace WS
open DL
noncomputable def Pos (ss:List S3):Prop:=∀s∈ss,0<s.2.2
theorem jb {ss:List S3}{n:Int}{s:S3}(h:strAt ss n=some s):0<=n/\ss[n.toNat]?=some s/\s∈ss:=by
 unfold strAt at h;split at h
 .exact ⟨by assumption,h,mem_of_getElem? h⟩
 .cases h
set_option tactic.hygienic true in
theorem iY {ss:List S3}{k:K2}{r:Int}(h:ar ss k=some r):∃s,strAt ss k.1=some s/\0<s.2.2/\hE s<=k.2/\k.2<kJ s/\r=s.2.2:=by
 unfold ar at h;cases e:strAt ss k.1 with
 | none=>rw[e] at h;cases h
 | some s =>
  rw[e] at h;dsimp only at h;split at h
  .rename_i z;exact ⟨s,rfl,z.1,z.2.1,z.2.2,(Option.some.inj h).symm⟩
  .cases h
theorem bG (k:K2)(q:Q2)(qs:List Q2):aE k (q::qs)=(if q.1=k then q.2 else 0)+aE k qs:=by
 rw[<-List.singleton_append,cW,pK]
theorem zg {k:K2}{a b:List Q2}(h:a.Perm b):aE k a=aE k b:=by
 induction h with
 | nil=>rfl
 | cons x _ ih=>rw[bG,bG,ih]
 | swap x y l=>rw[bG,bG,bG,bG];lia
 | trans _ _ h1 h2=>rw[h1,h2]
theorem rh {k:K2}{a b:List Q2}(h:a.Perm b):gI k a=gI k b:=by
 unfold gI;rw[zg h];by_cases c:k∈b.map (·.1)
 .rw[if_pos c,if_pos ((h.map _).mem_iff.mpr c)]
 .rw[if_neg c,if_neg (λz=>c ((h.map _).mem_iff.mp z))]
theorem Looks.perm {g:Int}{hs cs:List S3}{a b:List P5}(L:Looks g hs cs a)(h:b.Perm a):Looks g hs cs b where
 may:=λp hp=>L.may p (h.mem_iff.mp hp)
 qT:=((h.map k4).nodup_iff).mpr L.qT
 ud:=λk hk=>by rw[<-L.ud k hk];exact rh (h.map _)
 sW:=λk hk=>by rw[<-L.sW k hk];exact rh (h.map _)
theorem oM {f:P5->K2}{p:P5}{ps:List P5}(h:p∈ps):f p∈(ps.map λp=>(f p,ht p)).map (·.1):=mem_map.mpr ⟨_,mem_map.mpr ⟨p,h,rfl⟩,rfl⟩
end WS
namespace WS
open DL
noncomputable def vF (n:Nat)(s:S3):List P5:=(List.range (s.1 - s.2.1).toNat).map λj:Nat=>((n:Int),s.2.1+(j:Int),-1,-1,s.2.2)
noncomputable def oo (n:Nat)(s:S3):List P5:=(List.range (s.2.1 - s.1).toNat).map λj:Nat=>(-1,-1,(n:Int),s.1+(j:Int),s.2.2)
noncomputable def jK (f:Nat->S3->List P5):Nat->List S3->List P5
 | _,[]=>[]
 | n,s::r=>f n s++jK f (n+1) r
theorem ph (f:Nat->S3->List P5):∀(ss:List S3) (n:Nat) (s:S3),jK f n (ss++[s])=jK f n ss++f (n+ss.length) s
 | [],n,s=>by simp[jK]
 | a::ss,n,s=>by
  rw[List.cons_append];unfold jK;rw[ph f ss (n+1) s,append_assoc,length_cons,show n+1+ss.length=n+(ss.length+1) by lia]
noncomputable def mT (n:Nat)(lo r:Int)(m:Nat):List Q2:=(List.range m).map λj:Nat=>(((n:Int),lo+(j:Int)),r)
theorem q9 (n:Nat)(lo r:Int)(m:Nat):mT n lo r (m+1)=mT n lo r m++[(((n:Int),lo+(m:Int)),r)]:=by unfold mT;rw[List.range_succ,map_append];rfl
theorem uY (n:Nat)(lo r:Int)(k:K2):∀m:Nat,aE k (mT n lo r m)=if k.1=(n:Int)/\lo<=k.2/\k.2<lo+(m:Int) then r else 0
  | 0=>by rw[if_neg (by lia)];rfl
  | m+1=>by
    obtain ⟨a,b⟩:=k;rw[q9,cW,pK,uY n lo r _ m];dsimp only;by_cases c:((n:Int),lo+(m:Int))=(a,b)
    · have c':=Prod.mk.inj c;rw[if_pos c,if_neg (by lia),if_pos (by lia)];lia
    · have c' : ¬ ((n : Int) = a /\ lo + (m : Int) = b) := λz => c (by rw [z.1, z.2]);rw[if_neg c];by_cases c2:a=(n:Int)/\lo<=b/\b<lo+(m:Int)
      · rw[if_pos c2,if_pos (by lia)];lia
      · rw[if_neg c2,if_neg (by lia)];rfl
theorem lQ {n:Nat}{lo r:Int}{m:Nat}{k:K2}:k∈(mT n lo r m).map (·.1)↔k.1=(n:Int)/\lo<=k.2/\k.2<lo+(m:Int):=by
 unfold mT;rw[map_map,mem_map];constructor
 .rintro ⟨j,hj,rfl⟩;have:=mem_range.mp hj;refine ⟨rfl,?_,?_⟩
  .show lo<=lo+(j:Int);lia
  .show lo+(j:Int)<lo+(m:Int);lia
 .rintro ⟨h1,h2,h3⟩;refine ⟨(k.2 - lo).toNat,mem_range.mpr (by lia),?_⟩;show ((n:Int),lo+((k.2 - lo).toNat:Int))=k;rw[<-h1,Int.toNat_of_nonneg (by lia),show lo+(k.2 - lo)=k.2 by lia]
theorem Bv {k:K2}{a b:List Q2}:gI k (a++b)=if k∈b.map (·.1) then some (aE k a+aE k b) else gI k a:=by
 unfold gI;rw[map_append,cW];by_cases h:k∈b.map (·.1)
 .rw[if_pos h,if_pos (mem_append_right _ h)]
 .rw[if_neg h,jO h];by_cases h2:k∈a.map (·.1)
  .rw[if_pos h2,if_pos (mem_append_left _ h2)];congr 1;lia
  .rw[if_neg h2,if_neg (λz=>(mem_append.mp z).elim h2 h)]
set_option tactic.hygienic true in
theorem rb (f:P5->K2)(row:Nat->S3->List P5)(Ok:S3->Prop)(hrow:∀n s,Ok s->(row n s).map (λp=>(f p,ht p))=mT n (hE s) s.2.2 (kJ s - hE s).toNat)(bp:∀s,Ok s->0<s.2.2/\hE s<=kJ s) :
    ∀ss:List S3,(∀s∈ss,Ok s)->∀k,gI k ((jK row 0 ss).map λp=>(f p,ht p))=ar ss k:=by
  intro ss;generalize hn:ss.length=n;induction n generalizing ss with
  | zero =>
    intro _ k;obtain rfl:=length_eq_zero_iff.mp hn;unfold ar strAt;split
    · rename_i s h;split at h<;>cases h
    · rfl
  | succ n ih =>
    intro ho k;obtain ⟨ini,s,rfl⟩ : ∃ini q,ss=ini++[q]:=by
      rcases eq_nil_or_concat ss with h | ⟨l,b,h⟩
      · rw[h] at hn;cases hn
      · exact ⟨l,b,by rw[h,concat_eq_append]⟩
    have hl:ini.length=n:=by rw[length_append] at hn;simp at hn;exact hn
    have h1:=ih ini hl (λs hs=>ho s (mem_append_left _ hs)) k;have os:=ho s (by simp);obtain ⟨o1,o2⟩:=bp s os;rw[ph,map_append,Bv,hrow _ _ os,Nat.zero_add,gQ,h1];by_cases c:k.1=(ini.length:Int)
    · rw[if_pos c];have hz:aE k ((jK row 0 ini).map λp=>(f p,ht p))=0:=by
        rw[<-iC,h1,gA c];rfl
      by_cases c2:hE s<=k.2/\k.2<kJ s
      · rw [if_pos (lQ.mpr ⟨c, c2.1, by lia⟩), if_pos ⟨o1, c2⟩, hz, uY, if_pos ⟨c, c2.1, by lia⟩];congr 1;lia
      · rw[if_neg (λz=>c2 ⟨(lQ.mp z).2.1,by have:=(lQ.mp z).2.2;lia⟩),if_neg (λz=>c2 z.2),gA c]
    · rw[if_neg c,if_neg (λz=>c (lQ.mp z).1)]
theorem wV (n:Nat)(s:S3)(h:eZ s):(vF n s).map (λp=>(gk p,ht p))=mT n (hE s) s.2.2 (kJ s - hE s).toNat:=by
 have h1:=h.lt;unfold vF mT hE kJ;rw[map_map,show min s.1 s.2.1=s.2.1 by lia,show max s.1 s.2.1=s.1 by lia];rfl
theorem tH (n:Nat)(s:S3)(h:cH s):(oo n s).map (λp=>(eC p,ht p))=mT n (hE s) s.2.2 (kJ s - hE s).toNat:=by
 have h1:=h.lt;unfold oo mT hE kJ;rw[map_map,show min s.1 s.2.1=s.1 by lia,show max s.1 s.2.1=s.2.1 by lia];rfl
theorem lM {α β γ:Type}(f:α->β)(g:α->γ)(h:∀x y,f x=f y->g x=g y):∀xs:List α,(xs.map g).Nodup->(xs.map f).Nodup
 | [],_=>.nil
 | x::xs,hn=>by
  rw[map_cons,nodup_cons] at hn ⊢;refine ⟨λhm=>hn.1 ?_,lM f g h xs hn.2⟩;obtain ⟨y,hy,e⟩:=mem_map.mp hm;exact mem_map.mpr ⟨y,hy,h _ _ e⟩
theorem D7 {p q:P5}(h:k4 p=k4 q):gk p=gk q:=by
 unfold k4 at h;simp only[List.cons.injEq,and_true] at h;unfold gk;rw[h.1,h.2.1]
theorem D8 {p q:P5}(h:k4 p=k4 q):eC p=eC q:=by
 unfold k4 at h;simp only[List.cons.injEq,and_true] at h;unfold eC;rw[h.2.2.1,h.2.2.2]
end WS
namespace WS
open DL
set_option tactic.hygienic true in
theorem AI {g:Int}{hs cs:List S3}{ps:List P5}(may:∀p∈ps,AM g p=true)(qT:(ps.map k4).Nodup)
  (gB:∀p∈ps,gk p=Bt\/(ar hs (gk p)).isSome=true) (gT:∀k r,ar hs k=some r->aE k (gq ps)=r)
  (tB:∀p∈ps,eC p=Bt\/(ar cs (eC p)).isSome=true) (tT:∀k r,ar cs k=some r->aE k (tq ps)=r):Looks g hs cs ps:=by
 have key:∀(f:P5->K2) {ss:List S3},(∀p∈ps,f p=Bt\/(ar ss (f p)).isSome=true)->(∀k r,ar ss k=some r->aE k (ps.map λp=>(f p,ht p))=r)->∀k,k≠Bt->gI k (ps.map λp=>(f p,ht p))=ar ss k:=λf ss hB hT k hk=>by
  unfold gI;split
  .rename_i hm;obtain ⟨q,hq,rfl⟩:=mem_map.mp hm;obtain ⟨p,hp,rfl⟩:=mem_map.mp hq;rcases hB p hp with z | z
   .exact absurd z hk
   .obtain ⟨r,hr⟩:=Option.isSome_iff_exists.mp z;rw[hr,hT _ r hr]
  .rename_i hm;cases hr:ar ss k with
   | none=>rfl
   | some r =>
    have:=hT k r hr;rw[jO hm] at this;obtain ⟨s,_,h0,_,_,e⟩:=iY hr;lia
 exact ⟨may,qT,key gk gB gT,key eC tB tT⟩
theorem gR {ss:List S3}{k:K2}(h:(ar ss k).isSome=true):k≠Bt:=λz=>by rw[z,mQ] at h;cases h
theorem d6 {ss:List S3}{k:K2}(h:(ar ss k).isSome=true):0<=k.1:=by
 obtain ⟨r,hr⟩:=Option.isSome_iff_exists.mp h;obtain ⟨s,e,_⟩:=iY hr;exact (jb e).1
theorem ET (a b:List P5):gq (a++b)=gq a++gq b:=map_append
theorem Gb (a b:List P5):tq (a++b)=tq a++tq b:=map_append
structure Ke (g:Int)(hs cs:List S3)(ps:List P5)(hk ck:dE):Prop where
 may:∀p∈ps,1<=ht p/\(ar hs (gk p)).isSome=true/\(ar cs (eC p)).isSome=true/\p.2.1>=p.2.2.2.1+g
 qT:(ps.map k4).Nodup
 ud:∀k v,bh hk k=some v->∀r,ar hs k=some r->aE k (gq ps)+v=r
 sW:∀k v,bh ck k=some v->∀r,ar cs k=some r->aE k (tq ps)+v=r
end WS
namespace WS
open DL
noncomputable def jm (c:K2->Bool)(qs:List Q2):Int:=((qs.filter λq=>c q.1).map (·.2)).sum
theorem u6 (c:K2->Bool):jm c []=0:=rfl
theorem fh (c:K2->Bool)(q:Q2)(qs:List Q2):jm c (q::qs)=(if c q.1=true then q.2 else 0)+jm c qs:=by
 unfold jm;rw[filter_cons];split
 .rw[map_cons,sum_cons]
 .lia
theorem pD (c:K2->Bool):∀a b:List Q2,jm c (a++b)=jm c a+jm c b
 | [],b=>by rw[List.nil_append,u6];lia
 | q::a,b=>by rw[List.cons_append,fh,fh,pD c a b];lia
noncomputable def jk (k:K2)(qs:List Q2):List Q2:=qs.filter λq=>decide (q.1≠k)
theorem qU {k:K2}{q:Q2}{qs:List Q2}(e:q.1=k):jk k (q::qs)=jk k qs:=by unfold jk;rw[filter_cons,if_neg (by simp[e])]
theorem oQ {k:K2}{q:Q2}{qs:List Q2}(e:¬q.1=k):jk k (q::qs)=q::jk k qs:=by unfold jk;rw[filter_cons,if_pos (by simp[e])]
set_option tactic.hygienic true in
theorem ja (c:K2->Bool)(k:K2):∀qs:List Q2,jm c qs=(if c k=true then aE k qs else 0)+jm c (jk k qs)
 | []=>by
  show (0:Int)=(if c k=true then (0:Int) else 0)+0;split<;>rfl
 | q::qs=>by
  have ih:=ja c k qs;rw[fh,bG];by_cases e:q.1=k
  .rw[qU e,if_pos e,e];split<;>rename_i z
   .rw[if_pos z] at ih;lia
   .rw[if_neg z] at ih;lia
  .rw[oQ e,if_neg e,fh,ih,Int.zero_add];lia
theorem lX (k k':K2):∀qs:List Q2,aE k' (jk k qs)=if k'=k then 0 else aE k' qs
 | []=>by
  show (0:Int)=if k'=k then 0 else 0
  split<;>rfl
 | q::qs=>by
  have ih:=lX k k' qs;rw[bG];by_cases e:q.1=k
  .rw[qU e,ih];by_cases e2:k'=k
   .rw[if_pos e2,if_pos e2]
   .rw[if_neg e2,if_neg e2,if_neg (λz=>e2 (z.symm.trans e))];lia
  .rw[oQ e,bG,ih];by_cases e2:k'=k
   .rw[if_pos e2,if_pos e2,if_neg (λz=>e (z.trans e2))];rfl
   .rw[if_neg e2,if_neg e2]
theorem uB (k:K2)(qs:List Q2):(jk k qs).length<=qs.length:=List.length_filter_le _ _
set_option tactic.hygienic true in
theorem mY (c:K2->Bool):∀(n:Nat) (b:List Q2),b.length<=n->(∀k,c k=true->aE k b=0)->jm c b=0
 | 0,b,hl,h=>by
  obtain rfl:=length_eq_zero_iff.mp (Nat.le_zero.mp hl);rfl
 | n+1,[],hl,h=>rfl
 | n+1,q::b,hl,h=>by
  have e:jk q.1 (q::b)=jk q.1 b:=by unfold jk;rw[filter_cons,if_neg (by simp)]
  have hn:=uB q.1 b;rw[length_cons] at hl;rw[ja c q.1,e,mY c n (jk q.1 b) (by lia) λk hk=>?_]
  .split
   .rename_i z;rw[h _ z];rfl
   .rfl
  .rw[<-e,lX];split
   .rfl
   .exact h k hk
set_option tactic.hygienic true in
theorem mX (c:K2->Bool):∀(n:Nat) (a b:List Q2),a.length<=n->(∀k,c k=true->aE k a=aE k b)->jm c a=jm c b
 | 0,a,b,hl,h=>by
  obtain rfl:=length_eq_zero_iff.mp (Nat.le_zero.mp hl);exact (mY c _ b (Nat.le_refl _) λk hk=>(h k hk).symm).symm
 | n+1,[],b,hl,h=>(mY c _ b (Nat.le_refl _) λk hk=>(h k hk).symm).symm
 | n+1,q::a,b,hl,h=>by
  have e:jk q.1 (q::a)=jk q.1 a:=by unfold jk;rw[filter_cons,if_neg (by simp)]
  have hn:=uB q.1 a;rw[length_cons] at hl;have ih:=mX c n (jk q.1 a) (jk q.1 b) (by lia) λk hk=>by
   rw[<-e,lX,lX];split
   .rfl
   .exact h k hk
  rw[ja c q.1 (q::a),ja c q.1 b,e,ih];split
  .rename_i z;rw[h _ z]
  .rfl
noncomputable def cL (L:Int)(k:K2):Bool:=decide (0<=k.1/\L<=k.2)
theorem xH (L:Int)(n:Nat)(lo r:Int):∀m:Nat,jm (cL L) (mT n lo r m)=r*mx 0 (lo+(m:Int) - mx lo L)
  | 0=>by
    have:mx 0 (lo+((0:Nat):Int) - mx lo L)=0:=by unfold mx;split<;>split<;>lia
    rw[this,Int.mul_zero];rfl
  | m+1=>by
    rw[q9,pD,xH L n lo r m,fh,u6];by_cases z:L<=lo+(m:Int)
    · have : mx 0 (lo + ((m + 1 : Nat):Int) - mx lo L) = mx 0 (lo + (m : Int) - mx lo L) + 1 := by unfold mx;split <;> split <;> split <;> lia
      rw[this,Int.mul_add,Int.mul_one,if_pos (by unfold cL;exact decide_eq_true ⟨Int.natCast_nonneg n,z⟩)];dsimp only;lia
    · have : mx 0 (lo + ((m + 1 : Nat):Int) - mx lo L) = mx 0 (lo + (m : Int) - mx lo L) := by unfold mx;split <;> split <;> split <;> lia
      rw[this,if_neg (by unfold cL;rw[decide_eq_true_eq];exact λy=>z y.2)];lia
theorem pE (L:Int)(f:P5->K2)(row:Nat->S3->List P5)(Ok:S3->Prop)(b:S3->S3)(hrow:∀n s,Ok s->(row n s).map (λp=>(f p,ht p))=mT n (hE s) s.2.2 (kJ s - hE s).toNat)(hb:∀s,Ok s->hE s<=kJ s/\b s=(hE s,kJ s,s.2.2)) :
  ∀(ss:List S3) (n:Nat),(∀s∈ss,Ok s)->jm (cL L) ((jK row n ss).map λp=>(f p,ht p))=above (ss.map b) L
 | [],_,_=>rfl
 | s::ss,n,h=>by
  have ih:=pE L f row Ok b hrow hb ss (n+1) λs hs=>h s (.tail _ hs);have os:=h s (.head _);obtain ⟨h1,h2⟩:=hb s os;unfold jK;rw[map_append,pD,ih,hrow n s os,xH];unfold above;rw[map_cons,map_cons,sum_cons,h2];unfold jr;dsimp only;rw[show hE s+((kJ s - hE s).toNat:Int)=kJ s by lia]
theorem x6 (g L:Int)(cs:List S3):above (gj g cs) L=above (cs.map λx=>(x.1,x.2.1,x.2.2)) (L - g):=by
 unfold above gj;rw[map_map,map_map];congr 1;refine map_congr_left λx _=>?_;show x.2.2*mx 0 (x.2.1+g - mx (x.1+g) L)=x.2.2*mx 0 (x.2.1 - mx x.1 (L - g));congr 1;unfold mx;split<;>split<;>split<;>split<;>lia
theorem Looks.Ib {g:Int}{hs cs:List S3}{ps:List P5}(Z:Looks g hs cs ps){k:K2}(hk:0<=k.1):aE k (gq ps)=(ar hs k).getD 0:=by
 rw[<-iC,Z.ud k (λz=>by rw[z] at hk;exact absurd hk (by decide))]
theorem Looks.Ic {g:Int}{hs cs:List S3}{ps:List P5}(Z:Looks g hs cs ps){k:K2}(hk:0<=k.1):aE k (tq ps)=(ar cs k).getD 0:=by
 rw[<-iC,Z.sW k (λz=>by rw[z] at hk;exact absurd hk (by decide))]
theorem Looks.HI {g:Int}{hs cs:List S3}{ps:List P5}(Z:Looks g hs cs ps)(hh:∀s∈hs,eZ s)(L:Int):jm (cL L) (gq ps)=above (dO hs) L:=by
 rw[mX (cL L) _ (gq ps) ((jK vF 0 hs).map λp=>(gk p,ht p)) (Nat.le_refl _) λk hk=>?_]
 .exact pE L gk vF eZ (λx=>(x.2.1,x.1,x.2.2)) wV (λs h=>by
   have:=h.lt;unfold hE kJ;rw[show min s.1 s.2.1=s.2.1 by lia,show max s.1 s.2.1=s.1 by lia];exact ⟨by lia,rfl⟩) hs 0 hh
 .unfold cL at hk;rw[decide_eq_true_eq] at hk;rw[Z.Ib hk.1,<-iC,rb gk vF eZ wV (λs h=>by
   have:=h.lt;have:=h.r0;unfold hE kJ;lia) hs hh]
theorem Looks.HJ {g:Int}{hs cs:List S3}{ps:List P5}(Z:Looks g hs cs ps)(hc:∀s∈cs,cH s)(L:Int):jm (cL (L - g)) (tq ps)=above (gj g cs) L:=by
 rw[x6,mX (cL (L - g)) _ (tq ps) ((jK oo 0 cs).map λp=>(eC p,ht p)) (Nat.le_refl _) λk hk=>?_]
 .exact pE (L - g) eC oo cH (λx=>(x.1,x.2.1,x.2.2)) tH (λs h=>by
   have:=h.lt;unfold hE kJ;rw[show min s.1 s.2.1=s.1 by lia,show max s.1 s.2.1=s.2.1 by lia];exact ⟨by lia,rfl⟩) cs 0 hc
 .unfold cL at hk;rw[decide_eq_true_eq] at hk;rw[Z.Ic hk.1,<-iC,rb eC oo cH tH (λs h=>by
   have:=h.lt;have:=h.r0;unfold hE kJ;lia) cs hc]
noncomputable def bH (g L:Int)(p:P5):Bool:=decide (p.1 ≠ -1/\L<=p.2.1/\(p.2.2.1 = -1\/p.2.2.2.1+g<L)\/p.1 = -1/\p.2.2.2.1+g<L)
noncomputable def zx (g:Int)(p:P5):Prop:=(gk p=Bt/\0<=p.2.2.1)\/(0<=p.1/\eC p=Bt)\/(0<=p.1/\0<=p.2.2.1/\p.2.2.2.1+g<=p.2.1)
theorem Looks.ends {g:Int}{hs cs:List S3}{ps:List P5}(Z:Looks g hs cs ps):∀p∈ps,zx g p:=λp hp=>by
 have m:=Z.may p hp;unfold AM at m;rw[Bool.and_eq_true] at m;have hg:gk p≠Bt->0<=p.1:=λz=>by
  have:=Z.ud _ z;unfold gI gq at this;rw[if_pos (oM hp)] at this;exact d6 (ss:=hs) (k:=gk p) (by rw[<-this];rfl)
 have ht':eC p≠Bt->0<=p.2.2.1:=λz=>by
  have:=Z.sW _ z;unfold gI tq at this;rw[if_pos (oM hp)] at this;exact d6 (ss:=cs) (k:=eC p) (by rw[<-this];rfl)
 by_cases c:gk p=Bt
 .have m2:=m.2;rw[if_pos (.inl c),decide_eq_true_eq] at m2;exact .inl ⟨c,ht' λz=>m2 (c.trans z.symm)⟩
 .by_cases c2:eC p=Bt
  .exact .inr (.inl ⟨hg c,c2⟩)
  .have m2:=m.2;rw[if_neg (λz=>z.elim c c2),decide_eq_true_eq] at m2;exact .inr (.inr ⟨hg c,ht' c2,m2⟩)
theorem oq {g L:Int}:∀{ps:List P5},(∀p∈ps,zx g p)->aE Bt (gq ps) - jm (cL (L - g)) (tq ps)+jm (cL L) (gq ps)=((ps.filter (bH g L)).map ht).sum
  | [],_=>rfl
  | p::ps,h=>by
    have ih:=oq (g:=g) (L:=L) (ps:=ps) λp hp=>h p (.tail _ hp);have hp:=h p (.head _);have e1:gq (p::ps)=(gk p,ht p)::gq ps:=rfl;have e2:tq (p::ps)=(eC p,ht p)::tq ps:=rfl;rw[e1,e2,bG,fh,fh,filter_cons];have f1:(gk p=Bt)↔(p.1 = -1/\p.2.1 = -1):=by unfold gk Bt;rw[Prod.mk.injEq]
    have f2:(eC p=Bt)↔(p.2.2.1 = -1/\p.2.2.2.1 = -1):=by unfold eC Bt;rw[Prod.mk.injEq]
    have g1:(cL (L - g) (eC p)=true)↔(0<=p.2.2.1/\L - g<=p.2.2.2.1):=by unfold cL eC;rw[decide_eq_true_eq]
    have g2:(cL L (gk p)=true)↔(0<=p.1/\L<=p.2.1):=by unfold cL gk;rw[decide_eq_true_eq]
    have g3:(bH g L p=true)↔(p.1 ≠ -1/\L<=p.2.1/\(p.2.2.1 = -1\/p.2.2.2.1+g<L)\/p.1 = -1/\p.2.2.2.1+g<L):=by unfold bH;rw[decide_eq_true_eq]
    have ec:((if bH g L p=true then p::ps.filter (bH g L) else ps.filter (bH g L)).map ht).sum=(if bH g L p=true then ht p else 0)+((ps.filter (bH g L)).map ht).sum:=by
      split
      · rw[map_cons,sum_cons]
      · lia
    rw[ec,<-ih];have id1:(if gk p=Bt then ht p else 0) - (if cL (L - g) (eC p)=true then ht p else 0)+(if cL L (gk p)=true then ht p else 0)=(if bH g L p=true then ht p else 0):=by
      rcases hp with ⟨h1,h2⟩ | ⟨h1,h2⟩ | ⟨h1,h2,h3⟩
      · have y1:=f1.mp h1;rw[if_pos h1,if_neg (c:=cL L (gk p)=true) (by rw[g2];lia)];by_cases z:L - g<=p.2.2.2.1
        · rw[if_pos (g1.mpr ⟨h2,z⟩),if_neg (by rw[g3];lia)];lia
        · rw[if_neg (by rw[g1];lia),if_pos (by rw[g3];lia)];lia
      · have y2:=f2.mp h2;rw[if_neg (by rw[f1];lia),if_neg (c:=cL (L - g) (eC p)=true) (by rw[g1];lia)];by_cases z:L<=p.2.1
        · rw[if_pos (g2.mpr ⟨h1,z⟩),if_pos (by rw[g3];lia)];lia
        · rw[if_neg (by rw[g2];lia),if_neg (by rw[g3];lia)];lia
      · rw [if_neg (by rw [f1];lia)];by_cases z:L - g<=p.2.2.2.1
        · rw[if_pos (g1.mpr ⟨h2,z⟩),if_pos (g2.mpr ⟨h1,by lia⟩),if_neg (by rw[g3];lia)];lia
        · rw [if_neg (by rw [g1];lia)];by_cases y:L<=p.2.1
          · rw[if_pos (g2.mpr ⟨h1,y⟩),if_pos (by rw[g3];lia)];lia
          · rw[if_neg (by rw[g2];lia),if_neg (by rw[g3];lia)];lia
    dsimp only;rw[<-id1];lia
theorem Looks.zJ {g:Int}{hs cs:List S3}{ps:List P5}(Z:Looks g hs cs ps)(hh:∀s∈hs,eZ s)(hc:∀s∈cs,cH s)(L:Int):aE Bt (gq ps) - aQ g hs cs L=((ps.filter (bH g L)).map ht).sum:=by
 rw[<-oq Z.ends,Z.HI hh,Z.HJ hc];unfold aQ;lia
theorem Looks.pos {g:Int}{hs cs:List S3}{ps:List P5}(Z:Looks g hs cs ps):∀p∈ps,1<=ht p:=λp hp=>by
 have m:=Z.may p hp;unfold AM at m;rw[Bool.and_eq_true,decide_eq_true_eq] at m;exact m.1
theorem pJ {c:P5->Bool}:∀{ps:List P5},(∀p∈ps,1<=ht p)->0<=((ps.filter c).map ht).sum/\(((ps.filter c).map ht).sum=0↔∀p∈ps,c p=false)
 | [],_=>⟨Int.le_refl _,⟨λ_ p hp=>(nomatch hp),λ_=>rfl⟩⟩
 | p::ps,h=>by
  have ih:=pJ (c:=c) (ps:=ps) λp hp=>h p (.tail _ hp);have hp:=h p (.head _);rw[filter_cons];by_cases e:c p=true
  .rw[if_pos e,map_cons,sum_cons];refine ⟨by lia,λz=>by lia,λz=>?_⟩;rw[z p (.head _)] at e;cases e
  .rw[if_neg e];refine ⟨ih.1,λz q hq=>?_,λz=>ih.2.mpr λq hq=>z q (.tail _ hq)⟩;rcases List.mem_cons.mp hq with rfl | hq
   .exact Bool.eq_false_iff.mpr e
   .exact ih.2.mp z q hq
theorem Looks.Cy {g:Int}{hs cs:List S3}{ps:List P5}(Z:Looks g hs cs ps)(hh:∀s∈hs,eZ s)(hc:∀s∈cs,cH s)(L:Int):aQ g hs cs L<=aE Bt (gq ps):=by
 have:=Z.zJ hh hc L;have:=(pJ (c:=bH g L) Z.pos).1;lia
theorem Looks.Cw {g:Int}{hs cs:List S3}{ps:List P5}(Z:Looks g hs cs ps)(hh:∀s∈hs,eZ s)(hc:∀s∈cs,cH s)(L:Int):aE Bt (gq ps)=aQ g hs cs L↔∀p∈ps,bH g L p=false:=by
 have h1:=Z.zJ hh hc L;rw[<-(pJ (c:=bH g L) Z.pos).2];lia
theorem lY {f:P5->K2}{k:K2}:∀{ps:List P5},(∀p∈ps,1<=ht p)->0<=aE k (ps.map λp=>(f p,ht p))/\(aE k (ps.map λp=>(f p,ht p))=0↔∀p∈ps,f p≠k)
 | [],_=>⟨Int.le_refl _,⟨λ_ p hp=>(nomatch hp),λ_=>rfl⟩⟩
 | p::ps,h=>by
  have ih:=lY (f:=f) (k:=k) (ps:=ps) λp hp=>h p (.tail _ hp);have hp:=h p (.head _);rw[map_cons,bG];dsimp only;by_cases e:f p=k
  .rw[if_pos e];exact ⟨by lia,λz=>by lia,λz=>absurd e (z p (.head _))⟩
  .rw[if_neg e];refine ⟨by lia,λz q hq=>?_,λz=>by rw[ih.2.mpr λq hq=>z q (.tail _ hq)];rfl⟩;rcases List.mem_cons.mp hq with rfl | hq
   .exact e
   .exact ih.2.mp (by lia) q hq
theorem Looks.GV {g:Int}{hs cs:List S3}{ps:List P5}(Z:Looks g hs cs ps):0<=aE Bt (gq ps):=(lY (f:=gk) Z.pos).1
theorem Looks.diff {g:Int}{hs cs:List S3}{ps:List P5}(Z:Looks g hs cs ps)(hh:∀s∈hs,eZ s)(hc:∀s∈cs,cH s)(hg:0<=g):aE Bt (tq ps)=aE Bt (gq ps) - aQ g hs cs 0:=by
 rw[Z.zJ hh hc 0];have key:∀p∈ps,(bH g 0 p=true↔eC p=Bt):=λp hp=>by
  have e:=Z.ends p hp;have f1:(gk p=Bt)↔(p.1 = -1/\p.2.1 = -1):=by unfold gk Bt;rw[Prod.mk.injEq]
  have f2:(eC p=Bt)↔(p.2.2.1 = -1/\p.2.2.2.1 = -1):=by unfold eC Bt;rw[Prod.mk.injEq]
  have a1:0<=p.1->0<=p.2.1:=λz=>by
   have:=Z.ud (gk p) (λy=>by rw[f1] at y;lia);unfold gI gq at this;rw[if_pos (oM hp)] at this;obtain ⟨s,h1,h2,h3,h4,_⟩:=iY this.symm;have o:=hh s (jb h1).2.2;have:=o.lo;have:=o.lt;unfold hE at h3;have:(gk p).2=p.2.1:=rfl;lia
  have a2:0<=p.2.2.1->0<=p.2.2.2.1:=λz=>by
   have:=Z.sW (eC p) (λy=>by rw[f2] at y;lia);unfold gI tq at this;rw[if_pos (oM hp)] at this;obtain ⟨s,h1,h2,h3,h4,_⟩:=iY this.symm;have o:=hc s (jb h1).2.2;have:=o.lo;have:=o.lt;unfold hE at h3;have:(eC p).2=p.2.2.2.1:=rfl;lia
  unfold zx at e;unfold bH;rw[decide_eq_true_eq,f2];rw[f1,f2] at e;constructor
  .intro y;rcases e with e | e | e
   .lia
   .exact e.2
   .lia
  .intro y;lia
 have lem:∀qs:List P5,(∀p∈qs,(bH g 0 p=true↔eC p=Bt))->aE Bt (tq qs)=((qs.filter (bH g 0)).map ht).sum:=λqs=>by
  induction qs with
  | nil=>intro _;rfl
  | cons p qs ih =>
   intro h;have ih:=ih λp hp=>h p (.tail _ hp);have e2:tq (p::qs)=(eC p,ht p)::tq qs:=rfl;rw[e2,bG,filter_cons];by_cases c:eC p=Bt
   .rw[if_pos c,if_pos ((h p (.head _)).mpr c),map_cons,sum_cons,ih]
   .rw[if_neg c,if_neg (λz=>c ((h p (.head _)).mp z)),ih];lia
 exact lem ps key
end WS
namespace WS
open DL
open L2 (xT)
theorem nv {kvs:dE}{k:K2}{v w:Int}(h:bh kvs k=some v):(putD kvs k w).length=kvs.length:=by
 have hk:k∈kvs.map (·.1):=Classical.byContradiction λz=>by rw[iD.mpr z] at h;cases h
 unfold putD;rw[if_pos (nN.mpr hk),length_map]
theorem ir {α:Type}{l:List α}(h:l.Nodup){i j:Nat}{x:α}(hi:l[i]?=some x)(hj:l[j]?=some x):i=j:=by
 obtain ⟨a,ea⟩:=List.getElem?_eq_some_iff.mp hi;obtain ⟨b,eb⟩:=List.getElem?_eq_some_iff.mp hj;rcases Nat.lt_trichotomy i j with c | c | c
 .exact absurd (ea.trans eb.symm) (pairwise_iff_getElem.mp h i j a b c)
 .exact c
 .exact absurd (eb.trans ea.symm) (pairwise_iff_getElem.mp h j i b a c)
structure zy (ss:List S3)(ks:List K2):Prop where
 qT:ks.Nodup
 dn:∀(i j:Nat) (a b:K2),i<=j->ks[i]?=some a->ks[j]?=some b->b.2<=a.2
 is:∀k,k∈ks↔(ar ss k).isSome=true
 len:ks.length<=2400
structure Gr (g:Int)(hs cs:List S3)(gs ts:List K2)(t:Nat)(lk:dE)(ps:List P5):Prop where
 tl:t<=gs.length
 ln:lk.length<=2400
 may:∀p∈ps,1<=ht p/\(gk p=Bt\/(gk p∈gs/\p.2.2.2.1+g<=p.2.1))
 qT:(ps.map k4).Nodup
 ud:∀(j:Nat) (k:K2),gs[j]?=some k->∃v,bh lk k=some v/\some (aE k (gq ps)+v)=ar hs k/\(j<t->v=0)/\(t<=j->0<v)
 JU:(∀p∈ps,gk p≠Bt)\/∃L:Nat,L<251/\(∀p∈ps,bH g L p=false)/\∀(j:Nat) (k:K2),t<=j->gs[j]?=some k->k.2<L
structure Gi (g:Int)(hs cs:List S3)(gs ts:List K2)(i t:Nat)(lk:dE)(ps:List P5):Prop where
 gr:Gr g hs cs gs ts t lk ps
 tk:∀p∈ps,∃j,j<i/\ts[j]?=some (eC p)
 sW:∀(j:Nat) (k:K2),j<i->ts[j]?=some k->some (aE k (tq ps))=ar cs k
 n:ps.length<=t+i
structure Gw (g:Int)(hs cs:List S3)(gs ts:List K2)(i:Nat)(k:K2)(t:Nat)(n:Int)(lk:dE)(ps:List P5):Prop where
 gr:Gr g hs cs gs ts t lk ps
 tk:∀p∈ps,∃j,j<=i/\ts[j]?=some (eC p)
 sW:∀(j:Nat) (k:K2),j<i->ts[j]?=some k->some (aE k (tq ps))=ar cs k
 n0:0<=n
 nd:some (aE k (tq ps)+n)=ar cs k
 new:n=0\/(ps.length<=t+i/\∀p∈ps,eC p=k->∃j,j<t/\gs[j]?=some (gk p))
 n1:ps.length<=t+i+1
section
variable {g:Int} {hs cs:List S3} {gs ts:List K2}
theorem Gi.start (sg:zy hs gs){kvs:dE}(hl:kvs.length<=2400)(hv:∀k,bh kvs k=ar hs k):Gi g hs cs gs ts 0 0 kvs [] where
 gr:=⟨Nat.zero_le _,hl,λp h=>(nomatch h),.nil,λj k hk=>by
  obtain ⟨r,hr⟩:=Option.isSome_iff_exists.mp ((sg.is k).mp (mem_of_getElem? hk));refine ⟨r,by rw[hv,hr],by rw[hr];show some (0+r)=some r;rw[Int.zero_add],λz=>absurd z (Nat.not_lt_zero _),λ_=>?_⟩;obtain ⟨s,_,h0,_,_,e⟩:=iY hr;lia,.inl λp h=>(nomatch h)⟩
 tk:=λp h=>(nomatch h)
 sW:=λj k h=>absurd h (Nat.not_lt_zero _)
 n:=Nat.zero_le _
theorem Gi.take {i t:Nat}{lk:dE}{ps:List P5}(h:Gi g hs cs gs ts i t lk ps)(st:zy cs ts){k:K2}(hk:ts[i]?=some k){r:Int}(hr:ar cs k=some r):Gw g hs cs gs ts i k t r lk ps where
 gr:=h.gr
 tk:=λp hp=>by
  obtain ⟨j,hj,e⟩:=h.tk p hp;exact ⟨j,by lia,e⟩
 sW:=h.sW
 n0:=by obtain ⟨s,_,h0,_,_,e⟩:=iY hr;lia
 nd:=by
  have no:∀p∈ps,eC p≠k:=λp hp z=>by
   obtain ⟨j,hj,e⟩:=h.tk p hp;rw[z] at e;have:=ir st.qT e hk;lia
  have e:aE k (tq ps)=0:=jO λhm=>by
   obtain ⟨q,hq,e⟩:=mem_map.mp hm;obtain ⟨p,hp,rfl⟩:=mem_map.mp hq;exact no p hp e
  rw[e,Int.zero_add,hr]
 new:=.inr ⟨h.n,λp hp z=>by
  obtain ⟨j,hj,e⟩:=h.tk p hp;rw[z] at e;have:=ir st.qT e hk;lia⟩
 n1:=by have:=h.n;lia
theorem qy {L:Int}{p:P5}(h1:p.1 ≠ -1)(h2:p.2.1<L):bH g L p=false:=by
 unfold bH;rw[decide_eq_false_iff_not];lia
theorem fy {α:Type}{P:α->Prop}{l:List α}{x:α}(h:∀y∈l,P y)(hx:P x):∀y∈l++[x],P y:=λy hy=>by
 rcases mem_append.mp hy with z | z
 .exact h y z
 .rw[mem_singleton.mp z];exact hx
theorem xb {ps:List P5}{p:P5}(h:(ps.map k4).Nodup)(new:∀q∈ps,¬(gk q=gk p/\eC q=eC p)):((ps++[p]).map k4).Nodup:=by
 rw[map_append,nodup_append];refine ⟨h,by simp,λu hu w hw=>?_⟩;obtain ⟨q,hq,rfl⟩:=mem_map.mp hu;rw[map_cons,List.map_nil,mem_singleton] at hw;rw[hw];intro e;exact new q hq ⟨D7 e,D8 e⟩
theorem dJ (f:P5->K2)(k:K2)(ps:List P5)(p:P5):aE k ((ps++[p]).map λp=>(f p,ht p))=aE k (ps.map λp=>(f p,ht p))+if f p=k then ht p else 0:=by
 rw[map_append,cW];show _+aE k [(f p,ht p)]=_;rw[pK]
theorem Gw.pass {i t:Nat}{k a:K2}{n v:Int}{lk:dE}{ps:List P5}(h:Gw g hs cs gs ts i k t n lk ps)(sg:zy hs gs)(st:zy cs ts)(hk:ts[i]?=some k)(n1:0<n)(ha:gs[t]?=some a)(hw:k.2+g<=a.2)(hv:bh lk a=some v){m:Int}(hm:m=if v<n then v else n){t':Nat}(ht':t'=if v - m=0 then t+1 else t) :
    Gw g hs cs gs ts i k t' (n - m) (putD lk a (v - m)) (ps++[(a.1,a.2,k.1,k.2,m)]):=by
  obtain ⟨v',e1,e2,_,e4⟩:=h.gr.ud t a ha;rw[hv] at e1;cases e1;have v0:=e4 (Nat.le_refl _);have hlt:t<gs.length:=(List.getElem?_eq_some_iff.mp ha).1;have m1:1<=m:=by rw[hm];split<;>lia
  have mv:m<=v:=by rw[hm];split<;>lia
  have mn:m<=n:=by rw[hm];split<;>lia
  have mor:m=v\/m=n:=by rw[hm];split<;>lia
  have ng:n≠0:=by lia
  obtain ⟨hl,hnew⟩:=h.new.resolve_left ng;have ra:(ar hs a).isSome=true:=(sg.is a).mp (mem_of_getElem? ha);have a0:0<=a.1:=d6 ra;have gka:gk (a.1,a.2,k.1,k.2,m)=a:=rfl;have tka:eC (a.1,a.2,k.1,k.2,m)=k:=rfl;have t2:t<=t'/\t'<=t+1:=by rw[ht'];split<;>lia
  refine ⟨⟨?_,?_,fy h.gr.may ⟨m1,.inr ⟨mem_of_getElem? ha,hw⟩⟩,xb h.gr.qT λq hq z=>?_,λj b hb=>?_,?_⟩,fy h.tk ⟨i,Nat.le_refl _,hk⟩,λj b hj hb=>?_,by lia,?_,?_,?_⟩
  · lia
  · rw[nv hv];exact h.gr.ln
  · obtain ⟨j,hj,e⟩:=hnew q hq z.2;rw[z.1] at e;have:=ir sg.qT e ha;lia
  · obtain ⟨w,w1,w2,w3,w4⟩:=h.gr.ud j b hb;have et:aE b (gq (ps++[(a.1,a.2,k.1,k.2,m)]))=aE b (gq ps)+if a=b then m else 0:=dJ gk b ps _
    rw[et,mf];by_cases c:a=b
    · subst c;have:=ir sg.qT hb ha;subst this;rw[hv] at w1;cases w1;refine ⟨v - m,by rw[if_pos rfl],by rw[if_pos rfl,<-w2];congr 1;lia,λz=>?_,λz=>?_⟩
      · rw[ht'] at z;split at z
        · assumption
        · lia
      · rw[ht'] at z;split at z
        · lia
        · lia
    · have hj : j ≠ t := λz => c (by rw [z, ha] at hb;exact Option.some.inj hb);rw[if_neg c,if_neg c];exact ⟨w,w1,by rw[Int.add_zero];exact w2,λz=>w3 (by lia),λz=>w4 (by lia)⟩
  · rcases h.gr.JU with z | ⟨L,z1,z2,z3⟩
    · exact .inl (fy z (gR ra))
    · refine .inr ⟨L,z1,fy z2 (qy (by show a.1 ≠ -1;lia) (z3 t a (Nat.le_refl _) ha)),λj b hj hb=>z3 j b (by lia) hb⟩
  · have et:aE b (tq (ps++[(a.1,a.2,k.1,k.2,m)]))=aE b (tq ps)+if k=b then m else 0:=dJ eC b ps _
    have:k≠b:=λz=>by
      rw[<-z] at hb;have:=ir st.qT hb hk;lia
    rw[et,if_neg this,Int.add_zero];exact h.sW j b hj hb
  · have et:aE k (tq (ps++[(a.1,a.2,k.1,k.2,m)]))=aE k (tq ps)+if k=k then m else 0:=dJ eC k ps _
    rw[et,if_pos rfl,<-h.nd];congr 1;lia
  · by_cases z:n - m=0
    · exact .inl z
    · have : v - m = 0 := by lia
      rw[if_pos this] at ht';refine .inr ⟨by rw[length_append];show ps.length+1<=_;lia,fy (λq hq e=>?_) λ_=>⟨t,by lia,ha⟩⟩;obtain ⟨j,hj,e⟩:=hnew q hq e;exact ⟨j,by lia,e⟩
  · rw[length_append];show ps.length+1<=_;lia
theorem Gw.done {i t:Nat}{k:K2}{lk:dE}{ps:List P5}(h:Gw g hs cs gs ts i k t 0 lk ps)(hk:ts[i]?=some k):Gi g hs cs gs ts (i+1) t lk ps where
 gr:=h.gr
 tk:=λp hp=>by
  obtain ⟨j,hj,e⟩:=h.tk p hp;exact ⟨j,by lia,e⟩
 sW:=λj b hj hb=>by
  rcases Nat.lt_or_eq_of_le (Nat.le_of_lt_succ hj) with z | z
  .exact h.sW j b z hb
  .subst z;rw[hk] at hb;cases hb;rw[<-h.nd,Int.add_zero]
 n:=by have:=h.n1;lia
theorem Gw.J1 {i t:Nat}{k:K2}{n:Int}{lk:dE}{ps:List P5}(h:Gw g hs cs gs ts i k t n lk ps)(sg:zy hs gs)(st:zy cs ts)(hk:ts[i]?=some k)(n1:0<n)(kl:0<=k.2+g)(kh:k.2+g<=250)(hw:∀a,gs[t]?=some a->a.2<k.2+g) :
  Gi g hs cs gs ts (i+1) t lk (ps++[(-1,-1,k.1,k.2,n)]):=by
 have ng:n≠0:=by lia
 obtain ⟨hl,hnew⟩:=h.new.resolve_left ng;have Ip:∀q∈gs,q≠Bt:=λq hq=>gR ((sg.is q).mp hq);have rk:(ar cs k).isSome=true:=(st.is k).mp (mem_of_getElem? hk);have k0:0<=k.1:=d6 rk;refine ⟨⟨h.gr.tl,h.gr.ln,fy h.gr.may ⟨by show 1<=n;lia,.inl rfl⟩,xb h.gr.qT λq hq z=>?_,λj b hb=>?_,.inr ⟨(k.2+g).toNat,by lia,fy (λp hp=>?_) ?_,λj b hj hb=>?_⟩⟩,fy (λp hp=>?_) ⟨i,by lia,hk⟩,λj b hj hb=>?_,?_⟩
 .obtain ⟨j,hj,e⟩:=hnew q hq z.2;rw[z.1] at e;exact Ip _ (mem_of_getElem? e) rfl
 .obtain ⟨w,w1,w2,w3⟩:=h.gr.ud j b hb;have et:aE b (gq (ps++[(-1,-1,k.1,k.2,n)]))=aE b (gq ps)+if Bt=b then n else 0:=dJ gk b ps _
  rw[et,if_neg (λz=>Ip b (mem_of_getElem? hb) z.symm),Int.add_zero];exact ⟨w,w1,w2,w3⟩
 .obtain ⟨j,hj,e⟩:=h.tk p hp;have:=st.dn j i _ _ hj e hk;have e2:(eC p).2=p.2.2.2.1:=rfl;have e3:(eC p).1=p.2.2.1:=rfl;have:=d6 ((st.is _).mp (mem_of_getElem? e));unfold bH;rw[decide_eq_false_iff_not,Int.toNat_of_nonneg kl];lia
 .unfold bH;rw[decide_eq_false_iff_not,Int.toNat_of_nonneg kl];dsimp only;lia
 .rw[Int.toNat_of_nonneg kl];obtain ⟨hlt,_⟩:=List.getElem?_eq_some_iff.mp hb;have ht:gs[t]?=some gs[t]:=getElem?_eq_getElem (by lia);have a1:=hw _ ht;have a2:=sg.dn t j _ _ hj ht hb;lia
 .obtain ⟨j,hj,e⟩:=h.tk p hp;exact ⟨j,by lia,e⟩
 .have et:aE b (tq (ps++[(-1,-1,k.1,k.2,n)]))=aE b (tq ps)+if k=b then n else 0:=dJ eC b ps _
  rw[et];rcases Nat.lt_or_eq_of_le (Nat.le_of_lt_succ hj) with z | z
  .have:k≠b:=λy=>by
    rw[<-y] at hb;have:=ir st.qT hb hk;lia
   rw[if_neg this,Int.add_zero];exact h.sW j b z hb
  .subst z;rw[hk] at hb;cases hb;rw[if_pos rfl];exact h.nd
 .rw[length_append];show ps.length+1<=_;lia
noncomputable def gS (gs:List K2)(t:Nat)(lk:dE):List P5:=(gs.drop t).map λk=>(k.1,k.2,-1,-1,(bh lk k).getD 0)
noncomputable def Tight (g:Int)(ps:List P5):Prop:=(∀p∈ps,gk p≠Bt)\/∃L:Nat,L<251/\∀p∈ps,bH g L p=false
theorem uW {t:Nat}{lk:dE}{p:P5}(h:p∈gS gs t lk):∃j k,t<=j/\gs[j]?=some k/\p=(k.1,k.2,-1,-1,(bh lk k).getD 0):=by
 obtain ⟨k,hk,rfl⟩:=mem_map.mp h;obtain ⟨j,hj⟩:=mem_iff_getElem?.mp hk;rw[List.getElem?_drop] at hj;exact ⟨t+j,k,by lia,hj,rfl⟩
theorem Bo {t:Nat}{lk:dE}(nd:gs.Nodup){k:K2}:aE k (gq (gS gs t lk))=if k∈gs.drop t then (bh lk k).getD 0 else 0:=by
 have lem:∀l:List K2,l.Nodup->aE k (gq (l.map λk=>(k.1,k.2,-1,-1,(bh lk k).getD 0)))=if k∈l then (bh lk k).getD 0 else 0:=λl=>by
  induction l with
  | nil=>intro _;rfl
  | cons a l ih =>
   intro hn;rw[nodup_cons] at hn;have e:gq ((a::l).map λk=>(k.1,k.2,-1,-1,(bh lk k).getD 0))=(a,(bh lk a).getD 0)::gq (l.map λk=>(k.1,k.2,-1,-1,(bh lk k).getD 0)):=rfl;rw[e,bG,ih hn.2];dsimp only;by_cases c:a=k
   .subst c;rw[if_pos rfl,if_neg hn.1,if_pos (.head _)];lia
   .rw[if_neg c];by_cases c2:k∈l
    .rw[if_pos c2,if_pos (.tail _ c2)];lia
    .rw[if_neg c2,if_neg (λz=>(List.mem_cons.mp z).elim (λy=>c y.symm) c2)];rfl
 exact lem _ (nd.sublist (List.drop_sublist _ _))
theorem Gi.finish {t:Nat}{lk:dE}{ps:List P5}(h:Gi g hs cs gs ts ts.length t lk ps)(sg:zy hs gs)(st:zy cs ts):Looks g hs cs (ps++gS gs t lk)/\Tight g (ps++gS gs t lk)/\(ps++gS gs t lk).length<=gs.length+ts.length:=by
  have rv:∀p∈gS gs t lk,∃k,k∈gs.drop t/\gk p=k/\eC p=Bt/\1<=ht p/\(ar hs k).isSome=true:=λp hp=>by
    obtain ⟨j,k,hj,hk,rfl⟩:=uW hp;obtain ⟨v,e1,_,_,e4⟩:=h.gr.ud j k hk;refine ⟨k,?_,rfl,rfl,?_,(sg.is k).mp (mem_of_getElem? hk)⟩
    · refine mem_iff_getElem?.mpr ⟨j - t,?_⟩;rw[List.getElem?_drop,show t+(j - t)=j by lia];exact hk
    · have:=e4 hj;show 1<=(bh lk k).getD 0;rw[e1];show 1<=v;lia
  have gB:∀p∈ps++gS gs t lk,gk p=Bt\/(ar hs (gk p)).isSome=true:=λp hp=>by
    rcases mem_append.mp hp with z | z
    · exact (h.gr.may p z).2.imp id λy=>(sg.is _).mp y.1
    · obtain ⟨k,_,e,_,_,r⟩:=rv p z;rw[e];exact .inr r
  have tB:∀p∈ps,(ar cs (eC p)).isSome=true:=λp hp=>by
    obtain ⟨j,_,e⟩:=h.tk p hp;exact (st.is _).mp (mem_of_getElem? e)
  refine ⟨AI (λp hp=>?_) ?_ gB (λk r hr=>?_) (λp hp=>?_) λk r hr=>?_,?_,?_⟩
  · unfold AM;rcases mem_append.mp hp with z | z
    · obtain ⟨m1,m2⟩:=h.gr.may p z;have nb:=gR (tB p z);rw[decide_eq_true m1,Bool.true_and];rcases m2 with y | y
      · rw[if_pos (.inl y),decide_eq_true_eq,y];exact λx=>nb x.symm
      · rw[if_neg (λx=>x.elim (gR ((sg.is _).mp y.1)) nb),decide_eq_true_eq];exact y.2
    · obtain ⟨k,_,e,e2,m1,r⟩:=rv p z;rw[decide_eq_true m1,Bool.true_and,if_pos (.inr e2),decide_eq_true_eq,e,e2];exact gR r
  · rw[map_append,nodup_append];refine ⟨h.gr.qT,lM k4 gk (λ_ _=>D7) _ ?_,λu hu w hw e=>?_⟩
    · unfold gS;rw[map_map];refine (List.Nodup.sublist (List.drop_sublist t gs) sg.qT:(gs.drop t).Nodup) |> λz=>?_
      rw[show ((gk∘λk:K2=>(k.1,k.2,-1,-1,(bh lk k).getD 0)):K2->K2)=id from rfl,List.map_id];exact z
    · obtain ⟨p,hp,rfl⟩:=mem_map.mp hu;obtain ⟨q,hq,rfl⟩:=mem_map.mp hw;have h1:=D8 e;obtain ⟨k,_,_,e2,_⟩:=rv q hq;rw[e2] at h1;exact gR (tB p hp) h1
  · have hk : k ∈ gs := (sg.is k).mpr (by rw [hr];rfl);obtain ⟨j,hj⟩:=mem_iff_getElem?.mp hk;obtain ⟨v,e1,e2,e3,_⟩:=h.gr.ud j k hj;rw[ET,cW,Bo sg.qT];rw[hr] at e2;have e2:=Option.some.inj e2;rw[e1];show aE k (gq ps)+(if k∈gs.drop t then v else 0)=r;by_cases c:k∈gs.drop t
    · rw[if_pos c];exact e2
    · rw[if_neg c];have:j<t:=Classical.byContradiction λz=>c (mem_iff_getElem?.mpr ⟨j - t,by rw[List.getElem?_drop,show t+(j - t)=j by lia];exact hj⟩);have:=e3 this;lia
  · rcases mem_append.mp hp with z | z
    · exact .inr (tB p z)
    · obtain ⟨k,_,_,e2,_⟩:=rv p z;exact .inl e2
  · have hk : k ∈ ts := (st.is k).mpr (by rw [hr];rfl);obtain ⟨j,hj⟩:=mem_iff_getElem?.mp hk;have e:=h.sW j k (List.getElem?_eq_some_iff.mp hj).1 hj;rw[hr] at e;rw[Gb,cW,jO (qs:=tq (gS gs t lk))]
    · have:=Option.some.inj e;lia
    · intro hm;obtain ⟨q,hq,e⟩:=mem_map.mp hm;obtain ⟨p,hp,rfl⟩:=mem_map.mp hq;obtain ⟨k',_,_,e2,_⟩:=rv p hp;have hb:k=Bt:=e.symm.trans e2;rw[hb,mQ] at hr;cases hr
  · rcases h.gr.JU with z | ⟨L,z1,z2,z3⟩
    · refine .inl λp hp=>?_;rcases mem_append.mp hp with y | y
      · exact z p y
      · obtain ⟨k,_,e,_,_,r⟩:=rv p y;rw[e];exact gR r
    · refine .inr ⟨L,z1,λp hp=>?_⟩;rcases mem_append.mp hp with y | y
      · exact z2 p y
      · obtain ⟨j,k,hj,hk,rfl⟩:=uW y;have:=d6 ((sg.is k).mp (mem_of_getElem? hk));exact qy (by show k.1 ≠ -1;lia) (z3 j k hj hk)
  · have:=h.n;have:=h.gr.tl;unfold gS;rw[length_append,length_map,length_drop];lia
end
theorem Bu {ss:List S3}{kvs ps:dE}(hk:Keyed kvs)(hl:kvs.length<=2400)(hv:∀k,bh kvs k=ar ss k)(hp:ps.Perm kvs)(hf:xT ps):zy ss (ps.map (·.1)) where
 qT:=(hp.map _).nodup_iff.mpr hk
 dn:=λi j a b hij ha hb=>by
  rw[getElem?_map] at ha hb;obtain ⟨p,hp1,rfl⟩:=Option.map_eq_some_iff.mp ha;obtain ⟨q,hq1,rfl⟩:=Option.map_eq_some_iff.mp hb;obtain ⟨l1,e1⟩:=List.getElem?_eq_some_iff.mp hp1;obtain ⟨l2,e2⟩:=List.getElem?_eq_some_iff.mp hq1;rcases Nat.lt_or_eq_of_le hij with z | z
  .have:=pairwise_iff_getElem.mp hf i j l1 l2 z;rw[e1,e2] at this;exact this
  .subst z;rw[<-e1,<-e2];exact Int.le_refl _
 is:=λk=>by
  rw[(hp.map _).mem_iff,<-hv];constructor
  .intro h;cases e:bh kvs k with
   | none=>exact absurd h (iD.mp e)
   | some v=>rfl
  .intro h;refine Classical.byContradiction λz=>?_;rw[iD.mpr z] at h;cases h
 len:=by rw[length_map,hp.length_eq];exact hl
end WS
namespace WS
open DL
structure Lst (g:Int)(hs cs:List S3)(m:Int):Prop where
 z:0<=m
 ub:∀L:Int,aQ g hs cs L<=m
 at':m=0\/∃L:Nat,L<251/\m=aQ g hs cs (L:Nat)
theorem Looks.lst {g:Int}{hs cs:List S3}{ps:List P5}(Z:Looks g hs cs ps)(hh:∀s∈hs,eZ s)(hc:∀s∈cs,cH s)(ti:Tight g ps):Lst g hs cs (aE Bt (gq ps)):=by
 refine ⟨Z.GV,λL=>Z.Cy hh hc L,?_⟩;rcases ti with z | ⟨L,hL,z⟩
 .exact .inl ((lY (f:=gk) Z.pos).2.mpr z)
 .exact .inr ⟨L,hL,(Z.Cw hh hc L).mpr z⟩
theorem oa (bs:List S3)(b:S3)(L:Int):above (bs++[b]) L=above bs L+jr b L:=by
 unfold above;rw[map_append,sum_append];simp
end WS
namespace WS
open PySem L2
noncomputable abbrev codes (x:Str):List Nat:=x.cps.toList
theorem qw (x y:Str):codes (x++y)=codes x++codes y:=by
 show (x.cps++y.cps).toList=_;rw[Array.toList_append]
theorem qK {x y:Str}(h:codes x=codes y):x=y:=Str.ext' (Array.toList_inj.mp h)
theorem qR (x:Str):x.length=(codes x).length:=by
 show x.cps.size=x.cps.toList.length;rw[length_toList]
theorem wg {c:Nat}:∀{x y A B:List Nat},c∉x->c∉y->x++c::A=y++c::B->x=y/\A=B
 | [],[],_,_,_,_,h=>⟨rfl,by simpa using h⟩
 | [],b::y,_,_,_,hy,h=>by
  have e:c=b:=by
   have:=congrArg List.head? h;simpa using this
  exact absurd (by rw[e];exact mem_cons_self) hy
 | a::x,[],_,_,hx,_,h=>by
  have e:a=c:=by
   have:=congrArg List.head? h;simpa using this
  exact absurd (by rw[<-e];exact mem_cons_self) hx
 | a::x,b::y,A,B,hx,hy,h=>by
  have h':a=b/\x++c::A=y++c::B:=by simpa using h
  obtain ⟨e1,e2⟩:=wg (λm=>hx (mem_cons_of_mem _ m)) (λm=>hy (mem_cons_of_mem _ m)) h'.2;exact ⟨by rw[h'.1,e1],e2⟩
theorem join_cons (sep x y:Str)(r:List Str):Str.join sep (x::y::r)=x++sep++Str.join sep (y::r):=rfl
theorem gi (c:Nat)(x y:Str)(r:List Str):codes (Str.join ⟨#[c]⟩ (x::y::r))=codes x++c::codes (Str.join ⟨#[c]⟩ (y::r)):=by
 rw[join_cons,qw,qw,append_assoc];rfl
theorem ui {c:Nat}:∀{ps qs:List Str},ps≠[]->qs≠[]->(∀p∈ps,c∉codes p)->(∀p∈qs,c∉codes p)->codes (Str.join ⟨#[c]⟩ ps)=codes (Str.join ⟨#[c]⟩ qs)->ps=qs
 | [],_,h,_,_,_,_=>absurd rfl h
 | _,[],_,h,_,_,_=>absurd rfl h
 | [x],[y],_,_,_,_,h=>by rw[qK (show codes x=codes y from h)]
 | [x],y::z::r,_,_,hx,_,h=>by
  rw[gi] at h;have h':codes x=codes y++c::_:=h;exact absurd (by rw[h'];simp) (hx x mem_cons_self)
 | x::w::r,[y],_,_,_,hy,h=>by
  rw[gi] at h;have h':codes x++c::_=codes y:=h;exact absurd (by rw[<-h'];simp) (hy y mem_cons_self)
 | x::w::r,y::z::r',_,_,hx,hy,h=>by
  rw[gi,gi] at h;obtain ⟨e1,e2⟩:=wg (hx x mem_cons_self) (hy y mem_cons_self) h;have ih:=ui (ps:=w::r) (qs:=z::r') (by simp) (by simp) (λp m=>hx p (mem_cons_of_mem _ m)) (λp m=>hy p (mem_cons_of_mem _ m)) e2;rw[qK e1,ih]
theorem Br (x y:Str):Txt.split x y≠[]:=by
 unfold Txt.split;split
 .simp
 .split
  .simp
  .rw[StrLaws.partsBetween_eq];obtain ⟨p,r,e⟩:=StrLaws.partsFrom_ne x y.length 0 (Builtin.Str.occurrences x y 0 x.length (x.length+1));rw[e];simp
theorem kU {c:Nat}{ps:List Str}(hne:ps≠[])(hf:∀p∈ps,c∉codes p):Txt.split (Str.join ⟨#[c]⟩ ps) ⟨#[c]⟩=ps:=
 ui (Br _ _) hne (StrLaws.split_free _ c) hf (by rw[StrLaws.join_split])
theorem mem_join {c d:Nat}:∀{ps:List Str},d∈codes (Str.join ⟨#[c]⟩ ps)->d=c\/∃p∈ps,d∈codes p
 | [],h=>by
  have h':d∈([]:List Nat):=h;exact nomatch h'
 | [x],h=>.inr ⟨x,mem_cons_self,h⟩
 | x::y::r,h=>by
  rw[gi] at h;rcases mem_append.mp h with q | q
  .exact .inr ⟨x,mem_cons_self,q⟩
  .rcases List.mem_cons.mp q with q | q
   .exact .inl q
   .rcases mem_join q with z | ⟨p,hp,z⟩
    .exact .inl z
    .exact .inr ⟨p,mem_cons_of_mem _ hp,z⟩
noncomputable def num (i:Int):Str:=Str.ofString (toString i)
theorem fz {k:Nat}(hk:k≠45/\(k<48\/57<k))(n:Int):k∉codes (num n):=PyProof.Rows.int_text_free' k hk n
theorem eS {n:Int}(h0:0<=n)(h1:n<10 ^ 10):(num n).length<=10:=PySem.W.KT.len_num h0 h1
theorem nU {n:Int}(h0:0<=n)(h1:n<10 ^ 10):n.natAbs.log2<1920:=by
 have h2:n.natAbs<2 ^ 40:=by lia
 by_cases hz:n.natAbs=0
 .rw[hz];decide
 .exact Nat.lt_trans ((Nat.log2_lt hz).mpr h2) (by decide)
theorem mI (m:Nat):codes (num (m:Int))=(Nat.toDigits 10 m).map Char.toNat:=PySem.W.KIN.signs_num m
theorem vM {n:Int}(h0:0<=n):∀c∈codes (num n),48<=c/\c<=57:=by
 obtain ⟨m,rfl⟩:=Int.eq_ofNat_of_zero_le h0;intro c hc;rw[mI m] at hc;obtain ⟨ch,hch,e⟩:=mem_map.mp hc;have r:=PyProof.Rows.digit_range (Nat.isDigit_of_mem_toDigits (by decide) (by decide) hch);rw[<-e];exact r
theorem E9 {n:Int}(h0:0<=n):codes (num n)≠[]:=by
 obtain ⟨m,rfl⟩:=Int.eq_ofNat_of_zero_le h0;rw[mI m];intro e;have h:=List.map_eq_nil_iff.mp e;have h2:0<(Nat.toDigits 10 m).length:=Nat.length_toDigits_pos;rw[h] at h2;exact absurd h2 (by decide)
theorem t7:∀m:Nat,0<m->(Nat.toDigits 10 m).head?≠some '0':=by
  intro m;induction m using Nat.strongRecOn with
  | _ m ih =>
    intro hm;by_cases h:m<10
    · rw[Nat.toDigits_of_lt_base h];have:m=1\/m=2\/m=3\/m=4\/m=5\/m=6\/m=7\/m=8\/m=9:=by lia
      rcases this with e | e | e | e | e | e | e | e | e<;>subst e<;>decide
    · have hm' : m % 10 < 10 := Nat.mod_lt m (by decide);have t:Nat.toDigits 10 (m / 10)++Nat.toDigits 10 (m % 10)=Nat.toDigits 10 (10*(m / 10)+m % 10):=Nat.toDigits_append_toDigits (by decide) (by lia) hm';rw[Nat.div_add_mod] at t;rw[<-t,List.head?_append];have ih':=ih (m / 10) (by lia) (by lia);have h2:0<(Nat.toDigits 10 (m / 10)).length:=Nat.length_toDigits_pos;cases e:Nat.toDigits 10 (m / 10) with
      | nil=>rw[e] at h2;exact absurd h2 (by decide)
      | cons a r =>
        rw[e] at ih';simpa using ih'
noncomputable def lF:Str:=Str.ofString "0123456789"
theorem Af {c:Nat}:(c∈codes lF)↔(48<=c/\c<=57):=by
  have e:codes lF = [48,49,50,51,52,53,54,55,56,57]:=by decide +kernel
  rw[e];refine ⟨λh=>?_,λh=>?_⟩
  · have k : ∀ x ∈ [48, 49, 50, 51, 52, 53, 54, 55, 56, 57], 48 <= x /\ x <= 57 := by decide
    exact k c h
  · have k : ∀ n : Nat, n < 10 -> 48 + n ∈ [48, 49, 50, 51, 52, 53, 54, 55, 56, 57] := by decide
    have:=k (c - 48) (by lia)
    rwa [show 48+(c - 48)=c by lia] at this
noncomputable def isNum (w:Str):Bool:=decide (1<=w.length) && decide (w.length<=10) && !(decide ((codes w).head?=some 48) && !decide (w=num 0)) && (codes w).all (λc=>decide (c∈codes lF))
theorem qN {n:Int}(h0:0<=n)(h1:n<10 ^ 10):isNum (num n)=true:=by
 have hl:=eS h0 h1;have hne:=E9 h0;have hd:=vM h0;have h2:1<=(num n).length:=by
  rw[qR];cases e:codes (num n) with
  | nil=>exact absurd e hne
  | cons a r=>simp
 have h3:(!(decide ((codes (num n)).head?=some 48) && !decide (num n=num 0)))=true:=by
  by_cases hz:n=0
  .subst hz;simp
  .have:(codes (num n)).head?≠some 48:=by
    obtain ⟨m,rfl⟩:=Int.eq_ofNat_of_zero_le h0;rw[mI m,List.head?_map];have hh:=t7 m (by lia);cases e:(Nat.toDigits 10 m).head? with
    | none=>simp
    | some ch =>
     rw[e] at hh;intro z;have z':ch.toNat=48:=by simpa using z
     apply hh;have:ch = '0':=by
      apply Char.ext;apply UInt32.toNat_inj.mp;exact z'
     rw[this]
   simp[this]
 unfold isNum;rw[decide_eq_true h2,decide_eq_true hl,h3];simp only[Bool.true_and,Bool.and_true];rw[List.all_eq_true];intro c hc;exact decide_eq_true (Af.mpr (hd c hc))
theorem xx {n:Int}(h0:0<=n)(h1:n<10 ^ 10):PySem.intText? (num n)=some n:=PySem.W.KIN.num_reads h0 h1
noncomputable def sp:Str:=⟨#[32]⟩
noncomputable def lf:Str:=⟨#[10]⟩
noncomputable def jj:Str:=Str.ofString "hot"
noncomputable def e8:Str:=Str.ofString "cold"
noncomputable def kI:Str:=Str.ofString "gap"
noncomputable def jJ (k:Str)(x:S3):List Str:=[k,num x.1,num x.2.1,num x.2.2]
noncomputable def row (k:Str)(x:S3):Str:=Str.join sp (jJ k x)
noncomputable def gw (g:Int):Str:=Str.join sp [kI,num g]
noncomputable def rowsOf (g:Int)(hs cs:List S3):List Str:=gw g::(hs.map (row jj)++cs.map (row e8))
noncomputable def textOf (g:Int)(hs cs:List S3):Str:=Str.join lf (rowsOf g hs cs)
theorem lH {k:Str}(h:k=jj\/k=e8\/k=kI):32∉codes k/\10∉codes k:=by
 rcases h with e | e | e<;>subst e<;>decide +kernel
theorem y9 {k:Str}(h:k=jj\/k=e8\/k=kI)(x:S3):Txt.split (row k x) sp=jJ k x:=by
 refine kU (by simp[jJ]) λp hp=>?_;simp only[jJ,List.mem_cons,List.not_mem_nil,or_false] at hp;rcases hp with e | e | e | e<;>subst e
 .exact (lH h).1
 .exact fz ⟨by decide,.inl (by decide)⟩ _
 .exact fz ⟨by decide,.inl (by decide)⟩ _
 .exact fz ⟨by decide,.inl (by decide)⟩ _
theorem yw (g:Int):Txt.split (gw g) sp = [kI,num g]:=by
 refine kU (by simp) λp hp=>?_;simp only[List.mem_cons,List.not_mem_nil,or_false] at hp;rcases hp with e | e<;>subst e
 .exact (lH (.inr (.inr rfl))).1
 .exact fz ⟨by decide,.inl (by decide)⟩ _
theorem uZ {k:Str}(h:k=jj\/k=e8\/k=kI)(x:S3):10∉codes (row k x):=λm=>by
 rcases mem_join m with e | ⟨p,hp,e⟩
 .exact absurd e (by decide)
 .simp only[jJ,List.mem_cons,List.not_mem_nil,or_false] at hp;rcases hp with z | z | z | z<;>subst z
  .exact (lH h).2 e
  .exact fz ⟨by decide,.inl (by decide)⟩ _ e
  .exact fz ⟨by decide,.inl (by decide)⟩ _ e
  .exact fz ⟨by decide,.inl (by decide)⟩ _ e
theorem Aj (g:Int):10∉codes (gw g):=λm=>by
 rcases mem_join m with e | ⟨p,hp,e⟩
 .exact absurd e (by decide)
 .simp only[List.mem_cons,List.not_mem_nil,or_false] at hp;rcases hp with z | z<;>subst z
  .exact (lH (.inr (.inr rfl))).2 e
  .exact fz ⟨by decide,.inl (by decide)⟩ _ e
theorem vY (g:Int)(hs cs:List S3):Txt.split (textOf g hs cs) lf=rowsOf g hs cs:=by
 refine kU (by simp[rowsOf]) λp hp=>?_;unfold rowsOf at hp;rcases List.mem_cons.mp hp with e | e
 .subst e;exact Aj g
 .rcases mem_append.mp e with e | e
  .obtain ⟨x,_,rfl⟩:=mem_map.mp e;exact uZ (.inl rfl) x
  .obtain ⟨x,_,rfl⟩:=mem_map.mp e;exact uZ (.inr (.inl rfl)) x
structure e6 (x:S3):Prop where
 a0:0<=x.1
 a1:x.1<10 ^ 10
 b0:0<=x.2.1
 b1:x.2.1<10 ^ 10
 c0:0<=x.2.2
 c1:x.2.2<10 ^ 10
theorem len_app (x y:Str):(x++y).length=x.length+y.length:=Str.length_append x y
theorem kind_len {k:Str}(h:k=jj\/k=e8\/k=kI):k.length<=4:=by
 rcases h with e | e | e<;>subst e<;>decide +kernel
theorem sN {k:Str}(h:k=jj\/k=e8\/k=kI){x:S3}(o:e6 x):(row k x).length<=40:=by
 have e:(row k x).length=k.length+1+((num x.1).length+1+((num x.2.1).length+1+(num x.2.2).length)):=by
  show (k++sp++(num x.1++sp++(num x.2.1++sp++num x.2.2))).length=_;simp only[len_app];rfl
 have:=kind_len h;have:=eS o.a0 o.a1;have:=eS o.b0 o.b1;have:=eS o.c0 o.c1;lia
theorem wU {g:Int}(h0:0<=g)(h1:g<10 ^ 10):(gw g).length<=40:=by
 have e:(gw g).length=kI.length+1+(num g).length:=by
  show (kI++sp++num g).length=_;simp only[len_app];rfl
 have:=kind_len (k:=kI) (.inr (.inr rfl));have:=eS h0 h1;lia
theorem pq {g:Int}{hs cs:List S3}(g0:0<=g)(g1:g<10 ^ 10)(hh:∀x∈hs,e6 x)(hc:∀x∈cs,e6 x):∀y∈rowsOf g hs cs,y.length<=40:=by
 intro y hy;unfold rowsOf at hy;rcases List.mem_cons.mp hy with e | e
 .subst e;exact wU g0 g1
 .rcases mem_append.mp e with e | e
  .obtain ⟨x,hx,rfl⟩:=mem_map.mp e;exact sN (.inl rfl) (hh x hx)
  .obtain ⟨x,hx,rfl⟩:=mem_map.mp e;exact sN (.inr (.inl rfl)) (hc x hx)
theorem pk (g:Int)(hs cs:List S3):(rowsOf g hs cs).length=hs.length+cs.length+1:=by
 unfold rowsOf;rw[length_cons,length_append,length_map,length_map]
theorem Dt {g:Int}{hs cs:List S3}(g0:0<=g)(g1:g<10 ^ 10)(hh:∀x∈hs,e6 x)(hc:∀x∈cs,e6 x)(n1:hs.length<=100)(n2:cs.length<=100):JoinOk lf (rowsOf g hs cs)=true:=by
 unfold JoinOk;rw[Bool.not_eq_true'];refine StrLaws.joinFits (B:=40) (pq g0 g1 hh hc) ?_;rw[pk];show _+_*1<=_;lia
theorem pI {B:Nat}:∀(texts:List Str),(∀y∈texts,y.length<=B)->(Str.join lf texts).length<=texts.length*(B+1)
 | [],_=>Nat.zero_le _
 | [x],h=>by
  have:=h x mem_cons_self;show x.length<=1*(B+1);lia
 | x::y::r,h=>by
  have ih:=pI (y::r) λz hz=>h z (mem_cons_of_mem _ hz);have h1:=h x mem_cons_self;have e:(Str.join lf (x::y::r)).length=x.length+1+(Str.join lf (y::r)).length:=by
   rw[join_cons,len_app,len_app];rfl
  rw[e,length_cons,Nat.succ_mul];lia
theorem text_len {g:Int}{hs cs:List S3}(g0:0<=g)(g1:g<10 ^ 10)(hh:∀x∈hs,e6 x)(hc:∀x∈cs,e6 x)(n1:hs.length<=100)(n2:cs.length<=100):(textOf g hs cs).length+2<=sizeLine:=by
 have h:=pI (B:=40) (rowsOf g hs cs) (pq g0 g1 hh hc);rw[pk] at h;have:sizeLine=16777216:=sizeLine_eq;unfold textOf;lia
theorem Dl (w:Str):(decide (0+(Str.ofString "0").length<=w.length) && Builtin.Str.subAt w (Str.ofString "0") 0)=decide ((codes w).head?=some 48):=by
 have e:Str.ofString "0" = ⟨#[48]⟩:=by decide +kernel
 rw[e,List.head?_eq_getElem?];have h:=StrLaws.subAt_one w 48 0;rw[Bool.eq_iff_iff,Bool.and_eq_true,decide_eq_true_iff,decide_eq_true_iff];exact h
theorem Co (c:Nat):(!(Builtin.Str.occurrences lF ⟨#[c]⟩ 0 lF.length 1).isEmpty)=decide (c∈codes lF):=StrLaws.found_one lF c
theorem Ak (g:Int):(Str.empty++("gap " : Str))++num g=gw g:=by
 have e:(Str.ofString "gap ")=kI++sp:=by decide +kernel
 show (Str.empty++Str.ofString "gap ")++num g=kI++sp++num g;rw[e,Str.empty_append]
end WS
set_option maxHeartbeats 4000000
namespace DL
open PySem L2
section
variable {X:Cx} {o e:Expr} {es:List Expr} {te:DT} {tA:eB} {pos:Pos}
noncomputable def wa (X:Cx)(id:String)(r:Str->List D->(B->Prop)->Prop):Prop:=∃rv,Gy X id rv/\∀(H G:Hp) (y:Str) (vs:List V) (ds:List D) (P:B->Prop) (Q:VK),aq G H->aR X.K G vs ds->r y ds P->(∀b v H' G',P b->Wd H G H' G'->gc X.K H G' H' v b->Q v H')->rv (.str y) vs H Q
noncomputable def tY (r:Str->List D->(B->Prop)->Prop)(te:DT)(t:eB):DT:=λρ Q=>te ρ λb=>match b.val with
 | .str y=>t ρ λds=>r y ds Q
 | _=>False
set_option tactic.hygienic true in
theorem jV {r:Str->List D->(B->Prop)->Prop}{name:Str}{apos cpos:Pos}{id:String}(pa:PlainAttrs "str")(slot:Slot "str" name id)(hty:typeOf (.builtin id)=pure (.type "method_descriptor"))(hm:wa X id r)(ho:DE X o te)(ha:DA X (e::es) tA)
  (hbase:autoParam (attributeBase o name X.env (eval o X.env)=eval o X.env) aZa._auto_1)
  (hfew:autoParam (((backTo cpos (starEach (e::es) X.env)).all (λx=>!x.1) && (backToKw cpos (keywordEach [] X.env)).all (λx=>x.1.isSome)
   && decide ((e::es).length+([]:List Keyword).length+(if ([]:List Keyword).isEmpty then 0 else 1)<30))=true) aZa._auto_1)
  (hline:autoParam ((apos.endLine == cpos.line)=true) aZa._auto_1) (hs:autoParam (starEach (e::es) X.env=(false,eval e X.env)::starEach es X.env) aZa._auto_1) (hplain:autoParam ((backTo cpos (starEach es X.env)).any (·.1)=false) aZa._auto_1) :
  DE X (.Call (.Attribute o name apos) (e::es) [] cpos) (tY r te tA):=by
 obtain ⟨rv,h1,h2⟩:=hm;refine DE.of (AY pa slot hty h1 ho.pe ha.pa hbase hfew hline hs hplain) ?_;rintro σ H Q ⟨G,ρ,P,s,re,h,k⟩;refine ⟨G,ρ,_,s,re,h,λb v H1 G1 p1 w1 r1=>?_⟩;obtain ⟨G1',w1',r1'⟩:=r1.give w1;split at p1
 .rename_i y ey;rw[ey] at r1';cases r1';refine ⟨rfl,G1',ρ,_,w1'.gh,re.mono w1'.gg,p1,λds vs H2 G2 p2 l2 w2 r2=>?_⟩;exact h2 H2 G2 y vs ds P Q w2.gh r2 p2 (qM k (w1'.trans w2))
 .exact p1.elim
noncomputable def vw (a:Str)(ds:List D)(P:B->Prop):Prop:=match ds with
 | [.str y]=>(y.length == 0)=false/\a.length+2<=sizeLine/\P (.o (.lst ((Txt.split a y).map D.str)))
 | _=>False
theorem oP:wa X "str.split" vw:=by
 refine ⟨_,AN,λH G a vs ds P Q s r h k=>?_⟩;unfold vw at h;split at h
 .obtain ⟨v,rfl,rv⟩:=gC r;cases rv;refine ⟨a,_,rfl,rfl,h.1,h.2.1,λp hp=>?_⟩;obtain ⟨w2,r2⟩:=fO (Wd.refl s) hp (rg (K:=X.K) (Txt.split a _));exact k _ _ _ _ h.2.2 w2 r2
 .exact h.elim
noncomputable def rJ (sep:Str)(ds:List D)(P:B->Prop):Prop:=match ds with
 | [.lst xs]=>∃ts:List Str,xs=ts.map D.str/\JoinOk sep ts=true/\P (.p (.str (Str.join sep ts)))
 | _=>False
theorem xm:wa X "str.join" rJ:=by
 refine ⟨_,CM,λH G a vs ds P Q s r h k=>?_⟩;unfold rJ at h;split at h
 .obtain ⟨ts,rfl,hj,h⟩:=h;obtain ⟨v,rfl,rv⟩:=gC r;obtain ⟨p,us,rfl,e,rr⟩:=rv.lst_inv;rw[q0 rr] at e;exact ⟨a,p,ts,rfl,rfl,fV.of (s _ _ e),hj,k _ _ H G h (Wd.refl s) (.str _)⟩
 .exact h.elim
noncomputable def nQ (a:Str)(ds:List D)(P:B->Prop):Prop:=match ds with
 | [.str y]=>P (.p (.bl (decide (0+y.length<=a.length) && Builtin.Str.subAt a y 0)))
 | _=>False
theorem yJ:wa X "str.startswith" nQ:=by
 refine ⟨_,yL,λH G a vs ds P Q s r h k=>?_⟩;unfold nQ at h;split at h
 .obtain ⟨v,rfl,rv⟩:=gC r;cases rv;exact ⟨a,_,rfl,rfl,k _ _ H G h (Wd.refl s) (.bl _)⟩
 .exact h.elim
noncomputable def zM:D2:=λx y Q=>match x,y with
 | .str i,.str j=>Q (.p (.bl (!(Builtin.Str.occurrences j i 0 j.length 1).isEmpty)))
 | _,_=>False
theorem Fc:pO X (compareOp .In) zM:=by
 refine ⟨_,yO,λH G x y dx dy P Q s rx ry h k=>?_⟩;unfold zM at h;split at h
 .cases rx;cases ry;exact ⟨_,_,rfl,rfl,k _ _ H G h (Wd.refl s) (.bl _)⟩
 .exact h.elim
noncomputable def zN:DR:=λds P=>match ds with
 | [.str x]=>∃n,PySem.intText? x=some n/\x.length<=640/\P (.p (.int n))
 | _=>False
theorem BQ:CallD X (.type "int") zN:=by
 refine ⟨_,yb,λH G vs ds P Q s r h k=>?_⟩;unfold zN at h;split at h
 .obtain ⟨n,h1,h2,h3⟩:=h;obtain ⟨v,rfl,rv⟩:=gC r;cases rv;exact ⟨_,n,rfl,h1,h2,k _ _ H G h3 (Wd.refl s) (.int _)⟩
 .exact h.elim
noncomputable abbrev JI:=aB->Str->(Str->Prop)->Prop
noncomputable def cJ (K:Frag)(t:JI):TJ:=λσ H acc R=>∃(G:Hp) (ρ:aB) (P:Str->Prop),aq G H/\eF K G σ ρ/\t ρ acc P/\∀out H' G',P out->Wd H G H' G'->R out H'
structure DJ (X:Cx)(es:List Expr)(t:JI):Prop where
 pj:PJ X es (cJ X.K t)
end
theorem tW (x:Str)(P:B->Prop):gY [.str x] P=(x.length<=sizeLine/\P (.p (.int x.length))):=rfl
theorem qE (a y:Str)(P:B->Prop):vw a [.str y] P=((y.length == 0)=false/\a.length+2<=sizeLine/\P (.o (.lst ((Txt.split a y).map D.str)))):=rfl
theorem qC (sep:Str)(xs:List D)(P:B->Prop):rJ sep [.lst xs] P = ∃ts:List Str,xs=ts.map D.str/\JoinOk sep ts=true/\P (.p (.str (Str.join sep ts))):=rfl
theorem tS (x:Str)(P:B->Prop):zN [.str x] P = ∃n,PySem.intText? x=some n/\x.length<=640/\P (.p (.int n)):=rfl
end DL
set_option maxHeartbeats 4000000
namespace L2
open PySem PySem.Spec PyProof.Rows
section
variable {X:Cx}
noncomputable def D1 (x y:Str):Int:=match Builtin.Str.occurrences x y 0 x.length 1 with
 | i::_=>(i:Int)
 | []=>-1
end
end L2
namespace DL
open PySem L2
section
variable {X:Cx} {o e:Expr} {es:List Expr} {te:DT} {tA:eB} {pos:Pos}
noncomputable def GJ (a:Str)(ds:List D)(P:B->Prop):Prop:=match ds with
 | [.str y]=>P (.p (.int (D1 a y)))
 | _=>False
theorem wz (z:Str)(i:Int)(Q:B->Prop):ow (.str z) (.int i) Q = ∃c,z.length<=sizeLine/\gF z.cps.toList i=some c/\Q (.p (.str ⟨#[c]⟩)):=rfl
theorem t6 (i:Int)(P:B->Prop):wF [.int i] P=(i.natAbs.log2<1920/\P (.p (.str (toString i)))):=rfl
theorem tR (a y:Str)(P:B->Prop):GJ a [.str y] P=P (.p (.int (D1 a y))):=rfl
end
end DL
namespace WS
open PySem L2
end WS
namespace WS
end WS
namespace L2
open PySem PySem.Spec PyProof.Rows
section
variable {X:Cx} {pins:List (Addr×Obj)} {σ:St} {H:Hp} {s:Shared} {a:Addr}
theorem Inv.hold {kvs:List (List Key×V)}{o:Obj}(I:Inv X pins σ H s)(e:H a=some (.dT kvs))(ho:s.heap.get? a=some o):Inv X pins σ (upd H a (.bu o (.dT kvs))) s:=by
 obtain ⟨z,hd,xs,rel,o',es,ep,h1,h2,h3,h4,h5⟩:=I.bp a _ e;have:=wH (t':=s.toks) (ob:=.bu o (.dT kvs)) I (by rw[e];exact True.intro) (Heap.SameBut.refl a s.heap) ⟨o,ho⟩ ⟨ho,z,hd,xs,KT.keeps rel λc ys ec=>by rw[aj (xp ec e λz=>nomatch z)];exact ec,o',es,ep,h1,h2,h3,h4,h5⟩;exact this
noncomputable def Gs (a:Addr)(o:Obj)(kvs:List (List Key×V)):It:=
 ⟨λi H=>H a=some (.bu o (.dT kvs))/\i<kvs.length,λi H x H'=>H'=H/\∃k v b,kvs[i]?=some (k,v)/\x=.ref b/\H b=some (.tup (k.map kV)),λi H=>H a=some (.bu o (.dT kvs))/\i=kvs.length⟩
theorem held {o:Obj}{kvs:List (List Key×V)}{es:Array DictEntry}{ep:Nat}(I:Inv X pins σ H s)(e:H a=some (.bu o (.dT kvs)))(hd:o.data=.dict es ep) :
  DIt.At s.heap a es ep/\es.size=kvs.length/\∀(i:Nat) (hi:i<es.size) k v,kvs[i]?=some (k,v)->∃b,es[i].key=.ref b/\H b=some (.tup (k.map kV)):=by
 obtain ⟨ho,z,_,xs,rel,o',es',ep',h1,h2,h3,h4,h5⟩:=I.bp a _ e;rw[ho] at h1;cases h1;rw[hd] at h3;cases h3;have l1:=Paired.length rel;have l2:es.size=xs.length:=by rw[<-length_toList,h4,length_map]
 refine ⟨⟨o,ho,h2,hd⟩,by lia,λi hi k v hk=>?_⟩;have hx:=getElem?_eq_getElem (l:=xs) (i:=i) (by lia);obtain ⟨q1,q2,q3⟩:=DL.jY rel i _ _ hk hx;refine ⟨xs[i].2.1,?_,q2⟩;have:es.toList[i]?=some (entryOfKey (tupleKind (cq X.prog X.w)) xs[i]):=by rw[h4,getElem?_map,hx];rfl
 rw[Array.getElem?_toList,Array.getElem?_eq_getElem hi] at this;rw[Option.some.inj this];rfl
theorem zk {P:Program}{w:World}{K:Frag}{tg:Expr}(a it:Addr)(o:Obj)(kvs:List (List Key×V))(es:Array DictEntry)(ep:Nat)(hd:o.data=.dict es ep):Turn P w K tg (Gs a o kvs) [it] it (λi h=>h.IsKeyIter it a i es.size ep) where
 mem:=by simp
 obj:=λi h st b hb=>by
  have e:b=it:=by simpa using hb
  subst e;obtain ⟨o,e,c,d⟩:=st;exact ⟨o,e,λv z=>by rw[d] at z;cases z⟩
 keep:=λi h h' st k=>st.at λo e=>k it (by simp) o e
 item:=by
  intro X hP hw hK hc i pins s σ H E I hf st hg;subst hP hw hK;obtain ⟨e,hi⟩:=hg;obtain ⟨at',hs,hk⟩:=held I e hd;obtain ⟨f0,f1,f2,f3,f4,f5⟩:=hf it (by simp);have hi':i<es.size:=by lia
  have ek:=getElem?_eq_getElem hi;obtain ⟨b,eb,hb⟩:=hk i hi' kvs[i].1 kvs[i].2 ek;refine DIt.item st at' hi' λh' st' sb=>?_;have I1:Inv X pins σ H { s with heap:=h' }:=I.turned (t':=s.toks) (λb o hb e=>(sb.2 b hb).trans e) f0 f1 f3 f4 f5;obtain ⟨oi,e',c,d⟩:=id st';rw[eb];exact ⟨.ref b,rfl,qL (s:={ s with heap:=h' }) e' c d (by decide) ⟨.ref b,H,I1,rfl,⟨rfl,_,_,b,ek,rfl,hb⟩,st',λb hb=>(hf b hb).1⟩⟩
 done:=by
  intro X hP hw hK hc i pins s σ H E I hf st hg;subst hP hw hK;obtain ⟨e,hi⟩:=hg;obtain ⟨at',hs,hk⟩:=held I e hd;obtain ⟨f0,f1,f2,f3,f4,f5⟩:=hf it (by simp);rw[hi,<-hs] at st;exact DIt.done (I.ok.hd hc) st at' λh' eb=>⟨rfl,I.turned (t':=s.toks) (λb o hb e=>eb b o hb e) f0 f1 f3 f4 f5⟩
 self:=λ_ _ _ _ _ st h=>wpAny_pyIter_keyiter st h
end
end L2
namespace DL
open PySem L2
section
variable {X:Cx} {tg:Expr} {body:List Stmt} {g:Tg} {tb:fu} {pos px:Pos} {i:Nat} {x:Str}
theorem Ar {K:Frag}{G:Hp}{a:Addr}{o:Obj}{kvs:dE}(h:G a=some (.bu o (.dT (encD kvs)))):DB K G (Gs a o (encD kvs)) (iq kvs) where
 go:=λi d H G' e s1 s2=>⟨(s1.trans s2) _ _ h,by
  have:=(List.getElem?_eq_some_iff.mp e).1;unfold iq at this;rw[length_map] at this;rw[jx];exact this⟩
 zr:= by
  rintro i d H G' x H' e s1 s2 ⟨eH,k,v,b,hk,hx,hb⟩;subst eH;subst hx;unfold iq at e;rw[getElem?_map] at e;obtain ⟨p,hp,rfl⟩:=Option.map_eq_some_iff.mp e;unfold encD at hk;rw[getElem?_map,hp] at hk;have hkk:k2 p.1=k:=congrArg Prod.fst (Option.some.inj hk);rw[<-hkk] at hb;have hb:H' b=some (.tup [.int p.1.1,.int p.1.2]):=hb;cases gb:G' b with
  | some u =>
   have:=s2 _ _ gb;rw[hb] at this;cases this;exact ⟨G',Wd.refl s2,Rep.sS gb (.cons (.int _) (.cons (.int _) .nil))⟩
  | none =>
   exact ⟨upd G' b (.tup [.int p.1.1,.int p.1.2]),(Wd.refl s2).give (.inr ⟨_,rfl⟩) gb hb,Rep.sS ao (.cons (.int _) (.cons (.int _) .nil))⟩
 stop:=λi H G' hi s1 s2=>⟨(s1.trans s2) _ _ h,by rw[hi,jx];unfold iq;rw[length_map]⟩
end
end DL
namespace DL
open PySem L2
noncomputable def xM (K:Frag)(f:dE->Int×Int->Int->Bool×dE):Sp:=λvs H Q _=>∃(a c:Addr) (kvs:dE) (k:Int×Int) (n:Int),vs = [.ref a,.ref c,.int n]/\H a=some (.dT (encD kvs))/\H c=some (.tup ((k2 k).map kV))/\kvs.length<sizeLine/\Q (.bl (f kvs k n).1) (upd H a (.dT (encD (f kvs k n).2)))
noncomputable def BV (i:Nat)(f:dE->Int×Int->Int->Bool×dE)(ta:eB)(tr:fu):fu:=λE ρ=>match aT ρ i with
 | some (.o (.dct kvs))=>ta (bu ρ) λds=>match ds with
  | [.tup [.int x,.int y],.int n]=>kvs.length<sizeLine/\((f kvs (x,y) n).1=false->tr E (dput ρ i (.o (.dct (f kvs (x,y) n).2))))/\((f kvs (x,y) n).1=true->E.nx (dput ρ i (.o (.dct (f kvs (x,y) n).2))))
  | _=>False
 | _=>False
theorem E7 {ds:List D}{P:Int->Int->Int->Prop}(h:match ds with | [.tup [.int x,.int y],.int n]=>P x y n | _=>False):∃x y n,ds = [.tup [.int x,.int y],.int n]/\P x y n:=by
 cases ds with
 | nil=>exact (show False from h).elim
 | cons d ds =>
  cases d with
  | tup us =>
   cases us with
   | nil=>exact (show False from h).elim
   | cons a us =>
    cases a with
    | int z =>
     cases us with
     | nil=>exact (show False from h).elim
     | cons b us =>
      cases b with
      | int y =>
       cases us with
       | nil =>
        cases ds with
        | nil=>exact (show False from h).elim
        | cons e ds =>
         cases e with
         | int n =>
          cases ds with
          | nil=>exact ⟨z,y,n,rfl,h⟩
          | cons=>exact (show False from h).elim
         | _=>exact (show False from h).elim
       | cons=>exact (show False from h).elim
      | _=>exact (show False from h).elim
    | _=>exact (show False from h).elim
  | _=>exact (show False from h).elim
section
variable {X:Cx} {r:List Stmt} {pos npos cpos p px:Pos} {es:List Expr}
theorem z0 {i k:Nat}{x g:Str}{ps:List Str}{f:dE->Int×Int->Int->Bool×dE}{ta:eB}{tr:fu}(F:Fn X.prog X.w X.K X.mg X.base g k ps (xM X.K f))(room:cY k X.A)(hg:Gl X g)(hN:X.N[i]?=some x)(hv:vj X.env.scope x)(ha:DA X es ta)(hr:sT X r tr)
    (hdb:autoParam ((g == ("__debug__" : Str))=false) aZb._auto_1) (hd:autoParam ((x == ("__debug__" : Str))=false) aZb._auto_1) (hcd:autoParam ((x == ("__classdict__" : Str))=false) aZb._auto_1)
    (he:autoParam (starEach (.Name x px::es) X.env=(false,eval (.Name x px) X.env)::starEach es X.env) aZa._auto_1) (hpl:autoParam ((backTo cpos (starEach es X.env)).any (·.1)=false) aZa._auto_1)
    (ht:autoParam (∀whole,isTrue (.Call (.Name g p) (.Name x px::es) [] cpos) X.env whole=(do let v <-whole;standAt (Expr.Call (.Name g p) (.Name x px::es) [] cpos).pos;holding [v] (truthy v))) aZc._auto_1) :
    DS X (.If (.UnaryOp .Not (.Call (.Name g p) (.Name x px::es) [] cpos) npos) r [] pos) (BV i f ta tr):=DS.mk λH0 G0=>by
  refine PS.imp (Bb (Bf (Bg (AZ F room hg (eT (gz hN hv hd hcd) ha.pa he) hdb he hpl) ht)) (hr.C5 H0 G0) sE) ?_;rintro Dn σ H ⟨E,G,ρ,eo,w,en,h⟩;unfold BV at h;obtain ⟨kvs,q,h⟩:=vx h
  · skip
    obtain ⟨a,ha1,ha2,ha3,ha4⟩:=en.o i _ q;have ha4:H a=some (.dT (encD kvs)):=ha4;obtain ⟨G1,w1,sg,en1⟩:=en.freeze w;refine ⟨.ref a,ha1,G1,bu ρ,_,w1.gh,en1.p,h,λds vs H' G' p' l' w' r'=>?_⟩;obtain ⟨z,y,n,rfl,p'⟩:=E7 p'
    · skip
      cases r' with
      | cons r1 rr=>cases rr with
        | cons r2 rr=>cases rr with
          | nil =>
            obtain ⟨c,us,rfl,hc,ru⟩:=Rep.jd r1;obtain rfl:us = [.int z,.int y]:=by
              cases ru with
              | cons a1 ru=>cases a1;cases ru with
                | cons a2 ru=>cases a2;cases ru;rfl
            cases r2 with
            | int =>
              have s3:aq H H':=w'.hh;have wb:Wd H0 G0 H' G:=⟨w.hh.trans s3,w.gg,w.gh.trans s3,w.old⟩
              have en2:aX X.K H0 G (upd H' a (.dT (encD (f kvs (z,y) n).2))) σ (dput ρ i (.o (.dct (f kvs (z,y) n).2))):=(en.back s3).Di q ha1 ⟨ha3,ao⟩;refine ⟨a,c,kvs,(z,y),n,rfl,s3 _ _ ha4,w'.gh _ _ hc,p'.1,_,rfl,?_⟩;cases hb:(f kvs (z,y) n).1 with
              | true=>exact r6 (eo.nx σ _ G _ (wb.own ha2 ha3) en2 (p'.2.2 hb))
              | false=>exact pT ⟨E,G,_,eo,wb.own ha2 ha3,en2,p'.2.1 hb⟩
end
end DL
namespace DL
open PySem L2
section
variable {X:Cx} {e k:Expr} {te tk:DT} {i:Nat} {x:Str} {pos px tpos:Pos}
noncomputable def zP:DT:=λ_ Q=>Q (.o (.sen []))
theorem BZ:DE X (.Dict [] [] pos) zP:=
 DE.of uM (by rintro σ H Q ⟨G,ρ,P,s,_,h,k⟩ p hp;exact k _ _ _ G h ((Wd.refl s).own hp (s.free hp)) ⟨p,rfl,hp,s.free hp,ao⟩)
theorem wW {a b:List Int}(h:a.map (Sum.inl:Int->Key)=b.map Sum.inl):a=b:=(List.map_inj_right (λx y z=>by cases z;rfl)).mp h
theorem zp (ks:List (List Int))(ns:List Int):(fT (lB ks) (ns.map Sum.inl)).isSome=decide (ns∈ks):=by
 unfold fT lB;induction ks with
 | nil=>rfl
 | cons k ks ih =>
  rw[map_cons,List.find?_cons];by_cases c:k=ns
  .subst c;simp
  .rw[decide_eq_false (λz=>c (wW z))];dsimp only;rw[ih,decide_eq_decide];exact ⟨mem_cons_of_mem _,λz=>(List.mem_cons.mp z).resolve_left λy=>c y.symm⟩
theorem Fj (hu:X.A.units+1<cLine):j4 X (compareOp .In) (λx y H Q=>∃a b kvs k,x=V.ref b/\y=V.ref a/\Rd H a (.dT kvs)/\H b=some (.tup (k.map kV))/\Q (.bl (fT kvs k).isSome) H):=by
 intro pins s σ H x y v u Q I rx ry q;obtain ⟨a,b,kvs,k,rfl,rfl,ea,eb,q⟩:=q;obtain rfl:u=Value.ref a:=ry;exact IM hu I (.inr ⟨kvs,k,b,ea,rfl,eb,rfl⟩) rx λs' I'=>⟨.bl (fT kvs k).isSome,H,I',rfl,q⟩
noncomputable def rH:D2:=λx y Q=>match x,y with
 | .tup ds,.sen ks=>∃ns:List Int,ds=ns.map D.int/\Q (.p (.bl (decide (ns∈ks))))
 | _,_=>False
theorem xc (ns:List Int):(ns.map (Sum.inl:Int->Key)).map kV=ns.map V.int:=by rw[map_map];rfl
theorem AS {n:Nat}(hr:cY n X.A):pO X (compareOp .In) rH:=by
 refine ⟨_,Fj (ki hr),λH G x y dx dy P Q s rx ry h k=>?_⟩;unfold rH at h;split at h
 .obtain ⟨ns,rfl,h⟩:=h;obtain ⟨b,us,rfl,eb,rr⟩:=Rep.jd rx;rw[d7 rr] at eb;cases ry with
  | sen ea =>
   refine ⟨_,b,_,ns.map Sum.inl,rfl,rfl,iZ s ea,by rw[xc];exact s _ _ eb,?_⟩;rw[zp];exact k _ _ H G h (Wd.refl s) (.bl _)
 .exact h.elim
noncomputable def Bi (ks:List (List Int))(ns:List Int):List (List Int):=if ns∈ks then ks else ks++[ns]
theorem yV (ks:List (List Int))(ns:List Int):putK (lB ks) (ns.map Sum.inl) (.bl true)=lB (Bi ks ns):=by
 unfold putK Bi;by_cases c:ns∈ks
 .rw[if_pos c,if_pos (by
   unfold lB;rw[List.any_eq_true];exact ⟨_,mem_map.mpr ⟨ns,c,rfl⟩,by simp⟩)]
  unfold lB;rw[map_map];refine map_congr_left λy _=>?_;show (if y.map Sum.inl=ns.map Sum.inl then (y.map (Sum.inl:Int->Key),V.bl true) else (y.map Sum.inl,V.bl true))=_;split<;>rfl
 .rw[if_neg c,if_neg (λz=>by
   rw[List.any_eq_true] at z;obtain ⟨y,hy,e⟩:=z;unfold lB at hy;obtain ⟨m,hm,rfl⟩:=mem_map.mp hy;exact c (wW (of_decide_eq_true e) ▸ hm))]
  unfold lB;rw[map_append];rfl
noncomputable def wC (i:Nat)(tk te:DT):fu:=λE ρ=>match aT ρ i with
 | some (.o (.sen ks))=>te (bu ρ) λb=>match b.val with
  | .bl true=>tk (bu ρ) λb1=>match b1.val with
   | .tup ds=>∃ns:List Int,ds=ns.map D.int/\ks.length<sizeLine/\E.nx (dput ρ i (.o (.sen (Bi ks ns))))
   | _=>False
  | _=>False
 | _=>False
set_option tactic.hygienic true in
theorem Cb {n:Nat}(hr:cY n X.A)(hN:X.N[i]?=some x)(hv:vj X.env.scope x)(hk:DE X k tk)(he:DE X e te)(hd:autoParam ((x == ("__debug__" : Str))=false) aZb._auto_1)(hcd:autoParam ((x == ("__classdict__" : Str))=false) aZb._auto_1)
    (ha:autoParam (∀v,assign (.Subscript (.Name x px) k tpos) X.env v=(do
      let ov <-holding [v] (eval (.Name x px) X.env)
      let iv <-holding [v,ov] (eval k X.env)
      standAt tpos
      holding [v,ov,iv] (setItem ov iv v)
      release [v,ov,iv] [])) aZc._auto_1)
    (hs:autoParam (swapsWithSole [.Subscript (.Name x px) k tpos] e pos.line X.env=pure false) aZa._auto_1) (hw:autoParam (swappedStores [.Subscript (.Name x px) k tpos] e X.env=pure none) aZa._auto_1)
    (h0:autoParam ((assignEach [.Subscript (.Name x px) k tpos] X.env).map (·.2) = [assign (.Subscript (.Name x px) k tpos) X.env]) aZa._auto_1) :
    DS X (.Assign [.Subscript (.Name x px) k tpos] e pos) (wC i tk te):=DS.mk λH0 G0 =>
  PS.imp (sA he.pe (A5 (gz hN hv hd hcd) hk.pe (set_dict (ki hr)) ha) hs hw h0)<|by
    rintro Dn σ H ⟨E,G,ρ,eo,w,en,h⟩;unfold wC at h;split at h
    · rename_i ks q;obtain ⟨a,ha1,ha2,ha3,ha4⟩:=en.o i _ q;have ha4:H a=some (.dT (lB ks)):=ha4;obtain ⟨G1,w1,sg,en1⟩:=en.freeze w;refine ⟨G1,bu ρ,_,w1.gh,en1.p,h,λb v H' G' p' w' r'=>?_⟩;split at p'
      · rename_i ev;have hvv:=kZ w' r' ev;subst hvv;refine ⟨.ref a,ha1,G',bu ρ,_,w'.gh,eF.mono w'.gg en1.p,p',λb1 v1 H1 G1' p1 w1' r1=>?_⟩;obtain ⟨G2,w2,r2⟩:=r1.give w1';split at p1
        · rename_i ds ez;rw[ez] at r2;obtain ⟨ns,rfl,hl,p1⟩:=p1;obtain ⟨c,us,rfl,hc,ru⟩:=Rep.jd r2;rw[d7 ru] at hc;have s2:aq H H1:=w'.hh.trans w2.hh;have e2:H1 a=some (.dT (lB ks)):=s2 _ _ ha4;have hc1:H1 c=some (.tup ((ns.map Sum.inl).map kV)):=by rw[xc];exact w2.gh _ _ hc
          refine ⟨a,c,lB ks,ns.map Sum.inl,rfl,rfl,e2,.inl (.inl hc1),.inr hc1,by unfold lB;rw[length_map];exact hl,?_⟩;rw[yV];have wb:Wd H0 G0 H1 G:=⟨w.hh.trans s2,w.gg,w.gh.trans s2,w.old⟩
          exact eo.nx σ _ G _ (wb.own ha2 ha3) ((en.back s2).Di q ha1 ⟨ha3,ao⟩) p1
        · exact p1.elim
      · exact p'.elim
    · exact h.elim
end
end DL
namespace L2
open PySem PySem.Spec PyProof.Rows
section
variable {X:Cx} {pins:List (Addr×Obj)} {σ:St} {H:Hp} {s:Shared} {a:Addr}
theorem Inv.Hb {kvs:List (List Key×V)}{o:Obj}(I:Inv X pins σ H s)(n:∀o u,X.H₀ a≠some (.bu o u))(e:H a=some (.bu o (.dT kvs))):Inv X pins σ (upd H a (.dT kvs)) s:=by
  have ne:∀b,H b=none->b≠a:=λb z y=>by subst y;rw[e] at z;cases z
  have nt:∀b xs,H b=some (.tup xs)->b≠a:=λb xs z y=>by subst y;rw[e] at z;cases z
  have no:∀b y,H b=some (.own y)->b≠a:=λb y z q=>by subst q;rw[e] at z;cases z
  refine ⟨I.ok,I.os,I.bare,⟨I.base.keep,I.base.slot,λb o h1 h2 h3=>?_,I.base.there,λb xs h1=>?_,λb o u h1=>?_,λb ps h1=>?_⟩,I.loc,I.cell,?_,λx c h=>?_,λp hp=>?_,λb u q=>?_,I.len⟩
  · have:=I.base.free b o h1 h2 h3;rw[aj (ne _ this)];exact this
  · have:=I.base.qk b xs h1;rw[aj (nt _ _ this)];exact this
  · have:=I.base.nE b o u h1;have nb:b≠a:=λy=>by subst y;exact n o u h1
    rw[aj nb];exact this
  · obtain ⟨m,h2⟩:=I.base.nL b ps h1;have nb:b≠a:=λy=>by subst y;rw[e] at h2;cases h2
    exact ⟨m,by rw[aj nb];exact h2⟩
  · rw[aj (ne _ I.free)];exact I.free
  · rw[aj (ne _ (I.jf x c h))];exact I.jf x c h
  · obtain ⟨h1,h2,h3⟩:=I.pin p hp;exact ⟨h1,by rw[aj (ne _ h2)];exact h2,h3⟩
  · have st : ∀ {b u}, bZ X.prog X.w H s.heap b u -> bZ X.prog X.w (upd H a (.dT kvs)) s.heap b u := λ{b u} z => z.fS (λ_ _ _ q => q) (λc q => by rw [aj (no _ _ q)];exact q) λc xs q => by rw [aj (nt _ _ q)];exact q
    by_cases hb:b=a
    · subst hb;rw[ao] at q;cases q;exact st (I.bp b _ e).2
    · rw[aj hb] at q;exact st (I.bp b u q)
theorem C1 {tg:Expr}{x:Str}{px:Pos}{i:Nat}(hN:X.N[i]?=some x)(hv:vj X.env.scope x)(hd:autoParam ((x == ("__debug__" : Str))=false) aZb._auto_1)(hcd:autoParam ((x == ("__classdict__" : Str))=false) aZb._auto_1):PI X tg (.Name x px) (λσ H R=>∃a o kvs,σ[i]?=some (some (.ref a))/\H a=some (.bu o (.dT kvs))/\R (Gs a o kvs) H):=by
 intro pins s σ H R I h;obtain ⟨a,o,kvs,hs,e,q⟩:=h;refine bV ((gz hN hv hd hcd:PE X (.Name x px) (Ds i)) pins s σ H (λv H'=>v=.ref a/\H'=H) I ⟨_,hs,rfl,rfl⟩) ?_;rintro v s1 ⟨x',H1,I1,r1,q1,q2⟩;subst q1 q2;cases r1;obtain ⟨ho,z,hdd,xs,rel,o',es,ep,h1,h2,h3,h4,h5⟩:=I1.bp a _ e;rw[ho] at h1;cases h1;refine DIt.start hdd ⟨o,ho,h2,h3⟩ ?_;refine ⟨s1.heap.objs.size,[s1.heap.objs.size],_,_,_,rfl,I1.kept (t':=s1.toks) λb o e=>Heap.get?_push_of_some _ e,zk a _ o kvs es ep h3,⟨_,Heap.get?_push_size _ rfl,rfl,rfl⟩,λb hb=>?_,q⟩;have e:b=s1.heap.objs.size:=by simpa using hb
 subst e;exact I1.vC (Nat.le_refl _) (I1.bp.fresh (Nat.le_refl _))
end
end L2
namespace DL
open PySem L2
section
variable {K:Frag} {G G':Hp} {a:Addr} {kvs:List (List Key×V)} {v:V} {d:D}
theorem Rep.swap (h1:Rd G a (.dT kvs))(h2:Rd G' a (.dT kvs))(ne:∀b,b≠a->G' b=G b)(h:Rep K G v d):Rep K G' v d:=by
 have nd:∀b kvs',Rd G b (.dT kvs')->Rd G' b (.dT kvs'):=λb kvs' z=>by
  by_cases hb:b=a
  .subst hb;have:kvs=kvs':=by
    rcases h1 with h1 | ⟨o,h1⟩<;>rcases z with z | ⟨o',z⟩<;>rw[h1] at z<;>cases z<;>rfl
   rw[<-this];exact h2
  .unfold Rd;rw[ne b hb];exact z
 have nl:∀b u,G b=some u->(∀k,u≠.dT k)->(∀o k,u≠.bu o (.dT k))->G' b=some u:=λb u z n1 n2=>by
  rw[ne b,z];rintro rfl;rcases h1 with h1 | ⟨o,h1⟩<;>rw[h1] at z<;>cases z
  .exact n1 _ rfl
  .exact n2 _ _ rfl
 induction h with
 | non=>exact .non
 | bl b=>exact .bl b
 | int i=>exact .int i
 | str x=>exact .str x
 | tup h l r ih=>exact .tup (nl _ _ h (λ_ z=>nomatch z) λ_ _ z=>nomatch z) l ih
 | lst h l r ih=>exact .lst (nl _ _ h (λ_ z=>nomatch z) λ_ _ z=>nomatch z) l ih
 | scr h =>
  rcases h with (h | ⟨o,h⟩) | h
  .exact .scr (.inl (.inl (nl _ _ h (λ_ z=>nomatch z) λ_ _ z=>nomatch z)))
  .exact .scr (.inl (.inr ⟨o,nl _ _ h (λ_ z=>nomatch z) λ_ _ z=>nomatch z⟩))
  .exact .scr (.inr h)
 | dct h=>exact .dct (nd _ _ h)
 | sen h=>exact .sen (nd _ _ h)
end
section
variable {X:Cx} {tg elt:Expr} {ifs:List Expr} {scope:Scope} {pos px:Pos} {g:Tg} {tc:jo} {te:DT} {i:Nat} {x:Str}
noncomputable def kC (i:Nat):eB:=λρ P=>match aT ρ i with
 | some (.p (.dct kvs))=>P (iq kvs)
 | _=>False
set_option tactic.hygienic true in
theorem zU (N':List Str)(fr:List (Option Nat))(hc:X.calm=true)(hNx:X.N[i]?=some x)(hv:vj X.env.scope x)
  (hg:∀cl fp C s H,PG (vm X scope N' cl fp C s H) tg (g.v X.K)) (ht:∀cl fp C s H,BA (vm X scope N' cl fp C s H) ifs tc) (he:∀cl fp C s H,DE (vm X scope N' cl fp C s H) elt te)
  {sc0:Scope} {N0:List Str} (htg:autoParam (Ga fr g=true) aZb._auto_1) (hsc:autoParam (X.env.scope=sc0) aZa._auto_1) (hN:autoParam (X.N=N0) aZa._auto_1) (bp:autoParam (lj sc0 N0 scope N' fr=true) aZf._auto_1) (hs:autoParam (∀y,foldedSetIterable (.Name x px) X.env y=pure y) aZc._auto_1) (hd:autoParam ((x == ("__debug__" : Str))=false) aZb._auto_1) (hcd:autoParam ((x == ("__classdict__" : Str))=false) aZb._auto_1) :
  DE X (.ListComp elt [⟨tg,.Name x px,ifs,0⟩] scope pos) (nC (kC i) fr g tc te):=by
 have pe:=Ec (tc:=cT X.K tc) (te:=cE X.K te) (pos:=pos) N' fr hc (C1 (tg:=tg) (px:=px) hNx hv hd hcd) hg (λcl fp C s H=>(ht cl fp C s H).pf) (λcl fp C s H=>(he cl fp C s H).pe) hsc hN bp hs;refine ⟨?_⟩;rintro pins s σ H Q I ⟨G,ρ,P,sg,re,h,k⟩;unfold nC kC at h;split at h
 .rename_i kvs q;obtain ⟨v,hv1,rp⟩:=re i _ q;cases rp with
  | dct rd =>
   rename_i a;have core:∀(o:Obj) (G1 H1:Hp) (Q1:VK),aq G1 H1->eF X.K G1 σ ρ->G1 a=some (.bu o (.dT (encD kvs)))->(∀b v H' G',P b->Wd H1 G1 H' G'->gc X.K H1 G' H' v b->Q1 v H')->Jy (λσ H R=>∃a o kvs,σ[i]?=some (some (.ref a))/\H a=some (.bu o (.dT kvs))/\R (Gs a o kvs) H) fr (g.v X.K) (cT X.K tc) (cE X.K te) σ H1 Q1:=λo G1 H1 Q1 s1 re1 ga k1=>by
    have:=xg (ti:=kC i) (K:=X.K) (tc:=tc) (te:=te) htg σ H1 Q1 ⟨G1,ρ,P,s1,re1,by unfold nC kC;rw[q];exact h,k1⟩;obtain ⟨G2,ρ2,P2,s2,re2,t2,k2⟩:=this;unfold kC at t2;split at t2
    .rename_i kvs2 q2;obtain ⟨v2,hv2,rp2⟩:=re2 i _ q2;rw[hv1] at hv2;cases hv2;cases rp2 with
     | dct rd2 =>
      rcases rd2 with z | ⟨o2,z⟩
      .have:=s2 _ _ z;rw[s1 _ _ ga] at this;cases this
      .exact ⟨a,o2,encD kvs2,hv1,s2 _ _ z,k2 (iq kvs2) (Gs a o2 (encD kvs2)) H1 G2 t2 (Wd.refl s2) (Ar z)⟩
    .exact t2.elim
   rcases rd with ga | ⟨o,ga⟩
   .have ha:=sg _ _ ga;obtain ⟨_,_,_,_,o,_,_,ho,_⟩:=I.bp a _ ha;have I1:=I.hold ha ho;have n0:∀o u,X.H₀ a≠some (.bu o u):=λo u z=>by
     have:=I.base.nE _ _ _ z;rw[ha] at this;cases this
    have sg1:aq (upd G a (.bu o (.dT (encD kvs)))) (upd H a (.bu o (.dT (encD kvs)))):=λb u z=>by
     by_cases hb:b=a
     .subst hb;rw[ao] at z ⊢;exact z
     .rw[aj hb] at z ⊢;exact sg _ _ z
    have re1:eF X.K (upd G a (.bu o (.dT (encD kvs)))) σ ρ:=λj d e=>by
     obtain ⟨u,h1,h2⟩:=re j d e;exact ⟨u,h1,h2.swap (.inl ga) (.inr ⟨o,ao⟩) λb hb=>aj hb⟩
    refine bV (pe pins s σ _ (λv H2=>H2 a=some (.bu o (.dT (encD kvs)))/\Q v (upd H2 a (.dT (encD kvs)))) I1 (core o _ _ _ sg1 re1 ao λb v H2 G2 p2 w2 r2=>?_)) (by rintro v s' ⟨v',H2,I2,rv,ha2,q2⟩;exact ⟨v',_,I2.Hb n0 ha2,rv,q2⟩);have hH2:H2 a=some (.bu o (.dT (encD kvs))):=w2.hh _ _ ao;have hG2:G2 a=some (.bu o (.dT (encD kvs))):=w2.gg _ _ ao;have w3:Wd H G (upd H2 a (.dT (encD kvs))) (upd G2 a (.dT (encD kvs))):=by
     refine ⟨λb u z=>?_,λb u z=>?_,λb u z=>?_,λb z=>?_⟩
     .by_cases hb:b=a
      .subst hb;rw[ha] at z;rw[ao];exact z
      .rw[aj hb];exact w2.hh _ _ (by rw[aj hb];exact z)
     .by_cases hb:b=a
      .subst hb;rw[ga] at z;rw[ao];exact z
      .rw[aj hb];exact w2.gg _ _ (by rw[aj hb];exact z)
     .by_cases hb:b=a
      .subst hb;rw[ao] at z ⊢;exact z
      .rw[aj hb] at z ⊢;exact w2.gh _ _ z
     .by_cases hb:b=a
      .subst hb;rw[ao];exact ga.symm
      .rw[aj hb];have:=w2.old b (by obtain ⟨u,h1,h2⟩:=z;exact ⟨u,by rw[aj hb];exact h1,h2⟩);rw[aj hb] at this;exact this
    have sw:∀{v d},Rep X.K G2 v d->Rep X.K (upd G2 a (.dT (encD kvs))) v d:=λ{v d} z=>z.swap (.inr ⟨o,hG2⟩) (.inl ao) λb hb=>aj hb;refine ⟨hH2,?_⟩;have own:∀{x d},upd H a (.bu o (.dT (encD kvs))) x=none->bQ X.K G2 H2 x d->H x=none/\bQ X.K (upd G2 a (.dT (encD kvs))) (upd H2 a (.dT (encD kvs))) x d:=λ{x d} n w=>by
     have nx:x≠a:=by rintro rfl;rw[ao] at n;cases n
     rw[aj nx] at n;refine ⟨n,by rw[aj nx];exact w.1,?_⟩;have w':=w.2;cases d with
     | lst ds =>
      obtain ⟨vs,h1,h2⟩:=w';exact ⟨vs,by rw[aj nx];exact h1,Paired.imp' (λ_ _ z=>sw z) h2⟩
     | dct _=>exact (aj nx).trans w'
     | sen _=>exact (aj nx).trans w'
     | _=>exact w'.elim
    refine k b v _ _ p2 w3 ?_;cases b with
    | p d=>exact sw r2
    | o d =>
     obtain ⟨c,e,n,w⟩:=r2;obtain ⟨n',w'⟩:=own n w;exact ⟨c,e,n',w'⟩
    | n t ds =>
     cases t with
     | true =>
      obtain ⟨c,as,e,g,nd,pr⟩:=r2;have nc:c≠a:=by rintro rfl;rw[hG2] at g;cases g
      exact ⟨c,as,e,(aj nc).trans g,nd,Paired.imp' (λ_ _ z=>own z.1 z.2) pr⟩
     | false =>
      obtain ⟨c,as,e,n,g,hl,na,nd,pr⟩:=r2;have nc:c≠a:=by rintro rfl;rw[hG2] at g;cases g
      rw[aj nc] at n;exact ⟨c,as,e,n,(aj nc).trans g,(aj nc).trans hl,na,nd,Paired.imp' (λ_ _ z=>own z.1 z.2) pr⟩
   .exact pe pins s σ H Q I (core o G H Q sg re ga k)
 .exact h.elim
end
end DL
namespace DL
open PySem PySem.Spec PyProof.Rows L2
noncomputable def lq (K:Frag)(Pt:Addr):Frag:=K.filter λp=>!(Nat.beq p.1 Pt)
theorem lr {Pt a:Addr}(ne:Nat.beq a Pt=false):∀K:Frag,(lq K Pt).lookup a=K.lookup a
 | []=>rfl
 | (b,o)::K=>by
  have ih:=lr ne K;unfold lq at ih ⊢;rw[filter_cons,lookup_cons];cases q:Nat.beq b Pt with
  | false=>rw[if_pos (show (!false)=true from rfl),lookup_cons,ih]
  | true =>
   have hb:b=Pt:=Nat.eq_of_beq_eq_true q;have ha:(a == b)=false:=by
    rw[hb];cases z:(a == Pt) with
    | false=>rfl
    | true=>rw[eq_of_beq z,Nat.beq_refl] at ne;cases ne
   rw[if_neg (by simp),ih,ha]
theorem ot {Pt:Addr}:∀K:Frag,(lq K Pt).lookup Pt=none
 | []=>rfl
 | (b,o)::K=>by
  have ih:=ot (Pt:=Pt) K;unfold lq at ih ⊢;rw[filter_cons];cases q:Nat.beq b Pt with
  | false =>
   have hb:(Pt == b)=false:=by
    cases z:(Pt == b) with
    | false=>rfl
    | true=>rw[eq_of_beq z] at q;rw[Nat.beq_refl] at q;cases q
   rw[if_pos (show (!false)=true from rfl),lookup_cons,hb];exact ih
  | true=>rw[if_neg (by simp)];exact ih
theorem ED {K:Frag}{Pt:Addr}{h:Heap}(X:K.In h):(lq K Pt).In h:=λa o e=>by
 cases q:Nat.beq a Pt with
 | false=>exact X a o (by rw[<-lr q K];exact e)
 | true=>rw[Nat.eq_of_beq_eq_true q,ot] at e;cases e
theorem bB {K:Frag}{Pt a:Addr}{r:Option Obj}(h:K.lookup a=r)(ne:Nat.beq a Pt=false):(lq K Pt).lookup a=r:=(lr ne K).trans h
theorem aJ {K:Frag}{Pt a:Addr}{n:Str}{r:Option (Option Value)}(h:nsIn K a n=r)(ne:Nat.beq a Pt=false):nsIn (lq K Pt) a n=r:=by
 unfold nsIn;rw[lr ne];exact h
theorem Dx {l:PySem.W.OpenLaw}{k:Nat}{q:Program}{loose:List Str}{XP:(Str->Option Value)->Heap->Prop}{d:DefRec}{K:Params->Frag}{as:List Addr}{n t:Nat}{x qn:Str}(Pt:Addr)
  (hn:l.most=some 63) (hdf:d.params.defaults = []) (hr:cY k callerA) (e:∀P,as=(K P).map (·.1)) (hT:∀P,(K P).lookup Pt=some (tabObj #[]))
  (F:∀(w:World) (mg:Str->Option Value) (fa:Addr) (h:Heap),(lq (K w.params) Pt).In h->h.Ns mainGlobals mg->mg d.name=some (.ref fa) ->
   ∃(fd:FuncData) (c:Addr),(lq (K w.params) Pt).lookup Pt=none/\PySem.W.codeHdIn (lq (K w.params) Pt) c Pt=true/\(∀(s:Shared) (u:Value),BindsTo s fd ⟨[u],[]⟩ [(x,u)]) /\
    ∀base:Heap,(lq (K w.params) Pt).In base->base.Ns mainGlobals mg->bb mg base->bx l.prog w (lq (K w.params) Pt) mg base fU k fa fd [x] (pG (lq (K w.params) Pt) Pt qn)) :
  PySem.W.WalkX q loose XP (PySem.W.X.obsZ as) (PySem.W.X.valZ K n t) l.row.toRowW d [] (λf vs=>PySem.call f vs):=by
 have W:PySem.W.WalkO q loose XP (λw h=>(K w.params).In h) l.row.toRowW d [] (λf vs=>PySem.call f vs):=
  By (K:=λP=>lq (K P) Pt) (Pt:=Pt) hn hdf hr (λw h Y=>⟨ED Y,Y _ _ (hT _)⟩) F
 exact λw s₀ s₁ mg mb G y a o pm cd doc dV kV h1 h2 h3 h4 h5 h6 args vals as' L p1 p2 p3 p4 p5 =>
  W w s₀ s₁ mg mb G (Frag.In.keeps (PySem.W.X.z_facts e y).2.1 L.keeps) a o pm cd doc dV kV h1 h2 h3 h4 h5 h6 args vals as' p1 p2 p3 p4 p5
end DL
set_option maxHeartbeats 4000000
namespace WS
open PySem L2 DL
local macro_rules | `(tactic| walk_at "rs1")=>do let ns:=("iN eL iM dR iI ic dU dS hX iG hV eJ iH eK aS dC g6 dI ou rM h8 eN eG fv h9 hU qD cK cQ aU gH gZ cN mB pR jg iJ bz eO iK bj aT dput bu iP B.val ba Tg.d putN dF cm cn aw bK aD bC kd nC List.map List.length wx wA wy tK tL tM tN tZ tO tQ wq t4 t5 wB tU tX tV qG wX wY zR xI xJ xK wD vb vd qz qB qA zO m8 wo wm rK EI tY qE qC nQ zM tS zY tW tR wz t6 zP rH wC BV kC zQ wu zL wj vt rL zS".splitOn " ").toArray.map λs=>Lean.mkIdent s.toName;`(tactic| dsimp only[$[$ns:ident],*])
local macro_rules | `(tactic| walk_at "rsx")=>`(tactic| set_option simprocs false in simp only[As,EX,Ja,Jb,Jc,GP])
local macro_rules | `(tactic| walk_at "rs")=>`(tactic| repeat (first | walk_at "rs1" | walk_at "rsx"))
local macro_rules | `(tactic| walk_at "v") => `(tactic| first | exact Or.inl rfl | exact Or.inr (Or.inl rfl) | exact Or.inr (Or.inr rfl))
local macro_rules | `(tactic| walk_at "rs2")=>do let ns:=("eL iM dR iI ic dU dS hX iG hV eJ iH eK aS dC g6 dI ou rM h8 eN eG fv h9 hU qD cK cQ aU gH gZ cN mB pR jg iJ bz eO iK bj aT dput bu iP B.val ba Tg.d putN dF cm cn aw bK aD bC kd nC List.map List.length wx wA wy tK tL tM tN tZ tO tQ wq t4 t5 wB tU tX tV qG wX wY zR xI xJ xK wD vb vd qz qB qA zO m8 wo wm rK EI tY qE qC nQ zM tS zY tW tR wz t6 zP rH wC BV kC zQ wu zL wj vt rL zS".splitOn " ").toArray.map λs=>Lean.mkIdent s.toName;`(tactic| dsimp only[$[$ns:ident],*])
noncomputable def top (i:Nat):Stmt:=PySem.Challenge.pw_warmshare_k34_whole_text_to_sharing.main.body.getD i (.Pass ⟨0,0,0,0⟩)
structure j8 (K:Frag)(mg:Str->Option Value):Prop where
 j9:mg "len" = none
 DM:mg "sum" = none
 fj:mg "range" = none
 tw:mg "int" = none
 DG:mg "all" = none
 m6:mg "enumerate" = none
 DH:mg "min" = none
 ka:mg "max" = none
 oe:mg "sorted" = none
 zB:mg "list" = none
 DK:mg "str" = none
 fN:mg "isinstance" = none
 Ey:mg "bool" = none
 BN:mg "tuple" = none
 Ai:∃t,mg "LEVELS" = some (.int 250 t)
 yv:∃t,mg "FIGURES" = some (.str "0123456789" t)
 oF:∃t,mg "MOST_FIGURES" = some (.int 10 t)
 vD:∃t,mg "MOST_GAP" = some (.int 50 t)
 kf:∃t,mg "MOST_DEGREE" = some (.int 200 t)
 rT:∃t,mg "LEAST_RATE" = some (.int 1 t)
 ua:∃t,mg "MOST_RATE" = some (.int 1000000000 t)
 mE:∃t,mg "MOST_OF_A_KIND" = some (.int 12 t)
 t9:CT K mg "BOUGHT" (-1) (-1)
noncomputable abbrev cG:Stmt:=top 39
theorem pC:aC ["script","k"] ["script","k"] (af cG):=⟨rfl,rfl,rfl,by decide +kernel,rfl,by decide +kernel,by decide +kernel⟩
noncomputable abbrev d9:Stmt:=top 40
theorem i8:aC ["cell","k","found"] ["cell","k"] (af d9):=⟨rfl,rfl,rfl,by decide +kernel,rfl,by decide +kernel,by decide +kernel⟩
noncomputable abbrev ff:Stmt:=top 41
theorem ny:aC ["script","number","k","most"] ["script","number","k"] (af ff):=⟨rfl,rfl,rfl,by decide +kernel,rfl,by decide +kernel,by decide +kernel⟩
noncomputable abbrev ei:Stmt:=top 42
theorem aO:aC ["script","first","gap","base","hots","k","number","low","high","colds"] ["script"] (af ei):=⟨rfl,rfl,rfl,by decide +kernel,rfl,by decide +kernel,by decide +kernel⟩
noncomputable abbrev cz:Stmt:=top 33
theorem qe:aC ["word"] ["word"] (af cz):=⟨rfl,rfl,rfl,by decide +kernel,rfl,by decide +kernel,by decide +kernel⟩
noncomputable abbrev bS:Stmt:=top 32
theorem kq:aC ["words","count","numerals"] ["words","count"] (af bS):=⟨rfl,rfl,rfl,by decide +kernel,rfl,by decide +kernel,by decide +kernel⟩
noncomputable abbrev cf:Stmt:=top 37
theorem nI:aC ["number","least","most"] ["number","least","most"] (af cf):=⟨rfl,rfl,rfl,by decide +kernel,rfl,by decide +kernel,by decide +kernel⟩
noncomputable abbrev fg:Stmt:=top 31
theorem jM:aC ["row","words","numbers"] ["row"] (af fg):=⟨rfl,rfl,rfl,by decide +kernel,rfl,by decide +kernel,by decide +kernel⟩
noncomputable abbrev df:Stmt:=top 35
theorem qb:aC ["streams"] ["streams"] (af df):=⟨rfl,rfl,rfl,by decide +kernel,rfl,by decide +kernel,by decide +kernel⟩
noncomputable abbrev cF:Stmt:=top 34
theorem pA:aC ["kind","hots","colds"] ["kind","hots","colds"] (af cF):=⟨rfl,rfl,rfl,by decide +kernel,rfl,by decide +kernel,by decide +kernel⟩
noncomputable abbrev cc:Stmt:=top 36
theorem fG:aC ["kind","stream","start","goal"] ["kind","stream"] (af cc):=⟨rfl,rfl,rfl,by decide +kernel,rfl,by decide +kernel,by decide +kernel⟩
noncomputable abbrev mU:Stmt:=top 30
theorem fR:aC ["text","rows","gap","hots","colds","row","words","numbers","stream"] ["text"] (af mU):=⟨rfl,rfl,rfl,by decide +kernel,rfl,by decide +kernel,by decide +kernel⟩
noncomputable abbrev bO:Stmt:=top 3
theorem cj:aC ["streams","rates","number","stream","degree"] ["streams"] (af bO):=⟨rfl,rfl,rfl,by decide +kernel,rfl,by decide +kernel,by decide +kernel⟩
noncomputable abbrev bw:Stmt:=top 4
theorem mV:aC ["steps"] ["steps"] (af bw):=⟨rfl,rfl,rfl,by decide +kernel,rfl,by decide +kernel,by decide +kernel⟩
noncomputable abbrev bF:Stmt:=top 5
theorem lR:aC ["gap","giver","taker"] ["gap","giver","taker"] (af bF):=⟨rfl,rfl,rfl,by decide +kernel,rfl,by decide +kernel,by decide +kernel⟩
noncomputable abbrev gE:Stmt:=top 2
theorem bP:aC ["works","left","wanted","givers","passes","turn","taker","need","giver","heat"] ["works"] (af gE):=⟨rfl,rfl,rfl,by decide +kernel,rfl,by decide +kernel,by decide +kernel⟩
noncomputable abbrev dP:Stmt:=top 48
theorem fC:aC ["works","rows","word","some"] ["works"] (af dP):=⟨rfl,rfl,rfl,by decide +kernel,rfl,by decide +kernel,by decide +kernel⟩
noncomputable abbrev fe:Stmt:=top 45
theorem bD:aC ["works","level","lack","start","goal","rate"] ["works","level"] (af fe):=⟨rfl,rfl,rfl,by decide +kernel,rfl,by decide +kernel,by decide +kernel⟩
noncomputable abbrev ed:Stmt:=top 44
theorem cB:aC ["works","hots","k","at","colds","into"] ["works"] (af ed):=⟨rfl,rfl,rfl,by decide +kernel,rfl,by decide +kernel,by decide +kernel⟩
noncomputable abbrev dh:Stmt:=top 46
theorem qg:aC ["left","key","heat"] ["left","key","heat"] (af dh):=⟨rfl,rfl,rfl,by decide +kernel,rfl,by decide +kernel,by decide +kernel⟩
noncomputable abbrev eh:Stmt:=top 43
theorem sP:aC ["found"] ["found"] (af eh):=⟨rfl,rfl,rfl,by decide +kernel,rfl,by decide +kernel,by decide +kernel⟩
noncomputable abbrev bA:Stmt:=top 47
theorem aI:aC ["works","passes","hots","colds","seen","heat","cold","one","giver","at","taker","into","much"] ["works","passes"] (af bA):=⟨rfl,rfl,rfl,by decide +kernel,rfl,by decide +kernel,by decide +kernel⟩
noncomputable abbrev cy:Stmt:=top 12
theorem qc:aC ["bands","level"] ["bands","level"] (af cy):=⟨rfl,rfl,rfl,by decide +kernel,rfl,by decide +kernel,by decide +kernel⟩
noncomputable abbrev cx:Stmt:=top 11
theorem kn:aC ["works","gap"] ["works"] (af cx):=⟨rfl,rfl,rfl,by decide +kernel,rfl,by decide +kernel,by decide +kernel⟩
noncomputable abbrev cV:Stmt:=top 10
theorem sO:aC ["works"] ["works"] (af cV):=⟨rfl,rfl,rfl,by decide +kernel,rfl,by decide +kernel,by decide +kernel⟩
noncomputable abbrev dg:Stmt:=top 8
theorem qf:aC ["works","level"] ["works","level"] (af dg):=⟨rfl,rfl,rfl,by decide +kernel,rfl,by decide +kernel,by decide +kernel⟩
noncomputable abbrev bT:Stmt:=top 9
theorem pB:aC ["works"] ["works"] (af bT):=⟨rfl,rfl,rfl,by decide +kernel,rfl,by decide +kernel,by decide +kernel⟩
noncomputable abbrev dm:Stmt:=top 14
theorem qi:aC ["works"] ["works"] (af dm):=⟨rfl,rfl,rfl,by decide +kernel,rfl,by decide +kernel,by decide +kernel⟩
noncomputable abbrev i6:Stmt:=top 16
theorem u5:aC ["works","heat"] ["works"] (af i6):=⟨rfl,rfl,rfl,by decide +kernel,rfl,by decide +kernel,by decide +kernel⟩
noncomputable abbrev dj:Stmt:=top 15
theorem qh:aC ["works"] ["works"] (af dj):=⟨rfl,rfl,rfl,by decide +kernel,rfl,by decide +kernel,by decide +kernel⟩
noncomputable abbrev jL:Stmt:=top 49
theorem i7:aC ["script","works","told","passes","lacks","heat","cold","due"] ["script"] (af jL):=⟨rfl,rfl,rfl,by decide +kernel,rfl,by decide +kernel,by decide +kernel⟩
noncomputable abbrev C9:Str:="warmest_first" ++ ".<locals>." ++ "<lambda>"
section
variable {Pt:Addr} {P:Program} {w:World} {K:Frag} {mg:Str->Option Value} {base:Heap} {f:Addr} {fd:FuncData}
theorem mulR {i j:Int}(h : -(2 ^ 64)<j/\j<2 ^ 64):sZ i j:=.inr h
theorem mulL {i j:Int}(h : -(2 ^ 64)<i/\i<2 ^ 64):sZ i j:=.inl h
noncomputable def d3 (x:S3):D:=.tup [.int x.1,.int x.2.1,.int x.2.2]
noncomputable def dW (g:Int)(hs cs:List S3):D:=.tup [.int g,.lst (hs.map d3),.lst (cs.map d3)]
theorem xr:∀l:List S3,jA (l.map d3)=true
 | []=>jB
 | x::l=>by rw[map_cons,iu,xr l,show nj (d3 x)=true by unfold d3;simp only[sj,iu,jB,nS,Bool.and_true]];rfl
theorem rP:∀l:List S3,kB (l.map d3)<=1
 | []=>by rw[List.map_nil,ig];exact Nat.zero_le _
 | x::l=>by
  have h:=rP l;have e:dep (d3 x)=1:=by unfold d3;simp only[ly,fX,ig,lu];rfl
  rw[map_cons,fX,e];lia
theorem si (g:Int)(hs cs:List S3):nj (dW g hs cs)=true:=by
 unfold dW;simp only[sj,iu,jB,nS,xu,xr,Bool.and_true]
theorem zX (g:Int)(hs cs:List S3):dep (dW g hs cs)<=3:=by
 have h1:=rP hs;have h2:=rP cs;unfold dW;simp only[ly,fX,ig,lu,rQ];lia
theorem JS {g:Int}{hs cs:List S3}{P:B->Prop}(h:P (.p (.bl true))):JQ (dW g hs cs) (dW g hs cs) P:=by
 refine ⟨⟨mq.refl _ (si _ _ _),by have:=zX g hs cs;lia⟩,?_⟩;rw[fA _ (si _ _ _)];exact h
structure e7 (g:Int)(hs cs:List S3):Prop where
 g0:0<=g
 g1:g<=50
 nh:hs.length<=12
 nc:cs.length<=12
 yz:∀x∈hs,eZ x
 mz:∀x∈cs,cH x
theorem cD {t1 u:fu}{E:jn}{ρ:aB}(C:aB->Prop)(tail:∀ρ,C ρ->u E ρ)(head:∀N:aB->Prop,(∀ρ,C ρ->N ρ)->t1 { E with nx:=N } ρ):iN t1 u E ρ:=head _ tail
theorem EE (p q:S3)(h:d3 p=d3 q):p=q:=by
 obtain ⟨a,b,c⟩:=p;obtain ⟨a',b',c'⟩:=q;unfold d3 at h;simp only[D.tup.injEq,List.cons.injEq,D.int.injEq,and_true] at h;obtain ⟨rfl,rfl,rfl⟩:=h;rfl
theorem xt:∀l:List P5,jA (l.map d5)=true
 | []=>jB
 | x::l=>by rw[map_cons,iu,xt l,show nj (d5 x)=true by unfold d5;simp only[sj,iu,jB,nS,Bool.and_true]];rfl
theorem wK:∀l:List P5,kB (l.map d5)<=1
 | []=>by rw[List.map_nil,ig];exact Nat.zero_le _
 | x::l=>by
  have h:=wK l;have e:dep (d5 x)=1:=by unfold d5;simp only[ly,fX,ig,lu];rfl
  rw[map_cons,fX,e];lia
noncomputable def wv (n:Nat)(l:List (Option B)):Nat->Option B:=λi=>(l[i - n]?).getD none
noncomputable def fc:DR:=λds P=>∃g a b c d:Int,ds = [.int g,.tup [.int a,.int b],.tup [.int c,.int d]]/\P (.p (.bl (decide (b>=d+g))))
theorem lO (T:j8 K mg)(F:je K "is_warm_enough" "is_warm_enough" bF f fd):bx P w K mg base fU 1 f fd ["gap","giver","taker"] (bN K fc):=by
 refine mK F lR (λds Q h=>by obtain ⟨g,a,b,c,d,rfl,q⟩:=h;rfl) λcdv A outer s H E hr=>⟨_,(ai (aN (jt uE (aF (dv 1) ae) (au aK (aF (dv 2) ae) (dv 0)) (ax _)))),λds Q h=>?_⟩
 obtain ⟨g,a,b,c,d,rfl,q⟩:=h;walk_at "rs";exact q
structure Ex (ss:List S3):Prop where
 n:ss.length<=12
 w:∀s∈ss,0<=hE s/\hE s<=kJ s/\kJ s<=200
theorem FW {hs:List S3}(h:∀s∈hs,eZ s)(n:hs.length<=12):Ex hs:=⟨n,λs hs=>by
 have a:=(h s hs).lo;have b:=(h s hs).lt;have c:=(h s hs).hi;unfold hE kJ;lia⟩
theorem Dk {cs:List S3}(h:∀s∈cs,cH s)(n:cs.length<=12):Ex cs:=⟨n,λs hs=>by
 have a:=(h s hs).lo;have b:=(h s hs).lt;have c:=(h s hs).hi;unfold hE kJ;lia⟩
noncomputable def fE:DR:=λds P=>∃ss:List S3,ds = [.lst (ss.map d3)]/\Ex ss/\∀kvs:dE,Keyed kvs->kvs.length<=2400->(∀k,bh kvs k=ar ss k)->P (.o (.dct kvs))
set_option tactic.hygienic true in
theorem mL (T:j8 K mg)(F:je K "rates_by_step" "rates_by_step" bO f fd):bx P w K mg base fU 1 f fd ["streams"] (bN K fE):=by
  refine mK F cj (λds Q h=>by obtain ⟨ss,rfl,ok,q⟩:=h;rfl) λcdv A outer s H E hr=>⟨_,(ag (g7 (i:=1) cj.nd rfl (Or.inl rfl) rN)
      (ag (kD (g:=(.t [2,3])) PassesOwn.never rfl (lz (by rfl) T.m6 (aa (dv 0) ah)) (hO rfl (aH (ak (i:=2) cj.nd rfl (Or.inl rfl)) (aH (ak (i:=3) cj.nd rfl (Or.inl rfl)) fm))) (ai (bU (aA jC (aF (dv 3) ae) ae (ax _)) (ai (iO (g:=(.n 4)) PassesOwn.never rfl (oA (by rfl) T.fj (aa (aG (BU rfl) (by rfl) T.DH boot_min (aa (gn (dv 3) (dM ae) (dM ae)) ah)) (aa (aG (BR rfl) (by rfl) T.ka boot_max (aa (gn (dv 3) (dM ae) (dM ae)) ah)) ah))) (ak (i:=4) cj.nd rfl (Or.inl rfl)) (ai (rS (i:=1) hr rfl (by walk_at "v") (dv 2) (dv 4) (aF (dv 3) ae))))) bf)))
      (ai (B8 1)))),λds Q h=>?_⟩
  obtain ⟨ss,rfl,ok,q⟩:=h;walk_at "rs";have sl:sizeLine=16777216:=sizeLine_eq;refine dc (λi ρ=>∃kvs,∃y:Nat->Option B,ρ = [some (.p (.lst (ss.map d3))),some (.o (.dct kvs)),y 2,y 3,y 4]/\Keyed kvs/\kvs.length<=200*i/\∀k,bh kvs k=ar (ss.take i) k) ⟨[],λ_=>none,rfl,.nil,Nat.le_refl _,λk=>by
    rw[List.take_zero];unfold ar strAt;split<;>first | rfl | (rename_i h;split at h<;>cases h)⟩ ?_ ?_
  · rintro i x ρ hx ⟨kvs,yy,rfl,hk,hl,hv⟩;obtain ⟨y,hy,rfl⟩:=eQ hx;rw[getElem?_map] at hy;cases es:ss[i]? with
    | none=>rw[es] at hy;cases hy
    | some s =>
    rw[es] at hy;cases hy;have hi:=(List.getElem?_eq_some_iff.mp es).1;have hn:=ok.n;have hw:=ok.w s (mem_of_getElem? es);have tl:(ss.take i).length=i:=by rw[length_take];lia
    repeat (first | dsimp only[d3] | walk_at "rs1" | walk_at "rsx")
    refine ⟨λh0=>⟨by decide,⟨[s.1,s.2.1],rfl,by simp,λm hm hle=>⟨by decide,[s.1,s.2.1],rfl,by simp,λM hM hge=>?_⟩⟩⟩,λh0=>?_⟩
    · have em:m=hE s:=by
        unfold hE;have h1:=hle s.1 (.head _);have h2:=hle s.2.1 (.tail _ (.head _));simp only[List.mem_cons,List.not_mem_nil,or_false] at hm;lia
      have eM:M=kJ s:=by
        unfold kJ;have h1:=hge s.1 (.head _);have h2:=hge s.2.1 (.tail _ (.head _));simp only[List.mem_cons,List.not_mem_nil,or_false] at hM;lia
      subst em;subst eM;rw[decide_eq_true_eq] at h0;walk_at "rs";refine ⟨⟨by lia,by lia,by lia,by lia⟩,?_⟩;refine dc (λj ρ=>∃kvs' a4,ρ = [some (.p (.lst (ss.map d3))),some (.o (.dct kvs')),some (.p (.int ((0+i:Nat):Int))),some (.p (.tup [.int s.1,.int s.2.1,.int s.2.2])),a4]/\Keyed kvs'/\kvs'.length<=200*i+j/\∀k:K2,bh kvs' k=if k.1=(i:Int)/\hE s<=k.2/\k.2<hE s+(j:Nat) then some s.2.2 else ar (ss.take i) k) ⟨kvs,yy 4,rfl,hk,hl,λk=>by rw[if_neg (by lia)];exact hv k⟩ ?_ ?_
      · rintro j y ρ hy ⟨kvs',a4',rfl,hk',hl',hv'⟩;obtain ⟨hj,rfl⟩:=cC hy;walk_at "rs";refine ⟨by lia,_,_,rfl,yX hk' _ _,by have:=C7 kvs' (((0+i:Nat):Int),hE s+(j:Nat)) s.2.2;lia,λk=>?_⟩;rw[mf,hv'];obtain ⟨k1,k2'⟩:=k;dsimp only;by_cases c:((0+i:Nat):Int)=k1/\hE s+(j:Nat)=k2'
        · rw[if_pos (by rw[c.1,c.2]),if_pos (by lia)]
        · rw [if_neg (by rw [Prod.mk.injEq];exact c)];by_cases c2:k1=(i:Int)/\hE s<=k2'/\k2'<hE s+(j:Nat)
          · rw[if_pos c2,if_pos (by lia)]
          · rw[if_neg c2,if_neg (by lia)]
      · rintro ρ ⟨kvs',a4',rfl,hk',hl',hv'⟩;rw[bJ] at hl' hv';refine ⟨kvs',wv 2 [_,_,_],rfl,hk',by lia,λk=>?_⟩;rw[hv',WS.take_snoc es,gQ,tl];by_cases c:k.1=(i:Int)
        · rw[if_pos c];by_cases c2:hE s<=k.2/\k.2<kJ s
          · rw[if_pos ⟨c,c2.1,by lia⟩,if_pos ⟨h0,c2⟩]
          · rw[if_neg (by lia),if_neg (λz=>c2 z.2),gA (by rw[tl];exact c)]
        · rw[if_neg (λz=>c z.1),if_neg c]
    · rw[decide_eq_false_iff_not] at h0;refine ⟨kvs,wv 2 [_,_,_],rfl,hk,by lia,λk=>?_⟩;rw[hv,WS.take_snoc es,gQ,tl];by_cases c:k.1=(i:Int)
      · rw[if_pos c,if_neg (λz=>h0 z.1),gA (by rw[tl];exact c)]
      · rw[if_neg c]
  · rintro ρ ⟨kvs,yy,rfl,hk,hl,hv⟩;rw[eR,length_map] at *;rw[List.take_length] at hv;walk_at "rs";have:=ok.n;exact q kvs hk (by lia) hv
noncomputable def jh (k:K2):D:=.tup [.int k.1,.int k.2]
noncomputable def l5 (p:P5):List Int:=[p.1,p.2.1,p.2.2.1,p.2.2.2.1,p.2.2.2.2]
theorem flat_keys:∀ks:List K2,(ks.map jh).all D.flat=true
 | []=>rfl
 | k::ks=>by rw[map_cons,List.all_cons,flat_keys ks];rfl
theorem Ag:∀ps:List P5,(ps.map d5).all D.flat=true
 | []=>rfl
 | k::ks=>by rw[map_cons,List.all_cons,Ag ks];rfl
noncomputable def fF:DR:=λds P=>∃kvs:dE,ds = [.dct kvs]/\∀ps:dE,ps.Perm kvs->xT ps->P (.o (.lst ((ps.map (·.1)).map jh)))
theorem mM (kb:K.In base)(hBl:bb mg base)(T:j8 K mg)(F:En K "warmest_first" "warmest_first" bw f fd Pt):bx P w K mg base fU 1 f fd ["steps"] (nK K Pt C9 fF):=by
 refine Jk F mV (λds Q h=>by obtain ⟨kvs,rfl,q⟩:=h;rfl) λcdv A outer s H E hr hT hC=>⟨_,(ai (aN (zV (x:="step") (by rfl) T.oe (by rfl) T.zB rfl (hr.mono (by decide)) rfl hC kb hBl hT rfl rfl (λ_ _ _ _ _=>rfl) rfl rfl rfl (by decide) rfl (by decide) (aa (dv 0) ah)))),λds Q h=>?_⟩
 obtain ⟨kvs,rfl,q⟩:=h;walk_at "rs";intro ps hp hf;have:=q ps hp hf;rw[map_map] at this;exact this
noncomputable def pd:DR:=λds P=>∃g hs cs,ds = [dW g hs cs]/\e7 g hs cs/\∀ps:List P5,Looks g hs cs ps->qo (ps.map l5)->ps.length<=4800->Tight g ps->P (.o (.lst (ps.map d5)))
inductive JJ (g:Int)(hs cs:List S3)(ck:dE)(gs ts:List K2)(i:Nat)(ρ:aB):Prop
 | mk (t:Nat) (lk:dE) (ps:List P5) (y:Nat->Option B) (G:Gi g hs cs gs ts i t lk ps) (e:ρ = [some (.p (dW g hs cs)),some (.o (.dct lk)),some (.p (.dct ck)),some (.p (.lst (gs.map jh))),some (.o (.lst (ps.map d5))),some (.p (.int (t:Nat))),y 6,y 7,y 8,y 9]):JJ g hs cs ck gs ts i ρ
inductive IA (g:Int)(hs cs:List S3)(ck:dE)(gs ts:List K2)(i:Nat)(k:K2)(C:Int->Nat->Prop)(ρ:aB):Prop
 | mk (t:Nat) (n:Int) (lk:dE) (ps:List P5) (y:Nat->Option B) (G:Gw g hs cs gs ts i k t n lk ps) (c:C n t) (e:ρ = [some (.p (dW g hs cs)),some (.o (.dct lk)),some (.p (.dct ck)),some (.p (.lst (gs.map jh))),some (.o (.lst (ps.map d5))),some (.p (.int (t:Nat))),some (.p (jh k)),some (.p (.int n)),y 8,y 9]):IA g hs cs ck gs ts i k C ρ
noncomputable def J4 (n:Nat)(ρ:aB):Nat:=match aT ρ 5,aT ρ 7 with
 | some (.p (.int t)),some (.p (.int m))=>2*(n - t.toNat)+(if 0<m then 1 else 0)
 | _,_=>0
set_option tactic.hygienic true in
theorem yN (T:j8 K mg)(F_rates_by_step:Fn P w K mg base "rates_by_step" 1 ["streams"] (bN K fE))(F_warmest_first:Fn P w K mg base "warmest_first" 1 ["steps"] (nK K Pt C9 fF))(F_is_warm_enough:Fn P w K mg base "is_warm_enough" 1 ["gap","giver","taker"] (bN K fc))(F:je K "shared" "shared" gE f fd):bx P w K mg base fU 2 f fd ["works"] (nK K Pt C9 pd):=by
 refine Hj F bP (λds Q h=>by obtain ⟨g,hs,cs,rfl,ok,q⟩:=h;rfl) λcdv A outer s H E hr hT=>⟨_,(ag (g7 (i:=1) bP.nd rfl (Or.inr rfl) (aV F_rates_by_step (hr.mono (by decide)) (by rfl) (aa (aF (dv 0) ae) ah)))
   (ag (ay (i:=2) bP.nd rfl (Or.inl rfl) (aV F_rates_by_step (hr.mono (by decide)) (by rfl) (aa (aF (dv 0) ae) ah)))
   (ag (Ca (i:=3) bP.nd rfl (Or.inl rfl) (vz hT F_warmest_first (hr.mono (by decide)) (by rfl) (aa (dv 1) ah)))
   (ag (g7 (i:=4) bP.nd rfl (Or.inl rfl) (dA ah))
   (ag (ay (i:=5) bP.nd rfl (Or.inl rfl) ae)
   (ag (kD (g:=(.n 6)) PassesOwn.never rfl (cZ (vz hT F_warmest_first (hr.mono (by decide)) (by rfl) (aa (dv 2) ah))) (ak (i:=6) bP.nd rfl (Or.inl rfl)) (ag (ay (i:=7) bP.nd rfl (Or.inl rfl) (jU hr (dv 2) (dv 6)))
   (ag (Ab PassesOwn.never (DW.dt (g8 (aA jC (dv 7) ae (ax _)) (g8 (aA qV (dv 5) (aG gX (by rfl) T.j9 PySem.boot_len (aa (dv 3) ah)) (ax _)) (gL (kE (aV F_is_warm_enough (hr.mono (by decide)) (by rfl) (aa (aF (dv 0) ae) (aa (aF (dv 3) (dv 5)) (aa (dv 6) ah))))))))) (ag (ay (i:=8) bP.nd rfl (Or.inl rfl) (aF (dv 3) (dv 5)))
   (ag (B9 (i:=9) bP.nd rfl (Or.inl rfl) (aG (BS rfl) (by rfl) T.DH boot_min (aa (dv 7) (aa (jU hr (dv 1) (dv 8)) ah))))
   (ag (mC (i:=4) rfl (by walk_at "v") (au aK (au aK (dv 8) (dv 6)) (dD (aa (dv 9) ah))))
   (ag (mD (i:=7) bP.nd rfl (Or.inl rfl) (dv 9) rZ)
   (ag (B6 (xD (pv 1) (dv 8).pe (get_dict (ki hr)) (dv 9).pe rZ (set_dict (ki hr))))
   (ai (bU (aA fb (jU hr (dv 1) (dv 8)) ae (ax _)) (ai (mD (i:=5) bP.nd rfl (Or.inl rfl) ae rY)) bf))))))))
   (ai (bU (aA jC (dv 7) ae (ax _)) (ai (mC (i:=4) rfl (by walk_at "v") (au aK (BX (dv 6) T.t9 (by rfl)) (dD (aa (dv 7) ah))))) bf)))))
   (ag (B7 (i:=4) rfl (by walk_at "v") (gJ (g:=(.n 0)) (tc:=bj) (te:=(g6 _ (wj _ _ (aS 0)) (gH (aU (g6 m8 (aS 1) (aS 0)) cQ)))) (sc0:=af gE) (N0:=["works","left","wanted","givers","passes","turn","taker","need","giver","heat"]) ["giver","left"] [none,some 1] rfl (cZ (gn (dv 3) (dM (dv 5)) lA)) (λ_ _ _ _ _=>(ak (i:=0) (show (["giver","left"]:List Str).Nodup by decide +kernel) rfl (Or.inl rfl))) (λ_ _ _ _ _=>cR) (λ_ _ _ _ _=>(au aK (BY (dv 0) T.t9 (by rfl)) (dD (aa (jU hr (dv 1) (dv 0)) ah))))))
   (ai (aN (aG tE (by rfl) T.oe boot_sorted (aa (dv 4) ah))))))))))),λds Q h=>?_⟩
 obtain ⟨g,hs,cs,rfl,ok,q⟩:=h;have sl:sizeLine=16777216:=sizeLine_eq;have oh:=FW ok.yz ok.nh;have oc:=Dk ok.mz ok.nc;refine cD (λρ=>∃hk:dE,Keyed hk/\hk.length<=2400/\(∀k,bh hk k=ar hs k)/\ρ = [some (.p (dW g hs cs)),some (.o (.dct hk)),none,none,none,none,none,none,none,none]) ?_ λN hN=>?_;rotate_left
 .repeat (first | dsimp only[dW] | walk_at "rs1" | walk_at "rsx")
  exact ⟨hs,rfl,oh,λkvs hk hl hv=>hN _ ⟨kvs,hk,hl,hv,rfl⟩⟩
 rintro ρ ⟨hk,kh,lh,vh,rfl⟩;refine cD (λρ=>∃ck:dE,Keyed ck/\ck.length<=2400/\(∀k,bh ck k=ar cs k)/\ρ = [some (.p (dW g hs cs)),some (.o (.dct hk)),some (.p (.dct ck)),none,none,none,none,none,none,none]) ?_ λN hN=>?_;rotate_left
 .repeat (first | dsimp only[dW] | walk_at "rs1" | walk_at "rsx")
  exact ⟨cs,rfl,oc,λkvs hk hl hv=>hN _ ⟨kvs,hk,hl,hv,rfl⟩⟩
 rintro ρ ⟨ck,kc,lc,vc,rfl⟩;refine cD (λρ=>∃gs:List K2,zy hs gs/\ρ = [some (.p (dW g hs cs)),some (.o (.dct hk)),some (.p (.dct ck)),some (.p (.lst (gs.map jh))),none,none,none,none,none,none]) ?_ λN hN=>?_;rotate_left
 .walk_at "rs";exact ⟨hk,rfl,λps hp hf=>⟨flat_keys _,hN _ ⟨_,Bu kh lh vh hp hf,rfl⟩⟩⟩
 rintro ρ ⟨gs,sg,rfl⟩;refine cD (λρ=>ρ = [some (.p (dW g hs cs)),some (.o (.dct hk)),some (.p (.dct ck)),some (.p (.lst (gs.map jh))),some (.o (.lst [])),none,none,none,none,none]) ?_ λN hN=>?_;rotate_left
 .walk_at "rs";exact hN _ rfl
 rintro ρ rfl;refine cD (λρ=>ρ = [some (.p (dW g hs cs)),some (.o (.dct hk)),some (.p (.dct ck)),some (.p (.lst (gs.map jh))),some (.o (.lst [])),some (.p (.int 0)),none,none,none,none]) ?_ λN hN=>?_;rotate_left
 .walk_at "rs";exact hN _ rfl
 rintro ρ rfl;have lg:=sg.len;refine cD (λρ=>∃(ts:List K2) (t:Nat) (lk:dE) (ps:List P5) (y:Nat->Option B),zy cs ts/\Gi g hs cs gs ts ts.length t lk ps/\ρ = [some (.p (dW g hs cs)),some (.o (.dct lk)),some (.p (.dct ck)),some (.p (.lst (gs.map jh))),some (.o (.lst (ps.map d5))),some (.p (.int (t:Nat))),y 6,y 7,y 8,y 9]) ?_ λN hN=>?_;rotate_left
 .repeat (first | walk_at "rs2" | walk_at "rsx")
  refine ⟨ck,rfl,λcp hp hf=>?_⟩;have st:=Bu kc lc vc hp hf;generalize cp.map (·.1)=ts at st;have lt:=st.len;refine dc (JJ g hs cs ck gs ts) ⟨0,hk,[],λ_=>none,Gi.start sg lh vh,rfl⟩ ?_ ?_
  .rintro i x ρ hx ⟨t,lk,ps,y,G,rfl⟩;rw[getElem?_map] at hx;obtain ⟨k,hk1,rfl⟩:=Option.map_eq_some_iff.mp hx;have hi:i<ts.length:=(List.getElem?_eq_some_iff.mp hk1).1;obtain ⟨r,hr⟩:=Option.isSome_iff_exists.mp ((st.is k).mp (mem_of_getElem? hk1));have kb:0<=k.2+g/\k.2+g<=250:=by
    obtain ⟨s,h1,h2,h3,h4,_⟩:=iY hr;have:=oc.w s (jb h1).2.2;have:=ok.g0;have:=ok.g1;lia
   have G1:=G.take st hk1 hr;have hv:bh ck (k.1,k.2)=some r:=(vc k).trans hr;dsimp only[Tg.d,dput];refine cD (λρ=>ρ = [some (.p (dW g hs cs)),some (.o (.dct lk)),some (.p (.dct ck)),some (.p (.lst (gs.map jh))),some (.o (.lst (ps.map d5))),some (.p (.int (t:Nat))),some (.p (jh k)),some (.p (.int r)),y 8,y 9]) ?_ λN hN=>?_;rotate_left
   .repeat (first | dsimp only[jh] | walk_at "rs1" | walk_at "rsx")
    exact ⟨r,hv,hN _ rfl⟩
   rintro ρ rfl;refine cD (IA g hs cs ck gs ts i k λn t=>n=0\/∀a,gs[t]?=some a->a.2<k.2+g) ?_ λN hN=>?_;rotate_left
   .unfold zT;refine ⟨IA g hs cs ck gs ts i k λ_ _=>True,J4 gs.length,⟨t,r,lk,ps,y,G1,trivial,rfl⟩,?_⟩;clear G G1;rintro ρ ⟨t,n,lk,ps,y,G,_,rfl⟩;repeat (first | walk_at "rs2" | walk_at "rsx")
    rw[length_map];refine ⟨λh1=>⟨λh2=>?_,λh2=>⟨λz=>(nomatch z),λ_=>hN _ ⟨t,n,lk,ps,y,G,.inr λa ha=>?_,rfl⟩⟩⟩,λh1=>⟨λz=>(nomatch z),λ_=>hN _ ⟨t,n,lk,ps,y,G,.inl ?_,rfl⟩⟩⟩;rotate_left
    .have:=(List.getElem?_eq_some_iff.mp ha).1;have:=of_decide_eq_false h2;lia
    .have:=of_decide_eq_false h1;have:=G.n0;lia
    have n1:=of_decide_eq_true h1;have t1:t<gs.length:=by
     have:=of_decide_eq_true h2;lia
    have ha:=getElem?_eq_getElem t1;generalize gs[t]=a at ha;have g1:gF (gs.map jh) ((t:Nat):Int)=some (jh a):=rz ha;obtain ⟨v,hv1,_⟩:=G.gr.ud t a ha;have hv2:bh lk (a.1,a.2)=some v:=hv1;have llk:=G.gr.ln;have lps:=G.n1;repeat (first | dsimp only[dW] | walk_at "rs2" | walk_at "rsx" | set_option simprocs false in simp only[g1])
    refine ⟨g,a.1,a.2,k.1,k.2,rfl,?_⟩;repeat (first | walk_at "rs2" | walk_at "rsx")
    refine ⟨λh3=>?_,λh3=>hN _ ⟨t,n,lk,ps,y,G,.inr λb hb=>?_,rfl⟩⟩;rotate_left
    .rw[ha] at hb;cases hb;have:=of_decide_eq_false h3;lia
    have hw:=of_decide_eq_true h3;refine cD (λρ=>ρ = [some (.p (dW g hs cs)),some (.o (.dct lk)),some (.p (.dct ck)),some (.p (.lst (gs.map jh))),some (.o (.lst (ps.map d5))),some (.p (.int (t:Nat))),some (.p (jh k)),some (.p (.int n)),some (.p (jh a)),y 9]) ?_ λN hN=>?_;rotate_left
    .repeat (first | walk_at "rs1" | walk_at "rsx" | set_option simprocs false in simp only[g1])
     exact hN _ rfl
    rintro ρ rfl;obtain ⟨m,hm⟩ : ∃m,m=if v<n then v else n:=⟨_,rfl⟩
    refine cD (λρ=>ρ = [some (.p (dW g hs cs)),some (.o (.dct lk)),some (.p (.dct ck)),some (.p (.lst (gs.map jh))),some (.o (.lst (ps.map d5))),some (.p (.int (t:Nat))),some (.p (jh k)),some (.p (.int n)),some (.p (jh a)),some (.p (.int m))]) ?_ λN hN=>?_;rotate_left
    .repeat (first | dsimp only[jh] | walk_at "rs1" | walk_at "rsx")
     exact ⟨v,hv2,rfl,hN _ (by rw[hm];rfl)⟩
    rintro ρ rfl;refine cD (λρ=>ρ = [some (.p (dW g hs cs)),some (.o (.dct lk)),some (.p (.dct ck)),some (.p (.lst (gs.map jh))),some (.o (.lst ((ps++[(a.1,a.2,k.1,k.2,m)]).map d5))),some (.p (.int (t:Nat))),some (.p (jh k)),some (.p (.int n)),some (.p (jh a)),some (.p (.int m))]) ?_ λN hN=>?_;rotate_left
    .repeat (first | dsimp only[jh] | walk_at "rs1" | walk_at "rsx")
     exact ⟨(λz=>nomatch z),(λz=>nomatch z),by rw[sl];show 4<=16777216;decide,(λz=>nomatch z),(λz=>nomatch z),by rw[sl];show 5<=16777216;decide,by rw[length_map];lia,hN _ (by rw[map_append];rfl)⟩
    rintro ρ rfl;refine cD (λρ=>ρ = [some (.p (dW g hs cs)),some (.o (.dct lk)),some (.p (.dct ck)),some (.p (.lst (gs.map jh))),some (.o (.lst ((ps++[(a.1,a.2,k.1,k.2,m)]).map d5))),some (.p (.int (t:Nat))),some (.p (jh k)),some (.p (.int (n - m))),some (.p (jh a)),some (.p (.int m))]) ?_ λN hN=>?_;rotate_left
    .walk_at "rs";exact hN _ rfl
    rintro ρ rfl;refine cD (λρ=>ρ = [some (.p (dW g hs cs)),some (.o (.dct (putD lk a (v - m)))),some (.p (.dct ck)),some (.p (.lst (gs.map jh))),some (.o (.lst ((ps++[(a.1,a.2,k.1,k.2,m)]).map d5))),some (.p (.int (t:Nat))),some (.p (jh k)),some (.p (.int (n - m))),some (.p (jh a)),some (.p (.int m))]) ?_ λN hN=>?_;rotate_left
    .repeat (first | dsimp only[jh] | walk_at "rs1" | walk_at "rsx")
     exact ⟨v,hv2,by lia,hN _ rfl⟩
    rintro ρ rfl;have hv3:bh (putD lk a (v - m)) (a.1,a.2)=some (v - m):=by rw[mf,if_pos rfl]
    have mor:0<m/\(m=v\/m=n)/\m<=n:=by
     obtain ⟨_,_,_,_,v0⟩:=G.gr.ud t a ha;rename_i w hw' _ _;rw[hv1] at hw';cases hw';have:=v0 (Nat.le_refl _);rw[hm];split<;>lia
    repeat (first | dsimp only[jh] | walk_at "rs1" | walk_at "rsx")
    refine ⟨v - m,hv3,λh4=>⟨⟨t+1,n - m,_,_,wv 8 [_,_],G.pass sg st hk1 n1 ha hw hv1 hm (by rw[if_pos (of_decide_eq_true h4)]),trivial,rfl⟩,?_⟩,λh4=>⟨⟨t,n - m,_,_,wv 8 [_,_],G.pass sg st hk1 n1 ha hw hv1 hm (by rw[if_neg (of_decide_eq_false h4)]),trivial,rfl⟩,?_⟩⟩
    .show 2*(gs.length - ((t:Int)+1).toNat)+(if 0<n - m then 1 else 0)<2*(gs.length - ((t:Nat):Int).toNat)+(if 0<n then 1 else 0)
     rw[if_pos n1];split<;>lia
    .have:=of_decide_eq_false h4;show 2*(gs.length - ((t:Nat):Int).toNat)+(if 0<n - m then 1 else 0)<2*(gs.length - ((t:Nat):Int).toNat)+(if 0<n then 1 else 0)
     rw[if_neg (by lia),if_pos n1];lia
   rintro ρ ⟨t,n,lk,ps,y,G,hn,rfl⟩;have hlp:=G.n1;have htl:=G.gr.tl;repeat (first | dsimp only[jh] | walk_at "rs1" | walk_at "rsx")
   refine ⟨λh=>⟨(λz=>nomatch z),by rw[sl];show 4<=16777216;decide,(λz=>nomatch z),(λz=>nomatch z),by rw[sl];show 5<=16777216;decide,by rw[length_map];lia,?_⟩,λh=>?_⟩
   .have h0:=of_decide_eq_true h;have B:=G.J1 sg st hk1 h0 kb.1 kb.2 (hn.resolve_left (by lia));exact ⟨t,lk,_,wv 6 [_,_,_,_],B,by rw[map_append];rfl⟩
   .have h0:n=0:=by
     have:=of_decide_eq_false h;have:=G.n0;lia
    subst h0;exact ⟨t,lk,ps,wv 6 [_,_,_,_],G.done hk1,rfl⟩
  .rintro ρ ⟨t,lk,ps,y,G,rfl⟩;rw[length_map] at G;exact hN _ ⟨ts,t,lk,ps,y,st,G,rfl⟩
 rintro ρ ⟨ts,t,lk,ps,y,st,G,rfl⟩;obtain ⟨Z,ti,ln⟩:=G.finish sg st;have ls:=st.len;have lp:=G.n;have tl:=G.gr.tl;refine cD (λρ=>ρ = [some (.p (dW g hs cs)),some (.o (.dct lk)),some (.p (.dct ck)),some (.p (.lst (gs.map jh))),some (.o (.lst ((ps++gS gs t lk).map d5))),some (.p (.int (t:Nat))),y 6,y 7,y 8,y 9]) ?_ λN hN=>?_;rotate_left
 .walk_at "rs";rw[tJ,<-map_drop];refine xh (λx y e=>?_) (λk=>d5 (k.1,k.2,-1,-1,(bh lk k).getD 0)) (by rw[length_drop];lia) (λk hk2=>?_) ?_
  .unfold jh at e;simp only[D.tup.injEq,List.cons.injEq,D.int.injEq,and_true] at e;exact Prod.ext e.1 e.2
  .obtain ⟨j,hj⟩:=mem_iff_getElem?.mp (mem_of_mem_drop hk2);obtain ⟨v,hv,_⟩:=G.gr.ud j k hj;have hv2:bh lk (k.1,k.2)=some v:=hv;repeat (first | dsimp only[jh] | walk_at "rs1" | walk_at "rsx")
   refine ⟨(λz=>nomatch z),by rw[sl];show 4<=16777216;decide,v,hv2,(λz=>nomatch z),(λz=>nomatch z),by rw[sl];show 5<=16777216;decide,?_⟩;rw[hv];rfl
  have e:(gs.drop t).map (λk=>d5 (k.1,k.2,-1,-1,(bh lk k).getD 0))=(gS gs t lk).map d5:=by unfold gS;rw[map_map];rfl
  rw[e];refine ⟨Ag _,?_,?_⟩
  .rw[length_map,length_map];rw[length_append] at ln;lia
  .rw[<-map_append];exact hN _ rfl
 rintro ρ rfl;walk_at "rs";refine ⟨(ps++gS gs t lk).map l5,5,by rw[map_map];rfl,by decide,λns hn=>?_,λmss hp hu=>?_⟩
 .obtain ⟨p,_,rfl⟩:=mem_map.mp hn;rfl
 .obtain ⟨qs,hq,rfl⟩:=jD hp _ rfl;rw[map_map];exact q qs (Z.perm hq) hu (by rw[hq.length_eq];lia) (ti.imp (λz p hp=>z p (hq.mem_iff.mp hp)) (by rintro ⟨L,hL,z⟩;exact ⟨L,hL,λp hp=>z p (hq.mem_iff.mp hp)⟩))
theorem E5 {α β:Type}{f g:α->β}{l:List α}(h:∀x∈l,f x=g x):l.map f=l.map g:=map_congr_left h
noncomputable def jE:DR:=λds P=>∃g hs cs,ds = [dW g hs cs]/\hs.length<=12/\P (.o (.lst ((dO hs).map d3)))
theorem sk (T:j8 K mg)(F:je K "hot_bands" "hot_bands" cV f fd):bx P w K mg base fU 1 f fd ["works"] (bN K jE):=by
 refine mK F sO (λds Q h=>by obtain ⟨g,hs,cs,rfl,hl,q⟩:=h;rfl) λcdv A outer s H E hr=>⟨_,(ai (aN (gJ (g:=(.t [0,1,2])) (tc:=bj) (te:=(gH (aU (aS 1) (aU (aS 0) (aU (aS 2) cQ))))) (sc0:=af cV) (N0:=["works"]) ["start","goal","rate"] [none,none,none] rfl (cZ (aF (dv 0) ae)) (λ_ _ _ _ _=>(hO rfl (aH (ak (i:=0) (show (["start","goal","rate"]:List Str).Nodup by decide +kernel) rfl (Or.inl rfl)) (aH (ak (i:=1) (show (["start","goal","rate"]:List Str).Nodup by decide +kernel) rfl (Or.inl rfl)) (aH (ak (i:=2) (show (["start","goal","rate"]:List Str).Nodup by decide +kernel) rfl (Or.inl rfl)) fm))))) (λ_ _ _ _ _=>cR) (λ_ _ _ _ _=>(dD (aa (dv 1) (aa (dv 0) (aa (dv 2) ah)))))))),λds Q h=>?_⟩
 obtain ⟨g,hs,cs,rfl,hl,q⟩:=h;try dsimp only[iN,eL,iM,fK,dR,iI,ic,dU,dS,fL,du,hX,iG,hV,fH,dw,bX,dr,eJ,iH,fI,eK,aS,dC,g6,dI,ou,gG,hZ,j6,fJ,rM,h8,eN,eG,j7,fv,h9,hU,qD,j5,cK,cQ,aU,gH,gZ,cN,mB,gY,pR,jg,iJ,eI,ow,bz,eO,sV,ji,gm,iL,iK,bj,aT,dput,bu,iP,B.val,ba,Tg.d,putN,cM,dF,cm,cn,bY,aw,bK,aD,bC,kd,nC,List.map,List.length,dW]
 refine ⟨_,rfl,?_⟩;refine kK (λx=>match x with | .tup [a,b,c]=>.tup [b,a,c] | d=>d) (by rw[length_map];lia) (λx hx=>?_) ?_
 .obtain ⟨y,hy,rfl⟩:=mem_map.mp hx;rfl
 .rw[map_map];unfold dO at q;rw[map_map] at q;exact q
noncomputable def iS:DR:=λds P=>∃g hs cs,ds = [dW g hs cs]/\cs.length<=12/\P (.o (.lst ((gj g cs).map d3)))
theorem pW (T:j8 K mg)(F:je K "cold_bands" "cold_bands" cx f fd):bx P w K mg base fU 1 f fd ["works"] (bN K iS):=by
 refine mK F kn (λds Q h=>by obtain ⟨g,hs,cs,rfl,hl,q⟩:=h;rfl) λcdv A outer s H E hr=>⟨_,(ag (ay (i:=1) kn.nd rfl (Or.inr rfl) (aF (dv 0) ae))
   (ai (aN (gJ (g:=(.t [0,1,2])) (tc:=bj) (te:=(gH (aU (g6 _ (aS 0) (aS 3)) (aU (g6 _ (aS 1) (aS 3)) (aU (aS 2) cQ))))) (sc0:=af cx) (N0:=["works","gap"]) ["start","goal","rate","gap"] [none,none,none,some 1] rfl (cZ (aF (dv 0) ae)) (λ_ _ _ _ _=>(hO rfl (aH (ak (i:=0) (show (["start","goal","rate","gap"]:List Str).Nodup by decide +kernel) rfl (Or.inl rfl)) (aH (ak (i:=1) (show (["start","goal","rate","gap"]:List Str).Nodup by decide +kernel) rfl (Or.inl rfl)) (aH (ak (i:=2) (show (["start","goal","rate","gap"]:List Str).Nodup by decide +kernel) rfl (Or.inl rfl)) fm))))) (λ_ _ _ _ _=>cR) (λ_ _ _ _ _=>(dD (aa (au aK (dv 0) (dv 3)) (aa (au aK (dv 1) (dv 3)) (aa (dv 2) ah))))))))),λds Q h=>?_⟩
 obtain ⟨g,hs,cs,rfl,hl,q⟩:=h;try dsimp only[iN,eL,iM,fK,dR,iI,ic,dU,dS,fL,du,hX,iG,hV,fH,dw,bX,dr,eJ,iH,fI,eK,aS,dC,g6,dI,ou,gG,hZ,j6,fJ,rM,h8,eN,eG,j7,fv,h9,hU,qD,j5,cK,cQ,aU,gH,gZ,cN,mB,gY,pR,jg,iJ,eI,ow,bz,eO,sV,ji,gm,iL,iK,bj,aT,dput,bu,iP,B.val,ba,Tg.d,putN,cM,dF,cm,cn,bY,aw,bK,aD,bC,kd,nC,List.map,List.length,dW]
 refine ⟨_,rfl,_,rfl,?_⟩;refine kK (λx=>match x with | .tup [.int a,.int b,c]=>.tup [.int (a+g),.int (b+g),c] | d=>d) (by rw[length_map];lia) (λx hx=>?_) ?_
 .obtain ⟨y,hy,rfl⟩:=mem_map.mp hx;rfl
 .rw[map_map];unfold gj at q;rw[map_map] at q;exact q
noncomputable def iT:DR:=λds P=>∃(bs:List S3) (L:Int),ds = [.lst (bs.map d3),.int L]/\bs.length<=12/\(∀b∈bs,0<=b.2.2/\b.2.2<=1000000000)/\P (.p (.int (above bs L)))
theorem pX (T:j8 K mg)(F:je K "heat_above" "heat_above" cy f fd):bx P w K mg base fU 1 f fd ["bands","level"] (bN K iT):=by
 refine mK F qc (λds Q h=>by obtain ⟨bs,L,rfl,hl,hb,q⟩:=h;rfl) λcdv A outer s H E hr=>⟨_,(ai (aN (aG (zH rfl) (by rfl) T.DM boot_sum (aa (gJ (g:=(.t [0,1,2])) (tc:=bj) (te:=(g6 _ (aS 2) (mB _ (aU (dC _) (aU (g6 _ (aS 1) (mB _ (aU (aS 0) (aU (aS 3) cQ)))) cQ))))) (sc0:=af cy) (N0:=["bands","level"]) ["low","high","rate","level"] [none,none,none,some 1] rfl (cZ (dv 0)) (λ_ _ _ _ _=>(hO rfl (aH (ak (i:=0) (show (["low","high","rate","level"]:List Str).Nodup by decide +kernel) rfl (Or.inl rfl)) (aH (ak (i:=1) (show (["low","high","rate","level"]:List Str).Nodup by decide +kernel) rfl (Or.inl rfl)) (aH (ak (i:=2) (show (["low","high","rate","level"]:List Str).Nodup by decide +kernel) rfl (Or.inl rfl)) fm))))) (λ_ _ _ _ _=>cR) (λ_ _ _ _ _=>(au iw (dv 2) (aG (jS rfl) (by rfl) T.ka boot_max (aa ae (aa (au fD (dv 1) (aG (jS rfl) (by rfl) T.ka boot_max (aa (dv 0) (aa (dv 3) ah)))) ah)))))) ah)))),λds Q h=>?_⟩
 obtain ⟨bs,L,rfl,hl,hb,q⟩:=h;try dsimp only[iN,eL,iM,fK,dR,iI,ic,dU,dS,fL,du,hX,iG,hV,fH,dw,bX,dr,eJ,iH,fI,eK,aS,dC,g6,dI,ou,gG,hZ,j6,fJ,rM,h8,eN,eG,j7,fv,h9,hU,qD,j5,cK,cQ,aU,gH,gZ,cN,mB,gY,pR,jg,iJ,eI,ow,bz,eO,sV,ji,gm,iL,iK,bj,aT,dput,bu,iP,B.val,ba,Tg.d,putN,cM,dF,cm,cn,bY,aw,bK,aD,bC,kd,nC,List.map,List.length]
 refine kK (λx=>match x with | .tup [.int a,.int b,.int c]=>.int (jr (a,b,c) L) | d=>d) (by rw[length_map];lia) (λx hx=>?_) ?_
 .obtain ⟨y,hy,rfl⟩:=mem_map.mp hx;have:=hb y hy;try dsimp only[iN,eL,iM,fK,dR,iI,ic,dU,dS,fL,du,hX,iG,hV,fH,dw,bX,dr,eJ,iH,fI,eK,aS,dC,g6,dI,ou,gG,hZ,j6,fJ,rM,h8,eN,eG,j7,fv,h9,hU,qD,j5,cK,cQ,aU,gH,gZ,cN,mB,gY,pR,jg,iJ,eI,ow,bz,eO,sV,ji,gm,iL,iK,bj,aT,dput,bu,iP,B.val,ba,Tg.d,putN,cM,dF,cm,cn,bY,aw,bK,aD,bC,kd,nC,List.map,List.length,d3]
  exact ⟨mulL ⟨by lia,by lia⟩,rfl⟩
 .rw[map_map];have e:List.map ((λx=>match x with | .tup [.int a,.int b,.int c]=>.int (jr (a,b,c) L) | d=>d)∘d3) bs=(bs.map λb=>jr b L).map D.int:=by
   rw[map_map];exact E5 λy _=>rfl
  rw[e];exact wG q
theorem e7.vF {g:Int}{hs cs:List S3}(o:e7 g hs cs):∀b∈dO hs,0<=b.2.2/\b.2.2<=1000000000:=λb hb=>by
 obtain ⟨x,hx,rfl⟩:=mem_map.mp hb;have h:=o.yz x hx;exact ⟨by have:=h.r0;show 0<=x.2.2;lia,h.r1⟩
theorem e7.oo {g:Int}{hs cs:List S3}(o:e7 g hs cs):∀b∈gj g cs,0<=b.2.2/\b.2.2<=1000000000:=λb hb=>by
 obtain ⟨x,hx,rfl⟩:=mem_map.mp hb;have h:=o.mz x hx;exact ⟨by have:=h.r0;show 0<=x.2.2;lia,h.r1⟩
theorem ug (hs:List S3):(dO hs).length=hs.length:=by unfold dO;simp
theorem yj (g:Int)(cs:List S3):(gj g cs).length=cs.length:=by unfold gj;simp
noncomputable def fQ:DR:=λds P=>∃g hs cs L,ds = [dW g hs cs,.int L]/\e7 g hs cs/\P (.p (.int (aQ g hs cs L)))
theorem pZ (T:j8 K mg)(F_heat_above:Fn P w K mg base "heat_above" 1 ["bands","level"] (bN K iT))(F_cold_bands:Fn P w K mg base "cold_bands" 1 ["works"] (bN K iS))(F_hot_bands:Fn P w K mg base "hot_bands" 1 ["works"] (bN K jE))(F:je K "lack_above" "lack_above" dg f fd):bx P w K mg base fU 2 f fd ["works","level"] (bN K fQ):=by
 refine mK F qf (λds Q h=>by obtain ⟨g,hs,cs,L,rfl,ok,q⟩:=h;rfl) λcdv A outer s H E hr=>⟨_,(ai (aN (au fD (aV F_heat_above (hr.mono (by decide)) (by rfl) (aa (aV F_cold_bands (hr.mono (by decide)) (by rfl) (aa (dv 0) ah)) (aa (dv 1) ah))) (aV F_heat_above (hr.mono (by decide)) (by rfl) (aa (aV F_hot_bands (hr.mono (by decide)) (by rfl) (aa (dv 0) ah)) (aa (dv 1) ah)))))),λds Q h=>?_⟩
 obtain ⟨g,hs,cs,L,rfl,ok,q⟩:=h;try dsimp only[iN,eL,iM,fK,dR,iI,ic,dU,dS,fL,du,hX,iG,hV,fH,dw,bX,dr,eJ,iH,fI,eK,aS,dC,g6,dI,ou,gG,hZ,j6,fJ,rM,h8,eN,eG,j7,fv,h9,hU,qD,j5,cK,cQ,aU,gH,gZ,cN,mB,gY,pR,jg,iJ,eI,ow,bz,eO,sV,ji,gm,iL,iK,bj,aT,dput,bu,iP,B.val,ba,Tg.d,putN,cM,dF,cm,cn,bY,aw,bK,aD,bC,kd,nC,List.map,List.length]
 refine ⟨g,hs,cs,rfl,ok.nc,?_⟩;try dsimp only[iN,eL,iM,fK,dR,iI,ic,dU,dS,fL,du,hX,iG,hV,fH,dw,bX,dr,eJ,iH,fI,eK,aS,dC,g6,dI,ou,gG,hZ,j6,fJ,rM,h8,eN,eG,j7,fv,h9,hU,qD,j5,cK,cQ,aU,gH,gZ,cN,mB,gY,pR,jg,iJ,eI,ow,bz,eO,sV,ji,gm,iL,iK,bj,aT,dput,bu,iP,B.val,ba,Tg.d,putN,cM,dF,cm,cn,bY,aw,bK,aD,bC,kd,nC,List.map,List.length]
 refine ⟨_,L,rfl,by rw[yj];exact ok.nc,ok.oo,g,hs,cs,rfl,ok.nh,?_⟩;try dsimp only[iN,eL,iM,fK,dR,iI,ic,dU,dS,fL,du,hX,iG,hV,fH,dw,bX,dr,eJ,iH,fI,eK,aS,dC,g6,dI,ou,gG,hZ,j6,fJ,rM,h8,eN,eG,j7,fv,h9,hU,qD,j5,cK,cQ,aU,gH,gZ,cN,mB,gY,pR,jg,iJ,eI,ow,bz,eO,sV,ji,gm,iL,iK,bj,aT,dput,bu,iP,B.val,ba,Tg.d,putN,cM,dF,cm,cn,bY,aw,bK,aD,bC,kd,nC,List.map,List.length]
 exact ⟨_,L,rfl,by rw[ug];exact ok.nh,ok.vF,q⟩
noncomputable def bg (g:Int)(hs cs:List S3):List Int:=(List.range 251).map λi=>aQ g hs cs (i:Nat)
noncomputable def fq:DR:=λds P=>∃g hs cs,ds = [dW g hs cs]/\e7 g hs cs/\P (.o (.lst ((bg g hs cs).map D.int)))
theorem oS (T:j8 K mg)(F_lack_above:Fn P w K mg base "lack_above" 2 ["works","level"] (bN K fQ))(F:je K "lacks_above" "lacks_above" bT f fd):bx P w K mg base fU 3 f fd ["works"] (bN K fq):=by
 refine mK F pB (λds Q h=>by obtain ⟨g,hs,cs,rfl,ok,q⟩:=h;rfl) λcdv A outer s H E hr=>⟨_,(ai (aN (gJ (g:=(.n 0)) (tc:=bj) (te:=(cN _ (aU (aS 1) (aU (aS 0) cQ)))) (sc0:=af bT) (N0:=["works"]) ["level","works"] [none,some 0] rfl (gu (by rfl) T.fj (aa (au aK (m9 (by rfl) T.Ai) ae) ah)).di (λ_ _ _ _ _=>(ak (i:=0) (show (["level","works"]:List Str).Nodup by decide +kernel) rfl (Or.inl rfl))) (λ_ _ _ _ _=>cR) (λ_ _ _ _ _=>(aV F_lack_above (hr.mono (by decide)) (by rfl) (aa (dv 1) (aa (dv 0) ah))))))),λds Q h=>?_⟩
 obtain ⟨g,hs,cs,rfl,ok,q⟩:=h;try dsimp only[iN,eL,iM,fK,dR,iI,ic,dU,dS,fL,du,hX,iG,hV,fH,dw,bX,dr,eJ,iH,fI,eK,aS,dC,g6,dI,ou,gG,hZ,j6,fJ,rM,h8,eN,eG,j7,fv,h9,hU,qD,j5,cK,cQ,aU,gH,gZ,cN,mB,gY,pR,jg,iJ,eI,ow,bz,eO,sV,ji,gm,iL,iK,bj,aT,dput,bu,iP,B.val,ba,Tg.d,putN,cM,dF,cm,cn,bY,aw,bK,aD,bC,kd,nC,List.map,List.length]
 refine ⟨by decide,?_⟩;refine kK (λx=>match x with | .int L=>.int (aQ g hs cs L) | d=>d) (by rw[bJ];decide) (λx hx=>?_) ?_
 .obtain ⟨i,hi,rfl⟩:=kM hx;exact ⟨g,hs,cs,_,rfl,ok,rfl⟩
 .have e:List.map (λx=>match x with | D.int L=>D.int (aQ g hs cs L) | d=>d) (dQ 0 (Int.toNat (250+1)))=(bg g hs cs).map D.int:=by
   unfold dQ bg;rw[map_map,map_map];refine E5 λi _=>?_;show D.int (aQ g hs cs (0+(i:Nat)))=D.int (aQ g hs cs (i:Nat));rw[Int.zero_add]
  rw[e];exact q
theorem qQ {g:Int}{hs cs:List S3}{n:Int}(h:n∈bg g hs cs):∃i:Nat,i<251/\n=aQ g hs cs (i:Nat):=by
 unfold bg at h;obtain ⟨i,hi,e⟩:=mem_map.mp h;exact ⟨i,mem_range.mp hi,e.symm⟩
theorem lJ {g:Int}{hs cs:List S3}{i:Nat}(h:i<251):aQ g hs cs (i:Nat)∈bg g hs cs:=mem_map.mpr ⟨i,mem_range.mpr h,rfl⟩
structure eE (g:Int)(hs cs:List S3)(m:Int):Prop where
 z:0<=m
 ub:∀i:Nat,i<251->aQ g hs cs (i:Nat)<=m
 at':m=0\/∃i:Nat,i<251/\m=aQ g hs cs (i:Nat)
theorem eE.uniq {g:Int}{hs cs:List S3}{m m':Int}(h:eE g hs cs m)(h':eE g hs cs m'):m=m':=by
 have key:∀{a b:Int},eE g hs cs a->eE g hs cs b->a<=b:=λ{a b} x y=>by
  rcases x.at' with e | ⟨i,hi,e⟩
  .rw[e];exact y.z
  .rw[e];exact y.ub i hi
 exact Int.le_antisymm (key h h') (key h' h)
noncomputable def eV:DR:=λds P=>∃g hs cs,ds = [dW g hs cs]/\e7 g hs cs/\∀m,eE g hs cs m->P (.p (.int m))
theorem p9 (T:j8 K mg)(F_lacks_above:Fn P w K mg base "lacks_above" 3 ["works"] (bN K fq))(F:je K "least_heat" "least_heat" dm f fd):bx P w K mg base fU 4 f fd ["works"] (bN K eV):=by
 refine mK F qi (λds Q h=>by obtain ⟨g,hs,cs,rfl,ok,q⟩:=h;rfl) λcdv A outer s H E hr=>⟨_,(ai (aN (aG (rD rfl) (by rfl) T.ka boot_max (aa (au aK (dA (aa ae ah)) (aV F_lacks_above (hr.mono (by decide)) (by rfl) (aa (dv 0) ah))) ah)))),λds Q h=>?_⟩
 obtain ⟨g,hs,cs,rfl,ok,q⟩:=h;try dsimp only[iN,eL,iM,fK,dR,iI,ic,dU,dS,fL,du,hX,iG,hV,fH,dw,bX,dr,eJ,iH,fI,eK,aS,dC,g6,dI,ou,gG,hZ,j6,fJ,rM,h8,eN,eG,j7,fv,h9,hU,qD,j5,cK,cQ,aU,gH,gZ,cN,mB,gY,pR,jg,iJ,eI,ow,bz,eO,sV,ji,gm,iL,iK,bj,aT,dput,bu,iP,B.val,ba,Tg.d,putN,cM,dF,cm,cn,bY,aw,bK,aD,bC,kd,nC,List.map,List.length]
 refine ⟨g,hs,cs,rfl,ok,?_⟩;try dsimp only[iN,eL,iM,fK,dR,iI,ic,dU,dS,fL,du,hX,iG,hV,fH,dw,bX,dr,eJ,iH,fI,eK,aS,dC,g6,dI,ou,gG,hZ,j6,fJ,rM,h8,eN,eG,j7,fv,h9,hU,qD,j5,cK,cQ,aU,gH,gZ,cN,mB,gY,pR,jg,iJ,eI,ow,bz,eO,sV,ji,gm,iL,iK,bj,aT,dput,bu,iP,B.val,ba,Tg.d,putN,cM,dF,cm,cn,bY,aw,bK,aD,bC,kd,nC,List.map,List.length]
 refine ⟨by rw[length_map];unfold bg;rw[length_map,length_range];exact eu (by decide),0::bg g hs cs,rfl,List.cons_ne_nil _ _,λm h1 h2=>q m ⟨h2 0 mem_cons_self,λi hi=>h2 _ (mem_cons_of_mem _ (lJ hi)),?_⟩⟩;rcases List.mem_cons.mp h1 with e | e
 .exact .inl e
 .obtain ⟨i,hi,e⟩:=qQ e;exact .inr ⟨i,hi,e⟩
noncomputable def iW:DR:=λds P=>∃g hs cs,ds = [dW g hs cs]/\e7 g hs cs/\∀m,eE g hs cs m->P (.p (.int (m - aQ g hs cs 0)))
theorem p8 (T:j8 K mg)(F_least_heat:Fn P w K mg base "least_heat" 4 ["works"] (bN K eV))(F_lack_above:Fn P w K mg base "lack_above" 2 ["works","level"] (bN K fQ))(F:je K "least_cold" "least_cold" dj f fd):bx P w K mg base fU 5 f fd ["works"] (bN K iW):=by
 refine mK F qh (λds Q h=>by obtain ⟨g,hs,cs,rfl,ok,q⟩:=h;rfl) λcdv A outer s H E hr=>⟨_,(ai (aN (au fD (aV F_least_heat (hr.mono (by decide)) (by rfl) (aa (dv 0) ah)) (aV F_lack_above (hr.mono (by decide)) (by rfl) (aa (dv 0) (aa ae ah)))))),λds Q h=>?_⟩
 obtain ⟨g,hs,cs,rfl,ok,q⟩:=h;try dsimp only[iN,eL,iM,fK,dR,iI,ic,dU,dS,fL,du,hX,iG,hV,fH,dw,bX,dr,eJ,iH,fI,eK,aS,dC,g6,dI,ou,gG,hZ,j6,fJ,rM,h8,eN,eG,j7,fv,h9,hU,qD,j5,cK,cQ,aU,gH,gZ,cN,mB,gY,pR,jg,iJ,eI,ow,bz,eO,sV,ji,gm,iL,iK,bj,aT,dput,bu,iP,B.val,ba,Tg.d,putN,cM,dF,cm,cn,bY,aw,bK,aD,bC,kd,nC,List.map,List.length]
 refine ⟨g,hs,cs,rfl,ok,λm hm=>?_⟩;try dsimp only[iN,eL,iM,fK,dR,iI,ic,dU,dS,fL,du,hX,iG,hV,fH,dw,bX,dr,eJ,iH,fI,eK,aS,dC,g6,dI,ou,gG,hZ,j6,fJ,rM,h8,eN,eG,j7,fv,h9,hU,qD,j5,cK,cQ,aU,gH,gZ,cN,mB,gY,pR,jg,iJ,eI,ow,bz,eO,sV,ji,gm,iL,iK,bj,aT,dput,bu,iP,B.val,ba,Tg.d,putN,cM,dF,cm,cn,bY,aw,bK,aD,bC,kd,nC,List.map,List.length]
 exact ⟨g,hs,cs,0,rfl,ok,q m hm⟩
noncomputable def kX (g:Int)(hs cs:List S3)(m:Int)(d:D):Prop:=(m=0/\d=.non)\/(m≠0/\∃L:Nat,L<251/\d=.int (L:Nat)/\aQ g hs cs (L:Nat)=m/\∀i:Nat,i<251->aQ g hs cs (i:Nat)=m->i<=L)
noncomputable def sJ:DR:=λds P=>∃g hs cs,ds = [dW g hs cs]/\e7 g hs cs/\∀m d,eE g hs cs m->kX g hs cs m d->P (.p d)
theorem vB {g:Int}{hs cs:List S3}{x:D}(h:x∈bI 0 ((bg g hs cs).map D.int)):∃i:Nat,i<251/\x=.tup [.int (i:Nat),.int (aQ g hs cs (i:Nat))]:=by
  obtain ⟨i,hi⟩:=List.getElem?_of_mem h;obtain ⟨y,h1,h2⟩:=eQ hi;rw[getElem?_map] at h1;unfold bg at h1;rw[getElem?_map] at h1;have hlt:i<251:=by
    rcases Nat.lt_or_ge i 251 with z | z
    · exact z
    · rw [List.getElem?_eq_none (by rw [length_range];exact z)] at h1;cases h1
  rw[List.getElem?_range hlt] at h1;cases h1;rw[Nat.zero_add] at h2;exact ⟨i,hlt,h2⟩
theorem AU (T:j8 K mg)(F_least_heat:Fn P w K mg base "least_heat" 4 ["works"] (bN K eV))(F_lacks_above:Fn P w K mg base "lacks_above" 3 ["works"] (bN K fq))(F:je K "pinch" "pinch" i6 f fd):bx P w K mg base fU 5 f fd ["works"] (bN K sJ):=by
 refine mK F u5 (λds Q h=>by obtain ⟨g,hs,cs,rfl,ok,q⟩:=h;rfl) λcdv A outer s H E hr=>⟨_,(ag (ay (i:=1) u5.nd rfl (Or.inr rfl) (aV F_least_heat (hr.mono (by decide)) (by rfl) (aa (dv 0) ah)))
   (ag (bU (aA fb (dv 1) ae (ax _)) (ai (aN ju)) bf)
   (ai (aN (aG (rD rfl) (by rfl) T.ka boot_max (aa (gJ (g:=(.t [0,1])) (tc:=(fv (g6 _ (aS 1) (aS 2)))) (te:=(aS 0)) (sc0:=af i6) (N0:=["works","heat"]) ["level","lack","heat"] [none,none,some 1] rfl (lz (by rfl) T.m6 (aa (aV F_lacks_above (hr.mono (by decide)) (by rfl) (aa (dv 0) ah)) ah)) (λ_ _ _ _ _=>(hO rfl (aH (ak (i:=0) (show (["level","lack","heat"]:List Str).Nodup by decide +kernel) rfl (Or.inl rfl)) (aH (ak (i:=1) (show (["level","lack","heat"]:List Str).Nodup by decide +kernel) rfl (Or.inl rfl)) fm)))) (λ_ _ _ _ _=>(jv (aA fb (dv 1) (dv 2) (ax _)))) (λ_ _ _ _ _=>(dv 0))) ah)))))),λds Q h=>?_⟩
 obtain ⟨g,hs,cs,rfl,ok,q⟩:=h;try dsimp only[iN,eL,iM,fK,dR,iI,ic,dU,dS,fL,du,hX,iG,hV,fH,dw,bX,dr,eJ,iH,fI,eK,aS,dC,g6,dI,ou,gG,hZ,j6,fJ,rM,h8,eN,eG,j7,fv,h9,hU,qD,j5,cK,cQ,aU,gH,gZ,cN,mB,gY,pR,jg,iJ,eI,ow,bz,eO,sV,ji,gm,iL,iK,bj,aT,dput,bu,iP,B.val,ba,Tg.d,putN,cM,dF,cm,cn,bY,aw,bK,aD,bC,kd,nC,List.map,List.length]
 refine ⟨g,hs,cs,rfl,ok,λm hm=>?_⟩;try dsimp only[iN,eL,iM,fK,dR,iI,ic,dU,dS,fL,du,hX,iG,hV,fH,dw,bX,dr,eJ,iH,fI,eK,aS,dC,g6,dI,ou,gG,hZ,j6,fJ,rM,h8,eN,eG,j7,fv,h9,hU,qD,j5,cK,cQ,aU,gH,gZ,cN,mB,gY,pR,jg,iJ,eI,ow,bz,eO,sV,ji,gm,iL,iK,bj,aT,dput,bu,iP,B.val,ba,Tg.d,putN,cM,dF,cm,cn,bY,aw,bK,aD,bC,kd,nC,List.map,List.length]
 refine ⟨λh0=>q m .non hm (.inl ⟨of_decide_eq_true h0,rfl⟩),λh0=>?_⟩;have h0':m≠0:=of_decide_eq_false h0;refine ⟨g,hs,cs,rfl,ok,?_⟩;try dsimp only[iN,eL,iM,fK,dR,iI,ic,dU,dS,fL,du,hX,iG,hV,fH,dw,bX,dr,eJ,iH,fI,eK,aS,dC,g6,dI,ou,gG,hZ,j6,fJ,rM,h8,eN,eG,j7,fv,h9,hU,qD,j5,cK,cQ,aU,gH,gZ,cN,mB,gY,pR,jg,iJ,eI,ow,bz,eO,sV,ji,gm,iL,iK,bj,aT,dput,bu,iP,B.val,ba,Tg.d,putN,cM,dF,cm,cn,bY,aw,bK,aD,bC,kd,nC,List.map,List.length]
 refine oN (λx=>match x with | .tup [a,.int b]=>if b=m then some a else none | _=>none) (by rw[eR,length_map];unfold bg;simp) (λx hx=>?_) ?_
 .obtain ⟨i,hi,rfl⟩:=vB hx;try dsimp only[iN,eL,iM,fK,dR,iI,ic,dU,dS,fL,du,hX,iG,hV,fH,dw,bX,dr,eJ,iH,fI,eK,aS,dC,g6,dI,ou,gG,hZ,j6,fJ,rM,h8,eN,eG,j7,fv,h9,hU,qD,j5,cK,cQ,aU,gH,gZ,cN,mB,gY,pR,jg,iJ,eI,ow,bz,eO,sV,ji,gm,iL,iK,bj,aT,dput,bu,iP,B.val,ba,Tg.d,putN,cM,dF,cm,cn,bY,aw,bK,aD,bC,kd,nC,List.map,List.length]
  refine ⟨λc=>?_,λc=>?_⟩
  .rw[if_pos (of_decide_eq_true c)]
  .rw[if_neg (of_decide_eq_false c)]
 .have hfm:∃ns:List Int,(bI 0 ((bg g hs cs).map D.int)).filterMap (λx=>match x with | .tup [a,.int b]=>if b=m then some a else none | _=>none)=ns.map D.int/\∀n,n∈ns↔∃i:Nat,i<251/\n=(i:Nat)/\aQ g hs cs (i:Nat)=m:=by
   have e:(bg g hs cs).map D.int=(List.range 251).map λi=>D.int (aQ g hs cs (i:Nat)):=by unfold bg;rw[map_map];rfl
   refine ⟨((List.range 251).filter λi=>decide (aQ g hs cs (i:Nat)=m)).map λi=>((i:Nat):Int),?_,λn=>⟨λh=>?_,λ⟨i,hi,e1,e2⟩=>?_⟩⟩
   .rw[e,oD,List.filterMap_map,map_map];exact g9 (λi:Nat=>aQ g hs cs (i:Nat)=m) (λi=>D.int (i:Nat)) (List.range 251)
   .obtain ⟨i,hi,e⟩:=mem_map.mp h;obtain ⟨h1,h2⟩:=List.mem_filter.mp hi;exact ⟨i,mem_range.mp h1,e.symm,of_decide_eq_true h2⟩
   .exact mem_map.mpr ⟨i,List.mem_filter.mpr ⟨mem_range.mpr hi,decide_eq_true e2⟩,e1.symm⟩
  obtain ⟨ns,e1,e2⟩:=hfm;rw[e1];refine ⟨ns,rfl,?_,λL h1 h2=>?_⟩
  .rcases hm.at' with e | ⟨i,hi,e⟩
   .exact absurd e h0'
   .exact List.ne_nil_of_mem ((e2 _).mpr ⟨i,hi,rfl,e.symm⟩)
  .obtain ⟨i,hi,rfl,e⟩:=(e2 _).mp h1;refine q m _ hm (.inr ⟨h0',i,hi,rfl,e,λj hj ej=>?_⟩);have:=h2 _ ((e2 _).mpr ⟨j,hj,rfl,ej⟩);lia
noncomputable def tF (ns:List Int)(k:Int):Int:=if k<ns.length then ns.getD k.toNat 0 else 0
noncomputable def ft:DR:=λds P=>∃(ns:List Int) (k:Int),ds = [.scr ns,.int k]/\0<=k/\P (.p (.int (tF ns k)))
theorem oT (T:j8 K mg)(F:je K "_law_cell_at" "_law_cell_at" cG f fd):bx P w K mg base fU 1 f fd ["script","k"] (bN K ft):=by
 refine mK F pC (λds Q h=>by obtain ⟨ns,k,rfl,k0,q⟩:=h;rfl) λcdv A outer s H E hr=>⟨_,(ag (bU (aA qV (dv 1) (aG gX (by rfl) T.j9 PySem.boot_len (aa (dv 0) ah)) (ax _)) (ai (aN (aF (dv 0) (dv 1)))) bf)
   (ai (aN ae))),λds Q h=>?_⟩
 obtain ⟨ns,k,rfl,k0,q⟩:=h;obtain ⟨n,rfl⟩ : ∃n:Nat,k=(n:Nat):=⟨k.toNat,by lia⟩
 walk_at "rs";unfold tF at q;refine ⟨λz=>?_,λz=>?_⟩
 .have hz:=of_decide_eq_true z;rw[if_pos hz] at q;have e:=getElem?_eq_getElem (l:=ns) (i:=n) (by lia);refine ⟨ns.getD n 0,?_,q⟩;rw[getD_eq_getElem?_getD,e];exact iE e
 .rw[if_neg (of_decide_eq_false z)] at q;exact q
noncomputable def E6 (c k:Int):Int:=
 let f:=(c % 2147483629+101*k+7) % 2147483629
 (f*f % 2147483587+f / 5)*48271 % 2147483647
noncomputable def jF:DR:=λds P=>∃c k:Int,ds = [.int c,.int k]/\P (.p (.int (E6 c k)))
theorem so (T:j8 K mg)(F:je K "_law_mixed" "_law_mixed" d9 f fd):bx P w K mg base fU 1 f fd ["cell","k"] (bN K jF):=by
 refine mK F i8 (λds Q h=>by obtain ⟨c,k,rfl,q⟩:=h;rfl) λcdv A outer s H E hr=>⟨_,(ag (ay (i:=2) i8.nd rfl (Or.inl rfl) (au cU (au aK (au aK (au cU (dv 0) ae) (au iw ae (dv 1))) ae) ae))
   (ag (ay (i:=2) i8.nd rfl (Or.inl rfl) (au aK (au cU (au iw (dv 2) (dv 2)) ae) (au dN (dv 2) ae)))
   (ai (aN (au cU (au iw (dv 2) ae) ae))))),λds Q h=>?_⟩
 obtain ⟨c,k,rfl,q⟩:=h;have p0:=Int.emod_nonneg (c % 2147483629+101*k+7) (b:=2147483629) (by decide);have p1:=Int.emod_lt_of_pos (c % 2147483629+101*k+7) (b:=2147483629) (by decide);walk_at "rs";exact ⟨by decide,mulL (by decide),by decide,mulL ⟨by lia,by lia⟩,by decide,⟨by decide,by decide⟩,mulR (by decide),by decide,q⟩
noncomputable def kR:DR:=λds P=>∃(ns:List Int) (n k:Int),ds = [.scr ns,.int n,.int k]/\∀r:Int,1<=r->r<=1000000000->P (.p (.int r))
theorem uG (T:j8 K mg)(F:je K "_law_rate" "_law_rate" ff f fd):bx P w K mg base fU 1 f fd ["script","number","k"] (bN K kR):=by
 refine mK F ny (λds Q h=>by obtain ⟨ns,n,k,rfl,q⟩:=h;rfl) λcdv A outer s H E hr=>⟨_,(ag (ay (i:=3) ny.nd rfl (Or.inl rfl) (aF (dA (aa ae (aa (au Fd ae ae) ah))) (au cU (dv 1) ae)))
   (ai (aN (au aK ae (au cU (au aK (aG (zH rfl) (by rfl) T.DM boot_sum (aa (yo (dv 0) (dM (dv 2)) (dM ae) (dM ae)) ah)) (au dN (dv 1) ae)) (dv 3)))))),λds Q h=>?_⟩
 obtain ⟨ns,n,k,rfl,q⟩:=h;walk_at "rs";have e9:((10:Int) ^ (9:Int).toNat)=1000000000:=by decide
 rw[e9];obtain ⟨w,hw,h1,h2⟩ : ∃w,gF [D.int 9,D.int 1000000000] (n % 2)=some (.int w)/\0<w/\w<=1000000000:=by
  have e:n % 2=0\/n % 2=1:=by lia
  rcases e with e | e
  .rw[e];exact ⟨9,As _ _,by decide,by decide⟩
  .rw[e];exact ⟨1000000000,EX _ _ _,by decide,by decide⟩
 refine ⟨⟨by decide,by decide,by decide⟩,by decide,_,hw,by simp,wG ?_⟩;walk_at "rs";have u0:=Int.emod_nonneg ((dH ns (some k) (some 63) (some 8)).sum+n / 2) (b:=w) (by lia);have u1:=Int.emod_lt_of_pos ((dH ns (some k) (some 63) (some 8)).sum+n / 2) (b:=w) h1;exact ⟨⟨by decide,by decide⟩,h1,q _ (by lia) (by lia)⟩
theorem v9 (a b:Int)(c:Bool):∃w,gF [D.int a,D.int b] (if c=true then (1:Int) else 0)=some (.int w)/\(w=a\/w=b)/\(c=true->w=b)/\(c=false->w=a):=by
 cases c with
 | true=>exact ⟨b,EX _ _ _,.inr rfl,λ_=>rfl,λh=>(nomatch h)⟩
 | false=>exact ⟨a,As _ _,.inl rfl,λh=>(nomatch h),λ_=>rfl⟩
structure IK (g:Int)(hs cs:List S3):Prop where
 ok:e7 g hs cs
 g3:g<=3
 nh:hs.length<=4
 nc:cs.length<=4
 hw:∀x∈hs,x.1 - x.2.1<=15
 cw:∀x∈cs,x.2.1 - x.1<=15
noncomputable def jH:DR:=λds P=>∃ns:List Int,ds = [.scr ns]/\∀g hs cs,IK g hs cs->P (.p (dW g hs cs))
theorem su (T:j8 K mg)(F_law_cell_at:Fn P w K mg base "_law_cell_at" 1 ["script","k"] (bN K ft))(F_law_mixed:Fn P w K mg base "_law_mixed" 1 ["cell","k"] (bN K jF))(F_law_rate:Fn P w K mg base "_law_rate" 1 ["script","number","k"] (bN K kR))(F:je K "_law_works" "_law_works" ei f fd):bx P w K mg base fU 2 f fd ["script"] (bN K jH):=by
  refine mK F aO (λds Q h=>by obtain ⟨ns,rfl,q⟩:=h;rfl) λcdv A outer s H E hr=>⟨_,(ag (ay (i:=1) aO.nd rfl (Or.inl rfl) (aV F_law_cell_at (hr.mono (by decide)) (by rfl) (aa (dv 0) (aa ae ah))))
      (ag (ay (i:=2) aO.nd rfl (Or.inl rfl) (au cU (dv 1) ae))
      (ag (ay (i:=3) aO.nd rfl (Or.inl rfl) (aF (dA (aa (au cU (au dN (dv 1) ae) ae) (aa ae ah))) (fW vp (by rfl) T.tw boot_int (aa (jt fb (au cU (au dN (dv 1) ae) ae) ae (ax _)) ah))))
      (ag (g7 (i:=4) aO.nd rfl (Or.inl rfl) (dA ah))
      (ag (iO (g:=(.n 5)) PassesOwn.never rfl (gu (by rfl) T.fj (aa (au cU (au dN (dv 1) ae) ae) ah)) (ak (i:=5) aO.nd rfl (Or.inl rfl)) (ag (ay (i:=6) aO.nd rfl (Or.inl rfl) (aV F_law_mixed (hr.mono (by decide)) (by rfl) (aa (aV F_law_cell_at (hr.mono (by decide)) (by rfl) (aa (dv 0) (aa (au aK ae (dv 5)) ah))) (aa (dv 5) ah))))
      (ag (ay (i:=7) aO.nd rfl (Or.inl rfl) (au aK (au aK (dv 3) (dv 2)) (au cU (dv 6) ae)))
      (ag (ay (i:=8) aO.nd rfl (Or.inl rfl) (aF (dA (aa (au aK (au aK (dv 7) ae) (au cU (au dN (dv 6) ae) ae)) (aa ae ah))) (fW vp (by rfl) T.tw boot_int (aa (vy (jt fb (au cU (au dN (dv 6) ae) ae) ae (ax _)) (vA (jt jC (dv 7) ae (ax _)))) ah))))
      (ai (mC (i:=4) rfl (by walk_at "v") (dD (aa (dv 8) (aa (dv 7) (aa (aV F_law_rate (hr.mono (by decide)) (by rfl) (aa (dv 0) (aa (au dN (dv 6) ae) (aa (dv 5) ah)))) ah))))))))))
      (ag (g7 (i:=9) aO.nd rfl (Or.inl rfl) (dA ah))
      (ag (iO (g:=(.n 5)) PassesOwn.never rfl (gu (by rfl) T.fj (aa (au cU (au dN (dv 1) ae) ae) ah)) (ak (i:=5) aO.nd rfl (Or.inl rfl)) (ag (ay (i:=6) aO.nd rfl (Or.inl rfl) (aV F_law_mixed (hr.mono (by decide)) (by rfl) (aa (aV F_law_cell_at (hr.mono (by decide)) (by rfl) (aa (dv 0) (aa (au aK ae (dv 5)) ah))) (aa (au aK ae (dv 5)) ah))))
      (ag (ay (i:=7) aO.nd rfl (Or.inl rfl) (au aK (dv 3) (au cU (dv 6) ae)))
      (ag (ay (i:=8) aO.nd rfl (Or.inl rfl) (aF (dA (aa (au aK (au aK (dv 7) ae) (au cU (au dN (dv 6) ae) ae)) (aa ae ah))) (fW vp (by rfl) T.tw boot_int (aa (vy (jt fb (au cU (au dN (dv 6) ae) ae) ae (ax _)) (vA (jt jC (dv 7) ae (ax _)))) ah))))
      (ai (mC (i:=9) rfl (by walk_at "v") (dD (aa (dv 7) (aa (dv 8) (aa (aV F_law_rate (hr.mono (by decide)) (by rfl) (aa (dv 0) (aa (au dN (dv 6) ae) (aa (au aK ae (dv 5)) ah)))) ah))))))))))
      (ai (aN (dD (aa (dv 2) (aa (dv 4) (aa (dv 9) ah))))))))))))),λds Q h=>?_⟩
  obtain ⟨ns,rfl,q⟩:=h;repeat (first | dsimp only[ft] | walk_at "rs1" | walk_at "rsx")
  refine ⟨ns,0,rfl,by decide,?_⟩;generalize tF ns 0=c;walk_at "rs";have g0:=Int.emod_nonneg c (b:=4) (by decide);have g1:=Int.emod_lt_of_pos c (b:=4) (by decide);have b0:=Int.emod_nonneg (c / 100) (b:=181) (by decide);have b1:=Int.emod_lt_of_pos (c / 100) (b:=181) (by decide);obtain ⟨base,hb,hb1,_,_⟩:=v9 (c / 100 % 181) 185 (decide (c / 100 % 8=3));have hbase:0<=base/\base<=185:=by rcases hb1 with e | e<;>lia
  have n0:=Int.emod_nonneg (c / 4) (b:=5) (by decide);have n1:=Int.emod_lt_of_pos (c / 4) (b:=5) (by decide);have m0:=Int.emod_nonneg (c / 20) (b:=5) (by decide);have m1:=Int.emod_lt_of_pos (c / 20) (b:=5) (by decide);refine ⟨by decide,⟨by decide,by decide⟩,by decide,⟨by decide,by decide⟩,by decide,_,hb,⟨by decide,by decide⟩,by decide,⟨by lia,by lia⟩,?_⟩;have gle:c % 4<=3:=by lia
  refine dc (λi ρ=>∃hs a5 a6 a7 a8,hs.length=i/\(∀x∈hs,eZ x/\x.1 - x.2.1<=15)/\ρ = [some (.p (.scr ns)),some (.p (.int c)),some (.p (.int (c % 4))),some (.p (.int base)),some (.o (.lst (hs.map d3))),a5,a6,a7,a8,none]) ⟨[],none,none,none,none,rfl,λx hx=>(nomatch hx),rfl⟩ ?_ ?_
  · rintro i x ρ hx ⟨hs,a5,a6,a7,a8,e1,e2,rfl⟩;obtain ⟨hi,rfl⟩:=cC hx;rw[Int.zero_add];walk_at "rs";refine ⟨ns,_,rfl,by lia,?_⟩;walk_at "rs";refine ⟨_,_,rfl,?_⟩;generalize E6 (tF ns (1+(i:Nat))) (i:Nat)=m;have u0:=Int.emod_nonneg m (b:=7) (by decide);have u1:=Int.emod_lt_of_pos m (b:=7) (by decide);have v0:=Int.emod_nonneg (m / 7) (b:=5) (by decide);have v1:=Int.emod_lt_of_pos (m / 7) (b:=5) (by decide);walk_at "rs";have fin:∀hi:Int,base+c % 4+m % 7<hi->hi<=200->hi<=base+c % 4+m % 7+15->∀r:Int,1<=r->r<=1000000000->(∀x∈hs++[(hi,base+c % 4+m % 7,r)],eZ x/\x.1 - x.2.1<=15):=λhi h1 h2 h3 r r1 r2 x hx=>by
      rcases mem_append.mp hx with z | z
      · exact e2 x z
      · rw[mem_singleton.mp z];exact ⟨⟨by show 0<=base+c % 4+m % 7;lia,h1,h2,r1,r2⟩,by show hi - (base+c % 4+m % 7)<=15;lia⟩
    have ea:∀hi r:Int,hs.map d3++[D.tup [.int hi,.int (base+c % 4+m % 7),.int r]]=(hs++[(hi,base+c % 4+m % 7,r)]).map d3:=λhi r=>by rw[map_append];rfl
    refine ⟨by decide,⟨by decide,by decide⟩,by decide,⟨by decide,by decide⟩,by decide,λz=>?_,λz=>?_⟩
    · obtain ⟨w,hw,hw1,hw2,hw3⟩:=v9 (base+c % 4+m % 7+1+m / 7 % 5) 200 (decide (184<base+c % 4+m % 7));have hwb:base+c % 4+m % 7<w/\w<=200/\w<=base+c % 4+m % 7+15:=by
        by_cases y:184<base+c % 4+m % 7
        · have:=hw2 (decide_eq_true y);lia
        · have:=hw3 (decide_eq_false y);lia
      refine ⟨_,hw,⟨by decide,by decide⟩,ns,_,_,rfl,λr r1 r2=>?_⟩;walk_at "rs";rw[ea];exact ⟨iA (by rw[length_map];lia),_,_,_,_,_,by rw[length_append,e1];rfl,fin w hwb.1 hwb.2.1 hwb.2.2 r r1 r2,rfl⟩
    · refine ⟨_, As _ _, ⟨by decide, by decide⟩, ns, _, _, rfl, λr r1 r2 => ?_⟩;walk_at "rs";rw[ea];exact ⟨iA (by rw[length_map];lia),_,_,_,_,_,by rw[length_append,e1];rfl,fin _ (by lia) (by lia) (by lia) r r1 r2,rfl⟩
  rw[bJ];rintro ρ ⟨hs,a5,a6,a7,a8,e1,e2,rfl⟩;walk_at "rs";refine ⟨⟨by decide,by decide⟩,by decide,⟨by lia,by lia⟩,?_⟩;refine dc (λi ρ=>∃cs a5 a6 a7 a8,cs.length=i/\(∀x∈cs,cH x/\x.2.1 - x.1<=15)/\ρ = [some (.p (.scr ns)),some (.p (.int c)),some (.p (.int (c % 4))),some (.p (.int base)),some (.o (.lst (hs.map d3))),a5,a6,a7,a8,some (.o (.lst (cs.map d3)))]) ⟨[],_,_,_,_,rfl,λx hx=>(nomatch hx),rfl⟩ ?_ ?_
  · rintro i x ρ hx ⟨cs,a5,a6,a7,a8,f1,f2,rfl⟩;obtain ⟨hi,rfl⟩:=cC hx;rw[Int.zero_add];walk_at "rs";refine ⟨ns,_,rfl,by lia,?_⟩;walk_at "rs";refine ⟨_,_,rfl,?_⟩;generalize E6 (tF ns (4+(i:Nat))) (20+(i:Nat))=m;have u0:=Int.emod_nonneg m (b:=9) (by decide);have u1:=Int.emod_lt_of_pos m (b:=9) (by decide);have v0:=Int.emod_nonneg (m / 9) (b:=5) (by decide);have v1:=Int.emod_lt_of_pos (m / 9) (b:=5) (by decide);walk_at "rs";have fin:∀hi:Int,base+m % 9<hi->hi<=200->hi<=base+m % 9+15->∀r:Int,1<=r->r<=1000000000->(∀x∈cs++[(base+m % 9,hi,r)],cH x/\x.2.1 - x.1<=15):=λhi h1 h2 h3 r r1 r2 x hx=>by
      rcases mem_append.mp hx with z | z
      · exact f2 x z
      · rw[mem_singleton.mp z];exact ⟨⟨by show 0<=base+m % 9;lia,h1,h2,r1,r2⟩,by show hi - (base+m % 9)<=15;lia⟩
    have ea:∀hi r:Int,cs.map d3++[D.tup [.int (base+m % 9),.int hi,.int r]]=(cs++[(base+m % 9,hi,r)]).map d3:=λhi r=>by rw[map_append];rfl
    refine ⟨by decide,⟨by decide,by decide⟩,by decide,⟨by decide,by decide⟩,by decide,λz=>?_,λz=>?_⟩
    · obtain ⟨w,hw,hw1,hw2,hw3⟩:=v9 (base+m % 9+1+m / 9 % 5) 200 (decide (184<base+m % 9));have hwb:base+m % 9<w/\w<=200/\w<=base+m % 9+15:=by
        by_cases y:184<base+m % 9
        · have:=hw2 (decide_eq_true y);lia
        · have:=hw3 (decide_eq_false y);lia
      refine ⟨_,hw,⟨by decide,by decide⟩,ns,_,_,rfl,λr r1 r2=>?_⟩;walk_at "rs";rw[ea];exact ⟨iA (by rw[length_map];lia),_,_,_,_,_,by rw[length_append,f1];rfl,fin w hwb.1 hwb.2.1 hwb.2.2 r r1 r2,rfl⟩
    · refine ⟨_, As _ _, ⟨by decide, by decide⟩, ns, _, _, rfl, λr r1 r2 => ?_⟩;walk_at "rs";rw[ea];exact ⟨iA (by rw[length_map];lia),_,_,_,_,_,by rw[length_append,f1];rfl,fin _ (by lia) (by lia) (by lia) r r1 r2,rfl⟩
  rw[bJ];rintro ρ ⟨cs,a5,a6,a7,a8,f1,f2,rfl⟩;walk_at "rs";exact q (c % 4) hs cs ⟨⟨g0,by lia,by lia,by lia,λx hx=>(e2 x hx).1,λx hx=>(f2 x hx).1⟩,gle,by lia,by lia,λx hx=>(e2 x hx).2,λx hx=>(f2 x hx).2⟩
noncomputable def jI (n:Nat)(b:S3)(m:Nat):dE:=(List.range m).map λi=>(((n:Int),b.1+(i:Nat)),b.2.2)
noncomputable def lU:Nat->List S3->dE
 | _,[]=>[]
 | n,b::bs=>jI n b (b.2.1 - b.1).toNat++lU (n+1) bs
theorem mS (n:Nat)(b:S3)(m:Nat):jI n b (m+1)=jI n b m++[(((n:Int),b.1+(m:Nat)),b.2.2)]:=by unfold jI;rw[List.range_succ,map_append];rfl
theorem lW:∀(bs:List S3) (n:Nat) (b:S3),lU n (bs++[b])=lU n bs++jI (n+bs.length) b (b.2.1 - b.1).toNat
 | [],n,b=>by simp[lU]
 | a::bs,n,b=>by
  rw[List.cons_append];unfold lU;rw[lW bs (n+1) b,append_assoc,length_cons,show n+1+bs.length=n+(bs.length+1) by lia]
theorem uX {n m:Nat}{b:S3}{p:(Int×Int)×Int}(h:p∈jI n b m):∃i:Nat,i<m/\p=(((n:Int),b.1+(i:Nat)),b.2.2):=by
 obtain ⟨i,hi,rfl⟩:=mem_map.mp h;exact ⟨i,mem_range.mp hi,rfl⟩
theorem xO:∀{bs:List S3} {n:Nat} {p:(Int×Int)×Int},p∈lU n bs->∃b∈bs,(n:Int)<=p.1.1/\p.1.1<n+bs.length/\b.1<=p.1.2/\p.1.2<b.2.1/\p.2=b.2.2
 | [],_,_,h=>by cases h
 | b::bs,n,p,h=>by
  unfold lU at h;rcases mem_append.mp h with h | h
  .obtain ⟨i,hi,rfl⟩:=uX h;refine ⟨b,mem_cons_self,Int.le_refl _,?_,?_,?_,rfl⟩
   .show (n:Int)<_;rw[length_cons];lia
   .show b.1<=b.1+(i:Nat);lia
   .show b.1+(i:Nat)<b.2.1;lia
  .obtain ⟨c,hc,h1,h2,h3⟩:=xO h;refine ⟨c,mem_cons_of_mem _ hc,by lia,?_,h3⟩;rw[length_cons];lia
theorem lV:∀{bs:List S3} {n:Nat},(∀b∈bs,b.2.1 - b.1<=200)->(lU n bs).length<=200*bs.length
 | [],_,_=>Nat.zero_le _
 | b::bs,n,h=>by
  have ih:=lV (bs:=bs) (n:=n+1) λc hc=>h c (mem_cons_of_mem _ hc);have hb:=h b mem_cons_self;unfold lU jI;rw[length_append,length_map,length_range,length_cons];lia
theorem uP {kvs:dE}{k:Int×Int}{v:Int}(h:∀p∈kvs,p.1≠k):putD kvs k v=kvs++[(k,v)]:=by
 unfold putD;rw[if_neg];rw[List.any_eq_true];rintro ⟨p,hp,e⟩;exact h p hp (of_decide_eq_true e)
theorem xn {bs:List S3}{b:S3}{m:Nat}:∀p∈lU 0 bs++jI bs.length b m,p.1≠((bs.length:Int),b.1+(m:Nat)):=λp hp e=>by
 rcases mem_append.mp hp with h | h
 .obtain ⟨_,_,_,h2,_⟩:=xO h;rw[e] at h2;dsimp only at h2;lia
 .obtain ⟨i,hi,rfl⟩:=uX h;have:=(Prod.mk.inj e).2;lia
noncomputable def jG:DR:=λds P=>∃g hs cs,ds = [dW g hs cs]/\e7 g hs cs/\P (.n true [.dct (lU 0 (dO hs)),.dct (lU 0 cs)])
theorem ve {α:Type}{l:List α}{i:Nat}(h:i<l.length):(l.take i).length=i:=by rw[length_take];lia
theorem sq (T:j8 K mg)(F:je K "_law_steps" "_law_steps" ed f fd):bx P w K mg base fU 1 f fd ["works"] (bN K jG):=by
 refine mK F cB (λds Q h=>by obtain ⟨g,hs,cs,rfl,ok,q⟩:=h;rfl) λcdv A outer s H E hr=>⟨_,(ag (g7 (i:=1) cB.nd rfl (Or.inl rfl) rN)
   (ag (iO (g:=(.n 2)) PassesOwn.never rfl (gu (by rfl) T.fj (aa (aG gX (by rfl) T.j9 PySem.boot_len (aa (aF (dv 0) ae) ah)) ah)) (ak (i:=2) cB.nd rfl (Or.inl rfl)) (ai (iO (g:=(.n 3)) PassesOwn.never rfl (oA (by rfl) T.fj (aa (aF (aF (aF (dv 0) ae) (dv 2)) ae) (aa (aF (aF (aF (dv 0) ae) (dv 2)) ae) ah))) (ak (i:=3) cB.nd rfl (Or.inl rfl)) (ai (rS (i:=1) hr rfl (by walk_at "v") (dv 2) (dv 3) (aF (aF (aF (dv 0) ae) (dv 2)) ae))))))
   (ag (g7 (i:=4) cB.nd rfl (Or.inl rfl) rN)
   (ag (iO (g:=(.n 2)) PassesOwn.never rfl (gu (by rfl) T.fj (aa (aG gX (by rfl) T.j9 PySem.boot_len (aa (aF (dv 0) ae) ah)) ah)) (ak (i:=2) cB.nd rfl (Or.inl rfl)) (ai (iO (g:=(.n 5)) PassesOwn.never rfl (oA (by rfl) T.fj (aa (aF (aF (aF (dv 0) ae) (dv 2)) ae) (aa (aF (aF (aF (dv 0) ae) (dv 2)) ae) ah))) (ak (i:=5) cB.nd rfl (Or.inl rfl)) (ai (rS (i:=4) hr rfl (by walk_at "v") (dv 2) (dv 5) (aF (aF (aF (dv 0) ae) (dv 2)) ae))))))
   (ai (Aa 1 4)))))),λds Q h=>?_⟩
 obtain ⟨g,hs,cs,rfl,ok,q⟩:=h;have nh:=ok.nh;have nc:=ok.nc;have sl:sizeLine=16777216:=sizeLine_eq;repeat (first | dsimp only[dW] | walk_at "rs1" | walk_at "rsx")
 rw[length_map];refine ⟨⟨by lia,by lia⟩,?_⟩;refine dc (λi ρ=>∃a2 a3,ρ = [some (.p (dW g hs cs)),some (.o (.dct (lU 0 (dO (hs.take i))))),a2,a3,none,none]) ⟨none,none,rfl⟩ ?_ ?_
 .rintro i x ρ hx ⟨a2,a3,rfl⟩;obtain ⟨hi,rfl⟩:=cC hx;rw[Int.zero_add];have hi':i<hs.length:=hi;have ec:=getElem?_eq_getElem (l:=hs) (i:=i) hi';have ho:=ok.yz _ (List.getElem_mem hi');generalize hs[i]=h at ec ho;obtain ⟨o1,o2,o3,o4,o5⟩:=ho;have g1:gF (hs.map d3) ((i:Nat):Int)=some (d3 h):=rz ec;have lb:(dO (hs.take i)).length=i:=by rw[ug,ve hi']
  repeat (first | dsimp only[dW,d3] | walk_at "rs1" | walk_at "rsx" | set_option simprocs false in simp only[g1])
  refine ⟨⟨by lia,by lia,by lia,by lia⟩,?_⟩;refine dc (λk ρ=>∃a3,ρ = [some (.p (dW g hs cs)),some (.o (.dct (lU 0 (dO (hs.take i))++jI i (h.2.1,h.1,h.2.2) k))),some (.p (.int (i:Nat))),a3,none,none]) ⟨_,by rw[show jI i (h.2.1,h.1,h.2.2) 0 = [] from rfl,append_nil];rfl⟩ ?_ ?_
  .rintro k y ρ hy ⟨a3,rfl⟩;obtain ⟨hk,rfl⟩:=cC hy;repeat (first | dsimp only[dW,d3] | walk_at "rs1" | walk_at "rsx" | set_option simprocs false in simp only[g1])
   have new:=xn (bs:=dO (hs.take i)) (b:=(h.2.1,h.1,h.2.2)) (m:=k);rw[lb] at new;rw[uP new,append_assoc,<-mS i (h.2.1,h.1,h.2.2) k];refine ⟨?_,_,rfl⟩;have l1:=lV (bs:=dO (hs.take i)) (n:=0) λb hb=>by
    obtain ⟨x,hx,rfl⟩:=mem_map.mp hb;have:=ok.yz x (mem_of_mem_take hx);have a1:=this.lo;have a2:=this.hi;show x.1 - x.2.1<=200;lia
   rw[lb] at l1;rw[length_append,show (jI i (h.2.1,h.1,h.2.2) k).length=k by unfold jI;rw[length_map,length_range]];lia
  .rintro ρ ⟨a3,rfl⟩;rw[bJ];rw[take_snoc ec,show dO (hs.take i++[h])=dO (hs.take i)++[(h.2.1,h.1,h.2.2)] by unfold dO;rw[map_append];rfl,lW,lb,Nat.zero_add];exact ⟨_,_,rfl⟩
 rw[bJ];rintro ρ ⟨a2,a3,rfl⟩;rw[show (((hs.length:Nat):Int)).toNat=hs.length from rfl,List.take_length];repeat (first | dsimp only[dW] | walk_at "rs1" | walk_at "rsx")
 rw[length_map];refine ⟨⟨by lia,by lia⟩,?_⟩;refine dc (λi ρ=>∃a2 a5,ρ = [some (.p (dW g hs cs)),some (.o (.dct (lU 0 (dO hs)))),a2,a3,some (.o (.dct (lU 0 (cs.take i)))),a5]) ⟨a2,none,rfl⟩ ?_ ?_
 .rintro i x ρ hx ⟨a2,a5,rfl⟩;obtain ⟨hi,rfl⟩:=cC hx;rw[Int.zero_add];have hi':i<cs.length:=hi;have ec:=getElem?_eq_getElem (l:=cs) (i:=i) hi';have ho:=ok.mz _ (List.getElem_mem hi');generalize cs[i]=h at ec ho;obtain ⟨o1,o2,o3,o4,o5⟩:=ho;have g1:gF (cs.map d3) ((i:Nat):Int)=some (d3 h):=rz ec;have lb:(cs.take i).length=i:=ve hi';repeat (first | dsimp only[dW,d3] | walk_at "rs1" | walk_at "rsx" | set_option simprocs false in simp only[g1])
  refine ⟨⟨by lia,by lia,by lia,by lia⟩,?_⟩;refine dc (λk ρ=>∃a5,ρ = [some (.p (dW g hs cs)),some (.o (.dct (lU 0 (dO hs)))),some (.p (.int (i:Nat))),a3,some (.o (.dct (lU 0 (cs.take i)++jI i h k))),a5]) ⟨_,by rw[show jI i h 0 = [] from rfl,append_nil];rfl⟩ ?_ ?_
  .rintro k y ρ hy ⟨a5,rfl⟩;obtain ⟨hk,rfl⟩:=cC hy;repeat (first | dsimp only[dW,d3] | walk_at "rs1" | walk_at "rsx" | set_option simprocs false in simp only[g1])
   have new:=xn (bs:=cs.take i) (b:=h) (m:=k);rw[lb] at new;rw[uP new,append_assoc,<-mS i h k];refine ⟨?_,_,rfl⟩;have l1:=lV (bs:=cs.take i) (n:=0) λb hb=>by
    have:=ok.mz b (mem_of_mem_take hb);have a1:=this.lo;have a2:=this.hi;lia
   rw[lb] at l1;rw[length_append,show (jI i h k).length=k by unfold jI;rw[length_map,length_range]];lia
  .rintro ρ ⟨a5,rfl⟩;rw[bJ];rw[take_snoc ec,lW,lb,Nat.zero_add];exact ⟨_,_,rfl⟩
 rw[bJ];rintro ρ ⟨a2,a5,rfl⟩;rw[show (((cs.length:Nat):Int)).toNat=cs.length from rfl,List.take_length];walk_at "rs";exact ⟨by decide,q⟩
theorem va {w:Str}{Q:B->Prop}(hz:w.length<=1000)(q:Q (.p (.bl ((codes w).all λc=>decide (c∈codes lF))))) :
  D9 (signsOf w) (Tg.n 0) bj (g6 zM (aS 0) (dC (D.str (Str.ofString "0123456789")))) [none] (λb=>EF [b.val] Q):=by
 have h3:=qR w;refine nR (xs:=codes w) (e:=λc=>D.str ⟨#[c]⟩) (λd=>match d with | .str s=>.bl (!(Builtin.Str.occurrences lF s 0 lF.length 1).isEmpty) | d=>d) (λc=>.bl (!(Builtin.Str.occurrences lF ⟨#[c]⟩ 0 lF.length 1).isEmpty)) (λ_ _=>rfl) (by lia) (λc _=>rfl) ?_;refine ⟨(codes w).map λc=>decide (c∈codes lF),?_,?_⟩
 .rw[map_map];exact map_congr_left λc _=>by rw[Co];rfl
 .rw[List.all_map];exact q
noncomputable def iU:DR:=λds Q=>∃w:Str,ds = [.str w]/\w.length<=1000/\Q (.p (.bl (isNum w)))
theorem pY (T:j8 K mg)(F:je K "is_numeral" "is_numeral" cz f fd):bx P w K mg base fU 1 f fd ["word"] (bN K iU):=by
 refine mK F qe (λds Q h=>by obtain ⟨w,rfl,hz,q⟩:=h;rfl) λcdv A outer s H E hr=>⟨_,(ag (bU (DW.dt (jw (aA qV (aG gX (by rfl) T.j9 PySem.boot_len (aa (dv 0) ah)) ae (ax _)) (kF (aA jC (aG gX (by rfl) T.j9 PySem.boot_len (aa (dv 0) ah)) (m9 (by rfl) T.oF) (ax _))))) (ai (aN qF)) bf)
   (ag (bU (DW.dt (g8 (kE (jV PySem.F.plainAttrs_str PySem.F.slot_str_startswith PySem.F.type_str_startswith yJ (dv 0) (aa dB ah))) (gL (aA qW (dv 0) dB (ax _))))) (ai (aN qF)) bf)
   (ai (aN (aG (zF rfl) (by rfl) T.DG boot_all (aa (gJ (g:=(.n 0)) (tc:=bj) (te:=(g6 _ (aS 0) (dC _))) (sc0:=af cz) (N0:=["word"]) ["sign"] [none] rfl (EL (dv 0)) (λ_ _ _ _ _=>(ak (i:=0) (show (["sign"]:List Str).Nodup by decide +kernel) rfl (Or.inl rfl))) (λ_ _ _ _ _=>cR) (λ_ _ _ _ _=>(jt Fc (dv 0) (GK (by rfl) T.yv) (by with_unfolding_all rfl)))) ah)))))),λds Q h=>?_⟩
 obtain ⟨w,rfl,hz,q⟩:=h;walk_at "rs";have zz:w.length<=sizeLine:=eu hz;have fin:∀b:Bool,isNum w=b->Q (.p (.bl b)):=λb e=>e ▸ q;refine ⟨zz,λc1=>⟨λ_=>fin _ ?_,λz=>(by cases z)⟩,λc1=>⟨zz,λc2=>fin _ ?_,λc2=>?_⟩⟩
 .have c1':=of_decide_eq_true c1;unfold isNum;rw[decide_eq_false (by lia)];rfl
 .have c2':=of_decide_eq_true c2;unfold isNum;rw[decide_eq_false (show ¬w.length<=10 by lia),Bool.and_false];rfl
 have c1':=of_decide_eq_false c1;have c2':=of_decide_eq_false c2;have e0:isNum w=(!(decide ((codes w).head?=some 48) && !decide (w=num 0)) && (codes w).all (λc=>decide (c∈codes lF))):=by
  unfold isNum;rw[decide_eq_true (show 1<=w.length by lia),decide_eq_true (show w.length<=10 by lia)];simp only[Bool.true_and]
 rw[Dl];refine ⟨λc3=>⟨λc4=>fin _ ?_,λc4=>?_⟩,λc3=>⟨λz=>(by cases z),λ_=>?_⟩⟩
 .rw[e0,c3,show (!decide (w=num 0))=true from c4];rfl
 .refine va hz (fin _ ?_);rw[e0,show (!decide (w=num 0))=false from c4,Bool.and_false];rfl
 .refine va hz (fin _ ?_);rw[e0,c3];rfl
theorem DV {α:Type}(x:α)(r:List α):iF (x::r) (some 1) none=r:=tJ (x::r) 1
noncomputable def de:DR:=λds Q=>∃(w0:Str) (ns:List Int) (k:Int),ds = [.lst ((w0::ns.map num).map D.str),.int k]/\k=ns.length/\(∀n∈ns,0<=n/\n<10 ^ 10)/\ns.length<=100/\Q (.o (.lst (ns.map D.int)))
theorem qa (T:j8 K mg)(F_is_numeral:Fn P w K mg base "is_numeral" 1 ["word"] (bN K iU))(F:je K "numbers_of" "numbers_of" bS f fd):bx P w K mg base fU 2 f fd ["words","count"] (bN K de):=by
 refine mK F kq (λds Q h=>by obtain ⟨w0,ns,k,rfl,hk,hn,hlen,q⟩:=h;rfl) λcdv A outer s H E hr=>⟨_,(ag (ay (i:=2) kq.nd rfl (Or.inl rfl) (gn (dv 0) (dM ae) lA))
   (ag (bU (aA qW (aG gX (by rfl) T.j9 PySem.boot_len (aa (dv 2) ah)) (dv 1) (ax _)) (ai eP) bf)
   (ag (bU (oB (kE (aG (zF rfl) (by rfl) T.DG boot_all (aa (gJ (g:=(.n 0)) (tc:=bj) (te:=(cN _ (aU (aS 0) cQ))) (sc0:=af bS) (N0:=["words","count","numerals"]) ["word"] [none] rfl (cZ (dv 2)) (λ_ _ _ _ _=>(ak (i:=0) (show (["word"]:List Str).Nodup by decide +kernel) rfl (Or.inl rfl))) (λ_ _ _ _ _=>cR) (λ_ _ _ _ _=>(aV F_is_numeral (hr.mono (by decide)) (by rfl) (aa (dv 0) ah)))) ah)))) (ai eP) bf)
   (ai (aN (gJ (g:=(.n 0)) (tc:=bj) (te:=(mB _ (aU (aS 0) cQ))) (sc0:=af bS) (N0:=["words","count","numerals"]) ["word"] [none] rfl (cZ (dv 2)) (λ_ _ _ _ _=>(ak (i:=0) (show (["word"]:List Str).Nodup by decide +kernel) rfl (Or.inl rfl))) (λ_ _ _ _ _=>cR) (λ_ _ _ _ _=>(fW BQ (by rfl) T.tw boot_int (aa (dv 0) ah))))))))),λds Q h=>?_⟩
 obtain ⟨w0,ns,k,rfl,hk,hn,hlen,q⟩:=h;walk_at "rs";rw[DV,map_map,length_map,<-hk];refine ⟨λz=>by simp at z,λ_=>?_⟩;refine nR (xs:=ns) (e:=D.str∘num) (λd=>match d with | .str w=>.bl (isNum w) | d=>d) (λ_=>.bl true) (λn hm=>by show D.bl (isNum (num n))=_;rw[qN (hn n hm).1 (hn n hm).2]) (by lia) (λn hm=>?_) ?_
 .exact ⟨num n,rfl,Nat.le_trans (eS (hn n hm).1 (hn n hm).2) (by decide),by show some (D.bl (isNum (num n)))=_;rw[qN (hn n hm).1 (hn n hm).2]⟩
 refine ⟨ns.map λ_=>true,by rw[map_map];rfl,?_⟩;have e:(ns.map λ_=>true).all id=true:=by simp
 rw[e];refine ⟨λz=>(by cases z),λ_=>?_⟩;refine nR (xs:=ns) (e:=D.str∘num) (λd=>match d with | .str w=>.int ((PySem.intText? w).getD 0) | d=>d) (λn=>.int n) (λn hm=>by show D.int ((PySem.intText? (num n)).getD 0)=_;rw[xx (hn n hm).1 (hn n hm).2];rfl) (by lia) (λn hm=>?_) q;exact ⟨n,xx (hn n hm).1 (hn n hm).2,Nat.le_trans (eS (hn n hm).1 (hn n hm).2) (by decide),rfl⟩
noncomputable def fP:DR:=λds Q=>∃xs:List D,ds = [.lst xs]/\xs.length<12/\Q (.p .non)
theorem pV (T:j8 K mg)(F:je K "check_room" "check_room" df f fd):bx P w K mg base fU 1 f fd ["streams"] (bN K fP):=by
 refine mK F qb (λds Q h=>by obtain ⟨xs,rfl,hl,q⟩:=h;rfl) λcdv A outer s H E hr=>⟨_,(ai (bU (aA uE (aG gX (by rfl) T.j9 PySem.boot_len (aa (dv 0) ah)) (m9 (by rfl) T.mE) (ax _)) (ai eP) bf)),λds Q h=>?_⟩
 obtain ⟨xs,rfl,hl,q⟩:=h;walk_at "rs";exact ⟨λz=>by have:=of_decide_eq_true z;lia,λ_=>q⟩
noncomputable def fo:DR:=λds Q=>∃(k:Str) (hs cs:List D),ds = [.str k,.lst hs,.lst cs]/\((k=jj/\cs = []/\hs.length<12)\/(k=e8/\cs.length<12))/\Q (.p .non)
theorem zI:¬e8=Str.ofString "hot":=by decide +kernel
theorem GU:¬jj=Str.ofString "cold":=by decide +kernel
theorem oR (T:j8 K mg)(F_check_room:Fn P w K mg base "check_room" 1 ["streams"] (bN K fP))(F:je K "check_place" "check_place" cF f fd):bx P w K mg base fU 2 f fd ["kind","hots","colds"] (bN K fo):=by
 refine mK F pA (λds Q h=>by obtain ⟨k,hs,cs,rfl,hk,q⟩:=h;rfl) λcdv A outer s H E hr=>⟨_,(ai (bU (aA fb (dv 0) dB (ax _)) (ag (bU (aA jC (aG gX (by rfl) T.j9 PySem.boot_len (aa (dv 2) ah)) ae (ax _)) (ai eP) bf)
   (ai (gK (aV F_check_room (hr.mono (by decide)) (by rfl) (aa (dv 1) ah))))) (ai (bU (aA fb (dv 0) dB (ax _)) (ai (gK (aV F_check_room (hr.mono (by decide)) (by rfl) (aa (dv 2) ah)))) (ai eP))))),λds Q h=>?_⟩
 obtain ⟨k,hs,cs,rfl,hk,q⟩:=h;repeat (first | dsimp only[fP] | walk_at "rs1" | walk_at "rsx")
 rcases hk with ⟨rfl,rfl,hl⟩ | ⟨rfl,hl⟩
 .exact ⟨λ_=>⟨λz=>(by cases z),λ_=>⟨hs,rfl,hl,q⟩⟩,λz=>absurd rfl (of_decide_eq_false z)⟩
 .exact ⟨λz=>absurd (of_decide_eq_true z) zI,λ_=>⟨λ_=>⟨cs,rfl,hl,q⟩,λz=>absurd rfl (of_decide_eq_false z)⟩⟩
noncomputable def cb:DR:=λds Q=>∃n a b:Int,ds = [.int n,.int a,.int b]/\a<=n/\n<=b/\Q (.p .non)
theorem nH (T:j8 K mg)(F:je K "check_within" "check_within" cf f fd):bx P w K mg base fU 1 f fd ["number","least","most"] (bN K cb):=by
 refine mK F nI (λds Q h=>by obtain ⟨n,a,b,rfl,ha,hb,q⟩:=h;rfl) λcdv A outer s H E hr=>⟨_,(ai (bU (DW.dt (jw (aA qV (dv 0) (dv 1) (ax _)) (kF (aA jC (dv 0) (dv 2) (ax _))))) (ai eP) bf)),λds Q h=>?_⟩
 obtain ⟨n,a,b,rfl,ha,hb,q⟩:=h;walk_at "rs";exact ⟨λz=>absurd (of_decide_eq_true z) (by lia),λ_=>⟨λz=>absurd (of_decide_eq_true z) (by lia),λ_=>q⟩⟩
noncomputable def eU:DR:=λds Q=>∃(k:Str) (x:S3),ds = [.str k,.tup [.int x.1,.int x.2.1,.int x.2.2]]/\((k=jj/\eZ x)\/(k=e8/\cH x))/\Q (.p .non)
theorem nG (T:j8 K mg)(F_check_within:Fn P w K mg base "check_within" 1 ["number","least","most"] (bN K cb))(F:je K "check_stream" "check_stream" cc f fd):bx P w K mg base fU 2 f fd ["kind","stream"] (bN K eU):=by
 refine mK F fG (λds Q h=>by obtain ⟨k,x,rfl,hk,q⟩:=h;rfl) λcdv A outer s H E hr=>⟨_,(ag (ay (i:=2) fG.nd rfl (Or.inl rfl) (aF (dv 1) ae))
   (ag (ay (i:=3) fG.nd rfl (Or.inl rfl) (aF (dv 1) ae))
   (ag (gK (aV F_check_within (hr.mono (by decide)) (by rfl) (aa (dv 2) (aa ae (aa (m9 (by rfl) T.kf) ah)))))
   (ag (gK (aV F_check_within (hr.mono (by decide)) (by rfl) (aa (dv 3) (aa ae (aa (m9 (by rfl) T.kf) ah)))))
   (ag (gK (aV F_check_within (hr.mono (by decide)) (by rfl) (aa (aF (dv 1) ae) (aa (m9 (by rfl) T.rT) (aa (m9 (by rfl) T.ua) ah)))))
   (ag (bU (DW.dt (g8 (aA fb (dv 0) dB (ax _)) (gL (aA uE (dv 3) (dv 2) (ax _))))) (ai eP) bf)
   (ai (bU (DW.dt (g8 (aA fb (dv 0) dB (ax _)) (gL (aA Hi (dv 3) (dv 2) (ax _))))) (ai eP) bf)))))))),λds Q h=>?_⟩
 obtain ⟨k,x,rfl,hk,q⟩:=h;repeat (first | dsimp only[cb] | walk_at "rs1" | walk_at "rsx")
 have b:(0<=x.1/\x.1<=200)/\(0<=x.2.1/\x.2.1<=200)/\1<=x.2.2/\x.2.2<=1000000000:=by
  rcases hk with ⟨_,h⟩ | ⟨_,h⟩
  .have:=h.lo;have:=h.lt;have:=h.hi;exact ⟨⟨by lia,by lia⟩,⟨by lia,by lia⟩,h.r0,h.r1⟩
  .have:=h.lo;have:=h.lt;have:=h.hi;exact ⟨⟨by lia,by lia⟩,⟨by lia,by lia⟩,h.r0,h.r1⟩
 refine ⟨x.1,0,200,rfl,b.1.1,b.1.2,x.2.1,0,200,rfl,b.2.1.1,b.2.1.2,x.2.2,1,1000000000,rfl,b.2.2.1,b.2.2.2,?_⟩;rcases hk with ⟨rfl,h⟩ | ⟨rfl,h⟩
 .have lt:=h.lt;exact ⟨λ_=>⟨λy=>absurd (of_decide_eq_true y) (by lia),λ_=>⟨λw=>absurd (of_decide_eq_true w) GU,λ_=>⟨λz=>(nomatch z),λ_=>q⟩⟩⟩,λw=>absurd rfl (of_decide_eq_false w)⟩
 .have lt:=h.lt;exact ⟨λw=>absurd (of_decide_eq_true w) zI,λ_=>⟨λz=>(nomatch z),λ_=>⟨λ_=>⟨λy=>absurd (of_decide_eq_true y) (by lia),λ_=>q⟩,λw=>absurd rfl (of_decide_eq_false w)⟩⟩⟩
theorem Bq:Str.ofString " " = sp:=by decide +kernel
theorem AE:Str.ofString "\n" = lf:=by decide +kernel
noncomputable def iX:DR:=λds Q=>∃g:Int,ds = [.str (gw g)]/\0<=g/\g<=50/\Q (.p (.int g))
theorem uI (T:j8 K mg)(F_numbers_of:Fn P w K mg base "numbers_of" 2 ["words","count"] (bN K de))(F_check_within:Fn P w K mg base "check_within" 1 ["number","least","most"] (bN K cb))(F:je K "read_gap" "read_gap" fg f fd) : bx P w K mg base fU 3 f fd ["row"] (bN K iX):=by
 refine mK F jM (λds Q h=>by obtain ⟨g,rfl,h0,h1,q⟩:=h; rfl) λcdv A outer s H E hr=>⟨_,(ag (ay (i:=1) jM.nd rfl (Or.inl rfl) (jV PySem.F.plainAttrs_str PySem.F.slot_str_split PySem.F.type_str_split oP (dv 0) (aa dB ah)))
   (ag (ay (i:=2) jM.nd rfl (Or.inl rfl) (aV F_numbers_of (hr.mono (by decide)) (by rfl) (aa (dv 1) (aa ae ah))))
   (ag (bU (aA qW (aF (dv 1) ae) dB (ax _)) (ai eP) bf)
   (ag (gK (aV F_check_within (hr.mono (by decide)) (by rfl) (aa (aF (dv 2) ae) (aa ae (aa (m9 (by rfl) T.vD) ah)))))
   (ai (aN (aF (dv 2) ae))))))),λds Q h=>?_⟩
 obtain ⟨g,rfl,h0,h1,q⟩:=h;have e:=yw g;rw[<-Bq] at e;repeat (first | dsimp only[de,cb] | walk_at "rs1" | walk_at "rsx" | set_option simprocs false in simp only[e])
 have gl:=wU h0 (show g<10 ^ 10 by lia);have sz:sizeLine=16777216:=sizeLine_eq;refine ⟨by decide +kernel,by lia,kI,[g],1,rfl,rfl,λn hn=>?_,(show 1<=100 by decide),?_⟩
 .rw[mem_singleton.mp hn]; lia
 walk_at "rs";refine ⟨λz=>(by rw[decide_eq_true (show kI=Str.ofString "gap" from rfl)] at z; cases z),λ_=>⟨g,0,50,rfl,h0,h1,q⟩⟩
noncomputable def kinds (hs ks:List S3) : List (Str×S3):=hs.map (λx=>(jj,x))++ks.map λx=>(e8,x)
theorem xw {x:S3}(h:eZ x) : e6 x:=by
 have:=h.lo; have:=h.lt; have:=h.hi; have:=h.r0; have:=h.r1;exact ⟨by lia,by lia,by lia,by lia,by lia,by lia⟩
theorem uD {x:S3}(h:cH x) : e6 x:=by
 have:=h.lo; have:=h.lt; have:=h.hi; have:=h.r0; have:=h.r1;exact ⟨by lia,by lia,by lia,by lia,by lia,by lia⟩
noncomputable def vU:DR:=λds Q=>∃(g:Int) (hs ks:List S3),ds = [.str (textOf g hs ks)]/\e7 g hs ks/\Q (.p (dW g hs ks))
theorem CQ (T:j8 K mg)(F_read_gap:Fn P w K mg base "read_gap" 3 ["row"] (bN K iX))(F_numbers_of:Fn P w K mg base "numbers_of" 2 ["words","count"] (bN K de))(F_check_place:Fn P w K mg base "check_place" 2 ["kind","hots","colds"] (bN K fo))(F_check_stream:Fn P w K mg base "check_stream" 2 ["kind","stream"] (bN K eU))(F:je K "read" "read" mU f fd) : bx P w K mg base fU 4 f fd ["text"] (bN K vU):=by
  refine mK F fR (λds Q h=>by obtain ⟨g,hs,ks,rfl,ok0,q⟩:=h; rfl) λcdv A outer s H E hr=>⟨_,(ag (ay (i:=1) fR.nd rfl (Or.inl rfl) (jV PySem.F.plainAttrs_str PySem.F.slot_str_split PySem.F.type_str_split oP (dv 0) (aa dB ah)))
      (ag (ay (i:=2) fR.nd rfl (Or.inl rfl) (aV F_read_gap (hr.mono (by decide)) (by rfl) (aa (aF (dv 1) ae) ah)))
      (ag (g7 (i:=3) fR.nd rfl (Or.inl rfl) (dA ah))
      (ag (g7 (i:=4) fR.nd rfl (Or.inl rfl) (dA ah))
      (ag (kD (g:=(.n 5)) PassesOwn.never rfl (cZ (gn (dv 1) (dM ae) lA)) (ak (i:=5) fR.nd rfl (Or.inl rfl)) (ag (ay (i:=6) fR.nd rfl (Or.inl rfl) (jV PySem.F.plainAttrs_str PySem.F.slot_str_split PySem.F.type_str_split oP (dv 5) (aa dB ah)))
      (ag (ay (i:=7) fR.nd rfl (Or.inl rfl) (aV F_numbers_of (hr.mono (by decide)) (by rfl) (aa (dv 6) (aa ae ah))))
      (ag (gK (aV F_check_place (hr.mono (by decide)) (by rfl) (aa (aF (dv 6) ae) (aa (dv 3) (aa (dv 4) ah)))))
      (ag (ay (i:=8) fR.nd rfl (Or.inl rfl) (dD (aa (aF (dv 7) ae) (aa (aF (dv 7) ae) (aa (aF (dv 7) ae) ah)))))
      (ag (gK (aV F_check_stream (hr.mono (by decide)) (by rfl) (aa (aF (dv 6) ae) (aa (dv 8) ah))))
      (ai (bU (aA fb (aF (dv 6) ae) dB (ax _)) (ai (mC (i:=3) rfl (by walk_at "v") (dv 8))) (ai (mC (i:=4) rfl (by walk_at "v") (dv 8)))))))))))
      (ai (aN (dD (aa (dv 2) (aa (dv 3) (aa (dv 4) ah))))))))))),λds Q h=>?_⟩
  obtain ⟨g,hs,ks,rfl,ok0,q⟩:=h;have g0:=ok0.g0;have g1:=ok0.g1;have nh:=ok0.nh;have nk:=ok0.nc;have hh:∀x∈hs,e6 x:=λx h=>xw (ok0.yz x h);have hk:∀x∈ks,e6 x:=λx h=>uD (ok0.mz x h);have e:=vY g hs ks;rw[<-AE] at e;repeat (first | dsimp only[iX] | walk_at "rs1" | walk_at "rsx" | set_option simprocs false in simp only[e])
  refine ⟨by decide +kernel,text_len g0 (by lia) hh hk (by lia) (by lia),_,iE (j:=0) rfl,g,rfl,g0,g1,?_⟩;have er:iF (List.map D.str (rowsOf g hs ks)) (some 1) none=(kinds hs ks).map λp=>D.str (row p.1 p.2):=by
    show iF (D.str (gw g)::List.map D.str (hs.map (row jj)++ks.map (row e8))) (some 1) none=_;rw[DV];unfold kinds;rw[map_append,map_append,map_map,map_map,map_map,map_map];rfl
  rw[er];refine dc (λi ρ=>∃a b c d,ρ = [some (B.p (D.str (textOf g hs ks))),some (B.p (D.lst (List.map D.str (rowsOf g hs ks)))),some (B.p (D.int g)),some (B.o (D.lst ((hs.take i).map d3))),some (B.o (D.lst ((ks.take (i - hs.length)).map d3))),a,b,c,d]) ⟨none,none,none,none,by rw[Nat.zero_sub,List.take_zero,List.take_zero]; rfl⟩ ?_ ?_
  · rintro i d ρ hx ⟨a1,a2,a3,a4,rfl⟩;rw[getElem?_map] at hx;obtain ⟨⟨k,x⟩,hp,rfl⟩:=Option.map_eq_some_iff.mp hx;have hkx:(k=jj/\i<hs.length/\hs[i]?=some x/\e6 x)\/(k=e8/\hs.length<=i/\ks[i - hs.length]?=some x/\e6 x):=by
      unfold kinds at hp;by_cases hi:i<hs.length
      · rw [List.getElem?_append_left (by rw [length_map]; exact hi), getElem?_map, getElem?_eq_getElem hi] at hp;cases hp;exact .inl ⟨rfl,hi,getElem?_eq_getElem hi,hh _ (List.getElem_mem hi)⟩
      · rw [List.getElem?_append_right (by rw [length_map]; lia), length_map, getElem?_map] at hp;obtain ⟨y,hy,e2⟩:=Option.map_eq_some_iff.mp hp;cases e2;exact .inr ⟨rfl,by lia,hy,hk _ (mem_of_getElem? hy)⟩
    have ok:e6 x:=hkx.elim (λh=>h.2.2.2) λh=>h.2.2.2;have kk:k=jj\/k=e8:=hkx.elim (λh=>.inl h.1) λh=>.inr h.1;have kk3:k=jj\/k=e8\/k=kI:=kk.elim .inl λz=>.inr (.inl z);have es:=y9 kk3 x;rw[<-Bq] at es;have es':Txt.split (row k x) (Str.ofString " ") = [k,num x.1,num x.2.1,num x.2.2]:=es;have rl:=sN kk3 ok;have sz:sizeLine=16777216:=sizeLine_eq;repeat (first | dsimp only[de,fo,eU] | walk_at "rs1" | walk_at "rsx" | set_option simprocs false in simp only[es'])
    refine ⟨by decide +kernel,by lia,k,[x.1,x.2.1,x.2.2],3,rfl,rfl,λn hn=>?_,(show 3<=100 by decide),k,_,_,rfl,?_,?_⟩
    · simp only[List.mem_cons,List.not_mem_nil,or_false] at hn;rcases hn with e | e | e<;>subst e
      · exact ⟨ok.a0,ok.a1⟩
      · exact ⟨ok.b0,ok.b1⟩
      · exact ⟨ok.c0,ok.c1⟩
    · rcases hkx with ⟨h1,h2,h3,_⟩ | ⟨h1,h2,h3,_⟩
      · refine .inl ⟨h1, by rw [show i - hs.length = 0 by lia]; rfl, ?_⟩;rw[length_map,length_take];lia
      · refine .inr ⟨h1,?_⟩;have:=(List.getElem?_eq_some_iff.mp h3).1;rw[length_map,length_take];lia
    walk_at "rs";have l1:(List.map d3 (List.take i hs)).length<sizeLine:=by rw[length_map,length_take]; lia
    have l2:(List.map d3 (List.take (i - hs.length) ks)).length<sizeLine:=by rw[length_map,length_take]; lia
    refine ⟨k,x,rfl,hkx.elim (λh=>.inl ⟨h.1,ok0.yz x (mem_of_getElem? h.2.2.1)⟩) (λh=>.inr ⟨h.1,ok0.mz x (mem_of_getElem? h.2.2.1)⟩),?_⟩;walk_at "rs";rcases hkx with ⟨h1,h2,h3,_⟩ | ⟨h1,h2,h3,_⟩
    · have e1 : List.map d3 (List.take (i + 1) hs) = List.map d3 (List.take i hs) ++ [d3 x] := by rw [List.take_succ, h3, map_append]; rfl
      have e2:i+1 - hs.length=i - hs.length:=by lia
      refine ⟨λ_=>?_,λw=>absurd h1 (of_decide_eq_false w)⟩;rw[e1,e2];exact ⟨l1,_,_,_,_,rfl⟩
    · have e1 : List.map d3 (List.take (i + 1 - hs.length) ks) = List.map d3 (List.take (i - hs.length) ks) ++ [d3 x] := by rw [show i + 1 - hs.length = (i - hs.length) + 1 by lia, List.take_succ, h3, map_append]; rfl
      have e2:List.take (i+1) hs=List.take i hs:=by rw[take_of_length_le (by lia),take_of_length_le h2]
      refine ⟨λw=>absurd ((h1.symm.trans (of_decide_eq_true w))) zI,λ_=>?_⟩;rw[e1,e2];exact ⟨l2,_,_,_,_,rfl⟩
  · rintro ρ ⟨a1,a2,a3,a4,rfl⟩;have lk:((kinds hs ks).map λp=>D.str (row p.1 p.2)).length=hs.length+ks.length:=by
      unfold kinds;rw[length_map,length_append,length_map,length_map]
    rw[lk];rw[take_of_length_le (show hs.length<=hs.length+ks.length by lia),show hs.length+ks.length - hs.length=ks.length by lia,List.take_length];walk_at "rs";exact q
noncomputable def gP:DR:=λds P=>∃n:Int,ds = [.int n]/\P (.p (.bl true))
theorem sr (T:j8 K mg)(F:je K "_law_whole" "_law_whole" eh f fd) : bx P w K mg base fU 1 f fd ["found"] (bN K gP):=by
 refine mK F sP (λds Q h=>by obtain ⟨n,rfl,q⟩:=h; rfl) λcdv A outer s H E hr=>⟨_,(ai (aN (vy (rO (T:="int") (by simp) (by rfl) T.fN (dv 0) (nV (v:=.ty "int") (by rfl) T.tw boot_int rfl)) (vA (EK (rO (T:="bool") (by simp) (by rfl) T.fN (dv 0) (nV (v:=.ty "bool") (by rfl) T.Ey boot_bool rfl))))))),λds Q h=>?_⟩
 obtain ⟨n,rfl,q⟩:=h;walk_at "rs";exact ⟨λ_=>q,λz=>(nomatch z)⟩
theorem xo (i j:Int) : (if j>i then j else i)=mx j i:=by unfold mx; split<;>split<;>lia
noncomputable def kQ:DR:=λds P=>∃g hs cs L,ds = [dW g hs cs,.int L]/\e7 g hs cs/\P (.p (.int (aQ g hs cs L)))
theorem uF (T:j8 K mg)(F:je K "_law_lack" "_law_lack" fe f fd) : bx P w K mg base fU 1 f fd ["works","level"] (bN K kQ):=by
 refine mK F bD (λds Q h=>by obtain ⟨g,hs,cs,L,rfl,ok,q⟩:=h; rfl) λcdv A outer s H E hr=>⟨_,(ag (ay (i:=2) bD.nd rfl (Or.inl rfl) ae)
   (ag (kD (g:=(.t [3,4,5])) PassesOwn.never rfl (cZ (aF (dv 0) ae)) (hO rfl (aH (ak (i:=3) bD.nd rfl (Or.inl rfl)) (aH (ak (i:=4) bD.nd rfl (Or.inl rfl)) (aH (ak (i:=5) bD.nd rfl (Or.inl rfl)) fm)))) (ai (mD (i:=2) bD.nd rfl (Or.inl rfl) (au iw (dv 5) (aG (jS rfl) (by rfl) T.ka boot_max (aa ae (aa (au fD (au aK (dv 4) (aF (dv 0) ae)) (aG (jS rfl) (by rfl) T.ka boot_max (aa (dv 1) (aa (au aK (dv 3) (aF (dv 0) ae)) ah)))) ah)))) rY)))
   (ag (kD (g:=(.t [3,4,5])) PassesOwn.never rfl (cZ (aF (dv 0) ae)) (hO rfl (aH (ak (i:=3) bD.nd rfl (Or.inl rfl)) (aH (ak (i:=4) bD.nd rfl (Or.inl rfl)) (aH (ak (i:=5) bD.nd rfl (Or.inl rfl)) fm)))) (ai (mD (i:=2) bD.nd rfl (Or.inl rfl) (au iw (dv 5) (aG (jS rfl) (by rfl) T.ka boot_max (aa ae (aa (au fD (dv 3) (aG (jS rfl) (by rfl) T.ka boot_max (aa (dv 1) (aa (dv 4) ah)))) ah)))) rZ)))
   (ai (aN (dv 2)))))),λds Q h=>?_⟩
 obtain ⟨g,hs,cs,L,rfl,ok,q⟩:=h;repeat (first | dsimp only[dW] | walk_at "rs1" | walk_at "rsx")
 refine dc (λj ρ=>∃(a3 a4 a5:Option B),ρ = [some (.p (dW g hs cs)),some (.p (.int L)),some (.p (.int (above (gj g (cs.take j)) L))),a3,a4,a5]) ⟨none,none,none,by rw[List.take_zero]; rfl⟩ ?_ ?_
 .rintro j x ρ hx ⟨b3,b4,b5,rfl⟩;rw[getElem?_map] at hx;obtain ⟨s,es,rfl⟩:=Option.map_eq_some_iff.mp hx;obtain ⟨o1,o2,o3,o4,o5⟩:=ok.mz s (mem_of_getElem? es);repeat (first | dsimp only[dW,d3] | walk_at "rs1" | walk_at "rsx")
  rw[xo L,take_snoc es,show gj g (cs.take j++[s])=gj g (cs.take j)++[(s.1+g,s.2.1+g,s.2.2)] by unfold gj; rw[map_append]; rfl,oa];exact ⟨mulL (by lia),_,_,_,rfl⟩
 rw[length_map,List.take_length];rintro ρ ⟨b3,b4,b5,rfl⟩;repeat (first | dsimp only[dW] | walk_at "rs1" | walk_at "rsx")
 refine dc (λj ρ=>∃(a3 a4 a5:Option B),ρ = [some (.p (dW g hs cs)),some (.p (.int L)),some (.p (.int (above (gj g cs) L - above (dO (hs.take j)) L))),a3,a4,a5]) ⟨b3,b4,b5,by rw[List.take_zero,show above (dO []) L=0 from rfl,Int.sub_zero]; rfl⟩ ?_ ?_
 .rintro j x ρ hx ⟨b3,b4,b5,rfl⟩;rw[getElem?_map] at hx;obtain ⟨s,es,rfl⟩:=Option.map_eq_some_iff.mp hx;obtain ⟨o1,o2,o3,o4,o5⟩:=ok.yz s (mem_of_getElem? es);repeat (first | dsimp only[dW,d3] | walk_at "rs1" | walk_at "rsx")
  rw[xo L,take_snoc es,show dO (hs.take j++[s])=dO (hs.take j)++[(s.2.1,s.1,s.2.2)] by unfold dO; rw[map_append]; rfl,oa,<-Int.sub_sub];exact ⟨mulL (by lia),_,_,_,rfl⟩
 rw[length_map,List.take_length];rintro ρ ⟨b3,b4,b5,rfl⟩;walk_at "rs";exact q
noncomputable def kT:DR:=λds P=>∃(g:Int) (hs cs:List S3),ds = [dW g hs cs]/\e7 g hs cs/\P (.p (.str (textOf g hs cs)))
theorem uH (T:j8 K mg)(F:je K "_law_text" "_law_text" dP f fd) : bx P w K mg base fU 1 f fd ["works"] (bN K kT):=by
 refine mK F fC (λds Q h=>by obtain ⟨g,hs,cs,rfl,ok,q⟩:=h; rfl) λcdv A outer s H E hr=>⟨_,(ag (ay (i:=1) fC.nd rfl (Or.inl rfl) (dA (aa (au aK dB (fW zG (by rfl) T.DK boot_str (aa (aF (dv 0) ae) ah))) ah)))
   (ag (kD (g:=(.t [2,3])) PassesOwn.never rfl (cZ (dA (aa (dD (aa dB (aa (aF (dv 0) ae) ah))) (aa (dD (aa dB (aa (aF (dv 0) ae) ah))) ah)))) (hO rfl (aH (ak (i:=2) fC.nd rfl (Or.inr rfl)) (aH (ak (i:=3) fC.nd rfl (Or.inl rfl)) fm))) (ai (ay (i:=1) fC.nd rfl (Or.inl rfl) (au aK (dv 1) (gJ (g:=(.n 0)) (tc:=bj) (te:=(tY _ (dC _) (aU (g6 _ (gZ (aU (aS 1) cQ)) (nC (dF (aS 0)) [none] (.n 0) bj (mB _ (aU (aS 0) cQ)))) cQ))) (sc0:=af dP) (N0:=["works","rows","word","some"]) ["one","word"] [none,some 2] rfl (cZ (dv 3)) (λ_ _ _ _ _=>(ak (i:=0) (show (["one","word"] : List Str).Nodup by decide +kernel) rfl (Or.inl rfl))) (λ_ _ _ _ _=>cR) (λ_ _ _ _ _=>(jV PySem.F.plainAttrs_str PySem.F.slot_str_join PySem.F.type_str_join xm dB (aa (au aK (dA (aa (dv 1) ah)) (gJ (g:=(.n 0)) (tc:=bj) (te:=(mB _ (aU (aS 0) cQ))) (sc0:=({ kind:=.function,names:=[(".0",.local),("one",.local),("word",.cell)],isGenerator:=false,isCoroutine:=false } : Scope)) (N0:=["one","word"]) ["part"] [none] rfl (zZ (dv 0)) (λ_ _ _ _ _=>(ak (i:=0) (show (["part"] : List Str).Nodup by decide +kernel) rfl (Or.inl rfl))) (λ_ _ _ _ _=>cR) (λ_ _ _ _ _=>(fW zG (by rfl) T.DK boot_str (aa (dv 0) ah))))) ah))))))))
   (ai (aN (jV PySem.F.plainAttrs_str PySem.F.slot_str_join PySem.F.type_str_join xm dB (aa (dv 1) ah)))))),λds Q h=>?_⟩
 obtain ⟨g,hs,cs,rfl,ok,q⟩:=h;have sz:sizeLine=16777216:=sizeLine_eq;have lsp:(Str.ofString " ").length=1:=by decide +kernel
 have g0:=ok.g0;have g1:=ok.g1;have nh:=ok.nh;have nc:=ok.nc;have hh:∀x∈hs,e6 x:=λx h=>xw (ok.yz x h);have hk:∀x∈cs,e6 x:=λx h=>uD (ok.mz x h);have row1:∀(k:Str) (x:S3),(k=jj\/k=e8)->e6 x->JoinOk (Str.ofString " ") [k,num x.1,num x.2.1,num x.2.2]=true:=λk x kk o=>by
  have n1:=eS o.a0 o.a1;have n2:=eS o.b0 o.b1;have n3:=eS o.c0 o.c1;have kl:=kind_len (kk.elim .inl λz=>.inr (.inl z));unfold JoinOk;rw[Bool.not_eq_true'];refine StrLaws.joinFits (B:=10) (λy hy=>?_) ?_
  .simp only[List.mem_cons,List.not_mem_nil,or_false] at hy;rcases hy with e | e | e | e<;>subst e<;>lia
  .simp only[length_cons,List.length_nil,lsp];lia
 refine cD (λρ=>ρ = [some (.p (dW g hs cs)),some (.p (.lst [.str (gw g)])),none,none]) ?_ λN hN=>?_;rotate_left
 .repeat (first | dsimp only[dW] | walk_at "rs1" | walk_at "rsx")
  have lg:(Str.ofString "gap ").length=4:=by decide +kernel
  have ln:=eS g0 (show g<10 ^ 10 by lia);have ln':(Str.ofString (toString g)).length<=10:=ln;have eg:Str.ofString "gap " ++ Str.ofString (toString g)=gw g:=by
   have:=Ak g;rw[Str.empty_append] at this;exact this
  rw[eg];exact ⟨nU g0 (by lia),by lia,hN _ rfl⟩
 rintro ρ rfl;refine cD (λρ=>∃y:Nat->Option B,ρ = [some (.p (dW g hs cs)),some (.p (.lst ((rowsOf g hs cs).map D.str))),y 2,y 3]) ?_ λN hN=>?_;rotate_left
 .have turn:∀(k:Str) (xs:List S3) (kk:k=jj\/k=e8) (ox:∀x∈xs,e6 x) (lx:xs.length<=12) {Q':B->Prop},Q' (.o (.lst ((xs.map (row k)).map D.str)))->D9 (xs.map d3) (Tg.n 0) bj (tY rJ (dC (D.str (Str.ofString " "))) (aU (g6 gm (gZ (aU (aS 1) cQ)) (nC (dF (aS 0)) [none] (Tg.n 0) bj (mB wF (aU (aS 0) cQ)))) cQ)) [none,some (.p (.str k))] Q':=λk xs kk ox lx Q' q'=>by
   refine xh EE (λx=>.str (row k x)) (by lia) (λx hx=>?_) (by rw[map_map] at q'; exact q');have o:=ox x hx;repeat (first | dsimp only[d3] | walk_at "rs1" | walk_at "rsx")
   refine kK (λd=>match d with | .int n=>.str (num n) | d=>d) (Nat.le_of_ble_eq_true rfl) (λd hd=>?_) ?_
   .simp only[List.mem_cons,List.not_mem_nil,or_false] at hd;rcases hd with rfl | rfl | rfl
    .exact ⟨nU o.a0 o.a1,rfl⟩
    .exact ⟨nU o.b0 o.b1,rfl⟩
    .exact ⟨nU o.c0 o.c1,rfl⟩
   walk_at "rs";refine ⟨by lia,[k,num x.1,num x.2.1,num x.2.2],rfl,row1 k x kk o,?_⟩;rw[Bq];rfl
  repeat (first | dsimp only[dW] | walk_at "rs1" | walk_at "rsx")
  refine Cc ?_;repeat (first | dsimp only[forR] | walk_at "rs1" | walk_at "rsx")
  refine turn jj hs (.inl rfl) hh (by lia) ?_;walk_at "rs";refine ⟨by rw[length_map,length_map]; lia,turn e8 cs (.inr rfl) hk (by lia) ?_⟩;walk_at "rs";refine ⟨by rw[length_append,length_map,length_map,length_map,length_map]; simp only[length_cons,List.length_nil]; lia,?_⟩;have e:[D.str (gw g)]++(hs.map (row jj)).map D.str++(cs.map (row e8)).map D.str=(rowsOf g hs cs).map D.str:=by
   unfold rowsOf;rw[map_cons,map_append];rfl
  rw[e];exact hN _ ⟨wv 2 [_,_],rfl⟩
 rintro ρ ⟨y,rfl⟩;have tk:=Dt g0 (show g<10 ^ 10 by lia) hh hk (by lia) (by lia);rw[<-AE] at tk;walk_at "rs";refine ⟨rowsOf g hs cs,rfl,tk,?_⟩;rw[AE];exact q
noncomputable def ni (kvs:dE)(k:K2)(n:Int) : Bool×dE:=match bh kvs k with
 | none=>(false,kvs)
 | some v=>if v<n then (false,kvs) else (true,putD kvs k (v - n))
set_option tactic.hygienic true in
theorem Bx {H:Hp}{a:Addr}{o:HO}(h:H a=some o) : upd H a o=H:=by
 funext b
 unfold upd;split
 .rename_i e; rw[e]; exact h.symm
 .rfl
theorem p7 (T:j8 K mg)(F:je K "_law_passed" "_law_passed" dh f fd) : bx P w K mg base fU 1 f fd ["left","key","heat"] (xM K ni):=by
 refine F.ok qg (λvs H Q E h=>?_) (λcdv A outer s H vs Q E hr h=>?_)
 .obtain ⟨a,c,kvs,k,n,rfl,_⟩:=h; rfl
 .obtain ⟨a,c,kvs,k,n,rfl,ea,ec,q⟩:=h;refine ⟨_,(o6 (Bb (PW.pt (Ee (Be (yQ (ki hr) (pv 1) (pv 0)) (by with_unfolding_all rfl)) (Bj (Be (Hr (xB (ki hr) (pv 0) (pv 1) (λ_ _=>rfl)) (pv 2)))))) (sF (oZ AX)) sE) (o6 (xD (pv 0) (pv 1) (get_dict (ki hr)) (pv 2) rZ (set_dict (ki hr))) (sF (oZ AX)))),?_⟩;have hl:kvs.length<sizeLine:=q.1;have q:=q.2;unfold ni at q;refine ⟨_,rfl,_,rfl,a,fT (encD kvs) (k2 k),rfl,xS.t ea ec,_,rfl,?_⟩;rw[mj];cases hv:bh kvs k with
  | none =>
   rw[hv] at q;dsimp only at q;rw[Bx ea] at q;exact pT (pT q)
  | some v =>
   rw[hv] at q;dsimp only at q;have hv':fT (encD kvs) (k2 k)=some (.int v):=by rw[mj,hv]; rfl
   refine r6 ⟨_,rfl,_,rfl,a,c,encD kvs,k2 k,.int v,rfl,rfl,.inl ea,.inl (.inl ec),hv',_,rfl,?_⟩;refine ⟨v,n,rfl,rfl,_,rfl,?_⟩;by_cases hlt:v<n
   .rw[if_pos hlt] at q;dsimp only at q;rw[Bx ea] at q;show if decide (v<n)=true then _ else _
    rw[decide_eq_true hlt];exact pT q
   .rw[if_neg hlt] at q;dsimp only at q;show if decide (v<n)=true then _ else _
    rw[decide_eq_false hlt];refine r6 ⟨_,rfl,_,rfl,a,c,encD kvs,k2 k,.int v,rfl,rfl,.inl ea,.inl (.inl ec),hv',_,rfl,v,n,rfl,rfl,a,c,encD kvs,k2 k,rfl,rfl,ea,.inl (.inl ec),.inl (by rw[hv']; simp),by rw[jx]; exact hl,?_⟩;rw[o8];exact q
theorem xG (n:Nat)(b:S3)(k:K2) : ∀m:Nat,bh (jI n b m) k=if k.1=(n:Int)/\b.1<=k.2/\k.2<b.1+(m:Int) then some b.2.2 else none
  | 0=>by rw[if_neg (by lia)]; rfl
  | m+1=>by
    rw[mS,jQ,xG n b k m,fi,pL];obtain ⟨k1,k2'⟩:=k;dsimp only;by_cases c:k1=(n:Int)/\b.1<=k2'/\k2'<b.1+(m:Int)
    · have c' : k1 = (n : Int) /\ b.1 <= k2' /\ k2' < b.1 + ((m + 1 : Nat) : Int) := by lia
      rw[if_pos c,if_pos c']; rfl
    · rw[if_neg c];by_cases c2:((n:Int),b.1+(m:Nat))=(k1,k2')
      · have c3:=Prod.mk.inj c2;rw[if_pos c2,if_pos (by lia)]; rfl
      · have c3 : ¬ ((n : Int) = k1 /\ b.1 + (m : Int) = k2') := λz => c2 (by rw [Prod.mk.injEq]; exact z);rw[if_neg c2,if_neg (by lia)]; rfl
set_option tactic.hygienic true in
theorem xP (bd:S3->S3) : ∀ss:List S3,(∀s∈ss,bd s=(hE s,kJ s,s.2.2)/\0<s.2.2/\hE s<=kJ s)->∀k,bh (lU 0 (ss.map bd)) k=ar ss k:=by
 intro ss;generalize hn:ss.length=n;induction n generalizing ss with
 | zero =>
  intro _ k;obtain rfl:=length_eq_zero_iff.mp hn;unfold ar strAt;split
  .rename_i s h; split at h<;>cases h
  .rfl
 | succ n ih =>
  intro ho k;obtain ⟨ini,s,rfl⟩ : ∃ini q,ss=ini++[q]:=by
   rcases eq_nil_or_concat ss with h | ⟨l,b,h⟩
   .rw[h] at hn; cases hn
   .exact ⟨l,b,by rw[h,concat_eq_append]⟩
  have hl:ini.length=n:=by rw[length_append] at hn; simp at hn; exact hn
  have h1:=ih ini hl (λs hs=>ho s (mem_append_left _ hs)) k;obtain ⟨e,o1,o2⟩:=ho s (by simp);rw[map_append,map_cons,List.map_nil,lW,length_map,Nat.zero_add,jQ,h1,gQ,xG,e];dsimp only;by_cases c:k.1=(ini.length:Int)
  .rw[if_pos c,gA c];by_cases c2:hE s<=k.2/\k.2<kJ s
   .rw[if_pos ⟨c,c2.1,by lia⟩,if_pos ⟨o1,c2⟩]; rfl
   .rw[if_neg (λz=>c2 ⟨z.2.1,by have:=z.2.2; lia⟩),if_neg (λz=>c2 z.2)]; rfl
  .rw[if_neg c,if_neg (λz=>c z.1)];cases ar ini k<;>rfl
theorem Ap {hs:List S3}(h:∀s∈hs,eZ s)(k:K2) : bh (lU 0 (dO hs)) k=ar hs k:=
 xP (λx=>(x.2.1,x.1,x.2.2)) hs (λs hm=>by
  have a:=(h s hm).lt;have b:=(h s hm).r0;unfold hE kJ;rw[show min s.1 s.2.1=s.2.1 by lia,show max s.1 s.2.1=s.1 by lia];exact ⟨rfl,by lia,by lia⟩) k
theorem yl {cs:List S3}(h:∀s∈cs,cH s)(k:K2) : bh (lU 0 cs) k=ar cs k:=by
 have:=xP id cs (λs hm=>by
  have a:=(h s hm).lt;have b:=(h s hm).r0;unfold hE kJ;rw[show min s.1 s.2.1=s.1 by lia,show max s.1 s.2.1=s.2.1 by lia];exact ⟨rfl,by lia,by lia⟩) k
 rw[List.map_id] at this;exact this
structure Lf (ss:List S3)(f:P5->K2)(qs:List P5)(kvs:dE) : Prop where
 len:kvs.length<=2400
 val:∀k,bh kvs k=(ar ss k).map λr=>r - aE k (qs.map λp=>(f p,ht p))
theorem Lf.start {ss:List S3}{f:P5->K2}{kvs:dE}(hl:kvs.length<=2400)(h:∀k,bh kvs k=ar ss k) : Lf ss f [] kvs:=
 ⟨hl,λk=>by
  rw[h];cases ar ss k with
  | none=>rfl
  | some r=>show some r=some (r - 0); rw[Int.sub_zero]⟩
theorem Lf.skip {ss:List S3}{f:P5->K2}{qs:List P5}{kvs:dE}(L:Lf ss f qs kvs){p:P5}(h:f p=Bt) : Lf ss f (qs++[p]) kvs:=
 ⟨L.len,λk=>by
  rw[L.val,dJ];by_cases e:f p=k
  .rw[<-e,h,mQ]; rfl
  .rw[if_neg e,Int.add_zero]⟩
theorem Lf.pass {ss:List S3}{f:P5->K2}{qs:List P5}{kvs:dE}(L:Lf ss f qs kvs){p:P5}{r:Int}(hr:ar ss (f p)=some r)(h:aE (f p) ((qs++[p]).map λp=>(f p,ht p))<=r) :
  ∃kvs',ni kvs (f p) (ht p)=(true,kvs')/\Lf ss f (qs++[p]) kvs':=by
 have hv:=L.val (f p);rw[hr] at hv;have hv:bh kvs (f p)=some (r - aE (f p) (qs.map λp=>(f p,ht p))):=hv;rw[dJ,if_pos rfl] at h;refine ⟨_,by unfold ni; rw[hv]; dsimp only; rw[if_neg (by lia)],by rw[nv hv]; exact L.len,λk=>?_⟩;rw[mf,dJ];by_cases e:f p=k
 .rw[if_pos e,if_pos e,<-e,hr];show some _=some _;rw[Int.sub_sub]
 .rw[if_neg e,if_neg e,Int.add_zero,L.val]
theorem vf {f:P5->K2}{k:K2}{ps:List P5}(pos:∀p∈ps,1<=ht p)(n:Nat) : aE k ((ps.take n).map λp=>(f p,ht p))<=aE k (ps.map λp=>(f p,ht p)):=by
 have e:=cW k ((ps.take n).map λp=>(f p,ht p)) ((ps.drop n).map λp=>(f p,ht p));rw[<-map_append,take_append_drop] at e;have:=(lY (f:=f) (k:=k) (ps:=ps.drop n) λp hp=>pos p (mem_of_mem_drop hp)).1;lia
theorem uS {ss:List S3}{f:P5->K2}{ps:List P5}(h:∀k,k≠Bt->gI k (ps.map λp=>(f p,ht p))=ar ss k){p:P5}(hp:p∈ps)(h0:0<=(f p).1) : ar ss (f p)=some (aE (f p) (ps.map λp=>(f p,ht p))):=by
 have nb:f p≠Bt:=λz=>by rw[z] at h0; exact absurd h0 (by decide)
 rw[<-h _ nb];unfold gI;rw[if_pos (oM hp)]
theorem Lf.none {ss:List S3}{f:P5->K2}{ps:List P5}{kvs:dE}(L:Lf ss f ps kvs)(h:∀k,k≠Bt->gI k (ps.map λp=>(f p,ht p))=ar ss k){p:K2×Int}(hp:p∈kvs) : bh kvs p.1=some 0:=by
 cases hv:bh kvs p.1 with
 | none=>exact absurd (mem_map.mpr ⟨p,hp,rfl⟩) (iD.mp hv)
 | some v =>
  rw[L.val] at hv;cases hr:ar ss p.1 with
  | none=>rw[hr] at hv; cases hv
  | some r =>
   rw[hr] at hv;have hv:r - aE p.1 (ps.map λp=>(f p,ht p))=v:=Option.some.inj hv;have s:=h p.1 (gR (by rw[hr]; rfl));rw[hr] at s;unfold gI at s;split at s
   .have:=Option.some.inj s;rw[<-hv];congr 1;lia
   .cases s
inductive Gn (g:Int)(hs cs:List S3)(ps:List P5)(i:Nat)(ρ:aB) : Prop
 | mk (hk ck:dE) (y:Nat->Option B) (lh:Lf hs gk (ps.take i) hk) (lc:Lf cs eC (ps.take i) ck) (e:ρ = [some (.p (dW g hs cs)),some (.p (.lst (ps.map d5))),some (.o (.dct hk)),some (.o (.dct ck)),some (.o (.sen ((ps.take i).map k4))),some (.p (.int (aE Bt (gq (ps.take i))))),some (.p (.int (aE Bt (tq (ps.take i))))),y 7,y 8,y 9,y 10,y 11,y 12]) : Gn g hs cs ps i ρ
noncomputable def bo (w:D)(ps:List P5)(hk ck:dE)(ks:List (List Int))(h c:Int)(p:P5) : aB:=[some (.p w),some (.p (.lst (ps.map d5))),some (.o (.dct hk)),some (.o (.dct ck)),some (.o (.sen ks)),some (.p (.int h)),some (.p (.int c)),some (.p (d5 p)),some (.p (.int p.1)),some (.p (.int p.2.1)),some (.p (.int p.2.2.1)),some (.p (.int p.2.2.2.1)),some (.p (.int p.2.2.2.2))]
theorem ne_nil {Q0:Prop}{R:B->Prop}(h:Q0)(e:Q0->R (.p (.bl false)):=by exact λz=>⟨λy=>(nomatch y),λ_=>z⟩) : Gj (D.lst []) (D.lst []) R:=by
 refine ⟨⟨.lst λ_ _ _ e=>absurd e (by simp),by decide +kernel⟩,?_⟩;rw[fA _ (by decide +kernel)];exact e h
noncomputable def iV:DR:=λds P=>∃(g:Int) (hs cs:List S3) (ps:List P5),ds = [dW g hs cs,.lst (ps.map d5)]/\e7 g hs cs/\Looks g hs cs ps/\ps.length<=4800/\P (.p (.tup [.int (aE Bt (gq ps)),.int (aE Bt (tq ps))]))
theorem p6 (T:j8 K mg)(F_law_steps:Fn P w K mg base "_law_steps" 1 ["works"] (bN K jG))(F_law_passed:Fn P w K mg base "_law_passed" 1 ["left","key","heat"] (xM K ni))(F_law_whole:Fn P w K mg base "_law_whole" 1 ["found"] (bN K gP))(F:je K "_law_bought" "_law_bought" bA f fd) : bx P w K mg base fU 2 f fd ["works","passes"] (bN K iV):=by
  refine mK F aI (λds Q h=>by obtain ⟨g,hs,cs,ps,rfl,ok,L,hl,q⟩:=h; rfl) λcdv A outer s H E hr=>⟨_,(ag (EO (i:=2) (j:=3) (aV F_law_steps (hr.mono (by decide)) (by rfl) (aa (dv 0) ah)) (hO rfl (aH (ak (i:=2) aI.nd rfl (Or.inr rfl)) (aH (ak (i:=3) aI.nd rfl (Or.inr rfl)) fm))))
      (ag (g7 (i:=4) aI.nd rfl (Or.inl rfl) BZ)
      (ag (ay (i:=5) aI.nd rfl (Or.inl rfl) ae)
      (ag (ay (i:=6) aI.nd rfl (Or.inl rfl) ae)
      (ag (kD (g:=(.n 7)) PassesOwn.never rfl (cZ (dv 1)) (ak (i:=7) aI.nd rfl (Or.inl rfl)) (ag (bU (DW.dt (jw (oB (kE (rO (T:="tuple") (by simp) (by rfl) T.fN (dv 7) (nV (v:=.ty "tuple") (by rfl) T.BN boot_tuple rfl)))) (jw (aA qW (aG gX (by rfl) T.j9 PySem.boot_len (aa (dv 7) ah)) ae (ax _)) (kF (aA (mJ hr) (gJ (g:=(.n 0)) (tc:=(h9 (fv (cN _ (aU (aS 0) cQ))))) (te:=(aS 0)) (sc0:=af bA) (N0:=["works","passes","hots","colds","seen","heat","cold","one","giver","at","taker","into","much"]) ["part"] [none] rfl (zZ (dv 7)) (λ_ _ _ _ _=>(ak (i:=0) (show (["part"] : List Str).Nodup by decide +kernel) rfl (Or.inl rfl))) (λ_ _ _ _ _=>(jv (oB (kE (aV F_law_whole (hr.mono (by decide)) (by rfl) (aa (dv 0) ah)))))) (λ_ _ _ _ _=>(dv 0))) (dA ah) (ax _)))))) (ai (aN ju)) bf)
      (ag (EN (g:=(.t [8,9,10,11,12])) (dv 7) (hO rfl (aH (ak (i:=8) aI.nd rfl (Or.inl rfl)) (aH (ak (i:=9) aI.nd rfl (Or.inl rfl)) (aH (ak (i:=10) aI.nd rfl (Or.inl rfl)) (aH (ak (i:=11) aI.nd rfl (Or.inl rfl)) (aH (ak (i:=12) aI.nd rfl (Or.inl rfl)) fm)))))))
      (ag (bU (DW.dt (jw (aA qV (dv 12) ae (ax _)) (jw (aA (AS hr) (gn (dv 7) lA (dM ae)) (dv 4) (by with_unfolding_all rfl)) (kF (DW.dt (g8 (aA fb (dv 8) (au fD ae ae) (ax _)) (gL (aA fb (dv 10) (au fD ae ae) (ax _))))))))) (ai (aN ju)) bf)
      (ag (Cb (i:=4) hr rfl (by walk_at "v") (gn (dv 7) lA (dM ae)) qF)
      (ag (bU (DW.dt (g8 (aA fb (dv 8) (au fD ae ae) (ax _)) (gL (aA fb (dv 9) (au fD ae ae) (ax _))))) (ai (mD (i:=5) aI.nd rfl (Or.inl rfl) (dv 12) rY)) (ai (z0 (i:=2) F_law_passed (hr.mono (by decide)) (by rfl) rfl (by walk_at "v") (aa (dD (aa (dv 8) (aa (dv 9) ah))) (aa (dv 12) ah)) (ai (aN ju)))))
      (ag (bU (DW.dt (g8 (aA fb (dv 10) (au fD ae ae) (ax _)) (gL (aA fb (dv 11) (au fD ae ae) (ax _))))) (ai (mD (i:=6) aI.nd rfl (Or.inl rfl) (dv 12) rY)) (ai (z0 (i:=3) F_law_passed (hr.mono (by decide)) (by rfl) rfl (by walk_at "v") (aa (dD (aa (dv 10) (aa (dv 11) ah))) (aa (dv 12) ah)) (ai (aN ju)))))
      (ai (bU (DW.dt (g8 (aA uE (dv 8) ae (ax _)) (g8 (aA uE (dv 10) ae (ax _)) (gL (aA qV (dv 9) (au aK (dv 11) (aF (dv 0) ae)) (ax _)))))) (ai (aN ju)) bf)))))))))
      (ag (bU (DW.dt (jw (aA (mJ hr) (zU (g:=(.n 0)) (tc:=(fv (g6 _ (g6 m8 (aS 1) (aS 0)) (dC _)))) (te:=(aS 0)) (sc0:=af bA) (N0:=["works","passes","hots","colds","seen","heat","cold","one","giver","at","taker","into","much"]) ["key","hots"] [none,some 2] rfl (i:=2) rfl (by walk_at "v") (λ_ _ _ _ _=>(ak (i:=0) (show (["key","hots"] : List Str).Nodup by decide +kernel) rfl (Or.inl rfl))) (λ_ _ _ _ _=>(jv (aA jC (jU hr (dv 1) (dv 0)) ae (ax _)))) (λ_ _ _ _ _=>(dv 0))) (dA ah) (ax _)) (kF (aA (mJ hr) (zU (g:=(.n 0)) (tc:=(fv (g6 _ (g6 m8 (aS 1) (aS 0)) (dC _)))) (te:=(aS 0)) (sc0:=af bA) (N0:=["works","passes","hots","colds","seen","heat","cold","one","giver","at","taker","into","much"]) ["key","colds"] [none,some 3] rfl (i:=3) rfl (by walk_at "v") (λ_ _ _ _ _=>(ak (i:=0) (show (["key","colds"] : List Str).Nodup by decide +kernel) rfl (Or.inl rfl))) (λ_ _ _ _ _=>(jv (aA jC (jU hr (dv 1) (dv 0)) ae (ax _)))) (λ_ _ _ _ _=>(dv 0))) (dA ah) (ax _))))) (ai (aN ju)) bf)
      (ai (aN (dD (aa (dv 5) (aa (dv 6) ah))))))))))),λds Q h=>?_⟩
  obtain ⟨g,hs,cs,ps,rfl,ok,L,hl,q⟩:=h;have sl:sizeLine=16777216:=sizeLine_eq;refine cD (λρ=>ρ = [some (.p (dW g hs cs)),some (.p (.lst (ps.map d5))),some (.o (.dct (lU 0 (dO hs)))),some (.o (.dct (lU 0 cs))),none,none,none,none,none,none,none,none,none]) ?_ λN hN=>?_;rotate_left
  · walk_at "rs";exact ⟨g,hs,cs,rfl,ok,by decide,hN _ rfl⟩
  rintro ρ rfl;have lh:(lU 0 (dO hs)).length<=2400:=by
    have nh:=ok.nh;have:=lV (bs:=dO hs) (n:=0) λb hb=>by
      obtain ⟨x,hx,rfl⟩:=mem_map.mp hb;have o:=ok.yz x hx;have:=o.lo;have:=o.hi;show x.1 - x.2.1<=200;lia
    unfold dO at this ⊢;rw[length_map] at this;lia
  have lc:(lU 0 cs).length<=2400:=by
    have nc:=ok.nc;have:=lV (bs:=cs) (n:=0) λb hb=>by
      have o:=ok.mz b hb;have:=o.lo;have:=o.hi;lia
    lia
  refine cD (λρ=>ρ = [some (.p (dW g hs cs)),some (.p (.lst (ps.map d5))),some (.o (.dct (lU 0 (dO hs)))),some (.o (.dct (lU 0 cs))),some (.o (.sen [])),none,none,none,none,none,none,none,none]) ?_ λN hN=>?_;rotate_left
  · walk_at "rs";exact hN _ rfl
  rintro ρ rfl;refine cD (λρ=>ρ = [some (.p (dW g hs cs)),some (.p (.lst (ps.map d5))),some (.o (.dct (lU 0 (dO hs)))),some (.o (.dct (lU 0 cs))),some (.o (.sen [])),some (.p (.int 0)),none,none,none,none,none,none,none]) ?_ λN hN=>?_;rotate_left
  · walk_at "rs";exact hN _ rfl
  rintro ρ rfl;refine cD (λρ=>Gn g hs cs ps 0 ρ) ?_ λN hN=>?_;rotate_left
  · walk_at "rs";exact hN _ (.mk _ _ (wv 7 [none,none,none,none,none,none]) (Lf.start lh (Ap ok.yz)) (Lf.start lc (yl ok.mz)) rfl)
  intro ρ b0;refine cD (λρ=>Gn g hs cs ps ps.length ρ) ?_ λN hN=>?_;rotate_left
  · cases b0 with
    | mk hk ck y lh lc e =>
    subst e;repeat (first | walk_at "rs2" | walk_at "rsx")
    refine dc (λi ρ=>Gn g hs cs ps i ρ) (.mk _ _ y lh lc rfl) ?_ ?_
    · rintro i x ρ hx ⟨hk,ck,y,lh,lc,rfl⟩;rw[getElem?_map] at hx;obtain ⟨p,hp,rfl⟩:=Option.map_eq_some_iff.mp hx;have pm:=mem_of_getElem? hp;have hpos:=L.pos p pm;have en:=L.ends p pm;have il:i<ps.length:=(List.getElem?_eq_some_iff.mp hp).1;have et:=WS.take_snoc hp;have eg:gk p=Bt\/0<=(gk p).1:=en.elim (λz=>.inl z.1) λz=>z.elim (λz=>.inr z.1) λz=>.inr z.1;have ek:eC p=Bt\/0<=(eC p).1:=en.elim (λz=>.inr z.2) λz=>z.elim (λz=>.inl z.2) λz=>.inr z.2.1;have nB:¬(p.1=0 - 1/\p.2.2.1=0 - 1):=λz=>by rcases en with e | e | e<;>lia
      have nw:k4 p∉(ps.take i).map k4:=λz=>by
        have nd:=L.qT;rw[<-take_append_drop i ps,map_append] at nd;have:=(nodup_append.mp nd).2.2 _ z (k4 p) (mem_map.mpr ⟨p,?_,rfl⟩)
        · exact this rfl
        · rw[drop_eq_getElem_cons il];rw[getElem?_eq_getElem il] at hp;rw[Option.some.inj hp];exact mem_cons_self
      repeat (first | walk_at "rs2" | walk_at "rsx")
      refine cD (λρ=>ρ = [some (B.p (dW g hs cs)),some (B.p (D.lst (List.map d5 ps))),some (B.o (D.dct hk)),some (B.o (D.dct ck)),some (B.o (D.sen (List.map k4 (List.take i ps)))),some (B.p (D.int (aE Bt (gq (List.take i ps))))),some (B.p (D.int (aE Bt (tq (List.take i ps))))),some (B.p (d5 p)),y 8,y 9,y 10,y 11,y 12]) ?_ λN hN=>?_;rotate_left
      · repeat (first | dsimp only[d5] | walk_at "rs1" | walk_at "rsx")
        refine ⟨λz=>(nomatch z),λ_=>⟨λz=>(nomatch z),λ_=>oN (λ_=>none) (Nat.le_of_ble_eq_true rfl) (λx hx=>?_) ?_⟩⟩
        · obtain ⟨n,rfl⟩ : ∃n:Int,x=.int n:=by
            simp only[List.mem_cons,List.not_mem_nil,or_false] at hx;rcases hx with rfl | rfl | rfl | rfl | rfl<;>exact ⟨_,rfl⟩
          walk_at "rs";refine ⟨n,rfl,?_⟩;walk_at "rs";exact ⟨λz=>(nomatch z),λ_=>trivial⟩
        · show Gj (.lst []) (.lst []) _;refine ⟨⟨.lst λ_ _ _ e=>absurd e (by simp),by decide +kernel⟩,?_⟩;rw[fA _ (by decide +kernel)];walk_at "rs";exact ⟨λz=>(nomatch z),λ_=>hN _ rfl⟩
      rintro ρ rfl;refine cD (λρ=>ρ=bo (dW g hs cs) ps hk ck ((ps.take i).map k4) (aE Bt (gq (ps.take i))) (aE Bt (tq (ps.take i))) p) ?_ λN hN=>?_;rotate_left
      · repeat (first | dsimp only[d5] | walk_at "rs1" | walk_at "rsx")
        exact hN _ rfl
      rintro ρ rfl;refine cD (λρ=>ρ=bo (dW g hs cs) ps hk ck ((ps.take i).map k4) (aE Bt (gq (ps.take i))) (aE Bt (tq (ps.take i))) p) ?_ λN hN=>?_;rotate_left
      · repeat (first | dsimp only[bo,d5] | walk_at "rs1" | walk_at "rsx")
        exact ⟨λz=>absurd (of_decide_eq_true z) (show ¬ht p<1 by lia),λ_=>⟨by decide,k4 p,rfl,λz=>absurd (of_decide_eq_true z) nw,λ_=>⟨λa=>⟨λb=>absurd ⟨of_decide_eq_true a,of_decide_eq_true b⟩ nB,λ_=>hN _ rfl⟩,λ_=>⟨λz=>(nomatch z),λ_=>hN _ rfl⟩⟩⟩⟩
      rintro ρ rfl;refine cD (λρ=>ρ=bo (dW g hs cs) ps hk ck ((ps.take (i+1)).map k4) (aE Bt (gq (ps.take i))) (aE Bt (tq (ps.take i))) p) ?_ λN hN=>?_;rotate_left
      · repeat (first | dsimp only[bo,d5] | walk_at "rs1" | walk_at "rsx")
        refine ⟨by decide,k4 p,rfl,by rw[length_map,length_take]; lia,?_⟩;rw[show Bi ((ps.take i).map k4) (k4 p)=(ps.take (i+1)).map k4 by unfold Bi; rw[if_neg nw,et,map_append]; rfl];exact hN _ rfl
      rintro ρ rfl;refine cD (λρ=>∃hk',Lf hs gk (ps.take (i+1)) hk'/\ρ=bo (dW g hs cs) ps hk' ck ((ps.take (i+1)).map k4) (aE Bt (gq (ps.take (i+1)))) (aE Bt (tq (ps.take i))) p) ?_ λN hN=>?_;rotate_left
      · have es : aE Bt (gq (ps.take (i + 1))) = aE Bt (gq (ps.take i)) + if gk p = Bt then ht p else 0 := by rw [et]; exact dJ gk Bt _ p
        repeat (first | dsimp only[bo] | walk_at "rs1" | walk_at "rsx")
        rcases eg with e | e
        · have e1:p.1=0 - 1:=congrArg Prod.fst e;have e2:p.2.1=0 - 1:=congrArg Prod.snd e;rw[if_pos e] at es;rw[es] at hN;exact ⟨λ_=>⟨λ_=>hN _ ⟨hk,by rw[et]; exact lh.skip e,rfl⟩,λz=>absurd e2 (of_decide_eq_false z)⟩,λz=>absurd e1 (of_decide_eq_false z)⟩
        · have t:=vf (f:=gk) (k:=gk p) L.pos (i+1);rw[et] at t;obtain ⟨hk',ef,lf⟩:=lh.pass (uS (f:=gk) L.ud pm e) t;have ef:ni hk (p.1,p.2.1) p.2.2.2.2=(true,hk'):=ef;rw[if_neg (λz=>by rw[z] at e; exact absurd e (by decide)),Int.add_zero] at es;rw[es] at hN;rw[ef];have e:0<=p.1:=e;have ll:=lh.len;exact ⟨λa=>absurd (of_decide_eq_true a) (by lia),λ_=>⟨λz=>(nomatch z),λ_=>⟨by lia,λz=>(nomatch z),λ_=>hN _ ⟨hk',by rw[et]; exact lf,rfl⟩⟩⟩⟩
      rintro ρ ⟨hk',lh',rfl⟩;refine cD (λρ=>∃ck',Lf cs eC (ps.take (i+1)) ck'/\ρ=bo (dW g hs cs) ps hk' ck' ((ps.take (i+1)).map k4) (aE Bt (gq (ps.take (i+1)))) (aE Bt (tq (ps.take (i+1)))) p) ?_ λN hN=>?_;rotate_left
      · have es : aE Bt (tq (ps.take (i + 1))) = aE Bt (tq (ps.take i)) + if eC p = Bt then ht p else 0 := by rw [et]; exact dJ eC Bt _ p
        repeat (first | dsimp only[bo] | walk_at "rs1" | walk_at "rsx")
        rcases ek with e | e
        · have e1:p.2.2.1=0 - 1:=congrArg Prod.fst e;have e2:p.2.2.2.1=0 - 1:=congrArg Prod.snd e;rw[if_pos e] at es;rw[es] at hN;exact ⟨λ_=>⟨λ_=>hN _ ⟨ck,by rw[et]; exact lc.skip e,rfl⟩,λz=>absurd e2 (of_decide_eq_false z)⟩,λz=>absurd e1 (of_decide_eq_false z)⟩
        · have t:=vf (f:=eC) (k:=eC p) L.pos (i+1);rw[et] at t;obtain ⟨ck',ef,lf⟩:=lc.pass (uS (f:=eC) L.sW pm e) t;have ef:ni ck (p.2.2.1,p.2.2.2.1) p.2.2.2.2=(true,ck'):=ef;rw[if_neg (λz=>by rw[z] at e; exact absurd e (by decide)),Int.add_zero] at es;rw[es] at hN;rw[ef];have e:0<=p.2.2.1:=e;have ll:=lc.len;exact ⟨λa=>absurd (of_decide_eq_true a) (by lia),λ_=>⟨λz=>(nomatch z),λ_=>⟨by lia,λz=>(nomatch z),λ_=>hN _ ⟨ck',by rw[et]; exact lf,rfl⟩⟩⟩⟩
      rintro ρ ⟨ck',lc',rfl⟩;have warm:0<=p.1->0<=p.2.2.1->p.2.2.2.1+g<=p.2.1:=λa b=>en.elim (λz=>by have:p.1 = -1:=congrArg Prod.fst z.1; lia) λz=>z.elim (λz=>by have:p.2.2.1 = -1:=congrArg Prod.fst z.2; lia) λz=>z.2.2;repeat (first | dsimp only[bo,dW] | walk_at "rs1" | walk_at "rsx")
      have fin:Gn g hs cs ps (i+1) (bo (dW g hs cs) ps hk' ck' ((ps.take (i+1)).map k4) (aE Bt (gq (ps.take (i+1)))) (aE Bt (tq (ps.take (i+1)))) p):=.mk hk' ck' (wv 7 [_,_,_,_,_,_]) lh' lc' rfl;exact ⟨λa=>⟨λb=>⟨λc=>absurd (of_decide_eq_true c) (by have:=warm (of_decide_eq_true a) (of_decide_eq_true b); lia),λ_=>fin⟩,λ_=>⟨λz=>(nomatch z),λ_=>fin⟩⟩,λ_=>⟨λz=>(nomatch z),λ_=>fin⟩⟩
    · rw[length_map];exact hN
  rintro ρ ⟨hk,ck,y,lh,lc,rfl⟩;rw[List.take_length] at lh lc ⊢;have gone:∀{ss:List S3} {f:P5->K2} {kvs:dE},Lf ss f ps kvs->(∀k,k≠Bt->gI k (ps.map λp=>(f p,ht p))=ar ss k)->∀{Q':B->Prop},Q' (.o (.lst []))->D9 (iq kvs) (Tg.n 0) (fv (g6 (dI λi j=>D.bl (decide (j<i))) (g6 m8 (aS 1) (aS 0)) (dC (D.int 0)))) (aS 0) [none,some (B.p (D.dct kvs))] Q':=λ{ss f kvs} lf h {Q'} q'=>by
    have ln:=lf.len;refine oN (λ_=>none) (by unfold iq; rw[length_map]; lia) (λx hx=>?_) (by rw[show (iq kvs).filterMap (λ_=>(none:Option D)) = [] by simp]; exact q');unfold iq at hx;obtain ⟨p,hp,rfl⟩:=mem_map.mp hx;have v0:=lf.none h hp;walk_at "rs";exact ⟨0,v0,λz=>absurd (of_decide_eq_true z) (by decide),λ_=>trivial⟩
  walk_at "rs";refine gone lh L.ud ?_;walk_at "rs";refine ne_nil (gone lc L.sW ?_);exact ne_nil q
theorem qY {α:Type}{R:α->α->Prop} : ∀{l1 l2:List α},l1.Perm l2->(∀a∈l1,∀b∈l1,R a b->R b a->a=b)->l1.Pairwise R->l2.Pairwise R->l1=l2
 | [],l2,hp,_,_,_=>hp.nil_eq
 | a::l1,[],hp,_,_,_=>nomatch hp.symm.nil_eq
 | a::l1,b::l2,hp,an,h1,h2=>by
  have ma:a∈b::l2:=hp.mem_iff.mp mem_cons_self;have mb:b∈a::l1:=hp.mem_iff.mpr mem_cons_self;have e:a=b:=by
   rcases List.mem_cons.mp ma with z | z
   .exact z
   .rcases List.mem_cons.mp mb with y | y
    .exact y.symm
    .exact an a mem_cons_self b mb ((List.pairwise_cons.mp h1).1 b y) ((List.pairwise_cons.mp h2).1 a z)
  subst e;rw[qY (List.perm_cons a |>.mp hp) (λx hx y hy=>an x (mem_cons_of_mem _ hx) y (mem_cons_of_mem _ hy)) (List.pairwise_cons.mp h1).2 (List.pairwise_cons.mp h2).2]
theorem uk:∀{a b:List Int},a.length=b.length->Tim.fw a b=false->Tim.fw b a=false->a=b
 | [],[],_,_,_=>rfl
 | x::a,y::b,hl,h1,h2=>by
  rw[Tim.oO] at h1 h2;by_cases e:x=y
  .subst e;rw[if_pos rfl] at h1 h2;rw[uk (by simpa using hl) h1 h2]
  .rw[if_neg e] at h1;rw[if_neg (λz=>e z.symm)] at h2;have:=of_decide_eq_false h1;have:=of_decide_eq_false h2;lia
theorem vI {c:Nat}{l1 l2:List (List Int)}(hp:l1.Perm l2)(hl:∀x∈l1,x.length=c)(h1:qo l1)(h2:qo l2) : l1=l2:=
 qY hp (λa ha b hb x y=>uk ((hl a ha).trans (hl b hb).symm) y x) h1 h2
theorem Hg {g:Int}{hs cs:List S3}{Q:B->Prop}(h:Q (.p (.bl false))) : Gj (dW g hs cs) (dW g hs cs) Q:=by
 refine ⟨⟨mq.refl _ (si g hs cs),by have:=zX g hs cs; lia⟩,?_⟩;rw[fA _ (si g hs cs)];exact h
theorem Hf {ps:List P5}{Q:B->Prop}(h:Q (.p (.bl false))) : Gj (.lst (ps.map d5)) (.lst (ps.map d5)) Q:=by
 have n5:nj (.lst (ps.map d5))=true:=by rw[xu]; exact xt ps
 refine ⟨⟨mq.refl _ n5,by rw[rQ]; have:=wK ps; lia⟩,?_⟩;rw[fA _ n5];exact h
theorem Cz {c:Nat->Bool}{i0:Nat}(h0:i0<251)(c0:c i0=true) : ∃L:Nat,L<251/\c L=true/\(∀i:Nat,i<251->c i=true->i<=L)/\gF (((List.range 251).filter c).map λi=>D.int ((i:Nat) : Int)) (-1)=some (.int (L:Nat)):=by
  have hm:i0∈(List.range 251).filter c:=List.mem_filter.mpr ⟨mem_range.mpr h0,c0⟩;have hp:((List.range 251).filter c).Pairwise (· < ·):=List.Pairwise.filter _ List.pairwise_lt_range;generalize hl:(List.range 251).filter c=l at hm hp;have hn:0<l.length:=List.length_pos_of_mem hm;have hg:=getElem?_eq_getElem (l:=l) (i:=l.length - 1) (by lia);have hL:l[l.length - 1]∈(List.range 251).filter c:=by rw[hl]; exact List.getElem_mem _
  obtain ⟨a,b⟩:=List.mem_filter.mp hL;refine ⟨l[l.length - 1],mem_range.mp a,b,λi hi ci=>?_,?_⟩
  · have mi : i ∈ l := by rw [<- hl]; exact List.mem_filter.mpr ⟨mem_range.mpr hi, ci⟩
    obtain ⟨j,hj,rfl⟩:=List.mem_iff_getElem.mp mi;by_cases e:j=l.length - 1
    · subst e; exact Nat.le_refl _
    · exact Nat.le_of_lt (pairwise_iff_getElem.mp hp j (l.length - 1) hj (by lia) (by lia))
  · have e:w6 (l.map λi:Nat=>D.int (i:Int)).length (-1)=some (l.length - 1):=by
      unfold w6;rw[length_map,if_neg (by decide),if_pos (by lia)];congr 1;lia
    unfold gF;rw[e];show (l.map λi:Nat=>D.int (i:Int))[l.length - 1]?=_;rw[getElem?_map,hg];rfl
theorem AA {g:Int}{hs cs:List S3}(ok:e7 g hs cs){m:Int}(h1:m∈bg g hs cs)(h2:∀n∈bg g hs cs,n<=m) : eE g hs cs m:=by
 refine ⟨?_,λi hi=>h2 _ (lJ hi),.inr (qQ h1)⟩;have:=h2 _ (lJ (g:=g) (hs:=hs) (cs:=cs) (i:=250) (by decide));rw[show ((250:Nat) : Int)=250 from rfl,yD ok.g1 ok.yz ok.mz] at this;exact this
theorem xf {g:Int}{hs cs:List S3}{i:Nat}(h:i<251) : gF ((bg g hs cs).map D.int) ((i:Nat) : Int)=some (.int (aQ g hs cs (i:Nat))):=rz (by unfold bg; rw[getElem?_map,List.getElem?_range h]; rfl)
theorem kX.uniq {g:Int}{hs cs:List S3}{m:Int}{d e:D}(h:kX g hs cs m d)(k:kX g hs cs m e) : d=e:=by
 rcases h with ⟨h0,rfl⟩ | ⟨h0,l,hl,rfl,h1,h2⟩
 .rcases k with ⟨_,rfl⟩ | ⟨k0,_⟩
  .rfl
  .exact absurd h0 k0
 .rcases k with ⟨k0,_⟩ | ⟨_,j,hj,rfl,k1,k2⟩
  .exact absurd k0 h0
  .rw[Nat.le_antisymm (k2 l hl h1) (h2 j hj k1)]
noncomputable def Bm:DR:=λds P=>∃ns:List Int,ds = [.scr ns]/\ns.length<=63/\P (.p (.bl true))
theorem Fe (T:j8 K mg)(F_law_works:Fn P w K mg base "_law_works" 2 ["script"] (bN K jH))(F_read:Fn P w K mg base "read" 4 ["text"] (bN K vU))(F_shared:Fn P w K mg base "shared" 2 ["works"] (nK K Pt C9 pd))(F_law_text:Fn P w K mg base "_law_text" 1 ["works"] (bN K kT))(F_law_lack:Fn P w K mg base "_law_lack" 1 ["works","level"] (bN K kQ))(F_law_bought:Fn P w K mg base "_law_bought" 2 ["works","passes"] (bN K iV))(F_pinch:Fn P w K mg base "pinch" 5 ["works"] (bN K sJ))(F_law_whole:Fn P w K mg base "_law_whole" 1 ["found"] (bN K gP))(F_least_heat:Fn P w K mg base "least_heat" 4 ["works"] (bN K eV))(F_least_cold:Fn P w K mg base "least_cold" 5 ["works"] (bN K iW))(F:je K "law" "law" jL f fd) : bx P w K mg base fU 6 f fd ["script"] (nK K Pt C9 Bm):=by
  refine Hj F i7 (λds Q h=>by obtain ⟨ns,rfl,hl,q⟩:=h; rfl) λcdv A outer s H E hr hT=>⟨_,(ag (ay (i:=1) i7.nd rfl (Or.inr rfl) (aV F_law_works (hr.mono (by decide)) (by rfl) (aa (dv 0) ah)))
      (ag (ay (i:=2) i7.nd rfl (Or.inl rfl) (aV F_read (hr.mono (by decide)) (by rfl) (aa (aV F_law_text (hr.mono (by decide)) (by rfl) (aa (dv 1) ah)) ah)))
      (ag (ay (i:=3) i7.nd rfl (Or.inl rfl) (vz hT F_shared (hr.mono (by decide)) (by rfl) (aa (dv 2) ah)))
      (ag (bU (DW.dt (jw (aA (mJ hr) (dv 2) (dv 1) (ax _)) (jw (oB (kE (rO (T:="list") (by simp) (by rfl) T.fN (dv 3) (nV (v:=.ty "list") (by rfl) T.zB boot_list rfl)))) (kF (aA (mJ hr) (dv 3) (aG tE (by rfl) T.oe boot_sorted (aa (dv 3) ah)) (ax _)))))) (ai (aN qF)) bf)
      (ag (ay (i:=4) i7.nd rfl (Or.inr rfl) (gJ (g:=(.n 0)) (tc:=bj) (te:=(cN _ (aU (aS 1) (aU (aS 0) cQ)))) (sc0:=af jL) (N0:=["script","works","told","passes","lacks","heat","cold","due"]) ["level","works"] [none,some 1] rfl (gu (by rfl) T.fj (aa ae ah)).di (λ_ _ _ _ _=>(ak (i:=0) (show (["level","works"] : List Str).Nodup by decide +kernel) rfl (Or.inl rfl))) (λ_ _ _ _ _=>cR) (λ_ _ _ _ _=>(aV F_law_lack (hr.mono (by decide)) (by rfl) (aa (dv 1) (aa (dv 0) ah))))))
      (ag (ay (i:=5) i7.nd rfl (Or.inr rfl) (aG (rD rfl) (by rfl) T.ka boot_max (aa (dv 4) ah)))
      (ag (ay (i:=6) i7.nd rfl (Or.inl rfl) (au fD (dv 5) (aF (dv 4) ae)))
      (ag (bU (aA (mJ hr) (aV F_law_bought (hr.mono (by decide)) (by rfl) (aa (dv 1) (aa (dv 3) ah))) (dD (aa (dv 5) (aa (dv 6) ah))) (ax _)) (ai (aN qF)) bf)
      (ag (bU (DW.dt (jw (oB (kE (aV F_law_whole (hr.mono (by decide)) (by rfl) (aa (aV F_least_heat (hr.mono (by decide)) (by rfl) (aa (dv 2) ah)) ah)))) (jw (aA qW (aV F_least_heat (hr.mono (by decide)) (by rfl) (aa (dv 2) ah)) (dv 5) (ax _)) (kF (aA qW (aV F_least_cold (hr.mono (by decide)) (by rfl) (aa (dv 2) ah)) (dv 6) (ax _)))))) (ai (aN qF)) bf)
      (ag (ay (i:=7) i7.nd rfl (Or.inl rfl) ju)
      (ag (bU (aA jC (dv 5) ae (ax _)) (ai (ay (i:=7) i7.nd rfl (Or.inl rfl) (aF (gJ (g:=(.n 0)) (tc:=(fv (g6 _ (g6 ow (aS 2) (aS 0)) (aS 1)))) (te:=(aS 0)) (sc0:=af jL) (N0:=["script","works","told","passes","lacks","heat","cold","due"]) ["level","heat","lacks"] [none,some 5,some 4] rfl (gu (by rfl) T.fj (aa ae ah)).di (λ_ _ _ _ _=>(ak (i:=0) (show (["level","heat","lacks"] : List Str).Nodup by decide +kernel) rfl (Or.inl rfl))) (λ_ _ _ _ _=>(jv (aA fb (aF (dv 2) (dv 0)) (dv 1) (ax _)))) (λ_ _ _ _ _=>(dv 0))) (EJ ae)))) bf)
      (ai (aN (jt (Fb hr) (aV F_pinch (hr.mono (by decide)) (by rfl) (aa (dv 2) ah)) (dv 7) (ax _))))))))))))))),λds Q h=>?_⟩
  obtain ⟨ns,rfl,hl,q⟩:=h;have sl:sizeLine=16777216:=sizeLine_eq;refine cD (λρ=>∃g hs cs,e7 g hs cs/\ρ = [some (B.p (D.scr ns)),some (B.p (dW g hs cs)),none,none,none,none,none,none]) ?_ λN hN=>?_;rotate_left
  · walk_at "rs";exact ⟨ns,rfl,λg hs cs wk=>hN _ ⟨g,hs,cs,wk.ok,rfl⟩⟩
  rintro ρ ⟨g,hs,cs,ok,rfl⟩;refine cD (λρ=>ρ = [some (B.p (D.scr ns)),some (B.p (dW g hs cs)),some (B.p (dW g hs cs)),none,none,none,none,none]) ?_ λN hN=>?_;rotate_left
  · walk_at "rs";refine ⟨g,hs,cs,rfl,ok,?_⟩;walk_at "rs";exact ⟨g,hs,cs,rfl,ok,hN _ rfl⟩
  rintro ρ rfl;refine cD (λρ=>∃ps:List P5,Looks g hs cs ps/\ps.length<=4800/\qo (ps.map l5)/\Tight g ps/\ρ = [some (B.p (D.scr ns)),some (B.p (dW g hs cs)),some (B.p (dW g hs cs)),some (.p (.lst (ps.map d5))),none,none,none,none]) ?_ λN hN=>?_;rotate_left
  · walk_at "rs";exact ⟨g,hs,cs,rfl,ok,λps L lx hp ti=>hN _ ⟨ps,L,hp,lx,ti,rfl⟩⟩
  rintro ρ ⟨ps,L,hp,lx,ti,rfl⟩;refine cD (λρ=>ρ = [some (B.p (D.scr ns)),some (B.p (dW g hs cs)),some (B.p (dW g hs cs)),some (.p (.lst (ps.map d5))),none,none,none,none]) ?_ λN hN=>?_;rotate_left
  · walk_at "rs";refine Hg ?_;walk_at "rs";refine ⟨λz=>(nomatch z),λ_=>⟨λz=>(nomatch z),λ_=>⟨ps.map l5,5,by rw[map_map]; rfl,by decide,λns hn=>?_,λmss hp' hu=>?_⟩⟩⟩
    · obtain ⟨p,_,rfl⟩:=mem_map.mp hn;rfl
    · have e := vI (c := 5) hp' (λx hx => by obtain ⟨y, _, rfl⟩ := mem_map.mp (hp'.mem_iff.mp hx); rfl) hu lx;subst e;rw[map_map];refine Hf ?_;walk_at "rs";exact ⟨λz=>(nomatch z),λ_=>hN _ rfl⟩
  rintro ρ rfl;refine cD (λρ=>ρ = [some (B.p (D.scr ns)),some (B.p (dW g hs cs)),some (B.p (dW g hs cs)),some (.p (.lst (ps.map d5))),some (.p (.lst ((bg g hs cs).map D.int))),none,none,none]) ?_ λN hN=>?_;rotate_left
  · walk_at "rs";refine ⟨by decide,kK (λx=>match x with | .int L=>.int (aQ g hs cs L) | d=>d) (by rw[bJ]; decide) (λx hx=>?_) ?_⟩
    · obtain ⟨i,hi,rfl⟩:=kM hx;exact ⟨g,hs,cs,_,rfl,ok,rfl⟩
    · have e:List.map (λx=>match x with | D.int L=>D.int (aQ g hs cs L) | d=>d) (dQ 0 (Int.toNat 251))=(bg g hs cs).map D.int:=by
        unfold dQ bg;rw[map_map,map_map];refine E5 λi _=>?_;show D.int (aQ g hs cs (0+(i:Nat)))=D.int (aQ g hs cs (i:Nat));rw[Int.zero_add]
      rw[e];exact hN _ rfl
  rintro ρ rfl;refine cD (λρ=>∃m,eE g hs cs m/\ρ = [some (B.p (D.scr ns)),some (B.p (dW g hs cs)),some (B.p (dW g hs cs)),some (.p (.lst (ps.map d5))),some (.p (.lst ((bg g hs cs).map D.int))),some (.p (.int m)),none,none]) ?_ λN hN=>?_;rotate_left
  · walk_at "rs";exact ⟨bg g hs cs,rfl,List.ne_nil_of_mem (lJ (i:=0) (by decide)),λm h1 h2=>hN _ ⟨m,AA ok h1 h2,rfl⟩⟩
  rintro ρ ⟨m,lm,rfl⟩;have em:aE Bt (gq ps)=m:=by
    have l:=L.lst ok.yz ok.mz ti;exact eE.uniq ⟨l.z,λi _=>l.ub i,l.at'⟩ lm
  have ec:=L.diff ok.yz ok.mz ok.g0;rw[em] at ec;refine cD (λρ=>ρ = [some (B.p (D.scr ns)),some (B.p (dW g hs cs)),some (B.p (dW g hs cs)),some (.p (.lst (ps.map d5))),some (.p (.lst ((bg g hs cs).map D.int))),some (.p (.int m)),some (.p (.int (m - aQ g hs cs 0))),none]) ?_ λN hN=>?_;rotate_left
  · walk_at "rs";exact ⟨_,xf (i:=0) (by decide),hN _ rfl⟩
  rintro ρ rfl;refine cD (λρ=>ρ = [some (B.p (D.scr ns)),some (B.p (dW g hs cs)),some (B.p (dW g hs cs)),some (.p (.lst (ps.map d5))),some (.p (.lst ((bg g hs cs).map D.int))),some (.p (.int m)),some (.p (.int (m - aQ g hs cs 0))),none]) ?_ λN hN=>?_;rotate_left
  · walk_at "rs";refine ⟨g,hs,cs,ps,rfl,ok,L,hp,?_⟩;rw[em,ec];walk_at "rs";refine CN ?_;rw[decide_eq_true ⟨rfl,rfl⟩];exact ⟨λz=>(nomatch z),λ_=>hN _ rfl⟩
  rintro ρ rfl;refine cD (λρ=>ρ = [some (B.p (D.scr ns)),some (B.p (dW g hs cs)),some (B.p (dW g hs cs)),some (.p (.lst (ps.map d5))),some (.p (.lst ((bg g hs cs).map D.int))),some (.p (.int m)),some (.p (.int (m - aQ g hs cs 0))),none]) ?_ λN hN=>?_;rotate_left
  · walk_at "rs";refine ⟨g,hs,cs,rfl,ok,λm1 h1=>?_⟩;walk_at "rs";refine ⟨m1,rfl,?_⟩;walk_at "rs";refine ⟨λz=>(nomatch z),λ_=>⟨g,hs,cs,rfl,ok,λm2 h2=>?_⟩⟩;obtain rfl:=h2.uniq lm;walk_at "rs";refine ⟨λz=>by simp at z,λ_=>⟨g,hs,cs,rfl,ok,λm3 h3=>?_⟩⟩;obtain rfl:=h3.uniq lm;walk_at "rs";exact ⟨λz=>by simp at z,λ_=>hN _ rfl⟩
  rintro ρ rfl;refine cD (λρ=>ρ = [some (B.p (D.scr ns)),some (B.p (dW g hs cs)),some (B.p (dW g hs cs)),some (.p (.lst (ps.map d5))),some (.p (.lst ((bg g hs cs).map D.int))),some (.p (.int m)),some (.p (.int (m - aQ g hs cs 0))),some (.p .non)]) ?_ λN hN=>?_;rotate_left
  · walk_at "rs";exact hN _ rfl
  rintro ρ rfl;refine cD (λρ=>∃d,kX g hs cs m d/\ρ = [some (B.p (D.scr ns)),some (B.p (dW g hs cs)),some (B.p (dW g hs cs)),some (.p (.lst (ps.map d5))),some (.p (.lst ((bg g hs cs).map D.int))),some (.p (.int m)),some (.p (.int (m - aQ g hs cs 0))),some (.p d)]) ?_ λN hN=>?_;rotate_left
  · walk_at "rs";refine ⟨λz=>⟨by decide,oN (λx=>match x with | .int l=>if aQ g hs cs l=m then some (.int l) else none | _=>none) (by rw[bJ]; decide) (λx hx=>?_) ?_⟩,λz=>hN _ ⟨.non,.inl ⟨?_,rfl⟩,rfl⟩⟩
    · obtain ⟨i,hi,rfl⟩:=kM hx;rw[Int.zero_add];walk_at "rs";refine ⟨_,xf hi,?_⟩;walk_at "rs";refine ⟨λc=>?_,λc=>?_⟩
      · rw[if_pos (of_decide_eq_true c)]
      · rw[if_neg (of_decide_eq_false c)]
    · have e:(dQ 0 (Int.toNat 251)).filterMap (λx=>match x with | .int l=>if aQ g hs cs l=m then some (.int l) else none | _=>none)=((List.range 251).filter λi:Nat=>decide (aQ g hs cs (i:Nat)=m)).map λi=>D.int ((i:Nat) : Int):=by
        rw[<-g9 (λi:Nat=>aQ g hs cs (i:Nat)=m) (λi=>D.int (i:Nat)) (List.range 251)];unfold dQ;rw[List.filterMap_map];refine congrArg (λf=>List.filterMap f (List.range 251)) (funext λi=>?_);show (if aQ g hs cs (0+(i:Nat))=m then some (D.int (0+(i:Nat))) else none)=_;rw[Int.zero_add]
      have m0:m≠0:=λe=>by
        have:=of_decide_eq_true z;lia
      rcases lm.at' with e' | ⟨i0,hi0,e'⟩
      · exact absurd e' m0
      · obtain ⟨l,hl,c1,c2,c3⟩:=Cz (c:=λi:Nat=>decide (aQ g hs cs (i:Nat)=m)) hi0 (decide_eq_true e'.symm);rw[e];walk_at "rs";exact ⟨_,c3,hN _ ⟨_,.inr ⟨m0,l,hl,rfl,of_decide_eq_true c1,λi hi ci=>c2 i hi (decide_eq_true ci)⟩,rfl⟩⟩
    · have:=of_decide_eq_false z;have:=lm.z;lia
  rintro ρ ⟨d,pi,rfl⟩;walk_at "rs";refine ⟨g,hs,cs,rfl,ok,λm1 d1 h1 p1=>?_⟩;obtain rfl:=h1.uniq lm;obtain rfl:=p1.uniq pi;rcases pi with ⟨_,rfl⟩ | ⟨_,l,_,rfl,_,_⟩
  · refine ⟨⟨.non, by rw [B5]; decide⟩, ?_⟩;rw[fA _ CO];exact q
  · refine ⟨⟨.int _ _, by rw [lu]; decide⟩, ?_⟩;rw[fA _ (nS _)];exact q
end
end WS
namespace WS
open PySem L2 DL
theorem bL {α:Type}{P:List α->Prop}(h:∀x0,P [x0]) : ∀us:List α,us.length=1->P us:=λus hl=>match us,hl with | [x0],_=>h x0
theorem gM {α:Type}{P:List α->Prop}(h:∀x0 x1,P [x0,x1]) : ∀us:List α,us.length=2->P us:=λus hl=>match us,hl with | [x0,x1],_=>h x0 x1
theorem lN {α:Type}{P:List α->Prop}(h:∀x0 x1 x2,P [x0,x1,x2]) : ∀us:List α,us.length=3->P us:=λus hl=>match us,hl with | [x0,x1,x2],_=>h x0 x1 x2
theorem all_mk {l:PySem.W.OpenLaw}{w:World}{K:Frag}{h:Heap}{mg:Str->Option Value}{fa:Addr}(X:K.In h)(G:h.Ns mainGlobals mg)(hfa:mg "law" = some (.ref fa))
  {f1:Addr} {od1 an1:Option Addr} {sl1:Array (Option Value)} {oc1 kV1 dc1 pm1 cd1 ct1:Value}
  {f2:Addr} {od2 an2:Option Addr} {sl2:Array (Option Value)} {oc2 kV2 dc2 pm2 cd2 ct2:Value}
  {f3:Addr} {od3 an3:Option Addr} {sl3:Array (Option Value)} {oc3 kV3 dc3 pm3 cd3 ct3:Value}
  {f4:Addr} {od4 an4:Option Addr} {sl4:Array (Option Value)} {oc4 kV4 dc4 pm4 cd4 ct4:Value}
  {f5:Addr} {od5 an5:Option Addr} {sl5:Array (Option Value)} {oc5 kV5 dc5 pm5 cd5 ct5:Value}
  {f6:Addr} {od6 an6:Option Addr} {sl6:Array (Option Value)} {oc6 kV6 dc6 pm6 cd6 ct6:Value}
  {f7:Addr} {od7 an7:Option Addr} {sl7:Array (Option Value)} {oc7 kV7 dc7 pm7 cd7 ct7:Value}
  {f8:Addr} {od8 an8:Option Addr} {sl8:Array (Option Value)} {oc8 kV8 dc8 pm8 cd8 ct8:Value}
  {f9:Addr} {od9 an9:Option Addr} {sl9:Array (Option Value)} {oc9 kV9 dc9 pm9 cd9 ct9:Value}
  {f10:Addr} {od10 an10:Option Addr} {sl10:Array (Option Value)} {oc10 kV10 dc10 pm10 cd10 ct10:Value}
  {f11:Addr} {od11 an11:Option Addr} {sl11:Array (Option Value)} {oc11 kV11 dc11 pm11 cd11 ct11:Value}
  {f12:Addr} {od12 an12:Option Addr} {sl12:Array (Option Value)} {oc12 kV12 dc12 pm12 cd12 ct12:Value}
  {f13:Addr} {od13 an13:Option Addr} {sl13:Array (Option Value)} {oc13 kV13 dc13 pm13 cd13 ct13:Value}
  {f14:Addr} {od14 an14:Option Addr} {sl14:Array (Option Value)} {oc14 kV14 dc14 pm14 cd14 ct14:Value}
  {f15:Addr} {od15 an15:Option Addr} {sl15:Array (Option Value)} {oc15 kV15 dc15 pm15 cd15 ct15:Value}
  {f16:Addr} {od16 an16:Option Addr} {sl16:Array (Option Value)} {oc16 kV16 dc16 pm16 cd16 ct16:Value}
  {f17:Addr} {od17 an17:Option Addr} {sl17:Array (Option Value)} {oc17 kV17 dc17 pm17 cd17 ct17:Value}
  {f18:Addr} {od18 an18:Option Addr} {sl18:Array (Option Value)} {oc18 kV18 dc18 pm18 cd18 ct18:Value}
  {f19:Addr} {od19 an19:Option Addr} {sl19:Array (Option Value)} {oc19 kV19 dc19 pm19 cd19 ct19:Value}
  {f20:Addr} {od20 an20:Option Addr} {sl20:Array (Option Value)} {oc20 kV20 dc20 pm20 cd20 ct20:Value}
  {f21:Addr} {od21 an21:Option Addr} {sl21:Array (Option Value)} {oc21 kV21 dc21 pm21 cd21 ct21:Value}
  {f22:Addr} {od22 an22:Option Addr} {sl22:Array (Option Value)} {oc22 kV22 dc22 pm22 cd22 ct22:Value}
  {f23:Addr} {od23 an23:Option Addr} {sl23:Array (Option Value)} {oc23 kV23 dc23 pm23 cd23 ct23:Value}
  {f24:Addr} {od24 an24:Option Addr} {sl24:Array (Option Value)} {oc24 kV24 dc24 pm24 cd24 ct24:Value}
  {f25:Addr} {od25 an25:Option Addr} {sl25:Array (Option Value)} {oc25 kV25 dc25 pm25 cd25 ct25:Value}
  {f26:Addr} {od26 an26:Option Addr} {sl26:Array (Option Value)} {oc26 kV26 dc26 pm26 cd26 ct26:Value}
  {f27:Addr} {od27 an27:Option Addr} {sl27:Array (Option Value)} {oc27 kV27 dc27 pm27 cd27 ct27:Value}
  {f28:Addr} {od28 an28:Option Addr} {sl28:Array (Option Value)} {oc28 kV28 dc28 pm28 cd28 ct28:Value}
  {f29:Addr} {od29 an29:Option Addr} {sl29:Array (Option Value)} {oc29 kV29 dc29 pm29 cd29 ct29:Value}
  {f30:Addr} {od30 an30:Option Addr} {sl30:Array (Option Value)} {oc30 kV30 dc30 pm30 cd30 ct30:Value}
  {f31:Addr} {od31 an31:Option Addr} {sl31:Array (Option Value)} {oc31 kV31 dc31 pm31 cd31 ct31:Value}
  {tk1:Tok}
  {tk2:Tok}
  {tk3:Tok}
  {tk4:Tok}
  {eC:Tok}
  {tk6:Tok}
  {tk7:Tok}
  {tk8:Tok}
  {bt1:Addr} {bo1:Option Addr} {bu1 bv1:Tok} {bn1:Nat} {bs1:Array (Option Value)}
  {Pt mc:Addr}
  (a1:nsIn K mainGlobals "_law_cell_at" = some (some (.ref f1))) (l1:K.lookup f1=some ⟨oc1,od1,.func (fnOf "_law_cell_at" "_law_cell_at" (az cG) (av cG) (af cG) .none kV1 dc1 pm1 an1 cd1 ct1),sl1⟩) (c1:codeIn K cd1 "_law_cell_at" = true) (k1:keepIn K (.ref f1)=true)
  (a2:nsIn K mainGlobals "_law_mixed" = some (some (.ref f2))) (l2:K.lookup f2=some ⟨oc2,od2,.func (fnOf "_law_mixed" "_law_mixed" (az d9) (av d9) (af d9) .none kV2 dc2 pm2 an2 cd2 ct2),sl2⟩) (c2:codeIn K cd2 "_law_mixed" = true) (k2:keepIn K (.ref f2)=true)
  (a3:nsIn K mainGlobals "_law_rate" = some (some (.ref f3))) (l3:K.lookup f3=some ⟨oc3,od3,.func (fnOf "_law_rate" "_law_rate" (az ff) (av ff) (af ff) .none kV3 dc3 pm3 an3 cd3 ct3),sl3⟩) (c3:codeIn K cd3 "_law_rate" = true) (k3:keepIn K (.ref f3)=true)
  (a4:nsIn K mainGlobals "_law_works" = some (some (.ref f4))) (l4:K.lookup f4=some ⟨oc4,od4,.func (fnOf "_law_works" "_law_works" (az ei) (av ei) (af ei) .none kV4 dc4 pm4 an4 cd4 ct4),sl4⟩) (c4:codeIn K cd4 "_law_works" = true) (k4:keepIn K (.ref f4)=true)
  (a5:nsIn K mainGlobals "is_numeral" = some (some (.ref f5))) (l5:K.lookup f5=some ⟨oc5,od5,.func (fnOf "is_numeral" "is_numeral" (az cz) (av cz) (af cz) .none kV5 dc5 pm5 an5 cd5 ct5),sl5⟩) (c5:codeIn K cd5 "is_numeral" = true) (k5:keepIn K (.ref f5)=true)
  (a6:nsIn K mainGlobals "numbers_of" = some (some (.ref f6))) (l6:K.lookup f6=some ⟨oc6,od6,.func (fnOf "numbers_of" "numbers_of" (az bS) (av bS) (af bS) .none kV6 dc6 pm6 an6 cd6 ct6),sl6⟩) (c6:codeIn K cd6 "numbers_of" = true) (k6:keepIn K (.ref f6)=true)
  (a7:nsIn K mainGlobals "check_within" = some (some (.ref f7))) (l7:K.lookup f7=some ⟨oc7,od7,.func (fnOf "check_within" "check_within" (az cf) (av cf) (af cf) .none kV7 dc7 pm7 an7 cd7 ct7),sl7⟩) (c7:codeIn K cd7 "check_within" = true) (k7:keepIn K (.ref f7)=true)
  (a8:nsIn K mainGlobals "read_gap" = some (some (.ref f8))) (l8:K.lookup f8=some ⟨oc8,od8,.func (fnOf "read_gap" "read_gap" (az fg) (av fg) (af fg) .none kV8 dc8 pm8 an8 cd8 ct8),sl8⟩) (c8:codeIn K cd8 "read_gap" = true) (k8:keepIn K (.ref f8)=true)
  (a9:nsIn K mainGlobals "check_room" = some (some (.ref f9))) (l9:K.lookup f9=some ⟨oc9,od9,.func (fnOf "check_room" "check_room" (az df) (av df) (af df) .none kV9 dc9 pm9 an9 cd9 ct9),sl9⟩) (c9:codeIn K cd9 "check_room" = true) (k9:keepIn K (.ref f9)=true)
  (a10:nsIn K mainGlobals "check_place" = some (some (.ref f10))) (l10:K.lookup f10=some ⟨oc10,od10,.func (fnOf "check_place" "check_place" (az cF) (av cF) (af cF) .none kV10 dc10 pm10 an10 cd10 ct10),sl10⟩) (c10:codeIn K cd10 "check_place" = true) (k10:keepIn K (.ref f10)=true)
  (a11:nsIn K mainGlobals "check_stream" = some (some (.ref f11))) (l11:K.lookup f11=some ⟨oc11,od11,.func (fnOf "check_stream" "check_stream" (az cc) (av cc) (af cc) .none kV11 dc11 pm11 an11 cd11 ct11),sl11⟩) (c11:codeIn K cd11 "check_stream" = true) (k11:keepIn K (.ref f11)=true)
  (a12:nsIn K mainGlobals "read" = some (some (.ref f12))) (l12:K.lookup f12=some ⟨oc12,od12,.func (fnOf "read" "read" (az mU) (av mU) (af mU) .none kV12 dc12 pm12 an12 cd12 ct12),sl12⟩) (c12:codeIn K cd12 "read" = true) (k12:keepIn K (.ref f12)=true)
  (a13:nsIn K mainGlobals "rates_by_step" = some (some (.ref f13))) (l13:K.lookup f13=some ⟨oc13,od13,.func (fnOf "rates_by_step" "rates_by_step" (az bO) (av bO) (af bO) .none kV13 dc13 pm13 an13 cd13 ct13),sl13⟩) (c13:codeIn K cd13 "rates_by_step" = true) (k13:keepIn K (.ref f13)=true)
  (a14:nsIn K mainGlobals "warmest_first" = some (some (.ref f14))) (l14:K.lookup f14=some ⟨oc14,od14,.func (fnOf "warmest_first" "warmest_first" (az bw) (av bw) (af bw) .none kV14 dc14 pm14 an14 cd14 ct14),sl14⟩) (c14:codeIn K cd14 "warmest_first" = true) (k14:keepIn K (.ref f14)=true)
  (a15:nsIn K mainGlobals "is_warm_enough" = some (some (.ref f15))) (l15:K.lookup f15=some ⟨oc15,od15,.func (fnOf "is_warm_enough" "is_warm_enough" (az bF) (av bF) (af bF) .none kV15 dc15 pm15 an15 cd15 ct15),sl15⟩) (c15:codeIn K cd15 "is_warm_enough" = true) (k15:keepIn K (.ref f15)=true)
  (a16:nsIn K mainGlobals "shared" = some (some (.ref f16))) (l16:K.lookup f16=some ⟨oc16,od16,.func (fnOf "shared" "shared" (az gE) (av gE) (af gE) .none kV16 dc16 pm16 an16 cd16 ct16),sl16⟩) (c16:codeIn K cd16 "shared" = true) (k16:keepIn K (.ref f16)=true)
  (a17:nsIn K mainGlobals "_law_text" = some (some (.ref f17))) (l17:K.lookup f17=some ⟨oc17,od17,.func (fnOf "_law_text" "_law_text" (az dP) (av dP) (af dP) .none kV17 dc17 pm17 an17 cd17 ct17),sl17⟩) (c17:codeIn K cd17 "_law_text" = true) (k17:keepIn K (.ref f17)=true)
  (a18:nsIn K mainGlobals "_law_lack" = some (some (.ref f18))) (l18:K.lookup f18=some ⟨oc18,od18,.func (fnOf "_law_lack" "_law_lack" (az fe) (av fe) (af fe) .none kV18 dc18 pm18 an18 cd18 ct18),sl18⟩) (c18:codeIn K cd18 "_law_lack" = true) (k18:keepIn K (.ref f18)=true)
  (a19:nsIn K mainGlobals "_law_steps" = some (some (.ref f19))) (l19:K.lookup f19=some ⟨oc19,od19,.func (fnOf "_law_steps" "_law_steps" (az ed) (av ed) (af ed) .none kV19 dc19 pm19 an19 cd19 ct19),sl19⟩) (c19:codeIn K cd19 "_law_steps" = true) (k19:keepIn K (.ref f19)=true)
  (a20:nsIn K mainGlobals "_law_passed" = some (some (.ref f20))) (l20:K.lookup f20=some ⟨oc20,od20,.func (fnOf "_law_passed" "_law_passed" (az dh) (av dh) (af dh) .none kV20 dc20 pm20 an20 cd20 ct20),sl20⟩) (c20:codeIn K cd20 "_law_passed" = true) (k20:keepIn K (.ref f20)=true)
  (a21:nsIn K mainGlobals "_law_whole" = some (some (.ref f21))) (l21:K.lookup f21=some ⟨oc21,od21,.func (fnOf "_law_whole" "_law_whole" (az eh) (av eh) (af eh) .none kV21 dc21 pm21 an21 cd21 ct21),sl21⟩) (c21:codeIn K cd21 "_law_whole" = true) (k21:keepIn K (.ref f21)=true)
  (a22:nsIn K mainGlobals "_law_bought" = some (some (.ref f22))) (l22:K.lookup f22=some ⟨oc22,od22,.func (fnOf "_law_bought" "_law_bought" (az bA) (av bA) (af bA) .none kV22 dc22 pm22 an22 cd22 ct22),sl22⟩) (c22:codeIn K cd22 "_law_bought" = true) (k22:keepIn K (.ref f22)=true)
  (a23:nsIn K mainGlobals "heat_above" = some (some (.ref f23))) (l23:K.lookup f23=some ⟨oc23,od23,.func (fnOf "heat_above" "heat_above" (az cy) (av cy) (af cy) .none kV23 dc23 pm23 an23 cd23 ct23),sl23⟩) (c23:codeIn K cd23 "heat_above" = true) (k23:keepIn K (.ref f23)=true)
  (a24:nsIn K mainGlobals "cold_bands" = some (some (.ref f24))) (l24:K.lookup f24=some ⟨oc24,od24,.func (fnOf "cold_bands" "cold_bands" (az cx) (av cx) (af cx) .none kV24 dc24 pm24 an24 cd24 ct24),sl24⟩) (c24:codeIn K cd24 "cold_bands" = true) (k24:keepIn K (.ref f24)=true)
  (a25:nsIn K mainGlobals "hot_bands" = some (some (.ref f25))) (l25:K.lookup f25=some ⟨oc25,od25,.func (fnOf "hot_bands" "hot_bands" (az cV) (av cV) (af cV) .none kV25 dc25 pm25 an25 cd25 ct25),sl25⟩) (c25:codeIn K cd25 "hot_bands" = true) (k25:keepIn K (.ref f25)=true)
  (a26:nsIn K mainGlobals "lack_above" = some (some (.ref f26))) (l26:K.lookup f26=some ⟨oc26,od26,.func (fnOf "lack_above" "lack_above" (az dg) (av dg) (af dg) .none kV26 dc26 pm26 an26 cd26 ct26),sl26⟩) (c26:codeIn K cd26 "lack_above" = true) (k26:keepIn K (.ref f26)=true)
  (a27:nsIn K mainGlobals "lacks_above" = some (some (.ref f27))) (l27:K.lookup f27=some ⟨oc27,od27,.func (fnOf "lacks_above" "lacks_above" (az bT) (av bT) (af bT) .none kV27 dc27 pm27 an27 cd27 ct27),sl27⟩) (c27:codeIn K cd27 "lacks_above" = true) (k27:keepIn K (.ref f27)=true)
  (a28:nsIn K mainGlobals "least_heat" = some (some (.ref f28))) (l28:K.lookup f28=some ⟨oc28,od28,.func (fnOf "least_heat" "least_heat" (az dm) (av dm) (af dm) .none kV28 dc28 pm28 an28 cd28 ct28),sl28⟩) (c28:codeIn K cd28 "least_heat" = true) (k28:keepIn K (.ref f28)=true)
  (a29:nsIn K mainGlobals "pinch" = some (some (.ref f29))) (l29:K.lookup f29=some ⟨oc29,od29,.func (fnOf "pinch" "pinch" (az i6) (av i6) (af i6) .none kV29 dc29 pm29 an29 cd29 ct29),sl29⟩) (c29:codeIn K cd29 "pinch" = true) (k29:keepIn K (.ref f29)=true)
  (a30:nsIn K mainGlobals "least_cold" = some (some (.ref f30))) (l30:K.lookup f30=some ⟨oc30,od30,.func (fnOf "least_cold" "least_cold" (az dj) (av dj) (af dj) .none kV30 dc30 pm30 an30 cd30 ct30),sl30⟩) (c30:codeIn K cd30 "least_cold" = true) (k30:keepIn K (.ref f30)=true)
  (a31:nsIn K mainGlobals "law" = some (some (.ref f31))) (l31:K.lookup f31=some ⟨oc31,od31,.func (fnOf "law" "law" (az jL) (av jL) (af jL) .none kV31 dc31 pm31 an31 cd31 ct31),sl31⟩) (c31:codeIn K cd31 "law" = true) (k31:keepIn K (.ref f31)=true)
  (z1:nsIn K mainGlobals "len" = some none)
  (z2:nsIn K mainGlobals "sum" = some none)
  (z3:nsIn K mainGlobals "range" = some none)
  (z4:nsIn K mainGlobals "int" = some none)
  (z5:nsIn K mainGlobals "all" = some none)
  (z6:nsIn K mainGlobals "enumerate" = some none)
  (z7:nsIn K mainGlobals "min" = some none)
  (z8:nsIn K mainGlobals "max" = some none)
  (z9:nsIn K mainGlobals "sorted" = some none)
  (z10:nsIn K mainGlobals "list" = some none)
  (z11:nsIn K mainGlobals "str" = some none)
  (z12:nsIn K mainGlobals "isinstance" = some none)
  (z13:nsIn K mainGlobals "bool" = some none)
  (z14:nsIn K mainGlobals "tuple" = some none)
  (y1:nsIn K mainGlobals "LEVELS" = some (some (.int 250 tk1)))
  (y2:nsIn K mainGlobals "FIGURES" = some (some (.str "0123456789" tk2)))
  (y3:nsIn K mainGlobals "MOST_FIGURES" = some (some (.int 10 tk3)))
  (y4:nsIn K mainGlobals "MOST_GAP" = some (some (.int 50 tk4)))
  (y5:nsIn K mainGlobals "MOST_DEGREE" = some (some (.int 200 eC)))
  (y6:nsIn K mainGlobals "LEAST_RATE" = some (some (.int 1 tk6)))
  (y7:nsIn K mainGlobals "MOST_RATE" = some (some (.int 1000000000 tk7)))
  (y8:nsIn K mainGlobals "MOST_OF_A_KIND" = some (some (.int 12 tk8)))
  (yt1:nsIn K mainGlobals "BOUGHT" = some (some (.ref bt1))) (yl1:K.lookup bt1=some ⟨.type "tuple",bo1,.seq #[.int (-1) bu1,.int (-1) bv1] bn1,bs1⟩)
  (m1:cd14=.ref mc) (m2:PySem.W.codeHdIn K mc Pt=true) (m3:K.lookup Pt=none)
  : ∃(fd:FuncData) (c:Addr),K.lookup Pt=none/\PySem.W.codeHdIn K c Pt=true/\(∀(s:Shared) (v:Value),BindsTo s fd ⟨[v],[]⟩ [("script",v)])/\∀base:Heap,K.In base->base.Ns mainGlobals mg->bb mg base->bx l.prog w K mg base fU 6 fa fd ["script"] (pG K Pt C9):=by
 have e:=hfa.symm.trans (mg_of X G a31);cases e;have F1:=aY (st:=cG) l1 c1 k1;have b1:=F1.binds (ps:=["script","k"]) λ_ _ _ _ _ _=>gM λ_ _=>rfl;have F2:=aY (st:=d9) l2 c2 k2;have b2:=F2.binds (ps:=["cell","k"]) λ_ _ _ _ _ _=>gM λ_ _=>rfl;have F3:=aY (st:=ff) l3 c3 k3;have b3:=F3.binds (ps:=["script","number","k"]) λ_ _ _ _ _ _=>lN λ_ _ _=>rfl;have F4:=aY (st:=ei) l4 c4 k4;have b4:=F4.binds (ps:=["script"]) λ_ _ _ _ _ _=>bL λ_=>rfl;have F5:=aY (st:=cz) l5 c5 k5;have b5:=F5.binds (ps:=["word"]) λ_ _ _ _ _ _=>bL λ_=>rfl;have F6:=aY (st:=bS) l6 c6 k6;have b6:=F6.binds (ps:=["words","count"]) λ_ _ _ _ _ _=>gM λ_ _=>rfl;have F7:=aY (st:=cf) l7 c7 k7;have b7:=F7.binds (ps:=["number","least","most"]) λ_ _ _ _ _ _=>lN λ_ _ _=>rfl;have F8:=aY (st:=fg) l8 c8 k8;have b8:=F8.binds (ps:=["row"]) λ_ _ _ _ _ _=>bL λ_=>rfl;have F9:=aY (st:=df) l9 c9 k9;have b9:=F9.binds (ps:=["streams"]) λ_ _ _ _ _ _=>bL λ_=>rfl;have F10:=aY (st:=cF) l10 c10 k10;have b10:=F10.binds (ps:=["kind","hots","colds"]) λ_ _ _ _ _ _=>lN λ_ _ _=>rfl;have F11:=aY (st:=cc) l11 c11 k11;have b11:=F11.binds (ps:=["kind","stream"]) λ_ _ _ _ _ _=>gM λ_ _=>rfl;have F12:=aY (st:=mU) l12 c12 k12;have b12:=F12.binds (ps:=["text"]) λ_ _ _ _ _ _=>bL λ_=>rfl;have F13:=aY (st:=bO) l13 c13 k13;have b13:=F13.binds (ps:=["streams"]) λ_ _ _ _ _ _=>bL λ_=>rfl;have F14:=aY (st:=bw) l14 c14 k14;have b14:=F14.binds (ps:=["steps"]) λ_ _ _ _ _ _=>bL λ_=>rfl;have F15:=aY (st:=bF) l15 c15 k15;have b15:=F15.binds (ps:=["gap","giver","taker"]) λ_ _ _ _ _ _=>lN λ_ _ _=>rfl;have F16:=aY (st:=gE) l16 c16 k16;have b16:=F16.binds (ps:=["works"]) λ_ _ _ _ _ _=>bL λ_=>rfl;have F17:=aY (st:=dP) l17 c17 k17;have b17:=F17.binds (ps:=["works"]) λ_ _ _ _ _ _=>bL λ_=>rfl;have F18:=aY (st:=fe) l18 c18 k18;have b18:=F18.binds (ps:=["works","level"]) λ_ _ _ _ _ _=>gM λ_ _=>rfl;have F19:=aY (st:=ed) l19 c19 k19;have b19:=F19.binds (ps:=["works"]) λ_ _ _ _ _ _=>bL λ_=>rfl;have F20:=aY (st:=dh) l20 c20 k20;have b20:=F20.binds (ps:=["left","key","heat"]) λ_ _ _ _ _ _=>lN λ_ _ _=>rfl;have F21:=aY (st:=eh) l21 c21 k21;have b21:=F21.binds (ps:=["found"]) λ_ _ _ _ _ _=>bL λ_=>rfl;have F22:=aY (st:=bA) l22 c22 k22;have b22:=F22.binds (ps:=["works","passes"]) λ_ _ _ _ _ _=>gM λ_ _=>rfl;have F23:=aY (st:=cy) l23 c23 k23;have b23:=F23.binds (ps:=["bands","level"]) λ_ _ _ _ _ _=>gM λ_ _=>rfl;have F24:=aY (st:=cx) l24 c24 k24;have b24:=F24.binds (ps:=["works"]) λ_ _ _ _ _ _=>bL λ_=>rfl;have F25:=aY (st:=cV) l25 c25 k25;have b25:=F25.binds (ps:=["works"]) λ_ _ _ _ _ _=>bL λ_=>rfl;have F26:=aY (st:=dg) l26 c26 k26;have b26:=F26.binds (ps:=["works","level"]) λ_ _ _ _ _ _=>gM λ_ _=>rfl;have F27:=aY (st:=bT) l27 c27 k27;have b27:=F27.binds (ps:=["works"]) λ_ _ _ _ _ _=>bL λ_=>rfl;have F28:=aY (st:=dm) l28 c28 k28;have b28:=F28.binds (ps:=["works"]) λ_ _ _ _ _ _=>bL λ_=>rfl;have F29:=aY (st:=i6) l29 c29 k29;have b29:=F29.binds (ps:=["works"]) λ_ _ _ _ _ _=>bL λ_=>rfl;have F30:=aY (st:=dj) l30 c30 k30;have b30:=F30.binds (ps:=["works"]) λ_ _ _ _ _ _=>bL λ_=>rfl;have F31:=aY (st:=jL) l31 c31 k31;have b31:=F31.binds (ps:=["script"]) λ_ _ _ _ _ _=>bL λ_=>rfl;have T:j8 K mg:=⟨mg_none_of X G z1,mg_none_of X G z2,mg_none_of X G z3,mg_none_of X G z4,mg_none_of X G z5,mg_none_of X G z6,mg_none_of X G z7,mg_none_of X G z8,mg_none_of X G z9,mg_none_of X G z10,mg_none_of X G z11,mg_none_of X G z12,mg_none_of X G z13,mg_none_of X G z14,⟨_,mg_of X G y1⟩,⟨_,mg_of X G y2⟩,⟨_,mg_of X G y3⟩,⟨_,mg_of X G y4⟩,⟨_,mg_of X G y5⟩,⟨_,mg_of X G y6⟩,⟨_,mg_of X G y7⟩,⟨_,mg_of X G y8⟩,⟨_,mg_of X G yt1,λH=>.inr ⟨_,_,_,yl1,rfl,rfl,eu (by show 2<=1000; decide),.cons ⟨_,rfl⟩ (.cons ⟨_,rfl⟩ .nil)⟩⟩⟩
 subst m1;have FC:=Ce (st:=bw) l14 c14 m2;have G1:∀base:Heap,K.In base/\bb mg base->Fn l.prog w K mg base "_law_cell_at" 1 ["script","k"] (bN K ft):=λbase B=>bM F1 (mg_of X G a1) b1 (oT T F1);have G2:∀base:Heap,K.In base/\bb mg base->Fn l.prog w K mg base "_law_mixed" 1 ["cell","k"] (bN K jF):=λbase B=>bM F2 (mg_of X G a2) b2 (so T F2);have G3:∀base:Heap,K.In base/\bb mg base->Fn l.prog w K mg base "_law_rate" 1 ["script","number","k"] (bN K kR):=λbase B=>bM F3 (mg_of X G a3) b3 (uG T F3);have G4:∀base:Heap,K.In base/\bb mg base->Fn l.prog w K mg base "_law_works" 2 ["script"] (bN K jH):=λbase B=>bM F4 (mg_of X G a4) b4 (su T (G1 base B) (G2 base B) (G3 base B) F4);have G5:∀base:Heap,K.In base/\bb mg base->Fn l.prog w K mg base "is_numeral" 1 ["word"] (bN K iU):=λbase B=>bM F5 (mg_of X G a5) b5 (pY T F5);have G6:∀base:Heap,K.In base/\bb mg base->Fn l.prog w K mg base "numbers_of" 2 ["words","count"] (bN K de):=λbase B=>bM F6 (mg_of X G a6) b6 (qa T (G5 base B) F6);have G7:∀base:Heap,K.In base/\bb mg base->Fn l.prog w K mg base "check_within" 1 ["number","least","most"] (bN K cb):=λbase B=>bM F7 (mg_of X G a7) b7 (nH T F7);have G8:∀base:Heap,K.In base/\bb mg base->Fn l.prog w K mg base "read_gap" 3 ["row"] (bN K iX):=λbase B=>bM F8 (mg_of X G a8) b8 (uI T (G6 base B) (G7 base B) F8);have G9:∀base:Heap,K.In base/\bb mg base->Fn l.prog w K mg base "check_room" 1 ["streams"] (bN K fP):=λbase B=>bM F9 (mg_of X G a9) b9 (pV T F9);have G10:∀base:Heap,K.In base/\bb mg base->Fn l.prog w K mg base "check_place" 2 ["kind","hots","colds"] (bN K fo):=λbase B=>bM F10 (mg_of X G a10) b10 (oR T (G9 base B) F10);have G11:∀base:Heap,K.In base/\bb mg base->Fn l.prog w K mg base "check_stream" 2 ["kind","stream"] (bN K eU):=λbase B=>bM F11 (mg_of X G a11) b11 (nG T (G7 base B) F11);have G12:∀base:Heap,K.In base/\bb mg base->Fn l.prog w K mg base "read" 4 ["text"] (bN K vU):=λbase B=>bM F12 (mg_of X G a12) b12 (CQ T (G8 base B) (G6 base B) (G10 base B) (G11 base B) F12);have G13:∀base:Heap,K.In base/\bb mg base->Fn l.prog w K mg base "rates_by_step" 1 ["streams"] (bN K fE):=λbase B=>bM F13 (mg_of X G a13) b13 (mL T F13);have G14:∀base:Heap,K.In base/\bb mg base->Fn l.prog w K mg base "warmest_first" 1 ["steps"] (nK K Pt C9 fF):=λbase B=>bM F14 (mg_of X G a14) b14 (mM B.1 B.2 T FC);have G15:∀base:Heap,K.In base/\bb mg base->Fn l.prog w K mg base "is_warm_enough" 1 ["gap","giver","taker"] (bN K fc):=λbase B=>bM F15 (mg_of X G a15) b15 (lO T F15);have G16:∀base:Heap,K.In base/\bb mg base->Fn l.prog w K mg base "shared" 2 ["works"] (nK K Pt C9 pd):=λbase B=>bM F16 (mg_of X G a16) b16 (yN T (G13 base B) (G14 base B) (G15 base B) F16);have G17:∀base:Heap,K.In base/\bb mg base->Fn l.prog w K mg base "_law_text" 1 ["works"] (bN K kT):=λbase B=>bM F17 (mg_of X G a17) b17 (uH T F17);have G18:∀base:Heap,K.In base/\bb mg base->Fn l.prog w K mg base "_law_lack" 1 ["works","level"] (bN K kQ):=λbase B=>bM F18 (mg_of X G a18) b18 (uF T F18);have G19:∀base:Heap,K.In base/\bb mg base->Fn l.prog w K mg base "_law_steps" 1 ["works"] (bN K jG):=λbase B=>bM F19 (mg_of X G a19) b19 (sq T F19);have G20:∀base:Heap,K.In base/\bb mg base->Fn l.prog w K mg base "_law_passed" 1 ["left","key","heat"] (xM K ni):=λbase B=>bM F20 (mg_of X G a20) b20 (p7 T F20);have G21:∀base:Heap,K.In base/\bb mg base->Fn l.prog w K mg base "_law_whole" 1 ["found"] (bN K gP):=λbase B=>bM F21 (mg_of X G a21) b21 (sr T F21);have G22:∀base:Heap,K.In base/\bb mg base->Fn l.prog w K mg base "_law_bought" 2 ["works","passes"] (bN K iV):=λbase B=>bM F22 (mg_of X G a22) b22 (p6 T (G19 base B) (G20 base B) (G21 base B) F22);have G23:∀base:Heap,K.In base/\bb mg base->Fn l.prog w K mg base "heat_above" 1 ["bands","level"] (bN K iT):=λbase B=>bM F23 (mg_of X G a23) b23 (pX T F23);have G24:∀base:Heap,K.In base/\bb mg base->Fn l.prog w K mg base "cold_bands" 1 ["works"] (bN K iS):=λbase B=>bM F24 (mg_of X G a24) b24 (pW T F24);have G25:∀base:Heap,K.In base/\bb mg base->Fn l.prog w K mg base "hot_bands" 1 ["works"] (bN K jE):=λbase B=>bM F25 (mg_of X G a25) b25 (sk T F25);have G26:∀base:Heap,K.In base/\bb mg base->Fn l.prog w K mg base "lack_above" 2 ["works","level"] (bN K fQ):=λbase B=>bM F26 (mg_of X G a26) b26 (pZ T (G23 base B) (G24 base B) (G25 base B) F26);have G27:∀base:Heap,K.In base/\bb mg base->Fn l.prog w K mg base "lacks_above" 3 ["works"] (bN K fq):=λbase B=>bM F27 (mg_of X G a27) b27 (oS T (G26 base B) F27);have G28:∀base:Heap,K.In base/\bb mg base->Fn l.prog w K mg base "least_heat" 4 ["works"] (bN K eV):=λbase B=>bM F28 (mg_of X G a28) b28 (p9 T (G27 base B) F28);have G29:∀base:Heap,K.In base/\bb mg base->Fn l.prog w K mg base "pinch" 5 ["works"] (bN K sJ):=λbase B=>bM F29 (mg_of X G a29) b29 (AU T (G28 base B) (G27 base B) F29);have G30:∀base:Heap,K.In base/\bb mg base->Fn l.prog w K mg base "least_cold" 5 ["works"] (bN K iW):=λbase B=>bM F30 (mg_of X G a30) b30 (p8 T (G28 base B) (G26 base B) F30);exact ⟨fnOf "law" "law" (az jL) (av jL) (af jL) .none kV31 dc31 pm31 an31 cd31 ct31,_,m3,m2,λs v=>.of_eq rfl,λbase kb _ B=>(λB=>CA (Fe T (G4 base B) (G12 base B) (G16 base B) (G17 base B) (G18 base B) (G22 base B) (G29 base B) (G21 base B) (G28 base B) (G30 base B) F31)) ⟨kb,B⟩⟩
end WS
noncomputable def PySem.W.Fast.tw2515538061429682426:PySem.Program:=PySem.Challenge.pw_warmshare_k34_whole_text_to_sharing
theorem PySem.W.Fast.te2515538061429682426:PySem.Challenge.pw_warmshare_k34_whole_text_to_sharing=PySem.W.Fast.tw2515538061429682426:=rfl
open PySem PySem.W PyProof.Rows
set_option maxRecDepth 100000 in
set_option maxHeartbeats 0 in
theorem PySem.Challenge.cw_warmshare_k34_whole_text_to_sharing_holds : PySem.Challenge.rw_warmshare_k34_whole_text_to_sharing.Holds := by
  w_on; o_law; z_head; (case hw=>w_witness2)
  k_fill
  refine DL.Dx (l:=PySem.Challenge.rw_warmshare_k34_whole_text_to_sharing) (k:=6) (x:="script") (qn:=WS.C9) 29 rfl rfl ⟨rfl,by decide,by decide,rfl⟩ (λ_=>by kernel_rfl) (λ_=>by kernel_rfl) ?F
  case F =>
    intro w mg fa h KX G hmg
    refine' WS.all_mk KX G hmg ?a1 ?l1 ?c1 ?k1 ?a2 ?l2 ?c2 ?k2 ?a3 ?l3 ?c3 ?k3 ?a4 ?l4 ?c4 ?k4 ?a5 ?l5 ?c5 ?k5 ?a6 ?l6 ?c6 ?k6 ?a7 ?l7 ?c7 ?k7 ?a8 ?l8 ?c8 ?k8 ?a9 ?l9 ?c9 ?k9 ?a10 ?l10 ?c10 ?k10 ?a11 ?l11 ?c11 ?k11 ?a12 ?l12 ?c12 ?k12 ?a13 ?l13 ?c13 ?k13 ?a14 ?l14 ?c14 ?k14 ?a15 ?l15 ?c15 ?k15 ?a16 ?l16 ?c16 ?k16 ?a17 ?l17 ?c17 ?k17 ?a18 ?l18 ?c18 ?k18 ?a19 ?l19 ?c19 ?k19 ?a20 ?l20 ?c20 ?k20 ?a21 ?l21 ?c21 ?k21 ?a22 ?l22 ?c22 ?k22 ?a23 ?l23 ?c23 ?k23 ?a24 ?l24 ?c24 ?k24 ?a25 ?l25 ?c25 ?k25 ?a26 ?l26 ?c26 ?k26 ?a27 ?l27 ?c27 ?k27 ?a28 ?l28 ?c28 ?k28 ?a29 ?l29 ?c29 ?k29 ?a30 ?l30 ?c30 ?k30 ?a31 ?l31 ?c31 ?k31 ?z1 ?z2 ?z3 ?z4 ?z5 ?z6 ?z7 ?z8 ?z9 ?z10 ?z11 ?z12 ?z13 ?z14 ?y1 ?y2 ?y3 ?y4 ?y5 ?y6 ?y7 ?y8 ?yt1 ?yl1 ?m1 ?m2 ?m3
    (case a1=>exact DL.aJ (by k_is) rfl)
    (case l1=>exact DL.bB (by k_is) rfl)
    (case c1=>kernel_rfl)
    (case k1=>kernel_rfl)
    (case a2=>exact DL.aJ (by k_is) rfl)
    (case l2=>exact DL.bB (by k_is) rfl)
    (case c2=>kernel_rfl)
    (case k2=>kernel_rfl)
    (case a3=>exact DL.aJ (by k_is) rfl)
    (case l3=>exact DL.bB (by k_is) rfl)
    (case c3=>kernel_rfl)
    (case k3=>kernel_rfl)
    (case a4=>exact DL.aJ (by k_is) rfl)
    (case l4=>exact DL.bB (by k_is) rfl)
    (case c4=>kernel_rfl)
    (case k4=>kernel_rfl)
    (case a5=>exact DL.aJ (by k_is) rfl)
    (case l5=>exact DL.bB (by k_is) rfl)
    (case c5=>kernel_rfl)
    (case k5=>kernel_rfl)
    (case a6=>exact DL.aJ (by k_is) rfl)
    (case l6=>exact DL.bB (by k_is) rfl)
    (case c6=>kernel_rfl)
    (case k6=>kernel_rfl)
    (case a7=>exact DL.aJ (by k_is) rfl)
    (case l7=>exact DL.bB (by k_is) rfl)
    (case c7=>kernel_rfl)
    (case k7=>kernel_rfl)
    (case a8=>exact DL.aJ (by k_is) rfl)
    (case l8=>exact DL.bB (by k_is) rfl)
    (case c8=>kernel_rfl)
    (case k8=>kernel_rfl)
    (case a9=>exact DL.aJ (by k_is) rfl)
    (case l9=>exact DL.bB (by k_is) rfl)
    (case c9=>kernel_rfl)
    (case k9=>kernel_rfl)
    (case a10=>exact DL.aJ (by k_is) rfl)
    (case l10=>exact DL.bB (by k_is) rfl)
    (case c10=>kernel_rfl)
    (case k10=>kernel_rfl)
    (case a11=>exact DL.aJ (by k_is) rfl)
    (case l11=>exact DL.bB (by k_is) rfl)
    (case c11=>kernel_rfl)
    (case k11=>kernel_rfl)
    (case a12=>exact DL.aJ (by k_is) rfl)
    (case l12=>exact DL.bB (by k_is) rfl)
    (case c12=>kernel_rfl)
    (case k12=>kernel_rfl)
    (case a13=>exact DL.aJ (by k_is) rfl)
    (case l13=>exact DL.bB (by k_is) rfl)
    (case c13=>kernel_rfl)
    (case k13=>kernel_rfl)
    (case a14=>exact DL.aJ (by k_is) rfl)
    (case l14=>exact DL.bB (by k_is) rfl)
    (case c14=>kernel_rfl)
    (case k14=>kernel_rfl)
    (case a15=>exact DL.aJ (by k_is) rfl)
    (case l15=>exact DL.bB (by k_is) rfl)
    (case c15=>kernel_rfl)
    (case k15=>kernel_rfl)
    (case a16=>exact DL.aJ (by k_is) rfl)
    (case l16=>exact DL.bB (by k_is) rfl)
    (case c16=>kernel_rfl)
    (case k16=>kernel_rfl)
    (case a17=>exact DL.aJ (by k_is) rfl)
    (case l17=>exact DL.bB (by k_is) rfl)
    (case c17=>kernel_rfl)
    (case k17=>kernel_rfl)
    (case a18=>exact DL.aJ (by k_is) rfl)
    (case l18=>exact DL.bB (by k_is) rfl)
    (case c18=>kernel_rfl)
    (case k18=>kernel_rfl)
    (case a19=>exact DL.aJ (by k_is) rfl)
    (case l19=>exact DL.bB (by k_is) rfl)
    (case c19=>kernel_rfl)
    (case k19=>kernel_rfl)
    (case a20=>exact DL.aJ (by k_is) rfl)
    (case l20=>exact DL.bB (by k_is) rfl)
    (case c20=>kernel_rfl)
    (case k20=>kernel_rfl)
    (case a21=>exact DL.aJ (by k_is) rfl)
    (case l21=>exact DL.bB (by k_is) rfl)
    (case c21=>kernel_rfl)
    (case k21=>kernel_rfl)
    (case a22=>exact DL.aJ (by k_is) rfl)
    (case l22=>exact DL.bB (by k_is) rfl)
    (case c22=>kernel_rfl)
    (case k22=>kernel_rfl)
    (case a23=>exact DL.aJ (by k_is) rfl)
    (case l23=>exact DL.bB (by k_is) rfl)
    (case c23=>kernel_rfl)
    (case k23=>kernel_rfl)
    (case a24=>exact DL.aJ (by k_is) rfl)
    (case l24=>exact DL.bB (by k_is) rfl)
    (case c24=>kernel_rfl)
    (case k24=>kernel_rfl)
    (case a25=>exact DL.aJ (by k_is) rfl)
    (case l25=>exact DL.bB (by k_is) rfl)
    (case c25=>kernel_rfl)
    (case k25=>kernel_rfl)
    (case a26=>exact DL.aJ (by k_is) rfl)
    (case l26=>exact DL.bB (by k_is) rfl)
    (case c26=>kernel_rfl)
    (case k26=>kernel_rfl)
    (case a27=>exact DL.aJ (by k_is) rfl)
    (case l27=>exact DL.bB (by k_is) rfl)
    (case c27=>kernel_rfl)
    (case k27=>kernel_rfl)
    (case a28=>exact DL.aJ (by k_is) rfl)
    (case l28=>exact DL.bB (by k_is) rfl)
    (case c28=>kernel_rfl)
    (case k28=>kernel_rfl)
    (case a29=>exact DL.aJ (by k_is) rfl)
    (case l29=>exact DL.bB (by k_is) rfl)
    (case c29=>kernel_rfl)
    (case k29=>kernel_rfl)
    (case a30=>exact DL.aJ (by k_is) rfl)
    (case l30=>exact DL.bB (by k_is) rfl)
    (case c30=>kernel_rfl)
    (case k30=>kernel_rfl)
    (case a31=>exact DL.aJ (by k_is) rfl)
    (case l31=>exact DL.bB (by k_is) rfl)
    (case c31=>kernel_rfl)
    (case k31=>kernel_rfl)
    (case z1=>kernel_rfl)
    (case z2=>kernel_rfl)
    (case z3=>kernel_rfl)
    (case z4=>kernel_rfl)
    (case z5=>kernel_rfl)
    (case z6=>kernel_rfl)
    (case z7=>kernel_rfl)
    (case z8=>kernel_rfl)
    (case z9=>kernel_rfl)
    (case z10=>kernel_rfl)
    (case z11=>kernel_rfl)
    (case z12=>kernel_rfl)
    (case z13=>kernel_rfl)
    (case z14=>kernel_rfl)
    (case y1=>exact DL.aJ (by k_is) rfl)
    (case y2=>exact DL.aJ (by k_is) rfl)
    (case y3=>exact DL.aJ (by k_is) rfl)
    (case y4=>exact DL.aJ (by k_is) rfl)
    (case y5=>exact DL.aJ (by k_is) rfl)
    (case y6=>exact DL.aJ (by k_is) rfl)
    (case y7=>exact DL.aJ (by k_is) rfl)
    (case y8=>exact DL.aJ (by k_is) rfl)
    (case yt1=>exact DL.aJ (by k_is) rfl)
    (case yl1=>exact DL.bB (by k_is) rfl)
    (case m1=>rfl)
    (case m2=>kernel_rfl)
    (case m3=>exact DL.ot _)
#print axioms PySem.Challenge.cw_warmshare_k34_whole_text_to_sharing_holds