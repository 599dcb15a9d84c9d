import PyProof.Rows.All
import Wide.All
import OpenK.AllK
import Wide.FinOn
import Lean
import PyProof.EqAt
import PyProof.EqKinds
import PyProof.TupleCall
import KE.KSortKey
import KE.KLam
import KE.KMinKey
import KE.KDictList
import KE.KSortTup
import KE.KEqDict
import PyProof.SetKind
import PyProof.TupleKey
import PyProof.IsRules
import PyProof.Rows.SetFrom
import PyProof.SetRoads
import PyProof.Rows.FactsT2
import PyProof.SetScanFacts
import PySem.SetTable
import PySem.Challenge.RW_warmshare_k17_sharings_spoilt
open PySem renaming Value->Kn,wpAny_bind->Ko,Shared->Kp,wpAny_pure->Kq,Program->KP,Around->K1,World->K7
open List renaming length_map->Ks,getElem?_eq_getElem->Kt,getElem?_eq_some_iff->Kw,length_append->KA,mem_of_getElem?->KC,mem_map->KJ,size_toArray->KN,length_take->KO,mem_cons->KQ,getElem?_map->KS,map_append->KU,map_cons->K3,range->K6,mem_cons_of_mem->K8,length_cons->K9,replicate->Le,mem_append->Lf,append_assoc->Lg,length_singleton->Lh,length_drop->Li
open Nat renaming le_refl->Ku,ne_of_lt->KR,lt_of_lt_of_le->KW,le_of_ble_eq_true->Lb,zero_le->Lc
open PySem.Heap renaming get?_push_of_some->Kv,lt_size->KG,get?_push_size->KZ
open Array renaming getElem?_toList->Kx,getElem?_eq_getElem->Ky,length_toList->KH
open PyProof.Rows renaming wpS_bind->Kz,wpS_pure->KD,SortSt->KI
open Bool renaming false_eq_true->KL,false_ne_true->KY,and_eq_true->La
open PySem.Obj renaming mapSeq->Ld
open PySem.W (Frag nsIn fnOf keepIn codeIn kia_one mg_of mg_none_of findIn kitx_list instObj methodObj lookIn kitx_dict plainGet specialIn isFn kitOne kitx_tuple cellsFrom_some tabObj codeHd_of_K)
open PyProof.Rows (boot_all boot_enumerate boot_isinstance boot_list boot_max boot_min boot_set boot_sorted boot_sum boot_tuple)
open List (map_map mem_range filter_cons mem_singleton nodup_cons length_range filter_append sum_cons sum_append nodup_append mem_cons_self filterMap_cons take_append_drop pairwise_append mem_append_left mem_append_right mem_of_mem_take mem_of_mem_drop perm_append_comm pairwise_map getD_eq_getElem?_getD map_congr_left filter_sublist map_take map_drop take_of_length_le drop_eq_getElem_cons map_set pairwise_iff_getElem mem_iff_getElem? length_set lookup_cons nodup_range append_nil length_eq_zero_iff eq_nil_or_concat concat_eq_append)
theorem aZa (h:True:=by rfl):True:=h
theorem aZb (h:True:=by decide):True:=h
theorem aZc (h:True:=by intro _;rfl):True:=h
theorem aZd (h:True:=by first | exact .inl rfl | exact .inr rfl | assumption):True:=h
theorem aZe (h:True:=by decide +kernel):True:=h
theorem aZf (h:True:=by first | exact Or.inl rfl | exact Or.inr (Or.inl rfl) | exact Or.inr (Or.inr rfl)):True:=h
theorem aZg (h:True:=by first | exact .inl rfl | exact .inr rfl):True:=h
theorem aZh (h:True:=by exact Lb rfl):True:=h
theorem aZi (h:True:=by exact λ_ _=>rfl):True:=h
set_option maxHeartbeats 4000000
set_option bootstrap.genMatcherCode false
set_option genSizeOfSpec false
noncomputable section
set_option Elab.async false
set_option linter.all false
set_option maxRecDepth 100000
namespace L2
open PySem PySem.Spec PyProof.Rows
noncomputable abbrev Key:=Sum Int Str
noncomputable def pX:Key->Kn->Bool
 | .inl k,v=>Value.isInt k v
 | .inr x,v=>Value.isStrOf x v
noncomputable def Ji (w:K7):Key->Int
 | .inl k=>hashInt k
 | .inr x=>hashStr w x
theorem bR:∀{k:Key} {v:Kn},pX k v=true->(∃i t,k=Sum.inl i/\v=Value.int i t)\/(∃x t,k=Sum.inr x/\v=Value.str x t)
 | .inl i,v,h=>by
  obtain ⟨t,e⟩:=Value.isInt_shape (k:=i) (v:=v) h;exact .inl ⟨i,t,rfl,e⟩
 | .inr x,v,h=>by
  obtain ⟨t,e⟩:=Value.isStrOf_shape (x:=x) (v:=v) h;exact .inr ⟨x,t,rfl,e⟩
theorem yt (i:Int)(t:Tok):pX (.inl i) (.int i t)=true:=by simp[pX,Value.isInt]
theorem yu (x:Str)(t:Tok):pX (.inr x) (.str x t)=true:=by simp[pX,Value.isStrOf]
theorem E9 (a b:Int):decide ((Sum.inl a:Key)=Sum.inl b)=(a == b):=by
 by_cases e:a=b
 .subst e;simp
 .have h:¬(Sum.inl a:Key)=Sum.inl b:=λq=>e (Sum.inl.inj q);rw[decide_eq_false h];exact (beq_eq_false_iff_ne.mpr e).symm
theorem Ff (a b:Str):decide ((Sum.inr a:Key)=Sum.inr b)=decide (a=b):=by
 by_cases e:a=b
 .subst e;simp
 .have h:¬(Sum.inr a:Key)=Sum.inr b:=λq=>e (Sum.inr.inj q);rw[decide_eq_false h,decide_eq_false e]
theorem Fb (a:Int)(b:Str):decide ((Sum.inl a:Key)=Sum.inr b)=false:=decide_eq_false (λq=>nomatch q)
theorem Fe (a:Str)(b:Int):decide ((Sum.inr a:Key)=Sum.inl b)=false:=decide_eq_false (λq=>nomatch q)
noncomputable def bC (prog:KP)(w:K7):PySem.KeyKind prog w Key where
 is:=pX
 hash:=Ji w
 inj:=λv a b ha hb=>by
  rcases bR ha with ⟨i,t,rfl,rfl⟩ | ⟨x,t,rfl,rfl⟩
  .rcases bR hb with ⟨j,u,rfl,e⟩ | ⟨y,u,rfl,e⟩
   .injection e with e1 _;rw[e1]
   .exact nomatch e
  .rcases bR hb with ⟨j,u,rfl,e⟩ | ⟨y,u,rfl,e⟩
   .exact nomatch e
   .injection e with e1 _;rw[e1]
 byValue:=λk v h=>by
  rcases bR h with ⟨i,t,rfl,rfl⟩ | ⟨x,t,rfl,rfl⟩<;>rfl
 pyHash:=λhv h=>by
  rcases bR hv with ⟨i,t,rfl,rfl⟩ | ⟨x,t,rfl,rfl⟩
  .exact wpAny_pyHash_int h
  .exact wpAny_pyHash_str h
 eqBool:=λhu hv h=>by
  rcases bR hu with ⟨i,t,rfl,rfl⟩ | ⟨x,t,rfl,rfl⟩
  .rcases bR hv with ⟨j,u,rfl,rfl⟩ | ⟨y,u,rfl,rfl⟩
   .rw[E9] at h;exact wpAny_eqBool_int h
   .rw[Fb] at h;exact SeqAt.EqAt.int_str i t y u _ _ _ _ h
  .rcases bR hv with ⟨j,u,rfl,rfl⟩ | ⟨y,u,rfl,rfl⟩
   .rw[Fe] at h;exact SeqAt.EqAt.str_int x t j u _ _ _ _ h
   .rw[Ff] at h;exact wpAny_eqBool_str h
 «strs»:=λk x t v h=>by
  rcases bR h with ⟨i,u,rfl,e⟩ | ⟨y,u,rfl,e⟩
  .exact nomatch e
  .injection e with e1 _
   subst e1;cases v<;>rfl
theorem tY (prog:KP)(w:K7)(i:Int)(t:Tok):(bC prog w).is (.inl i) (.int i t)=true:=yt i t
theorem tZ (prog:KP)(w:K7)(x:Str)(t:Tok):(bC prog w).is (.inr x) (.str x t)=true:=yu x t
end L2
namespace L2
open PySem PySem.Spec PyProof.Rows
inductive V where
 | non | bl (b:Bool) | int (i:Int) | str (x:Str) | byt (b:Array UInt8) | flt (b:UInt64) | ref (a:Addr) | ty (n:String)
 deriving DecidableEq
noncomputable def RelV:V->Kn->Prop
 | .non,u=>u=Value.none
 | .bl b,u=>u=Value.bool b
 | .int i,u=>∃t,u=Value.int i t
 | .str x,u=>∃t,u=Value.str x t
 | .byt b,u=>∃t,u=Value.bytes b t
 | .flt b,u=>∃t,u=Value.float b t
 | .ref a,u=>u=Value.ref a
 | .ty n,u=>u=Value.type n
noncomputable abbrev Vals:List V->List Kn->Prop:=Paired RelV
theorem Vals.length {xs:List V}{us:List Kn}(r:Vals xs us):xs.length=us.length:=Paired.length r
theorem Vals.get:∀{xs:List V} {us:List Kn} {i:Nat} {x:V},Vals xs us->xs[i]?=some x->∃u,us[i]?=some u/\RelV x u
 | _,_,_,_,.nil,e=>by simp at e
 | _,_,0,_,.cons r _,e=>by simp at e;subst e;exact ⟨_,rfl,r⟩
 | _,_,i+1,x,.cons _ t,e=>by
  obtain ⟨u,h1,h2⟩:=Vals.get (i:=i) (x:=x) t (by simpa using e);exact ⟨u,by simpa using h1,h2⟩
theorem Vals.set {x:V}{u:Kn}(r:RelV x u):∀{xs:List V} {us:List Kn} (i:Nat),Vals xs us->Vals (xs.set i x) (us.set i u)
 | _,_,_,.nil=>.nil
 | _,_,0,.cons _ t=>.cons r t
 | _,_,i+1,.cons q t=>.cons q (Vals.set r i t)
theorem Vals.append:∀{xs ys:List V} {us ws:List Kn},Vals xs us->Vals ys ws->Vals (xs++ys) (us++ws)
 | _,_,_,_,.nil,s=>s
 | _,_,_,_,.cons r t,s=>.cons r (Vals.append t s)
theorem Vals.take:∀{xs:List V} {us:List Kn} (n:Nat),Vals xs us->Vals (xs.take n) (us.take n)
 | _,_,0,_=>.nil
 | _,_,_+1,.nil=>.nil
 | _,_,n+1,.cons r t=>.cons r (Vals.take n t)
theorem Vals.drop:∀{xs:List V} {us:List Kn} (n:Nat),Vals xs us->Vals (xs.drop n) (us.drop n)
 | _,_,0,r=>r
 | _,_,_+1,.nil=>.nil
 | _,_,n+1,.cons _ t=>Vals.drop n t
theorem Vals.none_of:∀{xs:List V} {us:List Kn} {i:Nat},Vals xs us->xs[i]?=none->us[i]?=none:=λ{xs us i} r e=>by
 have h1:=r.length;have h2:xs.length<=i:=List.getElem?_eq_none_iff.mp e;exact List.getElem?_eq_none_iff.mpr (by lia)
noncomputable def m9:Option V->Option Kn->Prop
 | some v,some u=>RelV v u
 | none,none=>True
 | _,_=>False
noncomputable def KV {κ:Type}:List (κ×V)->List (κ×Kn)->Prop:=Paired λ(p:κ×V) (q:κ×Kn)=>p.1=q.1/\RelV p.2 q.2
noncomputable def kV:Key->V
 | .inl i=>.int i
 | .inr x=>.str x
inductive HO where
 | lst (xs:List V)
 | tup (xs:List V)
 | dK (kvs:List (Key×V)) | dT (kvs:List (List Key×V))
 | set (S:Int->Bool) (n:Nat)
 | ins (C dx:Addr) (fs:List (Str×V))
 | own (x:Addr)
 | xd (fs:List (Str×V))
 | met (f x:Addr)
 | rng (lo hi:Int)
 | de (o:Obj) (u:HO)
 | tbl (ps:Array Kn)
 | ext (φ:Heap->Prop)
noncomputable abbrev Hp:=Addr->Option HO
noncomputable def upd (H:Hp)(a:Addr)(o:HO):Hp:=λb=>if b=a then some o else H b
theorem aE {H:Hp}{a:Addr}{o:HO}:upd H a o a=some o:=by unfold upd;rw[if_pos rfl]
theorem au {H:Hp}{a b:Addr}{o:HO}(h:b≠a):upd H a o b=H b:=by unfold upd;rw[if_neg h]
theorem xl {H:Hp}{a b:Addr}{o u:HO}(h:H a=some o)(h':H b=some u)(d:o≠u):a≠b:=by
 intro e;subst e;rw[h] at h';exact d (Option.some.inj h')
theorem bp {H:Hp}{a b:Addr}{o:HO}(h:H a=some o)(h':H b=none):a≠b:=by
 intro e;subst e;rw[h] at h';cases h'
section
variable (P:KP) (w:K7)
noncomputable def cw (H:Hp)(h:Heap)(a:Addr):HO->Prop
 | .lst xs=>xs.length<=sizeLine/\∃(its:List Kn) (n:Nat),Vals xs its/\h.get? a=some { cls:=.type "list",data:=.seq its.toArray n }
 | .tup xs=>xs.length<=sizeLine/\∃its:List Kn,Vals xs its/\IsTup h a its.toArray
 | .dK kvs=>kvs.length<=sizeLine/\(a == sysModules)=false/\∃vs,KV kvs vs/\h.DictOf (bC P w) a vs
 | .dT kvs=>kvs.length<=sizeLine/\(a == sysModules)=false/\∃xs:List (List Key×Addr×Kn),
   Paired (λ(p:List Key×V) (q:List Key×Addr×Kn)=>p.1=q.1/\H q.2.1=some (.tup (p.1.map kV))/\RelV p.2 q.2.2) kvs xs /\
   ∃o es ep,h.get? a=some o/\o.ExactDict/\o.data=.dict es ep/\es.toList=xs.map (entryOfKey (tupleKind (bC P w)))/\(xs.map (·.1)).Nodup
 | .set S n=>h.SetOf (intKind P w) a S n
 | .ins C dx fs=>H dx=some (.own a)/\fs.length<=1000/\dx≠a/\h.get? a=some (instObj C dx) /\
   ∃mA,h.Ns1 dx mA/\(∀f,m9 (fs.lookup f) (mA f))/\PySem.Within mA (fs.map (·.1))
 | .own _=>∃o,h.get? a=some o
 | .xd fs=>∃mA,h.Ns1 a mA/\∀f,m9 (fs.lookup f) (mA f)
 | .rng lo hi=>∃t u v,h.get? a=some { cls:=.type "range",data:=.fields #[.int lo t,.int hi u,.int 1 v] }
 | .de o u=>h.get? a=some o/\cw H h a u
 | .tbl qs=>∃tb:Array Kn,h.get? a=some { cls:=.none,data:=.fields tb }/\TriplesOk tb.toList /\
   ∀pos cv,codeAmong pos tb.toList=some cv->∃c q t,cv=.ref c/\qs[0]?=some (.str q t)/\H c=some (.own a)/\h.CodeRec (.ref c) q
 | .met f x=>h.get? a=some (methodObj (.ref f) (.ref x))
 | .ext φ=>φ h/\(∃o,h.get? a=some o)/\∀h1 h2:Heap,φ h1->(∀o,h1.get? a=some o->h2.get? a=some o)->φ h2
noncomputable def jr (H:Hp)(h:Heap):Prop:=∀a o,H a=some o->cw P w H h a o
end
section
variable {P:KP} {w:K7} {H H':Hp} {h h':Heap} {a:Addr} {o:HO}
theorem cw.lt (x:cw P w H h a o):a<h.objs.size:=by
 cases o with
 | lst xs=>obtain ⟨_,_,_,_,e⟩:=x;exact KG e
 | tup xs=>obtain ⟨_,_,_,p⟩:=x;exact p.lt
 | dK kvs=>obtain ⟨_,_,_,_,o,_,_,e,_⟩:=x;exact KG e
 | dT kvs=>obtain ⟨_,_,_,_,o,_,_,e,_⟩:=x;exact KG e
 | set S n=>obtain ⟨o,_,_,_,e,_⟩:=x;exact KG e
 | ins C dx fs=>obtain ⟨_,_,_,e,_⟩:=x;exact KG e
 | own y=>obtain ⟨_,e⟩:=x;exact KG e
 | xd fs=>obtain ⟨_,⟨_,_,_,e,_⟩,_⟩:=x;exact KG e
 | rng lo hi=>obtain ⟨_,_,_,e⟩:=x;exact KG e
 | de ob u=>obtain ⟨e,_⟩:=x;exact KG e
 | tbl qs=>obtain ⟨_,e,_⟩:=x;exact KG e
 | met f y=>exact KG (show h.get? a=some _ from x)
 | ext φ=>obtain ⟨_,⟨_,e⟩,_⟩:=x;exact KG e
theorem Paired.C0 {α β:Type}{F G:α->β->Prop}:∀{l₁:List α} {l₂:List β},Paired F l₁ l₂->(∀a b,F a b->G a b)->Paired G l₁ l₂
 | _,_,.nil,_=>.nil
 | _,_,.cons r t,f=>.cons (f _ _ r) (Paired.C0 t f)
theorem Paired.imp' {α β:Type}{F G:α->β->Prop}(f:∀a b,F a b->G a b){l₁:List α}{l₂:List β}(r:Paired F l₁ l₂):Paired G l₁ l₂:=Paired.C0 r f
theorem cw.dD (x:cw P w H h a o)(k:∀b u,(b=a\/H b=some (.own a))->h.get? b=some u->h'.get? b=some u)
  (ho:∀b,H b=some (.own a)->H' b=some (.own a)) (ht:∀b xs,H b=some (.tup xs)->H' b=some (.tup xs)):cw P w H' h' a o:=by
 induction o with
 | lst xs=>obtain ⟨z,its,n,r,e⟩:=x;exact ⟨z,its,n,r,k _ _ (.inl rfl) e⟩
 | tup xs=>obtain ⟨z,its,r,ob,e,c⟩:=x;exact ⟨z,its,r,ob,k _ _ (.inl rfl) e,c⟩
 | dK kvs=>obtain ⟨z,y,vs,r,ob,es,ep,e,c⟩:=x;exact ⟨z,y,vs,r,ob,es,ep,k _ _ (.inl rfl) e,c⟩
 | dT kvs =>
  obtain ⟨z,y,xs,r,ob,es,ep,e,c⟩:=x;exact ⟨z,y,xs,Paired.C0 r λp q z=>⟨z.1,ht _ _ z.2.1,z.2.2⟩,ob,es,ep,k _ _ (.inl rfl) e,c⟩
 | set S n=>obtain ⟨ob,es,ep,t,e,c⟩:=x;exact ⟨ob,es,ep,t,k _ _ (.inl rfl) e,c⟩
 | ins C dx fs =>
  obtain ⟨d,z,ne,e,mA,⟨od,es,ep,e2,c⟩,r⟩:=x;exact ⟨ho _ d,z,ne,k _ _ (.inl rfl) e,mA,⟨od,es,ep,k _ _ (.inr d) e2,c⟩,r⟩
 | own y=>obtain ⟨ob,e⟩:=x;exact ⟨ob,k _ _ (.inl rfl) e⟩
 | xd fs=>obtain ⟨mA,⟨od,es,ep,e,c⟩,r⟩:=x;exact ⟨mA,⟨od,es,ep,k _ _ (.inl rfl) e,c⟩,r⟩
 | rng lo hi=>obtain ⟨t,u,v,e⟩:=x;exact ⟨t,u,v,k _ _ (.inl rfl) e⟩
 | de ob u ih=>obtain ⟨e,q⟩:=x;exact ⟨k _ _ (.inl rfl) e,ih q⟩
 | tbl qs =>
  obtain ⟨m,e,t,f⟩:=x;refine ⟨m,k _ _ (.inl rfl) e,t,λpos cv z=>?_⟩;obtain ⟨c,q,u,r,r2,o,c2,ob,vs,tk,e2,g,rest⟩:=f pos cv z;cases e2;exact ⟨c,q,u,r,r2,ho _ o,c,ob,vs,tk,rfl,k _ _ (.inr o) g,rest⟩
 | met f y =>
  have e:h.get? a=some (methodObj (.ref f) (.ref y)):=x;show h'.get? a=some (methodObj (.ref f) (.ref y));exact k a _ (.inl rfl) e
 | ext φ=>obtain ⟨p,⟨o,e⟩,st⟩:=x;exact ⟨st _ _ p λo q=>k _ _ (.inl rfl) q,⟨o,k _ _ (.inl rfl) e⟩,st⟩
theorem jr.lt (x:jr P w H h)(e:H a=some o):a<h.objs.size:=(x a o e).lt
theorem jr.fresh (x:jr P w H h)(e:h.objs.size<=a):H a=none:=by
 cases q:H a with
 | none=>rfl
 | some u=>exact absurd (KW (x.lt q) e) (Nat.lt_irrefl _)
theorem jr.kept (x:jr P w H h)(k:∀b u,h.get? b=some u->h'.get? b=some u):jr P w H h':=λa o e =>
 (x a o e).dD (λb u _ q=>k b u q) (λ_ q=>q) λ_ _ q=>q
theorem jr.laid (x:jr P w H h)(k:∀b u,h.get? b=some u->h'.get? b=some u)(hp:h.objs.size<=a)(new:cw P w (upd H a o) h' a o):jr P w (upd H a o) h':=λb u e=>by
 have hn:=x.fresh hp;by_cases hb:b=a
 .subst hb;rw[aE] at e;cases e;exact new
 .rw[au hb] at e;exact (x b u e).dD (λc v _ q=>k c v q) (λc q=>by rw[au (bp q hn)];exact q) λc xs q=>by rw[au (bp q hn)];exact q
end
noncomputable def Rd (H:Hp)(a:Addr)(u:HO):Prop:=H a=some u\/∃o,H a=some (.de o u)
theorem Rd.ok {P:KP}{w:K7}{H:Hp}{h:Heap}{a:Addr}{u:HO}(r:Rd H a u)(x:jr P w H h):cw P w H h a u:=by
 rcases r with r | ⟨o,r⟩
 .exact x a u r
 .obtain ⟨_,q⟩:=x a _ r;exact q
noncomputable def Gz:Option HO->Prop
 | some (.lst _)=>True
 | some (.dK _)=>True
 | some (.dT _)=>True
 | some (.set _ _)=>True
 | some (.ins _ _ _)=>True
 | some (.ext _)=>True
 | _=>False
section
variable {P:KP} {w:K7} {H:Hp} {h h':Heap} {x e:Addr} {o':HO}
theorem jr.write (ok:jr P w H h)(mu:Gz (H x))(he:e=x\/H e=some (.own x))(k:∀b u,b≠e->h.get? b=some u->h'.get? b=some u)(heo:∃u,h'.get? e=some u)
    (new:cw P w (upd H x o') h' x o'):jr P w (upd H x o') h':=λb u q=>by
  have nown:∀c y,H c=some (.own y)->c≠x:=λc y r z=>by subst z;rw[r] at mu;exact mu
  have ntup:∀c xs,H c=some (.tup xs)->c≠x:=λc xs r z=>by subst z;rw[r] at mu;exact mu
  by_cases hb:b=x
  · subst hb;rw[aE] at q;cases q;exact new
  · rw[au hb] at q;by_cases hbe:b=e
    · have q':H b=some (.own x):=by
        rcases he with z | z
        · exact absurd (hbe.trans z) hb
        · rw[hbe];exact z
      rw[q] at q';cases q';obtain ⟨v,hv⟩:=heo;exact ⟨v,by rw[hbe];exact hv⟩
    · refine (ok b u q).dD (λc v hc r => k c v ?_ r) (λc r => by rw [au (nown c b r)];exact r) λc xs r => by rw [au (ntup c xs r)];exact r
      rcases hc with rfl | hc
      · exact hbe
      · rintro rfl;rcases he with z | z
        · exact nown c b hc z
        · rw[hc] at z;cases z;exact hb rfl
end
structure Un (fs ex:List Addr)(H H':Hp)(h h':Heap):Prop where
 keep:∀b o,h.get? b=some o->H b=none->b∉fs->b∉ex->h'.get? b=some o
 slot:∀b o,h.get? b=some o->H b=none->b∈fs->b∉ex->∃sl,h'.get? b=some { o with slots:=sl }
 free:∀b o,h.get? b=some o->H b=none->b∉ex->H' b=none
 there:∀b o,h.get? b=some o->b∉ex->∃o',h'.get? b=some o'
 rS:∀b xs,H b=some (.tup xs)->H' b=some (.tup xs)
 oM:∀b o u,H b=some (.de o u)->H' b=some (.de o u)
 oB:∀b ps,H b=some (.tbl ps)->∃more,H' b=some (.tbl (ps++more))
section
variable {fs fs' ex ex':List Addr} {H H1 H2:Hp} {h h1 h2 h':Heap} {a x e:Addr} {o:HO}
theorem Un.any (u:Un fs ex H H1 h h1){b:Addr}{ob:Obj}(q:h.get? b=some ob)(n:H b=none)(hx:b∉ex):∃sl,h1.get? b=some { ob with slots:=sl }:=by
 by_cases hb:b∈fs
 .exact u.slot b ob q n hb hx
 .exact ⟨ob.slots,u.keep b ob q n hb hx⟩
theorem Un.kept (k:∀b u,h.get? b=some u->h'.get? b=some u):Un fs ex H H h h':=
 ⟨λb ob q _ _ _=>k b ob q,λb ob q _ _ _=>⟨ob.slots,k b ob q⟩,λ_ _ _ n _=>n,λb ob q _=>⟨ob,k b ob q⟩,λ_ _ q=>q,λ_ _ _ q=>q,λ_ ps q=>⟨#[],by rw[q];simp⟩⟩
theorem Un.refl:Un fs ex H H h h:=Un.kept λ_ _ q=>q
theorem Un.laid (k:∀b u,h.get? b=some u->h'.get? b=some u)(hp:h.objs.size<=a)(hn:H a=none):Un fs ex H (upd H a o) h h' where
 keep:=λb u q _ _ _=>k b u q
 slot:=λb u q _ _ _=>⟨u.slots,k b u q⟩
 free:=λb u q n _=>by rw[au (KR (KW (KG q) hp))];exact n
 there:=λb u q _=>⟨u,k b u q⟩
 rS:=λb xs q=>by rw[au (bp q hn)];exact q
 oM:=λb u xs q=>by rw[au (bp q hn)];exact q
 oB:=λb ps q=>⟨#[],by rw[au (bp q hn),q];simp⟩
theorem Un.write (mu:Gz (H x))(he:e=x\/H e=some (.own x))(k:∀b u,b≠e->h.get? b=some u->h'.get? b=some u)(heo:∃u,h'.get? e=some u):Un fs ex H (upd H x o) h h':=by
 have hx:∀b,H b=none->b≠x:=λb n z=>by subst z;rw[n] at mu;exact mu
 have hb:∀b,H b=none->b≠e:=λb n z=>by
  subst z;rcases he with r | r
  .exact hx b n r
  .rw[n] at r;cases r
 have hm:∀b u,H b=some u->¬Gz (some u)->b≠x:=λb u q nm z=>by subst z;rw[q] at mu;exact nm mu
 refine ⟨λb u q n _ _=>k b u (hb b n) q,λb u q n _ _=>⟨u.slots,k b u (hb b n) q⟩,λb u q n _=>by rw[au (hx b n)];exact n,λb u q _=>?_,
  λb xs q=>by rw[au (hm b _ q λz=>z)];exact q,λb u xs q=>by rw[au (hm b _ q λz=>z)];exact q,λb ps q=>⟨#[],by rw[au (hm b _ q λz=>z),q];simp⟩⟩
 by_cases hbe:b=e
 .subst hbe;exact heo
 .exact ⟨u,k b u hbe q⟩
end
noncomputable def IF (h:Heap)(H:Hp):List Addr:=(K6 h.objs.size).filter λa=>(H a).isSome
noncomputable def qS (h:Heap)(H:Hp):Heap:=PySem.W.hideAll h (IF h H)
theorem yp (h:Heap)(H:Hp):(qS h H).objs.size=h.objs.size:=PySem.W.hideAll_size _ _
theorem nI {h:Heap}{H:Hp}{b:Addr}{o:Obj}(e:h.get? b=some o)(n:H b=none):(qS h H).get? b=some o:=
 PySem.W.hideAll_get _ e λhm=>by
  have q:(H b).isSome=true:=(List.mem_filter.mp hm).2;rw[n] at q;simp at q
theorem C4 {h:Heap}{H:Hp}{b:Addr}{o:Obj}(e:(qS h H).get? b=some o):h.get? b=some o/\H b=none:=by
 have e':h.get? b=some o:=PySem.W.of_hideAll (IF h H) e;refine ⟨e',?_⟩;cases q:H b with
 | none=>rfl
 | some x =>
  have hm:b∈IF h H:=List.mem_filter.mpr ⟨mem_range.mpr (KG e'),by simp[q]⟩;have z:(qS h H).get? b=none:=PySem.W.hideAll_none (IF h H) hm;rw[z] at e;cases e
noncomputable def BU (g h:Heap)(L:Addr):List (Addr×Obj):=(K6 h.objs.size).filterMap λa=>if a=L\/(g.get? a).isSome=true then none else (h.get? a).map λo=>(a,o)
noncomputable def rest (g h:Heap)(L d:Addr):List (Addr×Obj):=(BU g h L).filter λp=>decide (p.1≠d)
end L2
namespace L2
open PySem PySem.Spec PyProof.Rows
structure Mod (K:Frag)(mg:Str->Option Kn)(base:Heap):Prop where
 Hm:K.In base
 glob:base.Ns mainGlobals mg
 blt:∃mb,base.Ns builtinsNs mb/\∀x:Str,x≠"__name__"->mb x=bootBuiltins x
 nolimit:base.NoLimit
structure Cx where
 prog:KP
 w:K7
 K:Frag
 mg:Str->Option Kn
 base:Heap
 A:K1
 N:List Str
 s₀:Kp
 H₀:Hp
 env:Env
 outer:List Env
 stack:List Env
 ex:List Addr
 fn:Str->Bool
 calm:Bool
 pn:List (Addr×Obj)
 xe:Kn->Kp->Prop
noncomputable def zm (l:List Env):List Addr:=l.filterMap (·.frame)
noncomputable abbrev Cx.fs (X:Cx):List Addr:=zm X.outer
noncomputable def rV (sc:Scope)(x:Str):Prop:=sc.names.lookup x=some .local\/sc.names.lookup x=some .cell\/sc.names.lookup x=some .free
noncomputable def Loc (sc:Scope)(x:Str):Prop:=sc.names.lookup x=some .local\/sc.names.lookup x=some .cell
noncomputable def Look (env:Env)(h:Heap)(m:Str->Option Kn)(x:Str)(u:Kn):Prop:=
 (env.kindOf x=some .local/\m x=some u)\/((env.kindOf x=some .cell\/env.kindOf x=some .free)/\∃c,env.cells.lookup x=some c/\h.IsCell c (some u))
structure Cx.Ok (X:Cx):Prop where
 mod:Mod X.K X.mg X.base
 kind:X.env.scope.kind=.function
 glob:X.env.globals=mainGlobals
 blt:X.env.builtins=builtinsNs
 above:X.s₀.heap.objs.size<=X.env.locals
 inj:∀x y c,X.env.cells.lookup x=some c->X.env.cells.lookup y=some c->x=y
 has:∀x,(X.env.kindOf x=some .cell\/X.env.kindOf x=some .free)->∃c,X.env.cells.lookup x=some c
 GH:∀x c,X.fn x=true->X.env.cells.lookup x=some c->X.s₀.heap.objs.size<=c
 hd:X.calm=true->X.A.handled=none
 frames:X.A.frames=some X.stack
 ID:X.stack=X.outer\/(X.stack=X.env::X.outer/\X.env.frame=some X.env.locals)
 Iu:∀b∈X.ex,b≠X.env.locals/\∀x c,X.env.cells.lookup x=some c->c≠b
 bs:∀b o,X.base.get? b=some o->X.s₀.heap.get? b=some o/\X.H₀ b=none
 DP:X.base.objs.size<=X.s₀.heap.objs.size
 AW:∀b o,X.base.get? b=some o->b∉X.ex
 Al:∀b∈X.ex,b∉X.fs
 nF:X.s₀.heap.FunFrames X.base X.outer
 Gq:∀b∈X.fs,X.H₀ b=none
structure Inv (X:Cx)(pins:List (Addr×Obj))(σ:List (Option V))(H:Hp)(s:Kp):Prop where
 ok:X.Ok
 os:s.os=X.s₀.os
 bare:AllBare s.gens
 base:Un X.fs X.ex X.H₀ H X.s₀.heap s.heap
 loc:∃m,s.heap.Ns X.env.locals m/\∀(i:Nat) (x:Str) (v:V),X.N[i]?=some x->σ[i]?=some (some v)->rV X.env.scope x->∃u,RelV v u/\Look X.env s.heap m x u
 cell:∀x c,X.env.cells.lookup x=some c->∃v,s.heap.IsCell c v
 free:H X.env.locals=none
 jy:∀x c,X.env.cells.lookup x=some c->H c=none
 pin:∀p∈X.pn++pins,s.heap.get? p.1=some p.2/\H p.1=none/\p.1≠X.env.locals/\p.1∉X.fs/\∀v,p.2.data≠.cell v
 bG:jr X.prog X.w H s.heap
 len:σ.length=X.N.length
section
variable {X:Cx} {pins:List (Addr×Obj)} {σ:List (Option V)} {H H':Hp} {s:Kp} {h':Heap}
theorem Cx.Ok.Jo (ok:X.Ok){b:Addr}{o:Obj}(e:X.base.get? b=some o):b∉X.fs:=λhb=>by
 have:=(ok.nF.mem hb).1;rw[e] at this;cases this
theorem Inv.bs (I:Inv X pins σ H s):∀b o,X.base.get? b=some o->s.heap.get? b=some o/\H b=none:=λb o e =>
 ⟨I.base.keep b o (I.ok.bs b o e).1 (I.ok.bs b o e).2 (I.ok.Jo e) (I.ok.AW b o e),I.base.free b o (I.ok.bs b o e).1 (I.ok.bs b o e).2 (I.ok.AW b o e)⟩
theorem Inv.bk (I:Inv X pins σ H s):∀b o,X.base.get? b=some o->s.heap.get? b=some o:=λb o e=>(I.bs b o e).1
theorem Inv.mod (I:Inv X pins σ H s):Mod X.K X.mg X.base:=I.ok.mod
theorem Inv.oO (I:Inv X pins σ H s):X.K.In s.heap:=I.ok.mod.Hm.keeps I.bk
theorem Inv.nolimit (I:Inv X pins σ H s):s.heap.NoLimit:=I.ok.mod.nolimit.keeps I.bk
theorem Inv.lt (I:Inv X pins σ H s):X.env.locals<s.heap.objs.size:=let ⟨_,hn,_⟩:=I.loc;hn.lt
theorem Inv.sz (I:Inv X pins σ H s):X.s₀.heap.objs.size<=s.heap.objs.size:=Nat.le_trans I.ok.above (Nat.le_of_lt I.lt)
theorem Inv.Jp (I:Inv X pins σ H s){a:Addr}(h:s.heap.objs.size<=a):a∉X.fs:=λhb=>by
 obtain ⟨_,o,ho,_⟩:=I.ok.nF.mem hb;exact absurd (KW (KG ho) (Nat.le_trans I.sz h)) (Nat.lt_irrefl _)
theorem Inv.EF (I:Inv X pins σ H s):∀x c,X.env.cells.lookup x=some c->c≠X.env.locals:=λx c e z=>by
 obtain ⟨v,o,ho,hd⟩:=I.cell x c e;obtain ⟨m,⟨o',es,ep,ho',hd',_⟩,_⟩:=I.loc;rw[z,ho'] at ho;cases ho;rw[hd'] at hd;cases hd
theorem Inv.nF (I:Inv X pins σ H s):s.heap.FunFrames X.base X.outer:=by
 have all:∀(l:List Env),(∀b∈zm l,b∈X.fs)->X.s₀.heap.FunFrames X.base l->s.heap.FunFrames X.base l:=by
  intro l;induction l with
  | nil=>intro _ _;trivial
  | cons env r ih =>
   intro hs hl;obtain ⟨hk,⟨L,o,hf,hn,ho,hd⟩,hr⟩:=hl;have hL:L∈X.fs:=hs L (by unfold zm;rw[filterMap_cons,hf];exact mem_cons_self);obtain ⟨sl,e⟩:=I.base.slot L o ho (I.ok.Gq L hL) hL λz=>I.ok.Al L z hL;exact ⟨hk,⟨L,_,hf,hn,e,hd⟩,ih (λb hb=>hs b (by unfold zm;rw[filterMap_cons,hf];exact K8 _ hb)) hr⟩
 exact all X.outer (λ_ hb=>hb) I.ok.nF
theorem Inv.stack (I:Inv X pins σ H s):s.heap.FunFrames X.base X.stack:=by
 rcases I.ok.ID with e | ⟨e,hf⟩
 .rw[e];exact I.nF
 .rw[e];obtain ⟨m,hn,_⟩:=I.loc;refine .cons (by rw[I.ok.kind];decide) hf hn ?_ I.nF;exact Heap.get?_none_of_le (Nat.le_trans I.ok.DP I.ok.above)
theorem Inv.vO (I:Inv X pins σ H s):∀b∈zm X.stack,b∈X.env.locals::X.fs:=λb hb=>by
 rcases I.ok.ID with e | ⟨e,hf⟩
 .rw[e] at hb;exact K8 _ hb
 .rw[e] at hb;unfold zm at hb;rw[filterMap_cons,hf] at hb;exact hb
theorem Inv.xP (I:Inv X pins σ H s):∀b∈zm X.stack,H b=none:=λb hb=>by
 rcases KQ.mp (I.vO b hb) with e | hb
 .rw[e];exact I.free
 .obtain ⟨_,o,ho,_⟩:=I.ok.nF.mem hb;exact I.base.free b o ho (I.ok.Gq b hb) λz=>I.ok.Al b z hb
theorem Inv.step {g':Array GenState}{t':Nat}{d':Drawn}{ch:List Addr}(I:Inv X pins σ H s)
  (hch:∀b∈ch,(b∈X.ex\/X.s₀.heap.objs.size<=b)/\b≠X.env.locals/\(∀x c,X.env.cells.lookup x=some c->c≠b)/\∀p∈X.pn++pins,p.1≠b)
  (keep:∀b o,b≠X.env.locals->b∉X.fs->b∉ch->s.heap.get? b=some o->H b=none->h'.get? b=some o)
  (slot:∀b o,b≠X.env.locals->b∈X.fs->b∉ch->s.heap.get? b=some o->H b=none->∃sl,h'.get? b=some { o with slots:=sl }) (free:∀b o,b∉ch->s.heap.get? b=some o->H b=none->H' b=none)
  (there:∀b o,b∉ch->s.heap.get? b=some o->∃o',h'.get? b=some o')
  (rS:∀b xs,H b=some (.tup xs)->H' b=some (.tup xs)) (oM:∀b o u,H b=some (.de o u)->H' b=some (.de o u)) (oB:∀b ps,H b=some (.tbl ps)->∃more,H' b=some (.tbl (ps++more)))
  (ns:∀m,s.heap.Ns X.env.locals m->h'.Ns X.env.locals m) (bG:jr X.prog X.w H' h') (hg:AllBare g') :
  Inv X pins σ H' { s with heap:=h',gens:=g',drawn:=d',toks:=t' }:=by
 have neL:∀b o,X.s₀.heap.get? b=some o->b≠X.env.locals:=λb o e=>KR (KW (KG e) I.ok.above);have neC:∀b o,X.s₀.heap.get? b=some o->b∉X.ex->b∉ch:=λb o e hx hb=>by
  rcases (hch b hb).1 with z | z
  .exact hx z
  .exact absurd (KW (KG e) z) (Nat.lt_irrefl _)
 have cellK:∀x c,X.env.cells.lookup x=some c->∀v,s.heap.IsCell c v->h'.IsCell c v:= by
  rintro x c e v ⟨o,ho,hd⟩;have nch:c∉ch:=λz=>(hch c z).2.2.1 x c e rfl;by_cases hc:c∈X.fs
  .obtain ⟨sl,q⟩:=slot c o (I.EF x c e) hc nch ho (I.jy x c e);exact ⟨_,q,hd⟩
  .exact ⟨o,keep c o (I.EF x c e) hc nch ho (I.jy x c e),hd⟩
 refine ⟨I.ok,I.os,hg,⟨λb o e n hb hx=>?_,λb o e n hb hx=>?_,λb o e n hx=>?_,λb o e hx=>?_,λb xs e=>rS b xs (I.base.rS b xs e),λb o xs e=>oM b o xs (I.base.oM b o xs e),λb ps e=>?_⟩,?_,λx c e=>?_,?_,λx c e=>?_,λp hp=>?_,bG,I.len⟩
 .exact keep b o (neL b o e) hb (neC b o e hx) (I.base.keep b o e n hb hx) (I.base.free b o e n hx)
 .obtain ⟨sl,e1⟩:=I.base.slot b o e n hb hx;obtain ⟨sl',e2⟩:=slot b _ (neL b o e) hb (neC b o e hx) e1 (I.base.free b o e n hx);exact ⟨sl',e2⟩
 .obtain ⟨o',e1⟩:=I.base.there b o e hx;exact free b o' (neC b o e hx) e1 (I.base.free b o e n hx)
 .obtain ⟨o',e1⟩:=I.base.there b o e hx;exact there b o' (neC b o e hx) e1
 .obtain ⟨m1,e1⟩:=I.base.oB b ps e;obtain ⟨m2,e2⟩:=oB b _ e1;exact ⟨m1++m2,by rw[e2,Array.append_assoc]⟩
 .obtain ⟨m,hn,hl⟩:=I.loc;refine ⟨m,ns m hn,λi x v e1 e2 e3=>?_⟩;obtain ⟨u,r,l⟩:=hl i x v e1 e2 e3;refine ⟨u,r,?_⟩;rcases l with l | ⟨k,c,e,z⟩
  .exact .inl l
  .exact .inr ⟨k,c,e,cellK x c e _ z⟩
 .obtain ⟨v,z⟩:=I.cell x c e;exact ⟨v,cellK x c e v z⟩
 .obtain ⟨m,⟨o,_,_,ho,_⟩,_⟩:=I.loc;exact free _ o (λz=>(hch _ z).2.1 rfl) ho I.free
 .obtain ⟨v,o,ho,hd⟩:=I.cell x c e;exact free c o (λz=>(hch c z).2.2.1 x c e rfl) ho (I.jy x c e)
 .obtain ⟨e,n,ne,nf,d⟩:=I.pin p hp;have nch:p.1∉ch:=λz=>(hch p.1 z).2.2.2 p hp rfl;exact ⟨keep p.1 p.2 ne nf nch e n,free p.1 p.2 nch e n,ne,nf,d⟩
theorem Inv.un {t':Nat}(I:Inv X pins σ H s)(u:Un X.fs [] H H' s.heap h')(bG:jr X.prog X.w H' h'):Inv X pins σ H' { s with heap:=h',toks:=t' }:=by
 obtain ⟨m,⟨o,es,ep,ho,r⟩,_⟩:=id I.loc;obtain ⟨sl,hL⟩:=u.any ho I.free (by simp);exact I.step (g':=s.gens) (d':=s.drawn) (ch:=[]) (λ_ z=>nomatch z) (λb o _ hb _ e n=>u.keep b o e n hb (by simp)) (λb o _ hb _ e n=>u.slot b o e n hb (by simp)) (λb o _ e n=>u.free b o e n (by simp)) (λb o _ e=>u.there b o e (by simp)) u.rS u.oM u.oB (λm' hm=>by
  obtain ⟨o',es',ep',ho',r'⟩:=hm;rw[ho] at ho';cases ho';exact ⟨_,es',ep',hL,r'⟩) bG I.bare
theorem Inv.call {g':Array GenState}{t':Nat}{d':Drawn}{ch:List Addr}(I:Inv X pins σ H s)(u:Un (zm X.stack) ch H H' s.heap h')(bG:jr X.prog X.w H' h')(hg:AllBare g')
  (hch:∀b∈ch,(b∈X.ex\/X.s₀.heap.objs.size<=b)/\b≠X.env.locals/\(∀x c,X.env.cells.lookup x=some c->c≠b)/\∀p∈X.pn++pins,p.1≠b) :
  Inv X pins σ H' { s with heap:=h',gens:=g',drawn:=d',toks:=t' }:=by
 obtain ⟨m,⟨o,es,ep,ho,r⟩,_⟩:=id I.loc;obtain ⟨sl,hL⟩:=u.any ho I.free λz=>(hch _ z).2.1 rfl;exact I.step (ch:=ch) hch (λb o hL hb hc e n=>u.keep b o e n (λz=>(KQ.mp (I.vO b z)).elim hL hb) hc) (λb o _ _ hc e n=>u.any e n hc) (λb o hc e n=>u.free b o e n hc) (λb o hc e=>u.there b o e hc) u.rS u.oM u.oB (λm' hm=>by
  obtain ⟨o',es',ep',ho',r'⟩:=hm;rw[ho] at ho';cases ho';exact ⟨_,es',ep',hL,r'⟩) bG hg
theorem Inv.turned {t':Nat}{it:Addr}(I:Inv X pins σ H s)(k:∀b o,b≠it->s.heap.get? b=some o->h'.get? b=some o)(hn:H it=none)(hL:it≠X.env.locals)
    (h1:it∈X.ex\/X.s₀.heap.objs.size<=it) (h2:∀x c,X.env.cells.lookup x=some c->c≠it) (h3:∀p∈X.pn++pins,p.1≠it):Inv X pins σ H { s with heap:=h',toks:=t' }:=by
  have nit:∀b u,H b=some u->b≠it:=λb u e z=>by rw[z,hn] at e;cases e
  refine I.step (g':=s.gens) (d':=s.drawn) (ch:=[it]) (λb hb=>?_) (λb o _ _ hc e _=>k b o (λz=>hc (by simp[z])) e) (λb o _ _ hc e _=>⟨o.slots,k b o (λz=>hc (by simp[z])) e⟩) (λ_ _ _ _ n=>n)
    (λb o hc e=>⟨o,k b o (λz=>hc (by simp[z])) e⟩) (λ_ _ e=>e) (λ_ _ _ e=>e) (λb ps e=>⟨#[],by rw[e];simp⟩) (λm hm=>?_) (λb u e=>?_) I.bare
  · have e : b = it := by simpa using hb
    subst e;exact ⟨h1,hL,h2,h3⟩
  · obtain ⟨o,es,ep,ho,r⟩:=hm;exact ⟨o,es,ep,k _ o (Ne.symm hL) ho,r⟩
  · refine (I.bG b u e).dD (λc v hc q=>k c v ?_ q) (λ_ q=>q) λ_ _ q=>q;rcases hc with z | z
    · rw[z];exact nit b u e
    · exact nit c _ z
theorem Inv.tok (I:Inv X pins σ H s)(t:Nat):Inv X pins σ H { s with toks:=t }:=I.un (h':=s.heap) (t':=t) Un.refl I.bG
theorem Inv.kept {t':Nat}(I:Inv X pins σ H s)(k:∀b u,s.heap.get? b=some u->h'.get? b=some u):Inv X pins σ H { s with heap:=h',toks:=t' }:=I.un (Un.kept k) (I.bG.kept k)
theorem Inv.laid {a:Addr}{o:HO}{t':Nat}(I:Inv X pins σ H s)(k:∀b u,s.heap.get? b=some u->h'.get? b=some u)(hp:s.heap.objs.size<=a)(new:cw X.prog X.w (upd H a o) h' a o) :
  Inv X pins σ (upd H a o) { s with heap:=h',toks:=t' }:=I.un (Un.laid k hp (I.bG.fresh hp)) (I.bG.laid k hp new)
theorem Inv.write {x e:Addr}{o:HO}{t':Nat}(I:Inv X pins σ H s)(mu:Gz (H x))(he:e=x\/H e=some (.own x))(k:∀b u,b≠e->s.heap.get? b=some u->h'.get? b=some u)(heo:∃u,h'.get? e=some u)
  (new:cw X.prog X.w (upd H x o) h' x o):Inv X pins σ (upd H x o) { s with heap:=h',toks:=t' }:=I.un (Un.write mu he k heo) (I.bG.write mu he k heo new)
theorem Inv.xw {pins':List (Addr×Obj)}(I:Inv X pins σ H s)(h:∀p∈pins',s.heap.get? p.1=some p.2/\H p.1=none/\p.1≠X.env.locals/\p.1∉X.fs/\∀v,p.2.data≠.cell v):Inv X pins' σ H s:=
 ⟨I.ok,I.os,I.bare,I.base,I.loc,I.cell,I.free,I.jy,λp hp=>(Lf.mp hp).elim (λz=>I.pin p (mem_append_left _ z)) (h p),I.bG,I.len⟩
theorem t5 {N:List Str}(hN:N.Nodup){i j:Nat}{x:Str}(a:N[i]?=some x)(b:N[j]?=some x):i=j:=by
 obtain ⟨h1,e1⟩:=Kw.mp a;obtain ⟨h2,e2⟩:=Kw.mp b;exact (List.getElem_inj hN).mp (e1.trans e2.symm)
theorem qh {M:Model}{A:K1}{E:Kn->Kp->Prop}{i:Nat}{x:Str}{v:V}{u:Kn}{Q:Unit->Kp->Prop}(I:Inv X pins σ H s)(hN:X.N.Nodup)(hi:X.N[i]?=some x)(hx:Loc X.env.scope x)(r:RelV v u)
  (h:∀s',Inv X pins (σ.set i (some v)) H s'->(∃a,Heap.SameBut a s.heap s'.heap/\(a=X.env.locals\/X.env.cells.lookup x=some a))->Q () s') (hf:autoParam (X.fn x=true\/X.env.scope.names.lookup x=some .local) aZd._auto_1):wpAny M A (storeName X.env x u) Q E s:=by
 obtain ⟨m,hn,hl⟩:=id I.loc;have hcls:(X.env.scope.kind == .class || (X.env.scope.kind == .module && X.env.locals != X.env.globals))=false:=by rw[I.ok.kind];rfl
 have hiσ:i<σ.length:=by rw[I.len];exact (Kw.mp hi).1
 have EF:=I.EF;have tracked:∀{a:Addr} {h':Heap},(∃o,s.heap.get? a=some o/\H a=none)->Heap.SameBut a s.heap h'->jr X.prog X.w H h':=λ{a h'} ha hs b ob e=>by
  obtain ⟨_,_,hfree⟩:=ha;refine (I.bG b ob e).dD (λc w' hc q=>(hs.2 c ?_).trans q) (λ_ q=>q) λ_ _ q=>q;rintro rfl;rcases hc with rfl | hc
  .rw[hfree] at e;cases e
  .rw[hfree] at hc;cases hc
 rcases hx with hk | hk
 .refine wpAny_storeName_local hk hn (λh' hn' hs=>?_) hcls;obtain ⟨oL,_,_,hoL,_⟩:=id hn;refine h _ ⟨I.ok,I.os,I.bare,⟨λb o e n hb hx=>?_,λb o e n hb hx=>?_,I.base.free,λb o e hx=>?_,I.base.rS,I.base.oM,I.base.oB⟩,⟨_,hn',λj y v' e1 e2 e3=>?_⟩,λy c e=>?_,I.free,I.jy,λp hp=>?_,tracked ⟨oL,hoL,I.free⟩ hs,by simpa using I.len⟩ ⟨_,hs,.inl rfl⟩
  .exact (hs.2 b (KR (KW (KG e) I.ok.above))).trans (I.base.keep b o e n hb hx)
  .obtain ⟨sl,e1⟩:=I.base.slot b o e n hb hx;exact ⟨sl,(hs.2 b (KR (KW (KG e) I.ok.above))).trans e1⟩
  .obtain ⟨o',e1⟩:=I.base.there b o e hx;exact ⟨o',(hs.2 b (KR (KW (KG e) I.ok.above))).trans e1⟩
  .by_cases hj:j=i
   .subst hj;rw[hi] at e1;cases e1;rw[List.getElem?_set_self hiσ] at e2;cases e2;exact ⟨u,r,.inl ⟨hk,by simp⟩⟩
   .rw[List.getElem?_set_ne (Ne.symm hj)] at e2;obtain ⟨u',r',q⟩:=hl j y v' e1 e2 e3;refine ⟨u',r',?_⟩;rcases q with ⟨k,e⟩ | ⟨k,c,e,z⟩
    .refine .inl ⟨k,?_⟩;have:y≠x:=λe=>hj (t5 hN e1 (e ▸ hi));simp[this,e]
    .exact .inr ⟨k,c,e,z.sameBut hs (EF y c e)⟩
  .obtain ⟨w',z⟩:=I.cell y c e;exact ⟨w',z.sameBut hs (EF y c e)⟩
  .obtain ⟨e,n,ne,nf,d⟩:=I.pin p hp;exact ⟨(hs.2 p.1 ne).trans e,n,ne,nf,d⟩
 .have hfn:X.fn x=true:=by
   rcases hf with z | z
   .exact z
   .rw[z] at hk;cases hk
  obtain ⟨c,hc⟩:=I.ok.has x (.inl hk);obtain ⟨w',z⟩:=I.cell x c hc;refine wpAny_storeName_cell I.ok.kind hk hc z (λh' hc' hs=>?_);obtain ⟨oc,hoc,hocd⟩:=id z;refine h { s with heap:=h' } ⟨I.ok,I.os,I.bare,⟨λb o e n hb hx=>?_,λb o e n hb hx=>?_,I.base.free,λb o e hx=>?_,I.base.rS,I.base.oM,I.base.oB⟩,⟨m,hn.sameBut hs (Ne.symm (EF x c hc)),λj y v' e1 e2 e3=>?_⟩,λy c' e=>?_,I.free,I.jy,λp hp=>?_,tracked ⟨oc,hoc,I.jy x c hc⟩ hs,by simpa using I.len⟩ ⟨c,hs,.inr hc⟩
  .exact (hs.2 b (KR (KW (KG e) (I.ok.GH x c hfn hc)))).trans (I.base.keep b o e n hb hx)
  .obtain ⟨sl,e1⟩:=I.base.slot b o e n hb hx;exact ⟨sl,(hs.2 b (KR (KW (KG e) (I.ok.GH x c hfn hc)))).trans e1⟩
  .obtain ⟨o',e1⟩:=I.base.there b o e hx;exact ⟨o',(hs.2 b (KR (KW (KG e) (I.ok.GH x c hfn hc)))).trans e1⟩
  .by_cases hj:j=i
   .subst hj;rw[hi] at e1;cases e1;rw[List.getElem?_set_self hiσ] at e2;cases e2;exact ⟨u,r,.inr ⟨.inl hk,c,hc,hc'⟩⟩
   .rw[List.getElem?_set_ne (Ne.symm hj)] at e2;obtain ⟨u',r',q⟩:=hl j y v' e1 e2 e3;refine ⟨u',r',?_⟩;rcases q with q | ⟨k,c',e,z'⟩
    .exact .inl q
    .refine .inr ⟨k,c',e,z'.sameBut hs ?_⟩;rintro rfl;exact hj (t5 hN e1 (I.ok.inj _ _ _ e hc ▸ hi))
  .by_cases hcc:c'=c
   .subst hcc;exact ⟨_,hc'⟩
   .obtain ⟨w2,z2⟩:=I.cell y c' e;exact ⟨w2,z2.sameBut hs hcc⟩
  .obtain ⟨e,n,ne,nf,d⟩:=I.pin p hp;refine ⟨(hs.2 p.1 ?_).trans e,n,ne,nf,d⟩;intro q;rw[q,hoc] at e;have q':oc=p.2:=Option.some.inj e;exact d w' (by rw[<-q'];exact hocd)
theorem oz {M:Model}{A:K1}{E:Kn->Kp->Prop}{i:Nat}{x:Str}{v:V}{u:Kn}{Q:Unit->Kp->Prop}(I:Inv X pins σ H s)(hN:X.N.Nodup)(hi:X.N[i]?=some x)(hx:Loc X.env.scope x)(r:RelV v u)
  (h:∀s',Inv X pins (σ.set i (some v)) H s'->Q () s') (hf:autoParam (X.fn x=true\/X.env.scope.names.lookup x=some .local) aZd._auto_1):wpAny M A (storeName X.env x u) Q E s:=
 qh I hN hi hx r (λs' I' _=>h s' I') hf
theorem Inv.GI {s':Kp}{ch:List Addr}(I:Inv X pins σ H s)(ho:s'.os=s.os)(u:Un (zm X.stack) ch H H' s.heap s'.heap)(bG:jr X.prog X.w H' s'.heap)(hg:AllBare s'.gens)
  (hch:∀b∈ch,(b∈X.ex\/X.s₀.heap.objs.size<=b)/\b≠X.env.locals/\(∀x c,X.env.cells.lookup x=some c->c≠b)/\∀p∈X.pn++pins,p.1≠b):Inv X pins σ H' s':=by
 obtain ⟨h',g',d',t',o'⟩:=s';have e:o'=s.os:=ho;subst e;exact I.call (g':=g') (t':=t') (d':=d') u bG hg hch
end
noncomputable abbrev XK:=Kn->Option Addr->Hp->Prop
noncomputable abbrev St:=List (Option V)
noncomputable abbrev VK:=V->Hp->Prop
noncomputable abbrev TE:=St->Hp->VK->Prop
noncomputable abbrev TT:=St->Hp->(Bool->Hp->Prop)->Prop
noncomputable abbrev TA:=St->Hp->(List V->Hp->Prop)->Prop
structure Ends where
 nx:St->Hp->Prop
 rt:VK
 bk:St->Hp->Prop:=λ_ _=>False
 ct:St->Hp->Prop:=λ_ _=>False
noncomputable abbrev TS:=Ends->St->Hp->Prop
noncomputable def EP (X:Cx)(pins:List (Addr×Obj))(σ:St)(Q:VK)(u:Kn)(s':Kp):Prop:=∃v H',Inv X pins σ H' s'/\RelV v u/\Q v H'
noncomputable def TP (X:Cx)(pins:List (Addr×Obj))(σ:St)(Q:Bool->Hp->Prop)(b:Bool)(s':Kp):Prop:=∃H',Inv X pins σ H' s'/\Q b H'
noncomputable def AP (X:Cx)(pins:List (Addr×Obj))(σ:St)(Q:List V->Hp->Prop)(us:List Kn)(s':Kp):Prop:=∃vs H',Inv X pins σ H' s'/\Vals vs us/\Q vs H'
noncomputable def SP (X:Cx)(pins:List (Addr×Obj))(D:Ends)(f:Flow)(s':Kp):Prop:=
 match f with
 | .next=>∃σ' H',Inv X pins σ' H' s'/\D.nx σ' H'
 | .brk=>∃σ' H',Inv X pins σ' H' s'/\D.bk σ' H'
 | .cont=>∃σ' H',Inv X pins σ' H' s'/\D.ct σ' H'
 | .ret u=>∃v σ' H',Inv X pins σ' H' s'/\RelV v u/\D.rt v H'
noncomputable def PE (X:Cx)(e:Expr)(t:TE):Prop:=
 ∀(pins:List (Addr×Obj)) (s:Kp) (σ:St) (H:Hp) (Q:VK),Inv X pins σ H s->t σ H Q->wpAny (model X.prog X.w) X.A (eval e X.env) (EP X pins σ Q) X.xe s
noncomputable def PT (X:Cx)(e:Expr)(t:TT):Prop:=
 ∀(pins:List (Addr×Obj)) (s:Kp) (σ:St) (H:Hp) (Q:Bool->Hp->Prop),Inv X pins σ H s->t σ H Q->wpAny (model X.prog X.w) X.A (isTrue e X.env (eval e X.env)) (TP X pins σ Q) X.xe s
noncomputable def PW (X:Cx)(e:Expr)(t:TT):Prop:=
 ∀(whole:Sem Kn) (pins:List (Addr×Obj)) (s:Kp) (σ:St) (H:Hp) (Q:Bool->Hp->Prop),Inv X pins σ H s->t σ H Q->wpAny (model X.prog X.w) X.A (isTrue e X.env whole) (TP X pins σ Q) X.xe s
theorem PW.pt {X:Cx}{e:Expr}{t:TT}(h:PW X e t):PT X e t:=h _
noncomputable def PA (X:Cx)(es:List Expr)(t:TA):Prop:=
 ∀(pos:Pos) (pins:List (Addr×Obj)) (s:Kp) (σ:St) (H:Hp) (Q:List V->Hp->Prop),Inv X pins σ H s->t σ H Q->wpAny (model X.prog X.w) X.A (spliced (backTo pos (starEach es X.env))) (AP X pins σ Q) X.xe s
noncomputable def PS (X:Cx)(st:Stmt)(t:TS):Prop:=
 ∀(pins:List (Addr×Obj)) (s:Kp) (σ:St) (H:Hp) (D:Ends),Inv X pins σ H s->t D σ H->wpAny (model X.prog X.w) X.A (exec st X.env) (SP X pins D) X.xe s
noncomputable def m8 (X:Cx)(st:List Stmt)(t:TS):Prop:=
 ∀(pins:List (Addr×Obj)) (s:Kp) (σ:St) (H:Hp) (D:Ends),Inv X pins σ H s->t D σ H->wpAny (model X.prog X.w) X.A (execs st X.env) (SP X pins D) X.xe s
theorem bU {α:Type}{t:Sem α}{Q Q':α->Kp->Prop}{M:Model}{A:K1}{E:Kn->Kp->Prop}{s:Kp}(h:wpAny M A t Q E s)(hQ:∀a s,Q a s->Q' a s):wpAny M A t Q' E s:=wpAny_mono h hQ λ_ _ x=>x
end L2
namespace L2
open PySem PySem.Spec PyProof.Rows
section
variable {X:Cx}
theorem bin {a b:Expr}{ta tb:TE}(ha:PE X a ta)(hb:PE X b tb){pins:List (Addr×Obj)}{s:Kp}{σ:St}{H:Hp}{R:V->V->Hp->Prop}(I:Inv X pins σ H s)(h:ta σ H λx H1=>tb σ H1 λy H2=>R x y H2)
  {α:Type} {Q:α->Kp->Prop} {f:Kn->Kn->Sem α}
  (hf:∀v u s2 x y H2,Inv X pins σ H2 s2->RelV x v->RelV y u->R x y H2->wpAny (model X.prog X.w) X.A (f v u) Q X.xe s2) :
  wpAny (model X.prog X.w) X.A (eval a X.env) (λv s₁=>wpAny (model X.prog X.w) X.A (eval b X.env) (λu s₂=>wpAny (model X.prog X.w) X.A (f v u) Q X.xe s₂) X.xe s₁) X.xe s:=by
 refine bU (ha pins s σ H _ I h) ?_;rintro v s1 ⟨x,H1,I1,r1,q1⟩;refine bU (hb pins s1 σ H1 _ I1 q1) ?_;rintro u s2 ⟨y,H2,I2,r2,q2⟩;exact hf v u s2 x y H2 I2 r1 r2 q2
noncomputable def Dy (i:Nat):TE:=λσ H Q=>∃v,σ[i]?=some (some v)/\Q v H
noncomputable def tC (v:V):TE:=λ_ H Q=>Q v H
theorem cM {i:Nat}{x:Str}{pos:Pos}(hN:X.N[i]?=some x)(hv:rV X.env.scope x)(hd:autoParam ((x == ("__debug__" : Str))=false) aZb._auto_1)(hcd:autoParam ((x == ("__classdict__" : Str))=false) aZb._auto_1):PE X (.Name x pos) (Dy i):=by
 intro pins s σ H Q I h;obtain ⟨v,e,h⟩:=h;obtain ⟨m,hn,hl⟩:=I.loc;obtain ⟨u,r,l⟩:=hl i x v hN e hv;have fin:EP X pins σ Q u s:=⟨v,H,I,r,h⟩
 rcases l with ⟨hk,hm⟩ | ⟨hk,c,hc,hcell⟩
 .exact wpAny_Name (wpAny_loadName_local I.ok.kind hk hn hm fin) hd
 .rcases hk with hk | hk
  .exact wpAny_Name (wpAny_loadName_cell I.ok.kind hk hc hcell fin) hd
  .exact wpAny_Name (wpAny_loadName_free I.ok.kind hk hc hcell fin hcd) hd
theorem A3 {i j pos}:PE X (.Constant (.int i) j pos) (tC (.int i)):=λ_ _ _ H _ I h=>wpAny_Constant_int ⟨.int i,H,I.tok _,⟨_,rfl⟩,h⟩
theorem HC {b j pos}:PE X (.Constant (.bool b) j pos) (tC (.bl b)):=λ_ _ _ H _ I h=>Constant_bool ⟨.bl b,H,I,rfl,h⟩
theorem FE {j pos}:PE X (.Constant .none j pos) (tC .non):=λ_ _ _ H _ I h=>Constant_none ⟨.non,H,I,rfl,h⟩
noncomputable def Gl (X:Cx)(x:Str):Prop:=X.env.kindOf x=some .globalImplicit
theorem xh {E:Kn->Kp->Prop}{pins:List (Addr×Obj)}{s:Kp}{σ:St}{H:Hp}{x:Str}{u:Kn}{pos:Pos}{Q:Kn->Kp->Prop}(I:Inv X pins σ H s)(hg:Gl X x)(hm:X.mg x=some u)(h:Q u s)
  (hd:autoParam ((x == ("__debug__" : Str))=false) aZb._auto_1):wpAny (model X.prog X.w) X.A (eval (.Name x pos) X.env) Q E s:=
 Calls.Name_function_global I.ok.kind hg (Calls.loadGlobal_global (by rw[I.ok.glob];exact I.mod.glob.keeps I.bk) hm h) hd
theorem gZ {E:Kn->Kp->Prop}{pins:List (Addr×Obj)}{s:Kp}{σ:St}{H:Hp}{x:Str}{u:Kn}{pos:Pos}{Q:Kn->Kp->Prop}(I:Inv X pins σ H s)(hg:Gl X x)(hm:X.mg x=none)(hv:bootBuiltins x=some u)(h:Q u s)
  (hn:autoParam (x≠"__name__") aZb._auto_1) (hd:autoParam ((x == ("__debug__" : Str))=false) aZb._auto_1):wpAny (model X.prog X.w) X.A (eval (.Name x pos) X.env) Q E s:=by
 obtain ⟨mb,h1,h2⟩:=I.mod.blt;exact Calls.Name_function_global I.ok.kind hg (Calls.loadGlobal_builtin (by rw[I.ok.glob];exact I.mod.glob.keeps I.bk) hm (by rw[I.ok.blt];exact h1.keeps I.bk) ((h2 x hn).trans hv) h) hd
theorem mS {x:Str}{v:V}{u:Kn}{pos:Pos}(hg:Gl X x)(hm:X.mg x=some u)(r:RelV v u)(hd:autoParam ((x == ("__debug__" : Str))=false) aZb._auto_1):PE X (.Name x pos) (tC v):=
 λ_ _ _ H _ I h=>xh I hg hm ⟨v,H,I,r,h⟩ hd
theorem Dc {x:Str}{v:V}{u:Kn}{pos:Pos}(hg:Gl X x)(hm:X.mg x=none)(hv:bootBuiltins x=some u)(r:RelV v u)(hn:autoParam (x≠"__name__") aZb._auto_1)(hd:autoParam ((x == ("__debug__" : Str))=false) aZb._auto_1):PE X (.Name x pos) (tC v):=
 λ_ _ _ H _ I h=>gZ I hg hm hv ⟨v,H,I,r,h⟩ hn hd
variable {a b:Expr} {ta tb:TE} {pos:Pos}
noncomputable def PC (X:Cx)(op:CmpOp)(a b:Expr)(t:TE):Prop:=
 ∀(pins:List (Addr×Obj)) (s:Kp) (σ:St) (H:Hp) (Q:VK),Inv X pins σ H s->t σ H Q ->
  wpAny (model X.prog X.w) X.A (eval a X.env) (λv s₁=>wpAny (model X.prog X.w) X.A (eval b X.env) (λu s₂=>wpAny (model X.prog X.w) X.A (compareOp op v u) (EP X pins σ Q) X.xe s₂) X.xe s₁) X.xe s
theorem AU (b:Expr){op:CmpOp}(h:op≠.In)(h2:op≠.NotIn):behindInMarks op b=false:=by
 have e1:(op == CmpOp.In)=false:=by cases op<;>first | rfl | exact absurd rfl h
 have e2:(op == CmpOp.NotIn)=false:=by cases op<;>first | rfl | exact absurd rfl h2
 cases b<;>simp[behindInMarks,e1,e2]
noncomputable def tB (t:TE):TT:=λσ H Q=>t σ H λx H1=>∃c,x=.bl c/\Q c H1
theorem Jr {op:CmpOp}{t:TE}(h:PC X op a b t)(h1:behindInMarks op b=false:=by first | exact AU _ (by decide) (by decide) | rfl):PT X (.Compare a [op] [b] pos) (tB t):=by
 intro pins s σ H Q I hw;refine wpAny_isTrue_Compare1 (bU (h pins s σ H _ I hw) λv s1 h1=>bU h1 λu s2 h2=>bU h2 ?_) h1;rintro c s3 ⟨x,H1,I1,r1,q1⟩;obtain ⟨d,rfl,q⟩:=q1;cases r1;exact wpAny_truthy_bool ⟨H1,I1,q⟩
theorem FI {e:Expr}{t:TE}(h:PE X e t)(he:autoParam (∀whole,isTrue e X.env whole=(do let v <-whole;standAt e.pos;holding [v] (truthy v))) aZc._auto_1):PT X e (tB t):=by
  intro pins s σ H Q I hw;refine isTrue_plain (bU (h pins s σ H _ I hw) ?_) (he _);rintro v s1 ⟨x,H1,I1,r1,q1⟩;obtain ⟨d,rfl,q⟩:=q1;cases r1;exact wpAny_truthy_bool ⟨H1,I1,q⟩
variable {tA tB':TT} {rest:List Expr}
noncomputable def HZ (t u:TT):TT:=λσ H Q=>t σ H λc H1=>if c=true then u σ H1 Q else Q false H1
noncomputable def J5 (t u:TT):TT:=λσ H Q=>t σ H λc H1=>if c=true then Q true H1 else u σ H1 Q
noncomputable def JJ (t:TT):TT:=λσ H Q=>t σ H λc H1=>Q (!c) H1
theorem Dj (ha:PT X a tA):PW X (.BoolOp .And [a] pos) tA:=by
 intro wh pins s σ H Q I h;refine isTrue_and (bU (ha pins s σ H Q I h) λc s1 e=>?_);cases c with
 | true=>exact isTrue_and_nil e
 | false=>exact e
theorem FL (ha:PT X a tA):PW X (.BoolOp .Or [a] pos) tA:=by
 intro wh pins s σ H Q I h;refine isTrue_or (bU (ha pins s σ H Q I h) λc s1 e=>?_);cases c with
 | false=>exact isTrue_or_nil e
 | true=>exact e
theorem FJ (ha:PT X a tA)(hb:PW X (.BoolOp .And (b::rest) pos) tB'):PW X (.BoolOp .And (a::b::rest) pos) (HZ tA tB'):=by
 intro wh pins s σ H Q I h;refine isTrue_and (bU (ha pins s σ H _ I h) ?_);rintro c s1 ⟨H1,I1,q1⟩;cases c with
 | true=>exact hb wh pins s1 σ H1 Q I1 q1
 | false=>exact ⟨H1,I1,q1⟩
theorem HJ (ha:PT X a tA)(hb:PW X (.BoolOp .Or (b::rest) pos) tB'):PW X (.BoolOp .Or (a::b::rest) pos) (J5 tA tB'):=by
 intro wh pins s σ H Q I h;refine isTrue_or (bU (ha pins s σ H _ I h) ?_);rintro c s1 ⟨H1,I1,q1⟩;cases c with
 | true=>exact ⟨H1,I1,q1⟩
 | false=>exact hb wh pins s1 σ H1 Q I1 q1
theorem FH (ha:PT X a tA):PT X (.UnaryOp .Not a pos) (JJ tA):=by
 intro pins s σ H Q I h;exact isTrue_not (ha pins s σ H (λc H1=>Q (!c) H1) I h)
noncomputable def Ia (ta tb:TE):TE:=λσ H Q=>ta σ H λx H1=>∃c,x=.bl c/\if c=true then tb σ H1 Q else Q (.bl false) H1
noncomputable def JK (ta tb:TE):TE:=λσ H Q=>ta σ H λx H1=>∃c,x=.bl c/\if c=true then Q (.bl true) H1 else tb σ H1 Q
theorem FF {op}{t:TE}(h:PE X a t):PE X (.BoolOp op [a] pos) t:=λpins s σ H Q I hw=>BoolOp_one (h pins s σ H Q I hw)
theorem FD (ha:PE X a ta)(hb:PE X (.BoolOp .And (b::rest) pos) tb):PE X (.BoolOp .And (a::b::rest) pos) (Ia ta tb):=by
 intro pins s σ H Q I h;refine BoolOp_and (bU (ha pins s σ H _ I h) ?_);rintro v s1 ⟨x,H1,I1,r1,q1⟩;obtain ⟨c,rfl,q1⟩:=q1;cases r1;refine wpAny_truthy_bool ?_;cases c with
 | true=>exact hb pins s1 σ H1 Q I1 q1
 | false=>exact ⟨.bl false,H1,I1,rfl,q1⟩
theorem HF (ha:PE X a ta)(hb:PE X (.BoolOp .Or (b::rest) pos) tb):PE X (.BoolOp .Or (a::b::rest) pos) (JK ta tb):=by
 intro pins s σ H Q I h;refine BoolOp_or (bU (ha pins s σ H _ I h) ?_);rintro v s1 ⟨x,H1,I1,r1,q1⟩;obtain ⟨c,rfl,q1⟩:=q1;cases r1;refine wpAny_truthy_bool ?_;cases c with
 | false=>exact hb pins s1 σ H1 Q I1 q1
 | true=>exact ⟨.bl true,H1,I1,rfl,q1⟩
end
end L2
namespace L2
open PySem PySem.Spec PyProof.Rows
noncomputable def dc (K:Frag)(H:Hp)(a:Addr)(xs:List V):Prop:=
 Rd H a (.lst xs) \/
  ∃(o:Obj) (its:Array Kn) (n:Nat),K.lookup a=some o/\o.cls=.type "list"/\o.dict=none/\o.data=.seq its n/\its.size<=sizeLine/\Vals xs its.toList
noncomputable def gM (K:Frag)(H:Hp)(a:Addr)(xs:List V):Prop:=
 Rd H a (.tup xs) \/
  ∃(o:Obj) (its:Array Kn) (n:Nat),K.lookup a=some o/\o.cls=.type "tuple"/\o.data=.seq its n/\its.size<=sizeLine/\Vals xs its.toList
noncomputable def IV:Kn->Option V
 | .none=>some .non
 | .bool b=>some (.bl b)
 | .int i _=>some (.int i)
 | .str x _=>some (.str x)
 | .bytes b _=>some (.byt b)
 | .float b _=>some (.flt b)
 | .ref a=>some (.ref a)
 | .type n=>some (.ty n)
 | _=>none
theorem RelV.abs {x:V}{u:Kn}(r:RelV x u):IV u=some x:=by
 cases x with
 | non=>cases r;rfl
 | bl _=>cases r;rfl
 | int _=>obtain ⟨t,rfl⟩:=r;rfl
 | str _=>obtain ⟨t,rfl⟩:=r;rfl
 | byt _=>obtain ⟨t,rfl⟩:=r;rfl
 | flt _=>obtain ⟨t,rfl⟩:=r;rfl
 | ref _=>cases r;rfl
 | ty _=>cases r;rfl
theorem RelV.inj {x y:V}{u:Kn}(r:RelV x u)(q:RelV y u):x=y:=Option.some.inj (r.abs.symm.trans q.abs)
theorem Vals.inj:∀{xs ys:List V} {us:List Kn},Vals xs us->Vals ys us->xs=ys
 | _,_,_,.nil,.nil=>rfl
 | _,_,_,.cons r t,.cons r' t'=>by rw[r.inj r',Vals.inj t t']
section
variable {X:Cx} {pins:List (Addr×Obj)} {σ:St} {H:Hp} {s:Kp} {a:Addr} {xs ys:List V}
theorem dc.of {K:Frag}(h:H a=some (.lst xs)):dc K H a xs:=.inl (.inl h)
theorem Inv.list (I:Inv X pins σ H s)(h:dc X.K H a xs):∃its:List Kn,Vals xs its/\PlainL s.heap a its.toArray/\xs.length<=sizeLine:=by
  rcases h with h | ⟨o,its,n,hk,hc,hd,hs,hz,r⟩
  · obtain ⟨z,its,n,r,e⟩:=h.ok I.bG;exact ⟨its,r,⟨_,n,e,rfl,rfl,rfl⟩,z⟩
  · refine ⟨its.toList, r, ⟨o, n, I.oO a o hk, hc, hd, by simpa using hs⟩, ?_⟩;have e:=r.length;simp only[KH] at e;lia
theorem Inv.tuple (I:Inv X pins σ H s)(h:gM X.K H a xs):∃its:List Kn,Vals xs its/\IsTup s.heap a its.toArray/\xs.length<=sizeLine:=by
  rcases h with h | ⟨o,its,n,hk,hc,hs,hz,r⟩
  · obtain ⟨z,its,r,p⟩:=h.ok I.bG;exact ⟨its,r,p,z⟩
  · refine ⟨its.toList, r, ⟨o, I.oO a o hk, hc, n, by simpa using hs⟩, ?_⟩;have e:=r.length;simp only[KH] at e;lia
theorem Inv.AK (I:Inv X pins σ H s)(h:dc X.K H a xs)(h':dc X.K H a ys):xs=ys:=by
 obtain ⟨its,r,⟨o,n,e,_,_,d⟩,_⟩:=I.list h;obtain ⟨its',r',⟨o',n',e',_,_,d'⟩,_⟩:=I.list h';rw[e] at e';cases e';rw[d] at d';injection d' with d1 _
 have:its=its':=by simpa using congrArg Array.toList d1
 subst this;exact r.inj r'
theorem Inv.ze (I:Inv X pins σ H s)(h:gM X.K H a xs)(h':gM X.K H a ys):xs=ys:=by
 obtain ⟨its,r,⟨o,e,_,n,d⟩,_⟩:=I.tuple h;obtain ⟨its',r',⟨o',e',_,n',d'⟩,_⟩:=I.tuple h';rw[e] at e';cases e';rw[d] at d';injection d' with d1 _
 have:its=its':=by simpa using congrArg Array.toList d1
 subst this;exact r.inj r'
end
noncomputable abbrev Cx.oW (X:Cx)(E:Kn->Kp->Prop):Cx:={ X with xe:=E }
noncomputable abbrev Cx.D9 (X:Cx):Cx:=X.oW λ_ _=>False
theorem Cx.Ok.oW {X:Cx}(ok:X.Ok)(E:Kn->Kp->Prop):(X.oW E).Ok:=
 ⟨ok.mod,ok.kind,ok.glob,ok.blt,ok.above,ok.inj,ok.has,ok.GH,ok.hd,ok.frames,ok.ID,ok.Iu,ok.bs,ok.DP,ok.AW,ok.Al,ok.nF,ok.Gq⟩
theorem Cx.Ok.iZ {X:Cx}{E:Kn->Kp->Prop}(ok:(X.oW E).Ok):X.Ok:=
 ⟨ok.mod,ok.kind,ok.glob,ok.blt,ok.above,ok.inj,ok.has,ok.GH,ok.hd,ok.frames,ok.ID,ok.Iu,ok.bs,ok.DP,ok.AW,ok.Al,ok.nF,ok.Gq⟩
section
variable {X:Cx} {pins:List (Addr×Obj)} {σ:St} {H:Hp} {s:Kp} {E:Kn->Kp->Prop}
theorem Inv.oW (I:Inv X pins σ H s)(E:Kn->Kp->Prop):Inv (X.oW E) pins σ H s:=⟨I.ok.oW E,I.os,I.bare,I.base,I.loc,I.cell,I.free,I.jy,I.pin,I.bG,I.len⟩
theorem Inv.iZ (I:Inv (X.oW E) pins σ H s):Inv X pins σ H s:=⟨I.ok.iZ,I.os,I.bare,I.base,I.loc,I.cell,I.free,I.jy,I.pin,I.bG,I.len⟩
theorem SP.iZ {D:Ends}{f:Flow}{s':Kp}(h:SP (X.oW E) pins D f s'):SP X pins D f s':=by
 cases f with
 | next=>obtain ⟨σ',H',I,q⟩:=h;exact ⟨σ',H',I.iZ,q⟩
 | brk=>obtain ⟨σ',H',I,q⟩:=h;exact ⟨σ',H',I.iZ,q⟩
 | cont=>obtain ⟨σ',H',I,q⟩:=h;exact ⟨σ',H',I.iZ,q⟩
 | ret u=>obtain ⟨v,σ',H',I,r,q⟩:=h;exact ⟨v,σ',H',I.iZ,r,q⟩
theorem m8.D9 {st:List Stmt}{t:TS}(h:m8 X.D9 st t):m8 X st t:=λpins s σ H D I hw =>
 wpAny_mono (h pins s σ H D (I.oW _) hw) (λ_ _ q=>q.iZ) λ_ _ z=>False.elim z
end
section
variable {X:Cx} {st:Stmt} {rest:List Stmt} {t u:TS} {e:Expr} {te:TE} {pos:Pos}
noncomputable def Ie:TS:=λD σ H=>D.nx σ H
noncomputable def JM (t u:TS):TS:=λD σ H=>t { D with nx:=u D } σ H
theorem xB:m8 X [] Ie:=λ_ _ σ H _ I h=>wpAny_execs_nil ⟨σ,H,I,h⟩
theorem uo (h1:PS X st t)(h2:m8 X rest u):m8 X (st::rest) (JM t u):=by
 intro pins s σ H D I h;refine wpAny_execs_cons (bU (h1 pins s σ H { D with nx:=u D } I h) λf s1 q=>?_);cases f with
 | next =>
  obtain ⟨σ',H',I',q⟩:=q;exact h2 pins s1 σ' H' D I' q
 | ret v=>exact q
 | brk=>exact q
 | cont=>exact q
theorem xC (h1:PS X st t):m8 X [st] t:=by
 intro pins s σ H D I h;refine wpAny_execs_cons (bU (h1 pins s σ H D I h) λf s1 q=>?_);cases f with
 | next=>exact wpAny_execs_nil q
 | ret v=>exact q
 | brk=>exact q
 | cont=>exact q
theorem Inv.quiet {pins:List (Addr×Obj)}{σ:St}{H:Hp}{s:Kp}(I:Inv X pins σ H s):interactive X.env=false:=by simp[interactive,I.ok.kind]
noncomputable def Ic (te:TE):TS:=λD σ H=>te σ H λ_ H1=>D.nx σ H1
theorem mT (he:PE X e te)(hs:autoParam (swapsWith e none pos.line X.env=pure false) aZa._auto_1):PS X (.Expr e pos) (Ic te):=by
 intro pins s σ H D I h;exact wpAny_Expr_any (bU (he pins s σ H _ I h) (by rintro v s1 ⟨x,H1,I1,r1,q1⟩;exact ⟨σ,H1,I1,q1⟩)) I.quiet hs
noncomputable def JL (te:TE):TS:=λD σ H=>te σ H D.rt
theorem vJ (he:PE X e te):PS X (.Return (some e) pos) (JL te):=by
 intro pins s σ H D I h;exact wpAny_Return_some (bU (he pins s σ H _ I h) (by rintro v s1 ⟨x,H1,I1,r1,q1⟩;exact ⟨x,σ,H1,I1,r1,q1⟩))
noncomputable def JG (c:TT)(t u:TS):TS:=λD σ H=>c σ H λb H1=>if b=true then t D σ H1 else u D σ H1
theorem Eb {c:Expr}{a b:List Stmt}{tc:TT}(hc:PT X c tc)(ha:m8 X a t)(hb:m8 X b u):PS X (.If c a b pos) (JG tc t u):=by
 intro pins s σ H D I h;refine wpAny_If (bU (hc pins s σ H _ I h) ?_);rintro d s1 ⟨H1,I1,q1⟩;cases d with
 | true=>exact ha pins s1 σ H1 D I1 q1
 | false=>exact hb pins s1 σ H1 D I1 q1
end
noncomputable abbrev TG:=V->St->Hp->(St->Hp->Prop)->Prop
noncomputable abbrev DK:=List V->St->Hp->(St->Hp->Prop)->Prop
noncomputable def PG (X:Cx)(target:Expr)(t:TG):Prop:=
 ∀(pins:List (Addr×Obj)) (s:Kp) (σ:St) (H:Hp) (v:V) (u:Kn) (Q:St->Hp->Prop),Inv X pins σ H s->RelV v u->t v σ H Q ->
  wpAny (model X.prog X.w) X.A (assign target X.env u) (λ_ s'=>∃σ' H',Inv X pins σ' H' s'/\Q σ' H') X.xe s
noncomputable def Io (X:Cx)(ts:List Expr)(t:DK):Prop:=
 ∀(pins:List (Addr×Obj)) (s:Kp) (σ:St) (H:Hp) (vs:List V) (us:List Kn) (Q:St->Hp->Prop),Inv X pins σ H s->Vals vs us->t vs σ H Q ->
  wpAny (model X.prog X.w) X.A (assignInOrder ((assignEach ts X.env).map (·.2)) us) (λ_ s'=>∃σ' H',Inv X pins σ' H' s'/\Q σ' H') X.xe s
noncomputable abbrev gc:=V->V->V->Hp->(Hp->Prop)->Prop
noncomputable def BQ (X:Cx)(t:gc):Prop:=
 ∀(pins:List (Addr×Obj)) (s:Kp) (σ:St) (H:Hp) (o i v:V) (ov iv u:Kn) (Q:Hp->Prop),Inv X pins σ H s->RelV o ov->RelV i iv->RelV v u->t o i v H Q ->
  wpAny (model X.prog X.w) X.A (setItem ov iv u) (λ_ s'=>∃H',Inv X pins σ H' s'/\Q H') X.xe s
noncomputable abbrev Gm:=V->V->Hp->VK->Prop
noncomputable def GB (X:Cx)(op:Operator)(t:Gm):Prop:=
 ∀(pins:List (Addr×Obj)) (s:Kp) (σ:St) (H:Hp) (x y:V) (v u:Kn) (Q:VK),Inv X pins σ H s->RelV x v->RelV y u->t x y H Q ->
  wpAny (model X.prog X.w) X.A (inplaceOp op v u) (EP X pins σ Q) X.xe s
section
variable {X:Cx} {pos:Pos}
noncomputable def sW (i:Nat):TG:=λv σ H Q=>Q (σ.set i (some v)) H
theorem aB {i:Nat}{x:Str}(hN:X.N.Nodup)(hi:X.N[i]?=some x)(hx:Loc X.env.scope x)(hf:autoParam (X.fn x=true\/X.env.scope.names.lookup x=some .local) aZd._auto_1):PG X (.Name x pos) (sW i):=by
 intro pins s σ H v u Q I r h;exact wpAny_assign_Name (oz I hN hi hx r (λs' I'=>⟨_,H,I',h⟩) hf)
noncomputable def Ha:DK:=λvs σ H Q=>vs = []/\Q σ H
noncomputable def D4 (t:TG)(u:DK):DK:=λvs σ H Q=>∃v r,vs=v::r/\t v σ H λσ' H'=>u r σ' H' Q
theorem fN:Io X [] Ha:=by
 intro pins s σ H vs us Q I r h;obtain ⟨e,h⟩:=h;subst e;cases r;exact assignInOrder_nil ⟨σ,H,I,h⟩
theorem aS {e:Expr}{es:List Expr}{t:TG}{u:DK}(h1:PG X e t)(h2:Io X es u)
  (hs:autoParam ((assignEach (e::es) X.env).map (·.2)=assign e X.env::(assignEach es X.env).map (·.2)) aZa._auto_1):Io X (e::es) (D4 t u):=by
 intro pins s σ H vs us Q I r h;obtain ⟨v,vr,e1,h⟩:=h;subst e1;cases r with
 | cons r rr =>
  rw[hs];refine assignInOrder_cons (bU (h1 pins s σ H _ _ _ I r h) ?_);rintro _ s1 ⟨σ1,H1,I1,q1⟩;exact h2 pins s1 σ1 H1 _ _ Q I1 rr q1
noncomputable def Hc (to ti:TE)(t:gc):TG:=λv σ H Q=>to σ H λo H1=>ti σ H1 λi H2=>t o i v H2 λH3=>Q σ H3
theorem rm {o i:Expr}{to ti:TE}{t:gc}(ho:PE X o to)(hi:PE X i ti)(hs:BQ X t)
    (ha:autoParam (∀v,assign (.Subscript o i pos) X.env v=(do
      let ov <-holding [v] (eval o X.env)
      let iv <-holding [v,ov] (eval i X.env)
      standAt pos
      holding [v,ov,iv] (setItem ov iv v)
      release [v,ov,iv] [])) aZc._auto_1):PG X (.Subscript o i pos) (Hc to ti t):=by
  intro pins s σ H v u Q I r h;rw[ha];refine Ko (wpAny_holding (bU (ho pins s σ H _ I h) ?_));rintro ov s1 ⟨x,H1,I1,r1,q1⟩;refine Ko (wpAny_holding (bU (hi pins s1 σ H1 _ I1 q1) ?_));rintro iv s2 ⟨y,H2,I2,r2,q2⟩;refine Ko (wpAny_standAt (Ko (wpAny_holding (bU (hs pins s2 σ H2 x y v ov iv u _ I2 r1 r2 r q2) ?_))));rintro _ s3 ⟨H3,I3,q3⟩;exact wpAny_release ⟨σ,H3,I3,q3⟩
noncomputable def Ib (te:TE)(g:TG):TS:=λD σ H=>te σ H λx H1=>g x σ H1 D.nx
theorem nZ {tg e:Expr}{te:TE}{g:TG}(he:PE X e te)(hg:PG X tg g)(hs:autoParam (swapsWithSole [tg] e pos.line X.env=pure false) aZa._auto_1)(hw:autoParam (swappedStores [tg] e X.env=pure none) aZa._auto_1)
  (h1:autoParam ((assignEach [tg] X.env).map (·.2) = [assign tg X.env]) aZa._auto_1):PS X (.Assign [tg] e pos) (Ib te g):=by
 intro pins s σ H D I h;refine wpAny_Assign_stores (bU (he pins s σ H _ I h) ?_) hs hw;rintro v s1 ⟨x,H1,I1,r1,q1⟩;rw[h1];exact bU (hg pins s1 σ H1 x v _ I1 r1 q1) λ_ s2 q=>q
theorem jL {i:Nat}{x:Str}{e:Expr}{te:TE}{pos':Pos}(hN:X.N.Nodup)(hi:X.N[i]?=some x)(hx:Loc X.env.scope x)(he:PE X e te)(hs:autoParam (swapsWith e (some (.Name x pos')) pos.line X.env=pure false) aZa._auto_1)(hf:autoParam (X.fn x=true\/X.env.scope.names.lookup x=some .local) aZd._auto_1) :
  PS X (.Assign [.Name x pos'] e pos) (Ib te (sW i)):=by
 intro pins s σ H D I h;refine wpAny_Assign_Name (bU (he pins s σ H _ I h) ?_) hs;rintro v s1 ⟨y,H1,I1,r1,q1⟩;exact oz I1 hN hi hx r1 (λs2 I2=>⟨_,H1,I2,q1⟩) hf
noncomputable def JE (i:Nat)(te:TE)(ti:Gm):TS:=λD σ H=>∃x,σ[i]?=some (some x)/\te σ H λy H1=>ti x y H1 λz H2=>D.nx (σ.set i (some z)) H2
theorem FG {i:Nat}{x:Str}{e:Expr}{te:TE}{op:Operator}{ti:Gm}{pos':Pos}(hN:X.N.Nodup)(hi:X.N[i]?=some x)(hx:Loc X.env.scope x)(he:PE X e te)(ho:GB X op ti)(hf:autoParam (X.fn x=true\/X.env.scope.names.lookup x=some .local) aZd._auto_1) :
  PS X (.AugAssign (.Name x pos') op e pos) (JE i te ti):=by
 intro pins s σ H D I h;obtain ⟨v,e1,h⟩:=h;obtain ⟨m,hn,hl⟩:=I.loc;have vis:rV X.env.scope x:=by rcases hx with k | k;exact .inl k;exact .inr (.inl k)
 obtain ⟨u,r,l⟩:=hl i x v hi e1 vis;refine wpAny_AugAssign_Name ?_;have go:wpAny (model X.prog X.w) X.A (eval e X.env) (λw s₂=>wpAny (model X.prog X.w) X.A (inplaceOp op u w) (λr s₃=>wpAny (model X.prog X.w) X.A (storeName X.env x r) (λ_=>SP X pins D .next) X.xe s₃) X.xe s₂) X.xe s:=by
  refine bU (he pins s σ H _ I h) ?_;rintro w s1 ⟨y,H1,I1,r1,q1⟩;refine bU (ho pins s1 σ H1 v y u w _ I1 r r1 q1) ?_;rintro z s2 ⟨zv,H2,I2,r2,q2⟩;exact oz I2 hN hi hx r2 (λs3 I3=>⟨_,H2,I3,q2⟩) hf
 rcases l with ⟨hk,hm⟩ | ⟨hk,c,hc,hcell⟩
 .exact wpAny_loadName_local I.ok.kind hk hn hm go
 .rcases hk with hk | hk
  .exact wpAny_loadName_cell I.ok.kind hk hc hcell go
  .rcases hx with k | k
   .have:X.env.scope.names.lookup x=some .free:=hk;rw[k] at this;cases this
   .have:X.env.scope.names.lookup x=some .free:=hk;rw[k] at this;cases this
noncomputable def Ej (to ti te:TE)(tget:V->V->Hp->VK->Prop)(tip:Gm)(tset:gc):TS:=λD σ H=>to σ H λo H1=>ti σ H1 λi H2=>tget o i H2 λx H3=>te σ H3 λy H4=>tip x y H4 λz H5=>tset o i z H5 λH6=>D.nx σ H6
noncomputable def GA (X:Cx)(t:V->V->Hp->VK->Prop):Prop:=
 ∀(pins:List (Addr×Obj)) (s:Kp) (σ:St) (H:Hp) (o i:V) (ov iv:Kn) (Q:VK),Inv X pins σ H s->RelV o ov->RelV i iv->t o i H Q ->
  wpAny (model X.prog X.w) X.A (getItem ov iv) (EP X pins σ Q) X.xe s
theorem Dh {o i e:Expr}{to ti te:TE}{tget:V->V->Hp->VK->Prop}{tip:Gm}{tset:gc}{op:Operator}{tpos:Pos}(ho:PE X o to)(hi:PE X i ti)(hg:GA X tget)(he:PE X e te)(hp:GB X op tip)(hs:BQ X tset)
    (ha:∀ov iv new,augStore i ov iv new=(do holding [new,ov,iv] (setItem ov iv new);release [new,ov,iv] [];pure .next):=by intros;rfl):PS X (.AugAssign (.Subscript o i tpos) op e pos) (Ej to ti te tget tip tset):=by
  intro pins s σ H D I h;refine wpAny_AugAssign_SubscriptAny (bU (ho pins s σ H _ I h) ?_) ha;rintro ov s1 ⟨x1,H1,I1,r1,q1⟩;refine bU (hi pins s1 σ H1 _ I1 q1) ?_;rintro iv s2 ⟨x2,H2,I2,r2,q2⟩;refine bU (hg pins s2 σ H2 x1 x2 ov iv _ I2 r1 r2 q2) ?_;rintro old s3 ⟨x3,H3,I3,r3,q3⟩;refine bU (he pins s3 σ H3 _ I3 q3) ?_;rintro v s4 ⟨x4,H4,I4,r4,q4⟩;refine bU (hp pins s4 σ H4 x3 x4 old v _ I4 r3 r4 q4) ?_;rintro new s5 ⟨x5,H5,I5,r5,q5⟩;exact bU (hs pins s5 σ H5 x1 x2 x5 ov iv new _ I5 r1 r2 r5 q5) (by rintro _ s6 ⟨H6,I6,q6⟩;exact ⟨σ,H6,I6,q6⟩)
noncomputable def Iv (f:Int->Int->Int):Gm:=λx y H Q=>∃i j,x=.int i/\y=.int j/\Q (.int (f i j)) H
theorem E5:GB X .Add (Iv λi j=>i+j):=by
 intro pins s σ H x y v u Q I r1 r2 h;obtain ⟨i,j,e1,e2,q⟩:=h;subst e1;subst e2;obtain ⟨t,rfl⟩:=r1;obtain ⟨t',rfl⟩:=r2;exact iadd_int ⟨.int _,H,I.tok _,⟨_,rfl⟩,q⟩
theorem Ay:GB X .Sub (Iv λi j=>i - j):=by
 intro pins s σ H x y v u Q I r1 r2 h;obtain ⟨i,j,e1,e2,q⟩:=h;subst e1;subst e2;obtain ⟨t,rfl⟩:=r1;obtain ⟨t',rfl⟩:=r2;exact isub_int ⟨.int _,H,I.tok _,⟨_,rfl⟩,q⟩
end
section
variable {X:Cx} {pos:Pos}
noncomputable def Gb (c:TT)(tb:TS):TS:=λD σ H=>∃W:Nat->St->Hp->Prop,(∃m,W m σ H)/\∀m σ H,W m σ H ->
 c σ H λb H1=>if b=true then ∃N:St->Hp->Prop,(∀σ' H',N σ' H'->∃m',m'<m/\W m' σ' H')/\tb { D with nx:=N,ct:=N,bk:=D.nx } σ H1 else D.nx σ H1
theorem Bd {c:Expr}{body:List Stmt}{tc:TT}{tb:TS}(hp:PassesOwn (model X.prog X.w) X.A X.env X.xe)(hc:PT X c tc)(hb:m8 X body tb):PS X (.While c body [] pos) (Gb tc tb):=by
 intro pins s σ H D I h;obtain ⟨W,⟨m0,w0⟩,turn⟩:=h;refine wpAny_While (codeAny_whileLoop (λn s'=>∃σ' H',Inv X pins σ' H' s'/\W n σ' H') ?_ m0 ⟨σ,H,I,w0⟩);rintro n s1 ⟨σ1,H1,I1,w1⟩;refine wpAny_passesOwn hp (bU (hc pins s1 σ1 H1 _ I1 (turn n σ1 H1 w1)) ?_);rintro b s2 ⟨H2,I2,q2⟩;cases b with
 | true =>
  obtain ⟨N,hN,q2⟩:=q2;rw[if_pos rfl];refine wpAny_passesOwn hp (bU (hb pins s2 σ1 H2 _ I2 q2) λf s3 q3=>?_);cases f with
  | next =>
   obtain ⟨σ3,H3,I3,n3⟩:=q3;obtain ⟨m',hm,w3⟩:=hN σ3 H3 n3;exact ⟨m',hm,σ3,H3,I3,w3⟩
  | cont =>
   obtain ⟨σ3,H3,I3,n3⟩:=q3;obtain ⟨m',hm,w3⟩:=hN σ3 H3 n3;exact ⟨m',hm,σ3,H3,I3,w3⟩
  | brk=>exact q3
  | ret v=>exact q3
 | false =>
  rw[if_neg KY];exact wpAny_execs_nil ⟨σ1,H2,I2,q2⟩
end
structure It where
 go:Nat->Hp->Prop
 BI:Nat->Hp->V->Hp->Prop
 stop:Nat->Hp->Prop
noncomputable def jV (X:Cx)(pins:List (Addr×Obj))(H:Hp)(b:Addr):Prop:=
 H b=none/\b≠X.env.locals/\b∉X.fs/\(b∈X.ex\/X.s₀.heap.objs.size<=b)/\(∀x c,X.env.cells.lookup x=some c->c≠b)/\∀p∈X.pn++pins,p.1≠b
theorem Inv.Ct {X:Cx}{pins:List (Addr×Obj)}{σ:St}{H H':Hp}{s:Kp}{b:Addr}(I:Inv X pins σ H s)(hb:s.heap.objs.size<=b)(hn:H' b=none):jV X pins H' b:=by
 refine ⟨hn,Nat.ne_of_gt (KW I.lt hb),I.Jp hb,.inr (Nat.le_trans I.sz hb),λx c e z=>?_,λp hp z=>?_⟩
 .obtain ⟨v,q⟩:=I.cell x c e;exact absurd (KW q.lt (by rw[z];exact hb)) (Nat.lt_irrefl _)
 .exact absurd (KW (KG (I.pin p hp).1) (by rw[z];exact hb)) (Nat.lt_irrefl _)
structure Turn (P:KP)(w:K7)(K:Frag)(tg:Expr)(J:It)(fp:List Addr)(it:Addr)(tn:Nat->Heap->Prop):Prop where
 mem:it∈fp
 obj:∀i h,tn i h->∀b∈fp,∃o,h.get? b=some o/\∀v,o.data≠.cell v
 keep:∀i h h',tn i h->(∀b∈fp,∀o,h.get? b=some o->h'.get? b=some o)->tn i h'
 item:∀(X:Cx),X.prog=P->X.w=w->X.K=K->X.calm=true->∀(i:Nat) (pins:List (Addr×Obj)) (s:Kp) (σ:St) (H:Hp) (E:Kn->Kp->Prop),Inv X pins σ H s->(∀b∈fp,jV X pins H b)->tn i s.heap->J.go i H ->
  wpAny (model P w) X.A (pyNext (.ref it)) (λr s1=>∃u,r=some u /\
   wpAny (model P w) X.A (letOwnedTupleGo tg (.ref it) u) (λ_ s2=>∃x H',Inv X pins σ H' s2/\RelV x u/\J.BI i H x H'/\tn (i+1) s2.heap/\∀b∈fp,H' b=none) E s1) E s
 done:∀(X:Cx),X.prog=P->X.w=w->X.K=K->X.calm=true->∀(i:Nat) (pins:List (Addr×Obj)) (s:Kp) (σ:St) (H:Hp) (E:Kn->Kp->Prop),Inv X pins σ H s->(∀b∈fp,jV X pins H b)->tn i s.heap->J.stop i H ->
  wpAny (model P w) X.A (pyNext (.ref it)) (λr s1=>r=none/\Inv X pins σ H s1) E s
 self:∀(A:K1) (i:Nat) (s:Kp) (Q:Kn->Kp->Prop) (E:Kn->Kp->Prop),tn i s.heap->Q (.ref it) s->wpAny (model P w) A (pyIter (.ref it)) Q E s
noncomputable abbrev TI:=St->Hp->(It->Hp->Prop)->Prop
noncomputable def JU (X:Cx)(pins:List (Addr×Obj))(σ:St)(tg:Expr)(R:It->Hp->Prop)(itv:Kn)(s2:Kp):Prop:=
 ∃(it:Addr) (fp:List Addr) (tn:Nat->Heap->Prop) (J:It) (H':Hp),itv=.ref it/\Inv X pins σ H' s2/\Turn X.prog X.w X.K tg J fp it tn/\tn 0 s2.heap/\(∀b∈fp,jV X pins H' b)/\R J H'
noncomputable def PI (X:Cx)(tg iter:Expr)(wi:TI):Prop:=
 ∀(pins:List (Addr×Obj)) (s:Kp) (σ:St) (H:Hp) (R:It->Hp->Prop),Inv X pins σ H s->wi σ H R ->
  wpAny (model X.prog X.w) X.A (eval iter X.env) (λv s1=>wpAny (model X.prog X.w) X.A (pyIter v) (JU X pins σ tg R) X.xe s1) X.xe s
theorem D5 {M:Model}{A:K1}{E:Kn->Kp->Prop}{s:Kp}{tg:Expr}{it:Addr}{u:Kn}{o:Obj}{n:String}{vs:Array Kn}{Q:Unit->Kp->Prop}(ho:s.heap.get? it=some o)(hc:o.cls=.type n)(hd:o.data=.fields vs)
    (hn:["enumerate","zip","dict_itemiterator","dict_reverseitemiterator","odict_iterator","itertools.zip_longest","itertools.pairwise"].contains n=false) (hQ:Q () s):wpAny M A (letOwnedTupleGo tg (.ref it) u) Q E s:=by
  unfold letOwnedTupleGo;cases tg<;>first
    | exact Kq hQ
    | (cases u<;>first
        | exact Kq hQ
        | (refine Ko (wpAny_load ho ?_)
           rw[hc,hd];show wpAny M A (if (["enumerate","zip","dict_itemiterator","dict_reverseitemiterator","odict_iterator","itertools.zip_longest","itertools.pairwise"].contains n && vs[0]? == some (rawInt _))=true then _ else _) Q E s;rw[if_neg (by intro h;rw[hn,Bool.false_and] at h;cases h)];exact Kq hQ))
noncomputable def IJ (K:Frag)(a:Addr):It:=
 ⟨λi H=>∃xs x,dc K H a xs/\xs[i]?=some x,λi H x H'=>H'=H/\∀xs,dc K H a xs->xs[i]?=some x,λi H=>∃xs,dc K H a xs/\xs.length<=i⟩
noncomputable def Gx (lo:Int)(n:Nat):It:=⟨λi _=>i<n,λi H x H'=>H'=H/\x=.int (lo+i),λi _=>n<=i⟩
theorem zg {P:KP}{w:K7}{K:Frag}{tg:Expr}(a it:Addr):Turn P w K tg (IJ K a) [it] it (λi h=>h.IsListIter it a i) where
 mem:=by simp
 obj:=λi h st b hb=>by
  have e:b=it:=by simpa using hb
  subst e;obtain ⟨o,e,c,d⟩:=st;exact ⟨o,e,λv z=>by rw[d] at z;cases z⟩
 keep:=λi h h' st k=>st.at λo e=>k it (by simp) o e
 item:=by
  intro X hP hw hK hc i pins s σ H E I hf st hg;subst hP hw hK;obtain ⟨xs,x,hq,hx⟩:=hg;obtain ⟨its,rv,p,hz⟩:=I.list hq;obtain ⟨u,hu,ru⟩:=rv.get hx;obtain ⟨f0,f1,f2,f3,f4,f5⟩:=hf it (by simp);refine wpAny_pyNext_list_item st p.isList (x:=u) (by simpa using hu) λh' st' sb=>?_;have I1:Inv X pins σ H { s with heap:=h' }:=I.turned (t':=s.toks) (λb o hb e=>(sb.2 b hb).trans e) f0 f1 f3 f4 f5;obtain ⟨o,e,c,d⟩:=id st';exact ⟨u,rfl,D5 (s:={ s with heap:=h' }) e c d (by decide) ⟨x,H,I1,ru,⟨rfl,λys hy=>by rw[I.AK hy hq];exact hx⟩,st',λb hb=>(hf b hb).1⟩⟩
 done:=by
  intro X hP hw hK hc i pins s σ H E I hf st hg;subst hP hw hK;obtain ⟨xs,hq,hx⟩:=hg;obtain ⟨its,rv,p,hz⟩:=I.list hq;obtain ⟨f0,f1,f2,f3,f4,f5⟩:=hf it (by simp);have hl:=rv.length;exact wpAny_pyNext_list_end (I.ok.hd hc) st p.isList (by simp;lia) λh' eb=>⟨rfl,I.turned (t':=s.toks) (λb o hb e=>eb b o hb e) f0 f1 f3 f4 f5⟩
 self:=λ_ _ _ _ _ st h=>wpAny_pyIter_listiter st h
theorem vR {P:KP}{w:K7}{K:Frag}{tg:Expr}(it:Addr)(lo:Int)(n:Nat):Turn P w K tg (Gx lo n) [it] it (λi h=>IsRangeIter h it (lo+(i:Nat)*1) ((n:Int) - (i:Nat)) 1) where
 mem:=by simp
 obj:=λi h st b hb=>by
  have e:b=it:=by simpa using hb
  subst e;exact ⟨_,st,λv z=>by
   have z':Data.fields _=Data.cell v:=z;cases z'⟩
 keep:=λi h h' st k=>k it (by simp) _ st
 item:=by
  intro X hP hw hK hc i pins s σ H E I hf st hg;subst hP hw hK;obtain ⟨f0,f1,f2,f3,f4,f5⟩:=hf it (by simp);have W:=Walks.range (prog:=X.prog) (w:=X.w) (I.ok.hd hc) it lo 1 n;refine W.item i s _ _ hg st λv h' tk hv st' kk=>?_;obtain ⟨t,rfl⟩:=hv;have I1:Inv X pins σ H { s with heap:=h',toks:=tk }:=I.turned (λb o hb e=>kk b o (by simpa using hb) e) f0 f1 f3 f4 f5;refine ⟨_,rfl,D5 (s:={ s with heap:=h',toks:=tk }) (n:="range_iterator") st' rfl rfl (by decide) ⟨.int (lo+i),H,I1,⟨t,?_⟩,⟨rfl,rfl⟩,st',λb hb=>(hf b hb).1⟩⟩;rw[Int.mul_one]
 done:=by
  intro X hP hw hK hc i pins s σ H E I hf st hg;subst hP hw hK;obtain ⟨f0,f1,f2,f3,f4,f5⟩:=hf it (by simp);exact wpAny_pyNext_range_end (I.ok.hd hc) st (by have:n<=i:=hg;lia) λh' eb=>⟨rfl,I.turned (t':=s.toks) (λb o hb e=>eb b o hb e) f0 f1 f3 f4 f5⟩
 self:=λ_ _ _ _ _ st h=>wpAny_pyIter_rangeiter st h
end L2
namespace L2
open PySem PySem.Spec PyProof.Rows
section
variable {X:Cx} {tg:Expr}
noncomputable def He (K:Frag)(tl:TE):TI:=λσ H R=>tl σ H λx H1=>∃a,x=.ref a/\(∃xs,dc K H1 a xs)/\R (IJ K a) H1
theorem xu {l:Expr}{tl:TE}(hl:PE X l tl):PI X tg l (He X.K tl):=by
 intro pins s σ H R I h;refine bU (hl pins s σ H _ I h) ?_;rintro v s1 ⟨x,H1,I1,r1,q1⟩;obtain ⟨a,e,⟨xs,hq⟩,q⟩:=q1;subst e;cases r1;obtain ⟨its,rv,p,hz⟩:=I1.list hq;refine wpAny_pyIter_list p.isList ?_;refine ⟨s1.heap.objs.size,[s1.heap.objs.size],_,_,H1,rfl,I1.kept (t':=s1.toks) λb o e=>Kv _ e,zg a _,⟨_,KZ _ rfl,rfl,rfl⟩,λb hb=>?_,q⟩;have e:b=s1.heap.objs.size:=by simpa using hb
 subst e;exact I1.Ct (Ku _) (I1.bG.fresh (Ku _))
theorem ur {pins:List (Addr×Obj)}{σ:St}{H:Hp}{s:Kp}{R:It->Hp->Prop}{E:Kn->Kp->Prop}{lo hi:Int}{t u v:Tok}{tk:Nat}(I:Inv X pins σ H s)(h1 : -(2 ^ 62)<=lo)(h2:lo<2 ^ 62)(h3 : -(2 ^ 62)<=hi)(h4:hi<2 ^ 62)
    (q:R (Gx lo (hi - lo).toNat) H):wpAny (model X.prog X.w) X.A (pyIter (.ref s.heap.objs.size)) (JU X pins σ tg R) E { s with heap:=s.heap.push { cls:=.type "range",data:=.fields #[.int lo t,.int hi u,.int 1 v] },toks:=tk }:=by
  refine wpAny_pyIter_range (IsRange.new ..) (small_one h1 h2 h3 h4) ?_;have I1:Inv X pins σ H { s with heap:=s.heap.push { cls:=.type "range",data:=.fields #[.int lo t,.int hi u,.int 1 v] },toks:=tk }:=I.kept λb o e=>Kv _ e;refine ⟨(s.heap.push { cls:=.type "range",data:=.fields #[.int lo t,.int hi u,.int 1 v] }).objs.size,[(s.heap.push { cls:=.type "range",data:=.fields #[.int lo t,.int hi u,.int 1 v] }).objs.size],_,_,H,rfl,
    I1.kept (t':=tk) λb o e=>Kv _ e,vR _ lo (hi - lo).toNat,?_,λb hb=>?_,q⟩
  · have e1 : lo + ((0 : Nat):Int) * 1 = lo := by simp
    have e2:(((hi - lo).toNat:Nat):Int) - ((0:Nat):Int)=Builtin.Range.rangeSize lo hi 1:=by rw[rangeSize_one];split<;>lia
    show IsRangeIter _ _ (lo+((0:Nat):Int)*1) ((((hi - lo).toNat:Nat):Int) - ((0:Nat):Int)) 1;rw[e1,e2];exact KZ _ rfl
  · have e : b = (s.heap.push { cls := .type "range", data := .fields #[.int lo t, .int hi u, .int 1 v] }).objs.size := by simpa using hb
    subst e;exact I1.Ct (Ku _) (I1.bG.fresh (Ku _))
noncomputable def Hf (ta:TA):TI:=λσ H R=>ta σ H λvs H1=>∃j:Int,vs = [.int j]/\-(2 ^ 62)<=j/\j<2 ^ 62/\R (Gx 0 j.toNat) H1
noncomputable def Hg (ta:TA):TI:=λσ H R=>ta σ H λvs H1=>∃i j:Int,vs = [.int i,.int j]/\(-(2 ^ 62)<=i/\i<2 ^ 62/\-(2 ^ 62)<=j/\j<2 ^ 62)/\R (Gx i (j - i).toNat) H1
theorem yK {a:Expr}{ta:TA}{p pos:Pos}(hg:Gl X "range")(hm:X.mg "range" = none)(ha:PA X [a] ta)(hs:autoParam (starEach [a] X.env = [(false,eval a X.env)]) aZa._auto_1):PI X tg (.Call (.Name "range" p) [a] [] pos) (Hf ta):=by
 intro pins s σ H R I h;refine Call_ (gZ I hg hm boot_range (PyProof.Rows.callWith_type1 (bU (ha pos pins s σ H _ I h) ?_) hs rfl));rintro us s1 ⟨vs,H1,I1,r1,q1⟩;obtain ⟨j,e,q1,q2,q⟩:=q1;subst e;cases r1 with
 | cons r rr =>
  cases rr;obtain ⟨t,rfl⟩:=r;exact call_range_1 (ur I1 (by lia) (by lia) q1 q2 (by simpa using q))
theorem yL {a b:Expr}{ta:TA}{p pos:Pos}(hg:Gl X "range")(hm:X.mg "range" = none)(ha:PA X [a,b] ta)(hs:autoParam (starEach [a,b] X.env = [(false,eval a X.env),(false,eval b X.env)]) aZa._auto_1)(hs2:autoParam (starEach [b] X.env = [(false,eval b X.env)]) aZa._auto_1) :
  PI X tg (.Call (.Name "range" p) [a,b] [] pos) (Hg ta):=by
 intro pins s σ H R I h;refine Call_ (gZ I hg hm boot_range (PyProof.Rows.callWith_type1 (bU (ha pos pins s σ H _ I h) ?_) (by rw[hs,hs2]) (by rw[hs2];rfl)));rintro us s1 ⟨vs,H1,I1,r1,q1⟩;obtain ⟨i,j,e,⟨q1,q2,q3,q4⟩,q⟩:=q1;subst e;cases r1 with
 | cons r rr =>
  cases rr with
  | cons r' rr =>
   cases rr;obtain ⟨t,rfl⟩:=r;obtain ⟨t',rfl⟩:=r';exact call_range_2 (ur I1 q1 q2 q3 q4 q)
noncomputable def JF (wi:TI)(g:TG)(tb:TS):TS:=λD σ H=>wi σ H λJ H1=>∃W:Nat->Nat->St->Hp->Prop,(∃m,W 0 m σ H1)/\∀i m σ H,W i m σ H ->
 (J.stop i H/\D.nx σ H)\/(J.go i H/\∃N:St->Hp->Prop,(∀σ' H',N σ' H'->∃m',m'<m/\W (i+1) m' σ' H')/\∀x H',J.BI i H x H'->g x σ H' λσ2 H2=>tb { D with nx:=N,ct:=N,bk:=D.nx } σ2 H2)
noncomputable def nX (fp:List Addr)(h:Heap):List (Addr×Obj):=fp.filterMap λb=>(h.get? b).map λo=>(b,o)
theorem g6 {fp:List Addr}{h:Heap}{b:Addr}{o:Obj}(hb:b∈fp)(e:h.get? b=some o):(b,o)∈nX fp h:=List.mem_filterMap.mpr ⟨b,hb,by rw[e];rfl⟩
theorem yG {fp:List Addr}{h:Heap}{p:Addr×Obj}(hp:p∈nX fp h):p.1∈fp/\h.get? p.1=some p.2:=by
 obtain ⟨b,hb,e⟩:=List.mem_filterMap.mp hp;cases q:h.get? b with
 | none=>rw[q] at e;cases e
 | some o =>
  rw[q] at e;have e':(b,o)=p:=Option.some.inj e;subst e';exact ⟨hb,q⟩
theorem Inv.pinned {pins:List (Addr×Obj)}{σ:St}{H:Hp}{s:Kp}{fp:List Addr}(I:Inv X pins σ H s)(hf:∀b∈fp,jV X pins H b)(ho:∀b∈fp,∃o,s.heap.get? b=some o/\∀v,o.data≠.cell v):Inv X (pins++nX fp s.heap) σ H s:=
 I.xw λp hp=>(Lf.mp hp).elim (λz=>I.pin p (mem_append_right _ z)) λz=>by
  obtain ⟨hb,e⟩:=yG z;obtain ⟨f0,f1,f2,_⟩:=hf p.1 hb;obtain ⟨o,e',d⟩:=ho p.1 hb;rw[e] at e';cases e';exact ⟨e,f0,f1,f2,d⟩
theorem Inv.kP {pins pl:List (Addr×Obj)}{σ:St}{H:Hp}{s:Kp}(I:Inv X (pins++pl) σ H s):Inv X pins σ H s:=I.xw λp hp=>I.pin p (mem_append_right _ (mem_append_left _ hp))
theorem vI {iter:Expr}{body:List Stmt}{wi:TI}{g:TG}{tb:TS}{pos:Pos}(hp:PassesOwn (model X.prog X.w) X.A X.env X.xe)(hc:X.calm=true)(hi:PI X tg iter wi)(hg:PG X tg g)(hb:m8 X body tb)
  (hs:autoParam (∀x,foldedSetIterable iter X.env x=pure x) aZc._auto_1):PS X (.For tg iter body [] pos) (JF wi g tb):=by
 intro pins s σ H D I h;refine wpAny_For (bU (hi pins s σ H _ I h) λv s1 h1=>bU h1 λitv s2 h2=>?_) hs;obtain ⟨it,fp,tn,J,H2,e,I2,T,st2,f2,W,⟨m0,w0⟩,turn⟩:=h2;subst e;have stat:∀{H':Hp},(∀b∈fp,H' b=none)->∀b∈fp,jV X pins H' b:=λhn b hb=>⟨hn b hb,(f2 b hb).2⟩
 refine codeAny_forLoop_any (λn s'=>∃i σ' H',Inv X pins σ' H' s'/\tn i s'.heap/\(∀b∈fp,H' b=none)/\W i n σ' H') ?_ m0 ⟨0,σ,H2,I2,st2,λb hb=>(f2 b hb).1,w0⟩;rintro n s3 ⟨i,σ3,H3,I3,st3,fr3,w3⟩;rcases turn i n σ3 H3 w3 with ⟨stop,qn⟩ | ⟨go,N,hN,step⟩
 .refine wpAny_passesOwn hp (bU (T.done X rfl rfl rfl hc i pins s3 σ3 H3 X.xe I3 (stat fr3) st3 stop) ?_);rintro r s4 ⟨hr,I4⟩;subst hr;exact wpAny_execs_nil ⟨σ3,H3,I4,qn⟩
 .refine wpAny_passesOwn hp (bU (T.item X rfl rfl rfl hc i pins s3 σ3 H3 X.xe I3 (stat fr3) st3 go) ?_);rintro r s4 ⟨u,hr,h4⟩;subst hr;refine wpAny_passesOwn hp (bU h4 ?_);rintro _ s5 ⟨x,H5,I5,r5,y5,st5,fr5⟩;have I5':=I5.pinned (stat fr5) (T.obj _ _ st5);refine wpAny_passesOwn hp (bU (hg _ s5 σ3 H5 x u _ I5' r5 (step x H5 y5)) ?_);rintro _ s6 ⟨σ6,H6,I6,q6⟩;refine wpAny_passesOwn hp (bU (hb _ s6 σ6 H6 _ I6 q6) λf s7 q7=>?_);have again:∀{σ7:St} {H7:Hp},Inv X (pins++nX fp s5.heap) σ7 H7 s7->N σ7 H7->∃m,m<n/\∃i σ' H',Inv X pins σ' H' s7/\tn i s7.heap/\(∀b∈fp,H' b=none)/\W i m σ' H':=λ{σ7 H7} I7 n7=>by
   obtain ⟨m',hm,w7⟩:=hN σ7 H7 n7;refine ⟨m',hm,i+1,σ7,H7,I7.kP,T.keep _ _ _ st5 λb hb o e=>(I7.pin (b,o) (mem_append_right _ (mem_append_right _ (g6 hb e)))).1,λb hb=>?_,w7⟩;obtain ⟨o,e,d⟩:=T.obj _ _ st5 b hb;exact (I7.pin (b,o) (mem_append_right _ (mem_append_right _ (g6 hb e)))).2.1
  cases f with
  | next=>obtain ⟨σ7,H7,I7,n7⟩:=q7;exact again I7 n7
  | cont=>obtain ⟨σ7,H7,I7,n7⟩:=q7;exact again I7 n7
  | brk=>obtain ⟨σ7,H7,I7,q7⟩:=q7;exact ⟨σ7,H7,I7.kP,q7⟩
  | ret v=>obtain ⟨x7,σ7,H7,I7,r7,q7⟩:=q7;exact ⟨x7,σ7,H7,I7.kP,r7,q7⟩
end
end L2
namespace L2
open PySem PySem.Spec PyProof.Rows
noncomputable abbrev R2:=V->V->Hp->VK->Prop
noncomputable def iq (X:Cx)(f:Kn->Kn->Sem Kn)(r:R2):Prop:=
 ∀(pins:List (Addr×Obj)) (s:Kp) (σ:St) (H:Hp) (x y:V) (v u:Kn) (Q:VK),Inv X pins σ H s->RelV x v->RelV y u->r x y H Q ->
  wpAny (model X.prog X.w) X.A (f v u) (EP X pins σ Q) X.xe s
noncomputable def IT (X:Cx)(f:Kn->Sem Kn)(r:V->Hp->VK->Prop):Prop:=
 ∀(pins:List (Addr×Obj)) (s:Kp) (σ:St) (H:Hp) (x:V) (v:Kn) (Q:VK),Inv X pins σ H s->RelV x v->r x H Q ->
  wpAny (model X.prog X.w) X.A (f v) (EP X pins σ Q) X.xe s
noncomputable def fe (X:Cx)(f:Kn)(r:List V->Hp->VK->Prop):Prop:=
 ∀(pins:List (Addr×Obj)) (s:Kp) (σ:St) (H:Hp) (xs:List V) (us:List Kn) (Q:VK),Inv X pins σ H s->Vals xs us->r xs H Q ->
  wpAny (model X.prog X.w) X.A (call f us) (EP X pins σ Q) X.xe s
noncomputable def IQ (X:Cx)(r:V->Hp->(Bool->Hp->Prop)->Prop):Prop:=
 ∀(pins:List (Addr×Obj)) (s:Kp) (σ:St) (H:Hp) (x:V) (v:Kn) (Q:Bool->Hp->Prop),Inv X pins σ H s->RelV x v->r x H Q ->
  wpAny (model X.prog X.w) X.A (truthy v) (TP X pins σ Q) X.xe s
noncomputable def FY (r:R2)(ta tb:TE):TE:=λσ H Q=>ta σ H λx H1=>tb σ H1 λy H2=>r x y H2 Q
noncomputable def Kj (r:V->Hp->VK->Prop)(ta:TE):TE:=λσ H Q=>ta σ H λx H1=>r x H1 Q
noncomputable def rI (C:Int->Int->Prop)(g:Int->Int->V):R2:=λx y H Q=>∃i j,x=.int i/\y=.int j/\C i j/\Q (g i j) H
noncomputable def Dp (g:Int->Int->V):R2:=λx y H Q=>∃i j,x=.int i/\y=.int j/\Q (g i j) H
noncomputable def rU (g:Int->V):V->Hp->VK->Prop:=λx H Q=>∃i,x=.int i/\Q (g i) H
section
variable {X:Cx} {a b c:Expr} {ta tb tc:TE} {pos:Pos}
theorem EB (ha:PE X a ta)(hb:PE X b tb){pins:List (Addr×Obj)}{s:Kp}{σ:St}{H:Hp}{R:V->V->Hp->Prop}(I:Inv X pins σ H s)
  (h:ta σ H λx H1=>tb σ H1 λy H2=>R x y H2) {Q:Kn->Kp->Prop} {f:Kn->Kn->Sem Kn}
  (hf:∀v u s2 x y H2,Inv X pins σ H2 s2->RelV x v->RelV y u->R x y H2->wpAny (model X.prog X.w) X.A (f v u) Q X.xe s2) :
  wpAny (model X.prog X.w) X.A (eval a X.env) (λv s₁=>wpAny (model X.prog X.w) X.A (eval b X.env) (λu s₂=>wpAny (model X.prog X.w) X.A (f v u) Q X.xe s₂) X.xe s₁) X.xe s:=by
 refine bU (ha pins s σ H _ I h) ?_;rintro v s1 ⟨x,H1,I1,r1,q1⟩;refine bU (hb pins s1 σ H1 _ I1 q1) ?_;rintro u s2 ⟨y,H2,I2,r2,q2⟩;exact hf v u s2 x y H2 I2 r1 r2 q2
theorem xt {op:Operator}{r:R2}(ho:iq X (binaryOp op) r)(ha:PE X a ta)(hb:PE X b tb):PE X (.BinOp a op b pos) (FY r ta tb):=by
 intro pins s σ H Q I h;exact wpAny_BinOp (EB ha hb I h λv u s2 x y H2 I2 rx ry q=>ho pins s2 σ H2 x y v u Q I2 rx ry q)
theorem HG {op:UnaryOp}{r:V->Hp->VK->Prop}(ho:IT X (unaryOp op) r)(ha:PE X a ta):PE X (.UnaryOp op a pos) (Kj r ta):=by
 intro pins s σ H Q I h;exact UnaryOp_ (bU (ha pins s σ H _ I h) (by rintro v s1 ⟨x,H1,I1,r1,q1⟩;exact ho pins s1 σ H1 x v Q I1 r1 q1))
theorem IA {f:Kn->Kn->Sem Kn}{C:Int->Int->Prop}{g:Int->Int->Int}
  (rule:∀(i j:Int) (t u:Tok) (s:Kp) (Q:Kn->Kp->Prop) (E:Kn->Kp->Prop),C i j->Q (.int (g i j) s.toks) { s with toks:=s.toks+1 }->wpAny (model X.prog X.w) X.A (f (.int i t) (.int j u)) Q E s) :
  iq X f (rI C λi j=>.int (g i j)):=by
 intro pins s σ H x y v u Q I rx ry h;obtain ⟨i,j,rfl,rfl,hc,q⟩:=h;obtain ⟨t,rfl⟩:=rx;obtain ⟨t',rfl⟩:=ry;exact rule i j t t' s _ _ hc ⟨.int (g i j),H,I.tok _,⟨_,rfl⟩,q⟩
theorem Hu {f:Kn->Kn->Sem Kn}{g:Int->Int->Int}
  (rule:∀(i j:Int) (t u:Tok) (s:Kp) (Q:Kn->Kp->Prop) (E:Kn->Kp->Prop),Q (.int (g i j) s.toks) { s with toks:=s.toks+1 }->wpAny (model X.prog X.w) X.A (f (.int i t) (.int j u)) Q E s) :
  iq X f (Dp λi j=>.int (g i j)):=by
 intro pins s σ H x y v u Q I rx ry h;obtain ⟨i,j,rfl,rfl,q⟩:=h;obtain ⟨t,rfl⟩:=rx;obtain ⟨t',rfl⟩:=ry;exact rule i j t t' s _ _ ⟨.int (g i j),H,I.tok _,⟨_,rfl⟩,q⟩
theorem C6 {f:Kn->Kn->Sem Kn}{g:Int->Int->Bool}
  (rule:∀(i j:Int) (t u:Tok) (s:Kp) (Q:Kn->Kp->Prop) (E:Kn->Kp->Prop),Q (.bool (g i j)) s->wpAny (model X.prog X.w) X.A (f (.int i t) (.int j u)) Q E s) :
  iq X f (Dp λi j=>.bl (g i j)):=by
 intro pins s σ H x y v u Q I rx ry h;obtain ⟨i,j,rfl,rfl,q⟩:=h;obtain ⟨t,rfl⟩:=rx;obtain ⟨t',rfl⟩:=ry;exact rule i j t t' s _ _ ⟨.bl (g i j),H,I,rfl,q⟩
noncomputable def Gs (i j:Int):Prop:=0<j/\j<1073741824
noncomputable def Gu (i j:Int):Prop:=0<=j/\j<=1000000/\i.natAbs<2 ^ 64
noncomputable def uM (i j:Int):Prop:=(-(2 ^ 64)<i/\i<2 ^ 64)\/(-(2 ^ 64)<j/\j<2 ^ 64)
theorem uM.ok {i j:Int}(h:uM i j):IntMulOk i j:=by
 rcases h with ⟨h1,h2⟩ | ⟨h1,h2⟩
 .exact .of_left (intBits_le_64 h1 h2)
 .exact .of_right (intBits_le_64 h1 h2)
theorem Fp:iq X (binaryOp .Add) (Dp λi j=>.int (i+j)):=Hu λ_ _ _ _ _ _ _ q=>add_int q
theorem FA:iq X (binaryOp .Sub) (Dp λi j=>.int (i - j)):=Hu λ_ _ _ _ _ _ _ q=>sub_int q
theorem Fv:iq X (binaryOp .Mult) (rI uM λi j=>.int (i*j)):=IA λ_ _ _ _ _ _ _ hc q=>mul_int q hc.ok
theorem C7:iq X (binaryOp .FloorDiv) (rI Gs λi j=>.int (i / j)):=IA λi j _ _ _ _ _ hc q=>by
 have h1:(0:Int)<j:=hc.1;have h2:j<1073741824:=hc.2;exact floordiv_int (by lia) (by rw[Int.fdiv_eq_ediv_of_nonneg i (by lia)];exact q) (.inl (PyProof.noPylong_small (by lia)))
theorem Fu:iq X (binaryOp .Mod) (rI (λ_ j=>0<j) λi j=>.int (i % j)):=IA λi j _ _ _ _ _ hc q=>by
 have h1:(0:Int)<j:=hc;exact mod_int' (by lia) (by rw[Int.fmod_eq_emod_of_nonneg i (by lia)];exact q)
theorem Fy:iq X (binaryOp .Pow) (rI Gu λi j=>.int (i ^ j.toNat)):=IA λ_ _ _ _ _ _ _ hc q=>pow_int_small hc.1 hc.2.1 hc.2.2 q
theorem Kl {f:Kn->Sem Kn}{g:Int->Int}
  (rule:∀(i:Int) (t:Tok) (s:Kp) (Q:Kn->Kp->Prop) (E:Kn->Kp->Prop),Q (.int (g i) s.toks) { s with toks:=s.toks+1 }->wpAny (model X.prog X.w) X.A (f (.int i t)) Q E s) :
  IT X f (rU λi=>.int (g i)):=by
 intro pins s σ H x v Q I rx h;obtain ⟨i,rfl,q⟩:=h;obtain ⟨t,rfl⟩:=rx;exact rule i t s _ _ ⟨.int (g i),H,I.tok _,⟨_,rfl⟩,q⟩
theorem Gg:IT X (unaryOp .USub) (rU λi=>.int (-i)):=Kl λ_ _ _ _ _ q=>neg_int q
end
noncomputable def HU:V->V->Bool
 | .non,.non=>true | .non,.int _=>true | .int _,.non=>true | .non,.bl _=>true | .bl _,.non=>true | .non,.str _=>true | .str _,.non=>true
 | .int _,.int _=>true | .bl _,.bl _=>true | .str _,.str _=>true | .byt _,.byt _=>true
 | .int _,.str _=>true | .str _,.int _=>true | .bl _,.str _=>true | .str _,.bl _=>true
 | _,_=>false
noncomputable def Ke:R2:=λx y H Q=>HU x y=true/\Q (.bl (decide (x=y))) H
noncomputable def Kg:R2:=λx y H Q=>HU x y=true/\Q (.bl (!decide (x=y))) H
theorem wD {i j:Int}:decide (V.int i=V.int j)=(i == j):=by
 rw[Bool.eq_iff_iff];simp
theorem Ab {i j:Bool}:decide (V.bl i=V.bl j)=(i == j):=by
 rw[Bool.eq_iff_iff];simp
theorem wF {i j:Str}:decide (V.str i=V.str j)=(i == j):=by
 rw[Bool.eq_iff_iff];simp
theorem wC {i j:Array UInt8}:decide (V.byt i=V.byt j)=(i.toList == j.toList):=by
 rw[Bool.eq_iff_iff];cases i;cases j;simp
section
variable {X:Cx} {a b c:Expr} {ta tb tc:TE} {pos:Pos}
theorem bh {pins:List (Addr×Obj)}{σ:St}{H:Hp}{s:Kp}{Q:VK}{k k':Bool}(I:Inv X pins σ H s)(q:Q (.bl k) H)(e:k=k'):EP X pins σ Q (.bool k') s:=by
 subst e;exact ⟨.bl k,H,I,rfl,q⟩
theorem Hv:iq X (compareOp .Eq) Ke:=by
 intro pins s σ H x y v u Q I rx ry h;obtain ⟨hs,q⟩:=h;cases x with
 | non =>
  cases rx;cases y with
  | non=>cases ry;exact PySem.EqNone.eq_none_none (bh I q (by simp))
  | bl j=>cases ry;exact PySem.EqNone.eq_none_bool (bh I q (by simp))
  | int j=>obtain ⟨t',rfl⟩:=ry;exact PySem.EqNone.eq_none_int (bh I q (by simp))
  | str j=>obtain ⟨t',rfl⟩:=ry;exact PySem.EqNone.eq_none_str (bh I q (by simp))
  | _=>exact absurd (show false=true from hs) KY
 | bl i =>
  cases rx;cases y with
  | non=>cases ry;exact PySem.EqNone.eq_bool_none (bh I q (by simp))
  | bl j=>cases ry;exact eq_bool (bh I q Ab)
  | str j=>obtain ⟨t',rfl⟩:=ry;exact PySem.EqMixed.eq_bool_str (bh I q (by simp))
  | _=>exact absurd (show false=true from hs) KY
 | int i =>
  obtain ⟨t,rfl⟩:=rx;cases y with
  | non=>cases ry;exact PySem.EqNone.eq_int_none (bh I q (by simp))
  | int j=>obtain ⟨t',rfl⟩:=ry;exact eq_int (bh I q wD)
  | str j=>obtain ⟨t',rfl⟩:=ry;exact PySem.EqMixed.eq_int_str (bh I q (by simp))
  | _=>exact absurd (show false=true from hs) KY
 | str i =>
  obtain ⟨t,rfl⟩:=rx;cases y with
  | non=>cases ry;exact PySem.EqNone.eq_str_none (bh I q (by simp))
  | bl j=>cases ry;exact PySem.EqMixed.eq_str_bool (bh I q (by simp))
  | int j=>obtain ⟨t',rfl⟩:=ry;exact PySem.EqMixed.eq_str_int (bh I q (by simp))
  | str j=>obtain ⟨t',rfl⟩:=ry;exact eq_str (bh I q wF)
  | _=>exact absurd (show false=true from hs) KY
 | byt i =>
  obtain ⟨t,rfl⟩:=rx;cases y with
  | byt j=>obtain ⟨t',rfl⟩:=ry;exact PySem.W.eq_bytes (bh I q wC)
  | _=>exact absurd (show false=true from hs) KY
 | _=>cases y<;>exact absurd (show false=true from hs) KY
theorem HA:iq X (compareOp .NotEq) Kg:=by
 intro pins s σ H x y v u Q I rx ry h;obtain ⟨hs,q⟩:=h;cases x with
 | non =>
  cases rx;cases y with
  | non=>cases ry;exact PySem.EqNone.ne_none_none (bh I q (by simp))
  | bl j=>cases ry;exact PySem.EqNone.ne_none_bool (bh I q (by simp))
  | int j=>obtain ⟨t',rfl⟩:=ry;exact PySem.EqNone.ne_none_int (bh I q (by simp))
  | str j=>obtain ⟨t',rfl⟩:=ry;exact PySem.EqNone.ne_none_str (bh I q (by simp))
  | _=>exact absurd (show false=true from hs) KY
 | bl i =>
  cases rx;cases y with
  | non=>cases ry;exact PySem.EqNone.ne_bool_none (bh I q (by simp))
  | bl j=>cases ry;exact ne_bool (bh I q (congrArg not Ab))
  | str j=>obtain ⟨t',rfl⟩:=ry;exact PySem.EqMixed.ne_bool_str (bh I q (by simp))
  | _=>exact absurd (show false=true from hs) KY
 | int i =>
  obtain ⟨t,rfl⟩:=rx;cases y with
  | non=>cases ry;exact PySem.EqNone.ne_int_none (bh I q (by simp))
  | int j=>obtain ⟨t',rfl⟩:=ry;exact ne_int (bh I q (congrArg not wD))
  | str j=>obtain ⟨t',rfl⟩:=ry;exact PySem.EqMixed.ne_int_str (bh I q (by simp))
  | _=>exact absurd (show false=true from hs) KY
 | str i =>
  obtain ⟨t,rfl⟩:=rx;cases y with
  | non=>cases ry;exact PySem.EqNone.ne_str_none (bh I q (by simp))
  | bl j=>cases ry;exact PySem.EqMixed.ne_str_bool (bh I q (by simp))
  | int j=>obtain ⟨t',rfl⟩:=ry;exact PySem.EqMixed.ne_str_int (bh I q (by simp))
  | str j=>obtain ⟨t',rfl⟩:=ry;exact ne_str (bh I q (congrArg not wF))
  | _=>exact absurd (show false=true from hs) KY
 | byt i =>
  obtain ⟨t,rfl⟩:=rx;cases y with
  | byt j=>obtain ⟨t',rfl⟩:=ry;exact PySem.W.ne_bytes (bh I q (congrArg not wC))
  | _=>exact absurd (show false=true from hs) KY
 | _=>cases y<;>exact absurd (show false=true from hs) KY
theorem Hz:iq X (compareOp .Lt) (Dp λi j=>.bl (decide (i<j))):=C6 λ_ _ _ _ _ _ _ q=>lt_int q
theorem Hy:iq X (compareOp .LtE) (Dp λi j=>.bl (decide (i<=j))):=C6 λ_ _ _ _ _ _ _ q=>le_int q
theorem Hx:iq X (compareOp .Gt) (Dp λi j=>.bl (decide (j<i))):=C6 λ_ _ _ _ _ _ _ q=>gt_int q
theorem Hw:iq X (compareOp .GtE) (Dp λi j=>.bl (decide (j<=i))):=C6 λ_ _ _ _ _ _ _ q=>ge_int q
theorem Ft:iq X (compareOp .Is) (λx y H Q=>y=.non/\Q (.bl (decide (x=.non))) H):=by
 intro pins s σ H x y v u Q I rx ry h;obtain ⟨rfl,q⟩:=h;cases ry;refine is_none_gen (bh I q ?_);cases x<;>first
  | (cases rx;rfl)
  | (obtain ⟨t,rfl⟩:=rx;rfl)
theorem C8:iq X (compareOp .IsNot) (λx y H Q=>y=.non/\Q (.bl (!decide (x=.non))) H):=by
 intro pins s σ H x y v u Q I rx ry h;obtain ⟨rfl,q⟩:=h;cases ry;refine isnot_none_gen (bh I q ?_);cases x<;>first
  | (cases rx;rfl)
  | (obtain ⟨t,rfl⟩:=rx;rfl)
theorem iq.or {f:Kn->Kn->Sem Kn}{r r':R2}(h:iq X f r)(h':iq X f r'):iq X f (λx y H Q=>r x y H Q\/r' x y H Q):=by
 intro pins s σ H x y v u Q I rx ry q;rcases q with q | q
 .exact h pins s σ H x y v u Q I rx ry q
 .exact h' pins s σ H x y v u Q I rx ry q
theorem aA (b:Expr){op:CmpOp}(h:autoParam (op≠.In) aZb._auto_1)(h2:autoParam (op≠.NotIn) aZb._auto_1):behindInMarks op b=false:=by
 have e1:(op == CmpOp.In)=false:=by cases op<;>first | rfl | exact absurd rfl h
 have e2:(op == CmpOp.NotIn)=false:=by cases op<;>first | rfl | exact absurd rfl h2
 cases b<;>simp[behindInMarks,e1,e2]
theorem De {op:CmpOp}{r:R2}(ho:iq X (compareOp op) r)(ha:PE X a ta)(hb:PE X b tb)(hm:behindInMarks op b=false):PE X (.Compare a [op] [b] pos) (FY r ta tb):=by
 intro pins s σ H Q I h;exact wpAny_Compare1 (EB ha hb I h λv u s2 x y H2 I2 rx ry q=>ho pins s2 σ H2 x y v u Q I2 rx ry q) hm
noncomputable def Ii (t:TE):TT:=λσ H Q=>t σ H λx H'=>∃k,x=.bl k/\Q k H'
theorem xD {op:CmpOp}{r:R2}(ho:iq X (compareOp op) r)(ha:PE X a ta)(hb:PE X b tb)(hm:behindInMarks op b=false):PT X (.Compare a [op] [b] pos) (Ii (FY r ta tb)):=by
 intro pins s σ H Q I h;refine wpAny_isTrue_Compare1 (bU (ha pins s σ H _ I h) λv s1 ⟨x,H1,I1,r1,q1⟩=>bU (hb pins s1 σ H1 _ I1 q1) λu s2 ⟨y,H2,I2,r2,q2⟩ =>
  bU (ho pins s2 σ H2 x y v u _ I2 r1 r2 q2) λc s3 ⟨z,H3,I3,r3,k,e,q3⟩=>?_) hm
 subst e;cases r3;exact wpAny_truthy_bool ⟨H3,I3,q3⟩
noncomputable def IS (K:Frag)(x:V)(H:Hp)(k:Bool):Prop:=
 match x with
 | .non=>k=false
 | .bl b=>k=b
 | .int i=>k=(i != 0)
 | .str y=>y.length<=sizeLine/\k=((y.length:Int) != 0)
 | .byt y=>y.size<=sizeLine/\k=((y.size:Int) != 0)
 | .ref p=>(∃xs,dc K H p xs/\k = !xs.isEmpty)\/(∃xs,gM K H p xs/\k = !xs.isEmpty)\/∃kvs,H p=some (.dK kvs)/\k = !kvs.isEmpty
 | _=>False
theorem vp {κ:Type}{kvs:List (κ×V)}{vs:List (κ×Kn)}(r:KV kvs vs):(!vs.isEmpty) = !kvs.isEmpty:=by
 cases r<;>rfl
theorem nM {xs:List V}{its:List Kn}(r:Vals xs its):(!its.toArray.isEmpty) = !xs.isEmpty:=by
 cases r<;>simp
theorem jH:(sizeLine:Nat)<2 ^ 63:=by rw[sizeLine_eq];decide
theorem JP:IQ X (λx H Q=>∃k,IS X.K x H k/\Q k H):=by
 intro pins s σ H x v Q I rx h;obtain ⟨k,e,q⟩:=h;have hl:=jH;have hs:sizeLine=16777216:=sizeLine_eq;cases x with
 | non =>
  cases rx;have e':k=false:=e;subst e';exact truthy_none ⟨H,I,q⟩
 | bl b =>
  cases rx;have e':k=b:=e;subst e';exact wpAny_truthy_bool ⟨H,I,q⟩
 | int i =>
  obtain ⟨t,rfl⟩:=rx;have e':k=(i != 0):=e;subst e';exact PySem.P.truthy_int ⟨H,I,q⟩
 | str y =>
  obtain ⟨t,rfl⟩:=rx;obtain ⟨hy,e'⟩ : y.length<=sizeLine/\k=((y.length:Int) != 0):=e;subst e';exact PySem.P.truthy_str (by lia) ⟨H,I.tok _,q⟩
 | byt y =>
  obtain ⟨t,rfl⟩:=rx;obtain ⟨hy,e'⟩ : y.size<=sizeLine/\k=((y.size:Int) != 0):=e;subst e';exact PySem.W.truthy_bytes (by lia) ⟨H,I.tok _,q⟩
 | ref p =>
  cases rx;have e':(∃xs,dc X.K H p xs/\k = !xs.isEmpty)\/(∃xs,gM X.K H p xs/\k = !xs.isEmpty)\/∃kvs,H p=some (.dK kvs)/\k = !kvs.isEmpty:=e;rcases e' with ⟨xs,hx,e'⟩ | ⟨xs,hx,e'⟩ | ⟨kvs,hx,e'⟩
  .subst e';obtain ⟨its,r,pl,hz⟩:=I.list hx;have hlen:=r.length;exact wpAny_truthy_list pl.isList (by simp only[KN];lia) ⟨H,I.tok _,by rw[nM r];exact q⟩
  .subst e';obtain ⟨its,r,pl,hz⟩:=I.tuple hx;have hlen:=r.length;exact truthy_tuple pl (by simp only[KN];lia) ⟨H,I.tok _,by rw[nM r];exact q⟩
  .subst e';obtain ⟨hz,hS,vs,r,m⟩ : kvs.length<=sizeLine/\(p == sysModules)=false/\∃vs,KV kvs vs/\s.heap.DictOf (bC X.prog X.w) p vs:=I.bG p _ hx;have hlen:kvs.length=vs.length:=Paired.length r;exact wpAny_truthy_dict hS m (by lia) ⟨H,I.tok _,by rw[vp r];exact q⟩
 | _=>exact (show False from e).elim
theorem vE:iq X (binaryOp .Add) (λx y H Q=>∃i j,x=.str i/\y=.str j/\i.length+j.length<=sizeLine/\Q (.str (i++j)) H):=by
 intro pins s σ H x y v u Q I rx ry h;obtain ⟨i,j,rfl,rfl,hz,q⟩:=h;obtain ⟨t,rfl⟩:=rx;obtain ⟨t',rfl⟩:=ry;exact add_str (λt' tk=>⟨.str (i++j),H,I.tok _,⟨_,rfl⟩,q⟩) hz
theorem vals1 {x:V}{us:List Kn}(r:Vals [x] us):∃u,us = [u]/\RelV x u:=by
 cases r with
 | cons r1 r2=>cases r2;exact ⟨_,rfl,r1⟩
theorem vals2 {x y:V}{us:List Kn}(r:Vals [x,y] us):∃u w',us = [u,w']/\RelV x u/\RelV y w':=by
 cases r with
 | cons r1 r2 =>
  cases r2 with
  | cons r3 r4=>cases r4;exact ⟨_,_,rfl,r1,r3⟩
theorem x6 (hc:X.calm=true):fe X (.builtin "max") (λxs H Q=>∃i j,xs = [.int i,.int j]/\Q (.int (if j>i then j else i)) H):=by
 intro pins s σ H xs us Q I r h;obtain ⟨i,j,rfl,q⟩:=h;obtain ⟨u,w',rfl,⟨t,rfl⟩,⟨t',rfl⟩⟩:=vals2 r;refine max_two_ints (I.ok.hd hc) λh' tk k=>⟨_,H,I.kept k,?_,q⟩
 by_cases hj:j>i
 .rw[if_pos hj,if_pos hj];exact ⟨_,rfl⟩
 .rw[if_neg hj,if_neg hj];exact ⟨_,rfl⟩
theorem x9 (hc:X.calm=true):fe X (.builtin "min") (λxs H Q=>∃i j,xs = [.int i,.int j]/\Q (.int (if j<i then j else i)) H):=by
 intro pins s σ H xs us Q I r h;obtain ⟨i,j,rfl,q⟩:=h;obtain ⟨u,w',rfl,⟨t,rfl⟩,⟨t',rfl⟩⟩:=vals2 r;refine min_two_ints (I.ok.hd hc) λh' tk k=>⟨_,H,I.kept k,?_,q⟩
 by_cases hj:j<i
 .rw[if_pos hj,if_pos hj];exact ⟨_,rfl⟩
 .rw[if_neg hj,if_neg hj];exact ⟨_,rfl⟩
noncomputable def Gy (K:Frag)(x:V)(H:Hp)(n:Nat):Prop:=
 match x with
 | .str y=>y.length<=sizeLine/\n=y.length
 | .byt y=>y.size<=sizeLine/\n=y.size
 | .ref p=>(∃xs,dc K H p xs/\n=xs.length)\/∃xs,gM K H p xs/\n=xs.length
 | _=>False
theorem zC:fe X (.builtin "len") (λxs H Q=>∃x n,xs = [x]/\Gy X.K x H n/\Q (.int n) H):=by
 intro pins s σ H xs us Q I r h;obtain ⟨x,n,rfl,e,q⟩:=h;obtain ⟨u,rfl,rx⟩:=vals1 r;have hl:=jH;have hs:sizeLine=16777216:=sizeLine_eq;cases x with
 | str y =>
  obtain ⟨t,rfl⟩:=rx;obtain ⟨hy,e'⟩ : y.length<=sizeLine/\n=y.length:=e;subst e';exact len_str (by lia) ⟨.int _,H,I.tok _,⟨_,rfl⟩,q⟩
 | byt y =>
  obtain ⟨t,rfl⟩:=rx;obtain ⟨hy,e'⟩ : y.size<=sizeLine/\n=y.size:=e;subst e';exact PySem.W.len_bytes (by lia) ⟨.int _,H,I.tok _,⟨_,rfl⟩,q⟩
 | ref p =>
  cases rx;have e':(∃xs,dc X.K H p xs/\n=xs.length)\/∃xs,gM X.K H p xs/\n=xs.length:=e;rcases e' with ⟨xs,hx,e'⟩ | ⟨xs,hx,e'⟩
  .subst e';obtain ⟨its,r',pl,hz⟩:=I.list hx;have hlen:=r'.length;exact Calls.call_len_list pl.isList (by simp only[KN];lia) ⟨.int xs.length,H,I.tok _,⟨_,by simp only[KN];rw[hlen]⟩,q⟩
  .subst e';obtain ⟨its,r',pl,hz⟩:=I.tuple hx;have hlen:=r'.length;exact len_tuple pl (by simp only[KN];lia) ⟨.int xs.length,H,I.tok _,⟨_,by simp only[KN];rw[hlen]⟩,q⟩
 | _=>exact (show False from e).elim
end
end L2
namespace L2
open PySem PySem.Spec PyProof.Rows
structure Ew (h:Heap)(x dx C:Addr)(mA:Str->Option Kn):Prop where
 obj:h.get? x=some (instObj C dx)
 ns:h.Ns1 dx mA
 ne:dx≠x
theorem yA {h:Heap}{dx:Addr}{mA:Str->Option Kn}(n:h.Ns1 dx mA):∃od,h.get? dx=some od/\∀name,lookIn name od=some (mA name):=by
 obtain ⟨o,es,ep,ho,hd,hk,_,hm⟩:=n;refine ⟨o,ho,λname=>?_⟩;have e:=hm name;unfold nsFind findBy at e;rw[<-Array.find?_toList] at e;unfold lookIn;rw[hd];dsimp only;split
 .rename_i y q;rw[q] at e;exact congrArg some e
 .rename_i q;rw[q] at e;have a:es.toList.any (·.refKey)=false:=by
   rw[List.any_eq_false];intro y hy;obtain ⟨z,t,hkey⟩:=hk y (Array.mem_toList_iff.mp hy);simp[DictEntry.refKey,hkey]
  have a':¬es.toList.any (·.refKey)=true:=by rw[a];exact KY
  rw[if_neg a'];exact congrArg some e
theorem Ew.look {h:Heap}{x dx C:Addr}{mA:Str->Option Kn}(I:Ew h x dx C mA):∃od,PySem.W.InstAt h x (instObj C dx) C (some od)/\∀name,lookIn name od=some (mA name):=
 let ⟨od,ho,hl⟩:=yA I.ns
 ⟨od,⟨I.obj,rfl,rfl,ho⟩,hl⟩
section
variable {prog:KP} {w:K7} {A:K1} {E:Kn->Kp->Prop} {s:Kp} {K:Frag} {x dx C f:Addr} {mA:Str->Option Kn} {name:Str} {v:Kn}
end
theorem m9.some_of {v:V}{o:Option Kn}(r:m9 (some v) o):∃u,o=some u/\RelV v u:=by
 cases o with
 | none=>exact (show False from r).elim
 | some u=>exact ⟨u,rfl,r⟩
section
variable {P:KP} {w:K7} {H H':Hp} {h h':Heap} {a C dx:Addr} {fs fs':List (Str×V)}
theorem gW (bG:jr P w H h)(e:H a=some (.ins C dx fs)):∃mA,Ew h a dx C mA/\(∀f,m9 (fs.lookup f) (mA f))/\PySem.Within mA (fs.map (·.1))/\fs.length<=1000/\H dx=some (.own a):=by
 obtain ⟨d,z,ne,ob,mA,n,r,q⟩:=(show cw P w H h a (.ins C dx fs) from bG a _ e)
 exact ⟨mA,⟨ob,n,ne⟩,r,q,z,d⟩
end
structure IG (K:Frag)(C:Addr):Prop where
 pg:plainGet K C Str.empty=true
 hd:PySem.W.hasDictIn K C=true
 po:PySem.W.plainOver K C=true
 sa:findIn K (.ref C) "__setattr__" = some (some (.builtin "object.__setattr__"))
theorem IG.get {K:Frag}{C:Addr}(c:IG K C)(f:Str):plainGet K C f=true:=c.pg
structure Km (K:Frag)(C:Addr)(f:Str)(v:V)(u:Kn):Prop where
 at_:findIn K (.ref C) f=some (some u)
 rel:RelV v u
 get:specialIn K u "__get__" = some none
 cp:PySem.W.copiedNames.contains f=false
structure Meth (K:Frag)(C:Addr)(m:Str)(f:Addr):Prop where
 at_:findIn K (.ref C) m=some (some (.ref f))
 fn:isFn K (.ref f)=true
 kp:keepIn K (.ref f)=true
section
variable {X:Cx} {pins:List (Addr×Obj)} {σ:St} {H:Hp} {s:Kp} {a C dx:Addr} {fs:List (Str×V)} {f:Str} {v:V} {A:K1} {E:Kn->Kp->Prop}
end
section
variable {X:Cx} {o e value:Expr} {f:Str} {pos pos' tpos:Pos} {ta tv:TE}
end
section
variable {X:Cx} {pins:List (Addr×Obj)} {σ:St} {H:Hp} {s:Kp} {A:K1} {E:Kn->Kp->Prop} {Q:Kn->Kp->Prop} {c:Kn} {b:Bool}
inductive mh (K:Frag)(H:Hp):V->Kn->Prop where
 | non:mh K H .non (.type "NoneType")
 | bl (x:Bool):mh K H (.bl x) (.type "bool")
 | int (i:Int):mh K H (.int i) (.type "int")
 | str (x:Str):mh K H (.str x) (.type "str")
 | flt (x:UInt64):mh K H (.flt x) (.type "float")
 | lst {a:Addr} {xs:List V} (e:H a=some (.lst xs)):mh K H (.ref a) (.type "list")
 | de {a:Addr} {o:Obj} {xs:List V} (e:H a=some (.de o (.lst xs))):mh K H (.ref a) (.type "list")
 | tup {a:Addr} {xs:List V} (e:H a=some (.tup xs)):mh K H (.ref a) (.type "tuple")
 | dK {a:Addr} {kvs:List (Key×V)} (e:H a=some (.dK kvs)):mh K H (.ref a) (.type "dict")
 | dT {a:Addr} {kvs:List (List Key×V)} (e:H a=some (.dT kvs)):mh K H (.ref a) (.type "dict")
 | ins {a C dx:Addr} {fs:List (Str×V)} (e:H a=some (.ins C dx fs)) (cl:IG K C) (ha:findIn K (.ref C) "__class__" = some (some (.builtin "object.__class__")))
   (hn:specialIn K (.builtin "object.__class__") "__get__" = some (some (.builtin "getset_descriptor.__get__"))) (htk:PySem.W.takesIn K (.builtin "object.__class__")=some true)
   (hm:PySem.W.mroIn K C (.type "object")=some true):mh K H (.ref a) (.ref C)
theorem jb {x:V}{u t:Kn}(I:Inv X pins σ H s)(rx:RelV x u)(ty:mh X.K H x t)(e:kitOne X.K t c=some b)(h:∀tk,Q (.bool b) { s with toks:=tk }) :
  wpAny (model X.prog X.w) A (call (.builtin "isinstance") [u,c]) Q E s:=by
 cases ty with
 | non=>cases (show u=Value.none from rx);exact kia_one PySem.W.kitx_none I.oO True.intro e (λz=>nomatch z) h
 | bl y=>cases (show u=Value.bool y from rx);exact kia_one PySem.W.kitx_bool I.oO True.intro e (λz=>nomatch z) h
 | int i=>obtain ⟨t,q⟩:=(show ∃t,u=Value.int i t from rx);cases q;exact kia_one PySem.W.kitx_int I.oO True.intro e (λz=>nomatch z) h
 | str y=>obtain ⟨t,q⟩:=(show ∃t,u=Value.str y t from rx);cases q;exact kia_one PySem.W.kitx_str I.oO True.intro e (λz=>nomatch z) h
 | flt y=>obtain ⟨t,q⟩:=(show ∃t,u=Value.float y t from rx);cases q;exact kia_one PySem.W.kitx_float I.oO True.intro e (λz=>nomatch z) h
 | @lst a xs ea =>
  cases (show u=Value.ref a from rx);obtain ⟨_,_,n,_,h1⟩:=(show cw X.prog X.w H s.heap a (.lst xs) from I.bG a _ ea)
  exact kia_one kitx_list I.oO ⟨_,h1,rfl⟩ e (λz=>nomatch z) h
 | @de a ob xs ea =>
  cases (show u=Value.ref a from rx);obtain ⟨_,_,_,n,_,h1⟩:=(show cw X.prog X.w H s.heap a (.de ob (.lst xs)) from I.bG a _ ea)
  exact kia_one kitx_list I.oO ⟨_,h1,rfl⟩ e (λz=>nomatch z) h
 | @tup a xs ea =>
  cases (show u=Value.ref a from rx);obtain ⟨_,_,_,p⟩:=(show cw X.prog X.w H s.heap a (.tup xs) from I.bG a _ ea)
  obtain ⟨o,h1,h2,_⟩:=p;exact kia_one kitx_tuple I.oO ⟨o,h1,h2⟩ e (λz=>nomatch z) h
 | @dK a kvs ea =>
  cases (show u=Value.ref a from rx);obtain ⟨_,_,vs,_,p⟩:=(show cw X.prog X.w H s.heap a (.dK kvs) from I.bG a _ ea)
  obtain ⟨o,es,ep,h1,h2,_⟩:=p;exact kia_one kitx_dict I.oO ⟨o,h1,h2.1⟩ e (λz=>nomatch z) h
 | @dT a kvs ea =>
  cases (show u=Value.ref a from rx);obtain ⟨_,_,xs,_,o,es,ep,h1,h2,_⟩:=(show cw X.prog X.w H s.heap a (.dT kvs) from I.bG a _ ea)
  exact kia_one kitx_dict I.oO ⟨o,h1,h2.1⟩ e (λz=>nomatch z) h
 | @ins a C dx fs ea cl ha hn htk hm =>
  cases (show u=Value.ref a from rx);obtain ⟨mA,O,_⟩:=gW I.bG ea;obtain ⟨od,J,_⟩:=O.look;exact kia_one (PySem.W.kitx_own (cl.get _) cl.hd ha hn htk hm) I.oO J e (λz=>nomatch z) h
end
end L2
namespace L2
open PySem PySem.Spec PyProof.Rows
structure cH (k:Nat)(A:K1):Prop where
 hd:A.handled=none
 dp:A.depth+3*k+5<recursionLimit
 un:A.units+16*k+200<cLine
 gs:A.guards=some []
theorem cH.mono {j k:Nat}{A:K1}(r:cH k A)(h:j<=k):cH j A:=⟨r.hd,by have:=r.dp;lia,by have:=r.un;lia,r.gs⟩
theorem cH.deeper {k:Nat}{A:K1}(r:cH (k+1) A)(env:Env):cH k (A.deeper env):=
 ⟨r.hd,by have:=r.dp;show A.depth+1+3*k+5<_;lia,by have:=r.un;show A.units+3+16*k+200<_;lia,r.gs⟩
theorem cH.depth {k:Nat}{A:K1}(r:cH k A):A.depth<recursionLimit:=by have:=r.dp;lia
theorem cH.units {k:Nat}{A:K1}(r:cH k A):A.units+64<cLine:=by have:=r.un;lia
noncomputable def Ig:TA:=λ_ H Q=>Q [] H
noncomputable def El (ta:TE)(tr:TA):TA:=λσ H Q=>ta σ H λx H1=>tr σ H1 λxs H2=>Q (x::xs) H2
section
variable {X:Cx} {e:Expr} {es:List Expr} {te:TE} {t:TA} {pos:Pos}
theorem g8:PA X [] Ig:=λ_ _ _ _ H Q I h=>Calls.spliced_nil ⟨[],H,I,.nil,h⟩
theorem eQ (ha:PE X e te)(hr:PA X es t)(hs:autoParam (starEach (e::es) X.env=(false,eval e X.env)::starEach es X.env) aZa._auto_1):PA X (e::es) (El te t):=by
 intro pos pins s σ H Q I h;rw[hs];show wpAny _ _ (spliced ((false,eval e X.env)::backTo pos (starEach es X.env))) _ _ s;refine Calls.spliced_cons (bU (ha pins s σ H _ I h) ?_);rintro u s1 ⟨x,H1,I1,r1,q1⟩;exact bU (hr pos pins s1 σ H1 _ I1 q1) (by rintro us s2 ⟨xs,H2,I2,r2,q2⟩;exact ⟨x::xs,H2,I2,.cons r1 r2,q2⟩)
noncomputable def JO (t:TA):TE:=λσ H Q=>t σ H λxs H1=>xs.length<=sizeLine/\∀p,H1 p=none->Q (.ref p) (upd H1 p (.tup xs))
noncomputable def JI (t:TA):TE:=λσ H Q=>t σ H λxs H1=>xs.length<=sizeLine/\∀p,H1 p=none->Q (.ref p) (upd H1 p (.lst xs))
theorem A7 {x1}(h:PA X es t):PE X (.Tuple es x1 pos) (JO t):=by
 intro pins s σ H Q I hq;refine wpAny_Tuple_spliced (bU (h pos pins s σ H _ I hq) λus s1 ⟨xs,H1,I1,r,z,q⟩=>⟨by rw[<-r.length];exact z,?_⟩);have hf:H1 s1.heap.objs.size=none:=I1.bG.fresh (Ku _);refine ⟨.ref s1.heap.objs.size,upd H1 s1.heap.objs.size (.tup xs),I1.laid (t':=s1.toks) (λb u e=>Kv _ e) (Ku _) ?_,rfl,q _ hf⟩;exact ⟨z,us,r,⟨_,KZ _ rfl,rfl,_,rfl⟩⟩
theorem A4 (h:PA X es t):PE X (.List es pos) (JI t):=by
 intro pins s σ H Q I hq;refine wpAny_List_spliced (bU (h pos pins s σ H _ I hq) λus s1 ⟨xs,H1,I1,r,z,q⟩=>⟨by rw[<-r.length];exact z,?_⟩);have hf:H1 s1.heap.objs.size=none:=I1.bG.fresh (Ku _);refine ⟨.ref s1.heap.objs.size,upd H1 s1.heap.objs.size (.lst xs),I1.laid (t':=s1.toks) (λb u e=>Kv _ e) (Ku _) ?_,rfl,q _ hf⟩;exact ⟨z,us,0,r,KZ _ rfl⟩
end
noncomputable abbrev Sp:=List V->Hp->VK->XK->Prop
noncomputable abbrev BJ:=List Env->Hp->Kp->XK->Kn->Kp->Prop
structure BL (P:KP)(w:K7)(K:Frag)(mg:Str->Option Kn)(base:Heap)(A:K1)(outer:List Env)(s:Kp)(H:Hp):Prop where
 frames:A.frames=some outer
 mod:Mod K mg base
 bs:∀b o,base.get? b=some o->s.heap.get? b=some o/\H b=none
 DP:base.objs.size<=s.heap.objs.size
 nF:s.heap.FunFrames base outer
 Gq:∀b∈zm outer,H b=none
 bG:jr P w H s.heap
 bare:AllBare s.gens
noncomputable def CE (outer:List Env)(P:KP)(w:K7)(H:Hp)(s:Kp)(Q:VK)(u:Kn)(s':Kp):Prop:=
 ∃v H',s'.os=s.os/\AllBare s'.gens/\Un (zm outer) [] H H' s.heap s'.heap/\jr P w H' s'.heap/\RelV v u/\Q v H'
noncomputable def CR (CX:BJ)(outer:List Env)(P:KP)(w:K7)(H:Hp)(s:Kp)(Q:VK)(E:XK)(r:Result)(s':Kp):Prop:=
 match r with
 | .ok (.ret u)=>CE outer P w H s Q u s'
 | .ok _=>False
 | .error e=>CX outer H s E e s'
structure cL (P:KP)(w:K7)(K:Frag)(mg:Str->Option Kn)(base:Heap)(CX:BJ)(k:Nat)(f:Addr)(fd:FuncData)(ps:List Str)(sp:Sp):Prop where
 len:∀vs H Q E,sp vs H Q E->vs.length=ps.length
 run:∀(A:K1) (outer:List Env) (s:Kp) (H:Hp) (args:Args) (us:List Kn) (vs:List V) (Q:VK) (E:XK),cH k A->BL P w K mg base A outer s H->BindsTo s fd args (ps.zip us)->Vals vs us->sp vs H Q E ->
  codeAny (model P w) A (.call (.ref f) args) (CR CX outer P w H s Q E) s
theorem cL.imp {P:KP}{w:K7}{K:Frag}{mg:Str->Option Kn}{base:Heap}{CX:BJ}{k:Nat}{f:Addr}{fd:FuncData}{ps:List Str}{sp sp':Sp}(F:cL P w K mg base CX k f fd ps sp)
  (h:∀vs H Q E,sp' vs H Q E->sp vs H Q E):cL P w K mg base CX k f fd ps sp':=
 ⟨λvs H Q E q=>F.len vs H Q E (h _ _ _ _ q),λA outer s H args us vs Q E hr he hb hv hs=>F.run A outer s H args us vs Q E hr he hb hv (h _ _ _ _ hs)⟩
section
variable {X:Cx} {pins:List (Addr×Obj)} {σ:St} {H:Hp} {s s':Kp}
theorem Inv.IY (I:Inv X pins σ H s):BL X.prog X.w X.K X.mg X.base X.A X.stack s H:=
 ⟨I.ok.frames,I.ok.mod,I.bs,Nat.le_trans I.ok.DP I.sz,I.stack,I.xP,I.bG,I.bare⟩
theorem Inv.after {Q:VK}{u:Kn}(I:Inv X pins σ H s)(h:CE X.stack X.prog X.w H s Q u s'):EP X pins σ Q u s':=by
 obtain ⟨v,H',os,bare,un,bG,r,q⟩:=h;obtain ⟨hh,g,d,t,os'⟩:=s';obtain rfl:os'=s.os:=os;exact ⟨v,H',I.call (h':=hh) (g':=g) (d':=d) (t':=t) (ch:=[]) un bG bare (λb z=>absurd z (by simp)),r,q⟩
end
noncomputable def Ek (sp:Sp)(dvs:List V)(E:XK)(t:TA):TE:=λσ H Q=>t σ H λvs H1=>sp (vs++dvs) H1 Q E
noncomputable def Binds (K:Frag)(fd:FuncData)(ps:List Str)(ds:List Kn):Prop:=
 ∀(s:Kp) (us:List Kn),K.In s.heap->(us++ds).length=ps.length->BindsTo s fd ⟨us,[]⟩ (ps.zip (us++ds))
theorem Binds.all {K:Frag}{fd:FuncData}{ps:List Str}(h:∀us:List Kn,us.length=ps.length->bindArgs fd ⟨us,[]⟩=pure (ps.zip us)):Binds K fd ps []:=λs us _ hl=>by
 rw[append_nil] at hl ⊢;exact .of_eq (h us hl)
noncomputable def Passes (CX:BJ)(X:Cx)(E:XK):Prop:=∀(pins:List (Addr×Obj)) (σ:St) (H:Hp) (s:Kp) (e:Kn) (s':Kp),Inv X pins σ H s->CX X.stack H s E e s'->X.xe e s'
section
variable {X:Cx} {CX:BJ} {k:Nat} {f C:Addr} {fd:FuncData} {ps:List Str} {sp:Sp} {dvs:List V} {ds:List Kn} {E:XK} {x m:Str} {p pos apos:Pos} {e o:Expr} {es:List Expr} {ta:TE} {t:TA}
theorem FP {pins:List (Addr×Obj)}{σ:St}{H:Hp}{s:Kp}{Q:VK}{us:List Kn}{vs:List V}(F:cL X.prog X.w X.K X.mg X.base CX k f fd ps sp)(hr:cH k X.A)(hb:Binds X.K fd ps ds)(hd:Vals dvs ds)(hx:Passes CX X E)
  (I:Inv X pins σ H s) (r:Vals vs us) (h:sp (vs++dvs) H Q E):wpAny (model X.prog X.w) X.A (call (.ref f) us) (EP X pins σ Q) X.xe s:=by
 have r2:Vals (vs++dvs) (us++ds):=r.append hd;have hl:(us++ds).length=ps.length:=by rw[<-r2.length];exact F.len _ _ _ _ h
 refine wpAny_call (codeAny_mono (F.run X.A X.stack s H ⟨us,[]⟩ (us++ds) (vs++dvs) Q E hr I.IY (hb s us I.oO hl) r2 h) λr s' hq=>?_);cases r with
 | error e=>exact hx pins σ H s e s' I hq
 | ok fl =>
  cases fl with
  | ret u=>exact I.after hq
  | next=>exact False.elim hq
  | brk=>exact False.elim hq
  | cont=>exact False.elim hq
theorem Dd (F:cL X.prog X.w X.K X.mg X.base CX k f fd ps sp)(hr:cH k X.A)(hg:Gl X x)(hm:X.mg x=some (.ref f))(hk:keepIn X.K (.ref f)=true)(hb:Binds X.K fd ps ds)(hd:Vals dvs ds)(hx:Passes CX X E)
  (ha:PA X (e::es) t) (hdb:autoParam ((x == ("__debug__" : Str))=false) aZb._auto_1) (he:autoParam (starEach (e::es) X.env=(false,eval e X.env)::starEach es X.env) aZa._auto_1) (hpl:autoParam ((backTo pos (starEach es X.env)).any (·.1)=false) aZa._auto_1) :
  PE X (.Call (.Name x p) (e::es) [] pos) (Ek sp dvs E t):=by
 intro pins s σ H Q I h;refine wpAny_Call_Name_kw (xh I hg hm ?_ hdb);refine PySem.W.callWith_K (h₀:=X.base) I.ok.mod.Hm hk (bU (ha pos pins s σ H _ I h) λus s1 ⟨vs,H1,I1,r,q⟩=>⟨I1.oO,?_⟩) he hpl;exact FP F hr hb hd hx I1 r q
structure Mk (K:Frag)(C f:Addr):Prop where
 makes:PySem.W.makesIn K C=true
 init:findIn K (.ref C) "__init__" = some (some (.ref f))
 fn:isFn K (.ref f)=true
 kp:keepIn K (.ref C)=true
end
section
variable {X:Cx} {CX:BJ} {k:Nat} {f C:Addr} {fd:FuncData} {ps ks:List Str} {sp:Sp} {E:XK} {x m:Str} {p pos apos kpos:Pos} {e o:Expr} {es:List Expr} {kws:List Keyword} {te ta:TE} {t tk:TA} {nm:Option Str}
structure IK (K:Frag)(fd:FuncData)(ps ks:List Str)(g:List Kn->List Kn->List Kn)(gV:List V->List V->List V):Prop where
 to:∀(s:Kp) (us ws:List Kn),K.In s.heap->(g us ws).length=ps.length->BindsTo s fd ⟨us,ks.zip ws⟩ (ps.zip (g us ws))
 rel:∀{vs:List V} {us:List Kn} {zs:List V} {ws:List Kn},Vals vs us->Vals zs ws->Vals (gV vs zs) (g us ws)
variable {g:List Kn->List Kn->List Kn} {gV:List V->List V->List V}
end
structure bj (N P:List Str)(sc:Scope):Prop where
 kind:sc.kind=.function
 co:sc.isCoroutine=false
 gen:sc.isGenerator=false
 nd:N.Nodup
 pre:N.take P.length=P
 par:∀x∈P,sc.names.lookup x=some .local\/sc.names.lookup x=some .cell
 Fl:∀y∈sc.names,y.2≠.free
theorem pk {kindOf:Str->Option NameKind}{x:Str}:∀{binds:List (Str×Kn)} {m:Str->Option Kn},(∀v,(x,v)∉binds)->bindL kindOf binds m x=m x
  | [],_,_=>rfl
  | (n,v)::r,m,h=>by
    unfold bindL;rw[pk λw hw=>h w (K8 _ hw)];split
    · have : x ≠ n := by rintro rfl;exact h v mem_cons_self
      simp[this]
    · rfl
theorem o9 {kindOf:Str->Option NameKind}{x:Str}:∀{binds:List (Str×Kn)} {m:Str->Option Kn},(∀v,(x,v)∉binds)->bindC kindOf binds m x=m x
  | [],_,_=>rfl
  | (n,v)::r,m,h=>by
    unfold bindC;rw[o9 λw hw=>h w (K8 _ hw)];split
    · rfl
    · have : x ≠ n := by rintro rfl;exact h v mem_cons_self
      simp[this]
theorem pd {kindOf:Str->Option NameKind}{x:Str}{v:Kn}:∀{P:List Str} {vs:List Kn} {i:Nat} {m:Str->Option Kn},P.Nodup->P[i]?=some x->vs[i]?=some v->kindOf x=some .local ->
  bindL kindOf (P.zip vs) m x=some v
 | [],_,_,_,_,h,_,_=>by simp at h
 | _::_,[],_,_,_,_,h,_=>by simp at h
 | p::P,w::vs,0,m,nd,h1,h2,hk=>by
  simp at h1 h2;subst h1;subst h2;show bindL kindOf ((p,w)::P.zip vs) m p=_;unfold bindL;rw[pk λv hv=>(nodup_cons.mp nd).1 (List.of_mem_zip hv).1,if_pos hk];simp
 | p::P,w::vs,i+1,m,nd,h1,h2,hk=>by
  show bindL kindOf ((p,w)::P.zip vs) m x=_;unfold bindL;exact pd (i:=i) (nodup_cons.mp nd).2 (by simpa using h1) (by simpa using h2) hk
theorem o8 {kindOf:Str->Option NameKind}{x:Str}{v:Kn}:∀{P:List Str} {vs:List Kn} {i:Nat} {m:Str->Option Kn},P.Nodup->P[i]?=some x->vs[i]?=some v->kindOf x≠some .local ->
  bindC kindOf (P.zip vs) m x=some v
 | [],_,_,_,_,h,_,_=>by simp at h
 | _::_,[],_,_,_,_,h,_=>by simp at h
 | p::P,w::vs,0,m,nd,h1,h2,hk=>by
  simp at h1 h2;subst h1;subst h2;show bindC kindOf ((p,w)::P.zip vs) m p=_;unfold bindC;rw[o9 λv hv=>(nodup_cons.mp nd).1 (List.of_mem_zip hv).1,if_neg hk];simp
 | p::P,w::vs,i+1,m,nd,h1,h2,hk=>by
  show bindC kindOf ((p,w)::P.zip vs) m x=_;unfold bindC;exact o8 (i:=i) (nodup_cons.mp nd).2 (by simpa using h1) (by simpa using h2) hk
noncomputable def start (N:List Str)(vs:List V):St:=vs.map some++Le (N.length - vs.length) none
noncomputable def qA (CX:BJ)(P:KP)(w:K7)(K:Frag)(mg:Str->Option Kn)(base:Heap)(N:List Str)(qual:Str)(scope:Scope)(f:Addr)(cd:Kn)(A:K1)(outer:List Env)(s:Kp)(H:Hp)(E:XK):Cx where
 prog:=P
 w:=w
 K:=K
 mg:=mg
 base:=base
 A:=A.deeper (envOfC qual scope s.heap.objs.size f cd)
 N:=N
 s₀:=s
 H₀:=H
 env:=envOfC qual scope s.heap.objs.size f cd
 outer:=outer
 stack:=envOfC qual scope s.heap.objs.size f cd::outer
 ex:=[]
 calm:=true
 fn:=λ_=>true
 pn:=[]
 xe:=λe s'=>wpAny (model P w) (A.deeper (envOfC qual scope s.heap.objs.size f cd)) (leaving (envOfC qual scope s.heap.objs.size f cd) e) (λ_ s''=>CX outer H s E e s'') (λe' s''=>CX outer H s E e' s'') s'
theorem si {sc:Scope}{n:Nat}{x:Str}(h:sc.names.lookup x=some .cell):∃c,(cellsFrom n sc.names []).lookup x=some c:=by
 have q:=cellsFrom_some sc.names n [] (.inl h);exact Option.isSome_iff_exists.mp q
theorem yq {CX:BJ}{P:KP}{w:K7}{K:Frag}{mg:Str->Option Kn}{base:Heap}{N ps:List Str}{qual:Str}{scope:Scope}{f:Addr}{cd:Kn}{A:K1}{outer:List Env}{s s1:Kp}{H:Hp}{E:XK}{us:List Kn}{vs:List V}
    (S:bj N ps scope) (hd:A.handled=none) (e0:BL P w K mg base A outer s H) (hl:vs.length=ps.length) (r:Vals vs us)
    (x:InCallC s s.heap.objs.size (bindL (envOfC qual scope s.heap.objs.size f cd).kindOf (ps.zip us) λ_=>none) (cellsFrom (s.heap.objs.size+1) scope.names []) (bindC (envOfC qual scope s.heap.objs.size f cd).kindOf (ps.zip us) λ_=>none) s1) :
    Inv (qA CX P w K mg base N qual scope f cd A outer s H E) [] (start N vs) H s1:=by
  have hpl:ps.length<=N.length:=by have:=congrArg List.length S.pre;rw[KO] at this;lia
  obtain ⟨h1,tk,rfl,hk⟩:=x.done;have D8:∀b:Addr,b∉(qA CX P w K mg base N qual scope f cd A outer s H E).ex:=λb z=>absurd (show b∈([]:List Addr) from z) (by simp);refine ⟨⟨e0.mod,S.kind,rfl,rfl,Ku _,λy z c h1 h2=>?_,λy hy=>?_,λy c _ h=>?_,λ_=>hd,Around.frames_deeper e0.frames,.inr ⟨rfl,rfl⟩,λb z=>absurd z (D8 b),e0.bs,e0.DP,λb _ _=>D8 b,λb z=>absurd z (D8 b),e0.nF,e0.Gq⟩,
    rfl,e0.bare,Un.kept hk,⟨_,x.toInCall.ns,λi y v h1 h2 h3=>?_⟩,λy c h=>⟨_,x.cell y c h⟩,e0.bG.fresh (Ku _),λy c h=>?_,λp hp=>absurd (show p∈([]:List (Addr×Obj)) from hp) (by simp),e0.bG.kept hk,?_⟩
  · exact name_of_addr x.apart (PySem.mem_of_lookup h1) (PySem.mem_of_lookup h2)
  · have hy:scope.names.lookup y=some .cell\/scope.names.lookup y=some .free:=hy;rcases hy with hy | hy
    · exact si hy
    · exact absurd rfl (S.Fl _ (PySem.mem_of_lookup hy))
  · exact Nat.le_of_lt (x.above y c (PySem.mem_of_lookup h))
  · have hi:i<vs.length:=by
      unfold start at h2;by_cases hi:i<vs.length
      · exact hi
      · rw [List.getElem?_append_right (by simpa using hi)] at h2;rw[List.getElem?_replicate] at h2;split at h2<;>cases h2
    have ha:vs[i]?=some v:=by
      unfold start at h2;rw[List.getElem?_append_left (by simpa using hi),KS] at h2;cases e:vs[i]? with
      | none=>rw[e] at h2;cases h2
      | some a=>rw[e] at h2;cases h2;rfl
    obtain ⟨u,hu,rv⟩:=r.get ha;have hp:ps[i]?=some y:=by
      rw[<-S.pre,List.getElem?_take_of_lt (by lia)];exact h1
    have ndP:ps.Nodup:=by rw[<-S.pre];exact S.nd.sublist (List.take_sublist _ _)
    refine ⟨u,rv,?_⟩;rcases S.par y (KC hp) with k | k
    · exact .inl ⟨k,pd ndP hp hu k⟩
    · obtain ⟨c,e⟩:=si (n:=s.heap.objs.size+1) k;refine .inr ⟨.inl k,c,e,?_⟩;have q:=x.cell y c e;rw[o8 ndP hp hu (by show scope.names.lookup y≠_;rw[k];decide)] at q;exact q
  · exact e0.bG.fresh (Nat.le_of_lt (x.above y c (PySem.mem_of_lookup h)))
  · unfold start;show _=N.length;rw[KA,Ks,List.length_replicate];lia
theorem D3 {CX:BJ}{P:KP}{w:K7}{K:Frag}{mg:Str->Option Kn}{base:Heap}{k:Nat}{f:Addr}{name qual:Str}{params:Arguments}{body:List Stmt}{scope:Scope}{dV kV doc pm cdv ct oc:Kn}{an od:Option Addr}
  {osl:Array (Option Kn)} {N ps:List Str} {sp:Sp} (lk:K.lookup f=some ⟨oc,od,.func (fnOf name qual params body scope dV kV doc pm an cdv ct),osl⟩) (hcd:codeIn K cdv qual=true) (S:bj N ps scope)
  (len:∀vs H Q E,sp vs H Q E->vs.length=ps.length)
  (hbody:∀(A:K1) (outer:List Env) (s:Kp) (H:Hp) (vs:List V) (Q:VK) (E:XK),cH k (A.deeper (envOfC qual scope s.heap.objs.size f cdv))->sp vs H Q E ->
   ∃t,m8 (qA CX P w K mg base N qual scope f cdv A outer s H E) body t/\t { nx:=λ_ H'=>Q .non H',rt:=Q } (start N vs) H) :
  cL P w K mg base CX (k+1) f (fnOf name qual params body scope dV kV doc pm an cdv ct) ps sp:=by
 refine ⟨len,λA outer s H args us vs Q E hr e0 hb r hsp=>?_⟩;have hl:=len _ _ _ _ hsp;have KX:K.In s.heap:=e0.mod.Hm.keeps λb o e=>(e0.bs b o e).1;have lim:s.heap.NoLimit:=e0.mod.nolimit.keeps λb o e=>(e0.bs b o e).1;have hkind:∀y∈ps.zip us,scope.names.lookup y.1=some .local\/(scope.names.lookup y.1=some .cell/\((cellsFrom (s.heap.objs.size+1) scope.names []).lookup y.1).isSome=true):= by
  rintro ⟨n,v⟩ hy;rcases S.par n (List.of_mem_zip hy).1 with q | q
  .exact .inl q
  .exact .inr ⟨q,cellsFrom_some _ _ _ (.inl q)⟩
 refine codeAny_call_function hr.depth (KX _ _ lk) rfl S.co S.gen rfl (PySem.W.codeRec_of KX hcd) (hb _ _ _ _ ?_);refine wpAny_newFunctionEnv_cells S.kind hkind λenv he s1 x=>?_;subst he;refine ⟨lim.keeps x.toInCall.keep,codeAny_func ?_⟩;obtain ⟨t,ht,hq⟩:=hbody A outer s H vs Q E (hr.deeper _) hsp;have I:Inv (qA CX P w K mg base N qual scope f cdv A outer s H E) [] (start N vs) H s1:=yq S hr.hd e0 hl r x;refine wpAny_mono (ht [] s1 (start N vs) H _ I hq) (λfl s' hs=>?_) λe s' hs=>hs;have fin:∀{σ':St} {H':Hp} {v:V} {u:Kn},Inv (qA CX P w K mg base N qual scope f cdv A outer s H E) [] σ' H' s'->RelV v u->Q v H'->CE outer P w H s Q u s':=
  λ{σ' H' v u} J rv q=>⟨v,H',J.os,J.bare,J.base,J.bG,rv,q⟩
 cases fl with
 | ret u =>
  obtain ⟨v,σ',H',J,rv,q⟩:=hs;exact fin J rv q
 | next =>
  obtain ⟨σ',H',J,q⟩:=hs;exact fin (v:=V.non) (u:=Value.none) J rfl q
 | brk =>
  obtain ⟨_,_,_,q⟩:=hs;exact False.elim q
 | cont =>
  obtain ⟨_,_,_,q⟩:=hs;exact False.elim q
end L2
namespace L2
open PySem PySem.Spec PyProof.Rows
section
variable {X:Cx} {x:Str} {p pos:Pos} {e:Expr} {es:List Expr} {t:TA} {id T:String} {r:List V->Hp->VK->Prop}
noncomputable def IE (r:List V->Hp->VK->Prop)(t:TA):TE:=λσ H Q=>t σ H λvs H1=>r vs H1 Q
theorem ug (hc:fe X (.builtin id) r)(hg:Gl X x)(hm:X.mg x=none)(hv:bootBuiltins x=some (.builtin id))(ha:PA X (e::es) t)(hn:autoParam (x≠"__name__") aZb._auto_1)(hdb:autoParam ((x == ("__debug__" : Str))=false) aZb._auto_1)
  (he:autoParam (starEach (e::es) X.env=(false,eval e X.env)::starEach es X.env) aZa._auto_1) (hpl:autoParam ((backTo pos (starEach es X.env)).any (·.1)=false) aZa._auto_1):PE X (.Call (.Name x p) (e::es) [] pos) (IE r t):=by
 intro pins s σ H Q I h;refine wpAny_Call_Name_kw (gZ I hg hm hv ?_ hn hdb);exact PyProof.Rows.callWith_builtin1 (bU (ha pos pins s σ H _ I h) (by rintro us s1 ⟨vs,H1,I1,r1,q1⟩;exact hc pins s1 σ H1 vs us Q I1 r1 q1)) he hpl
theorem p8 (hc:fe X (.type T) r)(hg:Gl X x)(hm:X.mg x=none)(hv:bootBuiltins x=some (.type T))(ha:PA X (e::es) t)(hn:autoParam (x≠"__name__") aZb._auto_1)(hdb:autoParam ((x == ("__debug__" : Str))=false) aZb._auto_1)
  (he:autoParam (starEach (e::es) X.env=(false,eval e X.env)::starEach es X.env) aZa._auto_1) (hpl:autoParam ((backTo pos (starEach es X.env)).any (·.1)=false) aZa._auto_1):PE X (.Call (.Name x p) (e::es) [] pos) (IE r t):=by
 intro pins s σ H Q I h;refine wpAny_Call_Name_kw (gZ I hg hm hv ?_ hn hdb);exact PyProof.Rows.callWith_type1 (bU (ha pos pins s σ H _ I h) (by rintro us s1 ⟨vs,H1,I1,r1,q1⟩;exact hc pins s1 σ H1 vs us Q I1 r1 q1)) he hpl
end
end L2
namespace HT
open PySem PyProof.Rows
section
open PySem.SeqAt
open PySem.AutoSeq1 (wpAny_loadPart')
open PySem.MeetsSeq PySem.MeetsSeq2 PySem.MeetsSeq3
end
section
variable {prog:KP} {w:K7} {A:K1} {E:Kn->Kp->Prop} {s:Kp}
theorem B5 {t b:Addr}{vs ws:List Kn}{Q:Kn->Kp->Prop}(ht:IsTup s.heap t vs.toArray)(hb:IsTup s.heap b ws.toArray)(hv:vs≠[])
  (h1:ws = []->Q (.ref t) s) (h2:ws≠[]->Q (.ref s.heap.objs.size) { s with heap:=s.heap.push { cls:=.type "tuple",data:=.seq (vs++ws).toArray } })
  (hsz:vs.length+ws.length<=sizeLine):wpAny (model prog w) A (binaryOp .Add (.ref t) (.ref b)) Q E s:=by
 obtain ⟨⟨cls,dd,data,sl⟩,ho,hc,n,hd⟩:=id ht;obtain ⟨⟨cls2,dd2,data2,sl2⟩,ho2,hc2,n2,hd2⟩:=id hb;simp only at hc hd hc2 hd2;subst hc hd hc2 hd2;have e:vs.toArray++ws.toArray=(vs++ws).toArray:=by simp
 by_cases hw:ws = []
 .exact concat_meets ⟨_,ho,rfl⟩ ⟨_,ho2,rfl⟩ noFill_tuple_add seq_tuple_add PySem.F.slot_tuple_add PySem.F.entry_tuple_add (PySem.F.args_tuple_add_2 _ _)
   (tuple_addW1 t b vs.toArray ws.toArray n n2 dd dd2 sl sl2 (by simpa using hv) (by simp[hw])) ⟨ho,ho2,h1 hw⟩
 .refine concat_meets ⟨_,ho,rfl⟩ ⟨_,ho2,rfl⟩ noFill_tuple_add seq_tuple_add PySem.F.slot_tuple_add PySem.F.entry_tuple_add (PySem.F.args_tuple_add_2 _ _)
   (tuple_addW2 t b vs.toArray ws.toArray n n2 dd dd2 sl sl2 (by simpa using hv) (by simpa using hw) (by rw[KN,KN];exact hsz)) ⟨ho,ho2,?_⟩
  rw[e];exact h2 hw
noncomputable def df (n d:Nat):Option Int->Nat
 | none=>d
 | some v=>if v<0 then (v+(n:Int)).toNat else min v.toNat n
theorem uA (n d:Nat):df n d none=d:=rfl
theorem xI (n d k:Nat):df n d (some (k:Int))=min k n:=by
 show (if (k:Int)<0 then ((k:Int)+(n:Int)).toNat else min (k:Int).toNat n)=min k n;rw[if_neg (by lia),Int.toNat_natCast]
theorem FQ (n d:Nat)(hd:d<=n)(o:Option Int):df n d o<=n:=by
 cases o with
 | none=>exact hd
 | some v =>
  show (if v<0 then (v+(n:Int)).toNat else min v.toNat n)<=n;by_cases hv:v<0
  .rw[if_pos hv];lia
  .rw[if_neg hv];exact Nat.min_le_right _ _
theorem v5 (v:Int)(n d:Nat):(if v<0 then max (v+(n:Int)) 0 else min v (n:Int))=((df n d (some v):Nat):Int):=by
 show (if v<0 then max (v+(n:Int)) 0 else min v (n:Int))=(((if v<0 then (v+(n:Int)).toNat else min v.toNat n):Nat):Int)
 by_cases hv:v<0
 .simp only[if_pos hv];lia
 .simp only[if_neg hv];lia
theorem uR (lo hi:Option Int)(n:Nat):Builtin.Slice.sliceAdjust lo hi 1 (n:Int)=(((df n 0 lo:Nat):Int),((df n n hi:Nat):Int)):=by
 have h1:¬((1:Int)<0):=by lia
 unfold Builtin.Slice.sliceAdjust;simp only[h1,if_false];refine Prod.ext ?_ ?_
 .cases lo with
  | none=>rfl
  | some v=>exact v5 v n 0
 .cases hi with
  | none=>rfl
  | some v=>exact v5 v n n
theorem vH (i j:Nat):Builtin.Slice.slicePlaces (i:Int) (j:Int) 1=j - i:=by
 unfold Builtin.Slice.slicePlaces;have h1:(1:Int)>0:=by lia
 simp only[h1,if_true,Int.ediv_one];split<;>lia
theorem ou {v:Kn}{o:Option Int}{Q:Option Int->Kp->Prop}(p:IsPart v o)(h:Q o s):wpAny (model prog w) A (Builtin.Slice.slicePartIndex v) Q E s:=by
 cases p with
 | none=>exact slicePart_none h
 | int i t=>exact slicePart_int h
theorem lJ {sl:Addr}{vl vu:Kn}{lo hi:Option Int}{n:Nat}{Q:Int×Int×Nat->Kp->Prop}(hs:s.heap.IsSliceOf sl vl vu .none)(pl:IsPart vl lo)(pu:IsPart vu hi)
  (h:Q (((df n 0 lo:Nat):Int),1,df n n hi - df n 0 lo) s):wpAny (model prog w) A (Builtin.Slice.sliceApplied (.ref sl) (pure (n:Int))) Q E s:=by
 obtain ⟨os,hos,hcs,hds⟩:=id hs;unfold Builtin.Slice.sliceApplied Builtin.Slice.sliceFields;refine Ko (Ko (wpAny_field hos hds (x:=vl) rfl (Ko (wpAny_field hos hds (x:=vu) rfl (Ko (wpAny_field hos hds (x:=.none) rfl (Kq ?_)))))));refine Ko (slicePart_none ?_);show wpAny _ _ (if ((1:Int) == 0)=true then _ else _) _ _ s;rw[if_neg (by decide)];refine Ko (ou pl (Ko (ou pu (Ko (Kq ?_)))));show wpAny _ _ (match Builtin.Slice.sliceAdjust lo hi 1 (n:Int) with | (lo,hi)=>pure (lo,(1:Int),Builtin.Slice.slicePlaces lo hi 1)) _ _ s;rw[uR lo hi n];show wpAny _ _ (pure (((df n 0 lo:Nat):Int),(1:Int),Builtin.Slice.slicePlaces ((df n 0 lo:Nat):Int) ((df n n hi:Nat):Int) 1)) _ _ s;rw[vH];exact Kq h
theorem A8 (xs:Array Kn)(i k:Nat):((K6 k).filterMap λ(m:Nat)=>xs[((i:Int)+(m:Int)*1).toNat]?).toArray=((xs.toList.drop i).take k).toArray:=by
 have e:(λ(m:Nat)=>xs[((i:Int)+(m:Int)*1).toNat]?)=λm=>xs[i+m]?:=by
  funext m
  have:((i:Int)+(m:Int)*1).toNat=i+m:=by lia
  rw[this]
 rw[e];have:=pick_run xs i k;rw[List.filterMap_map] at this;have e2:((λx=>xs[x]?)∘λx=>i+x)=λm=>xs[i+m]?:=rfl;rw[e2] at this;rw[this]
theorem ky {t sl:Addr}{items:Array Kn}{vl vu:Kn}{lo hi:Option Int}{Q:Kn->Kp->Prop}(ht:IsTup s.heap t items)(hs:s.heap.IsSliceOf sl vl vu .none)(pl:IsPart vl lo)(pu:IsPart vu hi)
  (hw:¬(df items.size 0 lo=0/\df items.size items.size hi=items.size))
  (h:Q (.ref s.heap.objs.size) { s with heap:=s.heap.push { cls:=.type "tuple",data:=.seq ((items.toList.drop (df items.size 0 lo)).take (df items.size items.size hi - df items.size 0 lo)).toArray } })
  (hsz:items.size<=sizeLine):wpAny (model prog w) A (getItem (.ref t) (.ref sl)) Q E s:=by
 have htake:sizeOk (.seq ((items.toList.drop (df items.size 0 lo)).take (df items.size items.size hi - df items.size 0 lo)).toArray):=by
  show ((items.toList.drop (df items.size 0 lo)).take (df items.size items.size hi - df items.size 0 lo)).toArray.size<=sizeLine;rw[KN,KO,Li,KH];lia
 have hj:df items.size items.size hi<=items.size:=FQ _ _ (Ku _) hi;obtain ⟨os,hos,hcs,hds⟩:=id hs;have hTs:s.TypeIs (.ref sl) "slice":=⟨os,hos,hcs⟩
 unfold getItem;try with_reducible refine wpAny_holding ?_
 first | refine Ko (Kq ?_) | skip
 refine Ko (wpAny_sequenceKey ht.typeIs (by decide) ?_);refine Ko (wpAny_callSpecial?_slot (name:=Str.ofString "__getitem__") ht.typeIs PyProof.Rows.slot_tuple_getitem
  (wpAny_call_entry PyProof.Rows.slot_tuple_getitem ht.typeIs entry_tuple_getitem ?_ (args_tuple_getitem _ _)))
 show wpAny _ _ (Builtin.Tuple.tupleItemsOf (.ref t) >>= _) _ _ s;refine Ko (tupleItemsOf_ ht ?_);refine Ko (wpAny_typeOf hTs ?_);rw[if_pos (by decide)];refine Ko (lJ hs pl pu ?_);have hno:¬((((df items.size 0 lo:Nat):Int) == 0 && (1:Int) == 1 && (df items.size items.size hi - df items.size 0 lo) == items.size)=true):=by
  intro q;rw[La,La] at q;have q1:((df items.size 0 lo:Nat):Int)=0:=eq_of_beq q.1.1;have q2:df items.size items.size hi - df items.size 0 lo=items.size:=eq_of_beq q.2;exact hw ⟨by lia,by lia⟩
 show wpAny _ _ (if (((df items.size 0 lo:Nat):Int) == 0 && (1:Int) == 1 && (df items.size items.size hi - df items.size 0 lo) == items.size)=true then _ else _) _ _ s;rw[if_neg hno,A8];first
  | exact Ko (m:=Builtin.Tuple.tupleExact _) (wpAny_newObj_type (Kq ⟨_,rfl,Kq h⟩) htake)
  | exact Ko (m:=Builtin.Tuple.tupleExact _) (wpAny_newObj_type (Ko (Kq (Kq ⟨_,rfl,Kq h⟩))) htake)
  | exact Ko (Ko (m:=Builtin.Tuple.tupleExact _) (wpAny_newObj_type (Kq (Kq ⟨_,rfl,Kq h⟩)) htake))
  | exact Ko (Ko (m:=Builtin.Tuple.tupleExact _) (wpAny_newObj_type (Kq ⟨_,rfl,Kq h⟩) htake))
end
end HT
namespace L2
open PySem PySem.Spec PyProof.Rows
noncomputable abbrev TO:=St->Hp->(Option Int->Hp->Prop)->Prop
noncomputable def PO (X:Cx)(e:Option Expr)(t:TO):Prop:=
 ∀(pins:List (Addr×Obj)) (s:Kp) (σ:St) (H:Hp) (Q:Option Int->Hp->Prop),Inv X pins σ H s->t σ H Q ->
  wpAny (model X.prog X.w) X.A (evalPart e X.env) (λu s'=>∃o H',Inv X pins σ H' s'/\IsPart u o/\Q o H') X.xe s
noncomputable def Dx:TO:=λ_ H Q=>Q none H
noncomputable def Ih (t:TE):TO:=λσ H Q=>t σ H λx H1=>∃i,x=.int i/\Q (some i) H1
theorem intsAre_of {ns:List Int}:∀{us:List Kn},Vals (ns.map V.int) us->IntsAre us ns:=by
 induction ns with
 | nil=>intro us r;rw[List.map_nil] at r;cases r;exact .nil
 | cons n ns ih =>
  intro us r;rw[K3] at r;cases r with
  | cons r1 r2 =>
   obtain ⟨t,e⟩:=r1;subst e;exact .cons n t (ih r2)
section
variable {X:Cx} {e:Expr} {te:TE} {lo hi:Option Expr} {tl th:TO} {pos p2:Pos}
theorem rn:PO X none Dx:=by
 intro pins s σ H Q I h;rw[evalPart_none];exact Kq ⟨none,H,I,.none,h⟩
theorem rp (h:PE X e te):PO X (some e) (Ih te):=by
 intro pins s σ H Q I hw;rw[evalPart_some];refine bU (h pins s σ H _ I hw) ?_;rintro u s1 ⟨x,H1,I1,r1,q1⟩;obtain ⟨i,rfl,q⟩:=q1;obtain ⟨t,rfl⟩:=r1;exact ⟨some i,H1,I1,.int i t,q⟩
noncomputable def Ey (X:Cx)(r:V->Option Int->Option Int->Hp->VK->Prop):Prop:=
 ∀(pins:List (Addr×Obj)) (s:Kp) (σ:St) (H:Hp) (x:V) (v vl vu:Kn) (lo hi:Option Int) (sl:Addr) (Q:VK),Inv X pins σ H s->RelV x v->s.heap.IsSliceOf sl vl vu .none->IsPart vl lo->IsPart vu hi->r x lo hi H Q ->
  ∃T id,typeLookup (.type T) "__getitem__" = pure (some (.builtin id))/\s.TypeIs v T/\wpAny (model X.prog X.w) X.A (getItem v (.ref sl)) (EP X pins σ Q) X.xe s
theorem Ey.or {r r':V->Option Int->Option Int->Hp->VK->Prop}(h:Ey X r)(h':Ey X r'):Ey X (λx lo hi H Q=>r x lo hi H Q\/r' x lo hi H Q):=by
 intro pins s σ H x v vl vu lo hi sl Q I rx hs pl pu q;rcases q with q | q
 .exact h pins s σ H x v vl vu lo hi sl Q I rx hs pl pu q
 .exact h' pins s σ H x v vl vu lo hi sl Q I rx hs pl pu q
noncomputable def Ki (r:V->Option Int->Option Int->Hp->VK->Prop)(te:TE)(tl th:TO):TE:=λσ H Q=>te σ H λx H1=>tl σ H1 λl H2=>th σ H2 λu H3=>r x l u H3 Q
theorem nW {r:V->Option Int->Option Int->Hp->VK->Prop}(hr:Ey X r)(he:PE X e te)(hl:PO X lo tl)(hu:PO X hi th):PE X (.Subscript e (.Slice lo hi none p2) pos) (Ki r te tl th):=by
 intro pins s σ H Q I h;refine Subscript_ (bU (he pins s σ H _ I h) ?_);rintro v s1 ⟨x,H1,I1,r1,q1⟩;refine wpAny_Slice (bU (hl pins s1 σ H1 _ I1 q1) λvl s2 ⟨l,H2,I2,pl,q2⟩=>bU (hu pins s2 σ H2 _ I2 q2) ?_);rintro vu s3 ⟨u,H3,I3,pu,q3⟩;rw[evalPart_none];refine Kq ?_;have I4:Inv X pins σ H3 { s3 with heap:=s3.heap.push { cls:=.type "slice",data:=.fields #[vl,vu,.none] } }:=I3.kept (t':=s3.toks) λb ob q=>Kv _ q;obtain ⟨T,id,hT,ht,hg⟩:=hr pins { s3 with heap:=s3.heap.push { cls:=.type "slice",data:=.fields #[vl,vu,.none] } } σ H3 x v vl vu l u s3.heap.objs.size Q I4 r1 (Heap.IsSliceOf.new ..) pl pu q3;show wpAny (model X.prog X.w) X.A (subscriptTail e (.Slice lo hi none p2) v (.ref s3.heap.objs.size)) (EP X pins σ Q) X.xe { s3 with heap:=s3.heap.push { cls:=.type "slice",data:=.fields #[vl,vu,.none] } };exact tail_any (ops:=[.ref s3.heap.objs.size,v]) ht hT hg (by with_unfolding_all rfl)
noncomputable def eE (xs:List V)(lo hi:Option Int):List V:=(xs.drop (HT.df xs.length 0 lo)).take (HT.df xs.length xs.length hi - HT.df xs.length 0 lo)
theorem lQ (xs:List V)(lo hi:Option Int):(eE xs lo hi).length<=xs.length:=by
 unfold eE;rw[KO,Li];lia
noncomputable def Jy (K:Frag):V->Option Int->Option Int->Hp->VK->Prop:=λx lo hi H Q=>∃a xs,x=.ref a/\gM K H a xs /\
 ¬(HT.df xs.length 0 lo=0/\HT.df xs.length xs.length hi=xs.length)/\∀p,H p=none->Q (.ref p) (upd H p (.tup (eE xs lo hi)))
theorem FU:Ey X (Jy X.K):=by
 intro pins s σ H x v vl vu lo hi sl Q I rx hs pl pu h;obtain ⟨a,xs,rfl,hx,hw,q⟩:=h;cases rx;obtain ⟨its,r,ht,hz⟩:=I.tuple hx;have hlen:its.toArray.size=xs.length:=by rw[KN];exact r.length.symm
 refine ⟨"tuple",_,PyProof.Rows.slot_tuple_getitem.lookup,ht.typeIs,?_⟩;refine HT.ky ht hs pl pu (by rw[hlen];exact hw) ?_ (by rw[hlen];exact hz);rw[hlen];refine ⟨.ref s.heap.objs.size,_,I.laid (t':=s.toks) (o:=.tup (eE xs lo hi)) (λb ob q=>Kv _ q) (Ku _) ?_,rfl,q _ (I.bG.fresh (Ku _))⟩;exact ⟨Nat.le_trans (lQ xs lo hi) hz,_,(r.drop (HT.df xs.length 0 lo)).take (HT.df xs.length xs.length hi - HT.df xs.length 0 lo),IsTup.new _ _⟩
noncomputable def HK (K:Frag):R2:=λx y H Q=>∃a b xs ys,x=.ref a/\y=.ref b/\gM K H a xs/\gM K H b ys/\xs≠[]/\xs.length+ys.length<=sizeLine /\
 (ys = []->Q (.ref a) H)/\(ys≠[]->∀p,H p=none->Q (.ref p) (upd H p (.tup (xs++ys))))
theorem Vals.q9 {xs:List V}{us:List Kn}(r:Vals xs us):us = []↔xs = []:=by
 cases r with
 | nil=>simp
 | cons _ _=>simp
theorem mQ:iq X (binaryOp .Add) (HK X.K):=by
 intro pins s σ H x y v u Q I rx ry h;obtain ⟨a,b,xs,ys,rfl,rfl,ha,hb,hx,hz,q1,q2⟩:=h;cases rx;cases ry;obtain ⟨its,r1,p1,_⟩:=I.tuple ha;obtain ⟨its2,r2,p2,_⟩:=I.tuple hb;refine HT.B5 p1 p2 (λz=>hx (r1.q9.mp z)) (λz=>⟨.ref a,H,I,rfl,q1 (r2.q9.mp z)⟩) (λz=>?_) (by rw[<-r1.length,<-r2.length];exact hz);refine ⟨.ref s.heap.objs.size,_,I.laid (t':=s.toks) (o:=.tup (xs++ys)) (λb ob q=>Kv _ q) (Ku _) ?_,rfl,q2 (λw=>z (r2.q9.mpr w)) _ (I.bG.fresh (Ku _))⟩;exact ⟨by rw[KA];exact hz,_,r1.append r2,IsTup.new _ _⟩
end
end L2
namespace L2
open PySem PySem.Spec PyProof.Rows
noncomputable def tI (n:Nat)(i:Int):Option Nat:=if 0<=i then (if i<n then some i.toNat else none) else if -(n:Int)<=i then some (i+n).toNat else none
noncomputable def fI {α:Type}(xs:List α)(i:Int):Option α:=(tI xs.length i).bind λj=>xs[j]?
theorem xb {n:Nat}{i:Int}{j:Nat}(h:tI n i=some j):seqIndex? i n=some j/\j<n/\-(n:Int)<=i/\i<n:=by
 unfold tI at h;by_cases h0:0<=i
 .rw[if_pos h0] at h;by_cases h1:i<n
  .rw[if_pos h1] at h;have e:i.toNat=j:=Option.some.inj h;exact ⟨by rw[seqIndex_of h0 h1,e],by lia,by lia,h1⟩
  .rw[if_neg h1] at h;cases h
 .rw[if_neg h0] at h;by_cases h1 : -(n:Int)<=i
  .rw[if_pos h1] at h;have e:(i+n).toNat=j:=Option.some.inj h;exact ⟨by rw[seqIndex_neg (by lia) h1,e],by lia,h1,by lia⟩
  .rw[if_neg h1] at h;cases h
theorem mE {α:Type}{xs:List α}{i:Int}{v:α}(h:fI xs i=some v):∃j,seqIndex? i xs.length=some j/\xs[j]?=some v/\j<xs.length/\-(xs.length:Int)<=i/\i<xs.length:=by
 unfold fI at h;cases e:tI xs.length i with
 | none=>rw[e] at h;cases h
 | some j =>
  rw[e] at h;obtain ⟨h1,h2,h3,h4⟩:=xb e;exact ⟨j,h1,h,h2,h3,h4⟩
theorem jX {α:Type}{xs:List α}{j:Nat}{v:α}(h:xs[j]?=some v):fI xs (j:Int)=some v:=by
 have hj:j<xs.length:=(Kw.mp h).1;have e:tI xs.length (j:Int)=some j:=by
  unfold tI;rw[if_pos (by lia),if_pos (by lia)];simp
 unfold fI;rw[e];exact h
noncomputable def vT (b:Expr):Prop:=∀o i,subscripted b false o i=operate [o,i] (getItem o i)
noncomputable def BO (X:Cx)(r:R2):Prop:=
 ∀(value slice:Expr) (pins:List (Addr×Obj)) (s:Kp) (σ:St) (H:Hp) (x y:V) (v u:Kn) (Q:VK),Inv X pins σ H s->RelV x v->RelV y u->r x y H Q ->
  subscripted slice false v u=operate [v,u] (getItem v u)->wpAny (model X.prog X.w) X.A (subscriptTail value slice v u) (EP X pins σ Q) X.xe s
noncomputable def J9 (X:Cx)(id:String)(r:V->List V->Hp->VK->Prop):Prop:=
 ∀(pins:List (Addr×Obj)) (s:Kp) (σ:St) (H:Hp) (x:V) (xs:List V) (v:Kn) (us:List Kn) (Q:VK),Inv X pins σ H s->RelV x v->Vals xs us->r x xs H Q ->
  wpAny (model X.prog X.w) X.A (call (.builtin id) (v::us)) (EP X pins σ Q) X.xe s
section
variable {X:Cx} {a b:Expr} {ta tb:TE} {pos:Pos}
theorem BO.or {r r':R2}(h:BO X r)(h':BO X r'):BO X (λx y H Q=>r x y H Q\/r' x y H Q):=by
 intro value slice pins s σ H x y v u Q I rx ry q hs;rcases q with q | q
 .exact h value slice pins s σ H x y v u Q I rx ry q hs
 .exact h' value slice pins s σ H x y v u Q I rx ry q hs
theorem HD {r:R2}(hr:BO X r)(ha:PE X a ta)(hb:PE X b tb)(hs:vT b):PE X (.Subscript a b pos) (FY r ta tb):=by
 intro pins s σ H Q I h;exact Subscript_ (EB ha hb I h λv u s2 x y H2 I2 rx ry q=>hr a b pins s2 σ H2 x y v u Q I2 rx ry q (hs _ _))
noncomputable def HN (K:Frag):R2:=λx y H Q=>∃p xs i v,x=.ref p/\y=.int i/\dc K H p xs/\fI xs i=some v/\Q v H
noncomputable def HQ (K:Frag):R2:=λx y H Q=>∃p xs i v,x=.ref p/\y=.int i/\gM K H p xs/\fI xs i=some v/\Q v H
noncomputable def HP:R2:=λx y H Q=>∃z i c,x=.str z/\y=.int i/\z.length<=sizeLine/\fI z.cps.toList i=some c/\Q (.str ⟨#[c]⟩) H
theorem CG:BO X (HN X.K):=by
 intro value slice pins s σ H x y v u Q I rx ry h hs;obtain ⟨p,xs,i,z,rfl,rfl,hq,he,q⟩:=h;cases rx;obtain ⟨t,rfl⟩:=ry;obtain ⟨its,r,pl,hz⟩:=I.list hq;obtain ⟨j,h1,h2,h3,h4,h5⟩:=mE he;obtain ⟨w,ew,rw'⟩:=r.get h2;have hl:=r.length;have hn:=jH;have fin:EP X pins σ Q w s:=⟨z,H,I,rw',q⟩
 by_cases h0:0<=i
 .have hj:i.toNat=j:=by
   rw[seqIndex_of h0 h5] at h1;exact Option.some.inj h1
  exact item_listR pl.isList h0 (by lia) (by rw[hj];simpa using ew) fin hs
 .have hj:(i+(its.toArray.size:Int)).toNat=j:=by
   rw[seqIndex_neg (by lia) h4] at h1;rw[KN,<-hl];exact Option.some.inj h1
  exact subscriptTail_builtinR (x:=w) pl.isList.typeIs slot_list_getitem.lookup
   (wpAny_getItem_list_neg (Q:=λr s'=>r=w/\EP X pins σ Q r s') pl.isList (by lia) (by rw[KN]<;>lia) (by lia) (by rw[hj];simpa using ew) ⟨rfl,fin⟩) hs
theorem E8:BO X (HQ X.K):=by
 intro value slice pins s σ H x y v u Q I rx ry h hs;obtain ⟨p,xs,i,z,rfl,rfl,hq,he,q⟩:=h;cases rx;obtain ⟨t,rfl⟩:=ry;obtain ⟨its,r,pl,hz⟩:=I.tuple hq;obtain ⟨j,h1,h2,h3,h4,h5⟩:=mE he;obtain ⟨w,ew,rw'⟩:=r.get h2;have hl:=r.length;have hn:=jH;have fin:EP X pins σ Q w s:=⟨z,H,I,rw',q⟩
 exact subscriptTail_builtinR (x:=w) pl.typeIs slot_tuple_getitem.lookup
  (getItem_tuple (j:=j) (Q:=λr s'=>r=w/\EP X pins σ Q r s') pl (by lia) (by lia) (by rw[KN,<-hl];exact h1) (by simpa using ew) ⟨rfl,fin⟩) hs
theorem E7:BO X HP:=by
 intro value slice pins s σ H x y v u Q I rx ry h hs;obtain ⟨z,i,c,rfl,rfl,hz,he,q⟩:=h;obtain ⟨t,rfl⟩:=rx;obtain ⟨t',rfl⟩:=ry;obtain ⟨j,h1,h2,h3,h4,h5⟩:=mE he;have hl:z.cps.toList.length=z.length:=by simp[Str.length]
 rw[hl] at h1 h4 h5;have hn:=jH;exact tail_any (typeIs_str s z t) slot_str_getitem.lookup (getItem_str (c:=c) (by
  have e1:decide (i < -(2 ^ 63:Int))=false:=decide_eq_false (by lia);have e2:decide (i>=2 ^ 63)=false:=decide_eq_false (by lia);rw[e1,e2,Bool.or_false]) (by rw[h1];simpa using h2) ⟨.str ⟨#[c]⟩,H,I.tok _,⟨_,rfl⟩,q⟩) hs
noncomputable def Kf (K:Frag):R2:=λx y H Q=>HN K x y H Q\/HQ K x y H Q\/HP x y H Q
theorem E6:BO X (Kf X.K):=CG.or (E8.or E7)
theorem vz (its:List Kn)(n j:Nat)(u:Kn):Ld (·.setIfInBounds j u) { cls:=.type "list",data:=.seq its.toArray n } = { cls:=.type "list",data:=.seq (its.set j u).toArray n }:=by
 simp[Ld]
theorem Inv.lst {pins:List (Addr×Obj)}{σ:St}{H:Hp}{s:Kp}{p:Addr}{xs:List V}(I:Inv X pins σ H s)(h:H p=some (.lst xs)) :
  ∃(its:List Kn) (n:Nat),Vals xs its/\s.heap.get? p=some { cls:=.type "list",data:=.seq its.toArray n }/\xs.length<=sizeLine:=by
 obtain ⟨z,its,n,r,e⟩:=I.bG p _ h;exact ⟨its,n,r,e,z⟩
theorem Inv.Fj {pins:List (Addr×Obj)}{σ:St}{H:Hp}{s:Kp}{p:Addr}{xs ys:List V}{its its':List Kn}{n n':Nat}{f:Obj->Obj}(I:Inv X pins σ H s)(h:H p=some (.lst xs))
  (ho:s.heap.get? p=some { cls:=.type "list",data:=.seq its.toArray n }) (hf:f { cls:=.type "list",data:=.seq its.toArray n } = { cls:=.type "list",data:=.seq its'.toArray n' }) (r:Vals ys its') (hz:ys.length<=sizeLine) (t:Nat) :
  Inv X pins σ (upd H p (.lst ys)) { s with heap:=s.heap.update p f,toks:=t }:=by
 have e:(s.heap.update p f).get? p=some { cls:=.type "list",data:=.seq its'.toArray n' }:=by
  rw[Heap.get?_update_self f ho (by rw[hf]<;>rfl),hf]
 refine I.write (x:=p) (e:=p) (by rw[h];trivial) (.inl rfl) (λb u hb q=>(Heap.get?_update_other _ _ (Ne.symm hb)).trans q) ⟨_,e⟩ ?_;exact ⟨hz,its',n',r,e⟩
noncomputable def Ef:V->V->V->Hp->(Hp->Prop)->Prop:=λo i v H Q=>∃p xs k j,o=.ref p/\i=.int k/\H p=some (.lst xs)/\tI xs.length k=some j/\Q (upd H p (.lst (xs.set j v)))
theorem set_list:BQ X Ef:=by
 intro pins s σ H o i v ov iv u Q I ro ri rv h;obtain ⟨p,xs,k,j,rfl,rfl,hp,hj,q⟩:=h;cases ro;obtain ⟨t,rfl⟩:=ri;obtain ⟨its,n,r,ho,hz⟩:=I.lst hp;obtain ⟨h1,h2,h3,h4⟩:=xb hj;have hl:=r.length;have hn:=jH;have I':Inv X pins σ (upd H p (.lst (xs.set j v))) { s with heap:=s.heap.update p (Ld (·.setIfInBounds j u)) }:=
  I.Fj hp ho (vz its n j u) (r.set rv j) (by rw[length_set];exact hz) s.toks
 by_cases h0:0<=k
 .have hk:k.toNat=j:=by
   rw[seqIndex_of h0 h4] at h1;exact Option.some.inj h1
  exact PySem.W.ki_setAt ho h0 (by lia) (by rw[KN,<-hl];exact h4) (by rw[hk];exact ⟨_,I',q⟩)
 .have hk:(k+(its.toArray.size:Int)).toNat=j:=by
   rw[seqIndex_neg (by lia) h3] at h1;rw[KN,<-hl];exact Option.some.inj h1
  exact PySem.W.ki_setBack ho (by lia) (by rw[KN,<-hl];exact h3) (by lia) (by rw[hk];exact ⟨_,I',q⟩)
theorem rG (lo hi:Option Int)(n:Nat):(sliceBounds lo hi none n).1=((HT.df n 0 lo:Nat):Int)/\(sliceBounds lo hi none n).2.1=((HT.df n n hi:Nat):Int)/\(sliceBounds lo hi none n).2.2=1:=by
 refine ⟨?_,?_,rfl⟩
 .cases lo with
  | none=>simp[sliceBounds,HT.df]
  | some i =>
   simp only[sliceBounds,HT.df,Option.getD_none,show (1:Int)>0 by decide,if_true];by_cases h:i<0
   .simp only[h,if_true]<;>lia
   .simp only[h,if_false]<;>lia
 .cases hi with
  | none=>simp[sliceBounds,HT.df]
  | some i =>
   simp only[sliceBounds,HT.df,Option.getD_none,show (1:Int)>0 by decide,if_true];by_cases h:i<0
   .simp only[h,if_true]<;>lia
   .simp only[h,if_false]<;>lia
theorem oV (its:List Kn)(lo hi:Option Int):slicePick its.toArray lo hi none=((its.drop (HT.df its.length 0 lo)).take (HT.df its.length its.length hi - HT.df its.length 0 lo)).toArray:=by
 obtain ⟨h1,h2,h3⟩:=rG lo hi its.toArray.size;unfold slicePick;rw[h1,h2,h3];simp only[sliceRange_one,pick_run,KN]<;>rfl
noncomputable def Jx (K:Frag):V->Option Int->Option Int->Hp->VK->Prop:=λx lo hi H Q=>∃a xs,x=.ref a/\dc K H a xs/\∀p,H p=none->Q (.ref p) (upd H p (.lst (eE xs lo hi)))
theorem rF:Ey X (Jx X.K):=by
 intro pins s σ H x v vl vu lo hi sl Q I rx hs pl pu h;obtain ⟨a,xs,rfl,hx,q⟩:=h;cases rx;obtain ⟨its,r,ht,hz⟩:=I.list hx;have hlen:=r.length;refine ⟨"list",_,slot_list_getitem.lookup,ht.isList.typeIs,?_⟩;refine wpAny_getItem_list_slice ht.isList hs pl pu .none (by simp) ?_ (by rw[KN]<;>lia);rw[oV,<-hlen];refine ⟨.ref s.heap.objs.size,_,I.laid (t':=s.toks) (o:=.lst (eE xs lo hi)) (λb ob q=>Kv _ q) (Ku _) ?_,rfl,q _ (I.bG.fresh (Ku _))⟩;exact ⟨Nat.le_trans (lQ xs lo hi) hz,_,0,(r.drop (HT.df xs.length 0 lo)).take (HT.df xs.length xs.length hi - HT.df xs.length 0 lo),KZ _ rfl⟩
noncomputable def GZ:V->Bool
 | .non=>true
 | .bl _=>true
 | .int _=>true
 | .str _=>true
 | _=>false
theorem qv:fe X (.type "list") (λxs H Q=>∃p ys,xs = [.ref p]/\(dc X.K H p ys\/gM X.K H p ys)/\∀l,H l=none->Q (.ref l) (upd H l (.lst ys))):=by
 intro pins s σ H xs us Q I r h;obtain ⟨p,ys,rfl,hq,q⟩:=h;obtain ⟨u,rfl,rx⟩:=vals1 r;cases rx;have fin:∀(its:List Kn),Vals ys its->ys.length<=sizeLine->∀(h':Heap) (c':Nat),(∀b o',s.heap.get? b=some o'->h'.get? b=some o') ->
   h'.get? s.heap.objs.size=some { cls:=.type "list",dict:=none,data:=.seq its.toArray c',slots:=#[] }->EP X pins σ Q (.ref s.heap.objs.size) { s with heap:=h' }:=λits r' hz h' c' kp e =>
  ⟨.ref s.heap.objs.size,_,I.laid (t':=s.toks) kp (Ku _) (show cw X.prog X.w _ h' _ (.lst ys) from ⟨hz,its,c',r',e⟩),rfl,q _ (I.bG.fresh (Ku _))⟩
 rcases hq with hq | hq
 .obtain ⟨its,r',pl,hz⟩:=I.list hq;have hlen:=r'.length;obtain ⟨o,ho,hc,n,hd⟩:=pl.isList;exact call_list_seq p (.inl rfl) ho hc hd (λh' c' kp e=>fin its r' hz h' c' kp e) (by simp only[KN]<;>lia)
 .obtain ⟨its,r',pl,hz⟩:=I.tuple hq;have hlen:=r'.length;obtain ⟨o,ho,hc,n,hd⟩:=pl;exact call_list_seq p (.inr rfl) ho hc hd (λh' c' kp e=>fin its r' hz h' c' kp e) (by simp only[KN]<;>lia)
noncomputable def J6 (K:Frag)(T:String)(x:V)(H:Hp):Prop:=match x with
 | .str _=>T = "str"
 | .int _=>T = "int"
 | .ref p=>(T = "list"/\∃xs,dc K H p xs)\/(T = "tuple"/\∃o,K.lookup p=some o/\o.cls=.type "tuple"/\o.dict=none) \/
   (T = "dict"/\((∃kvs,H p=some (.dK kvs))\/∃kvs,H p=some (.dT kvs)))\/(T = "set"/\∃S n,H p=some (.set S n))
 | _=>False
theorem Gf {pins:List (Addr×Obj)}{σ:St}{H:Hp}{s:Kp}{T:String}{x:V}{v:Kn}(I:Inv X pins σ H s)(r:RelV x v)(ty:J6 X.K T x H) :
  s.TypeIs v T/\∀a,v=.ref a->∃ob,s.heap.get? a=some ob/\ob.dict=none:=by
 cases x with
 | str z =>
  obtain ⟨t,rfl⟩:=r;cases (show T = "str" from ty);exact ⟨typeIs_str s z t,λ_ e=>nomatch e⟩
 | int i =>
  obtain ⟨t,rfl⟩:=r;cases (show T = "int" from ty);exact ⟨typeIs_int s i t,λ_ e=>nomatch e⟩
 | ref p =>
  cases r;rcases ty with ⟨rfl,xs,hq⟩ | ⟨rfl,o,hk,hc,hd⟩ | ⟨rfl,hk⟩ | ⟨rfl,S,n,hk⟩
  .obtain ⟨its,_,pl,_⟩:=I.list hq;refine ⟨pl.isList.typeIs,λa e=>?_⟩;cases e;obtain ⟨o,n,e,c,hd,_⟩:=pl;exact ⟨o,e,hd⟩
  .refine ⟨⟨o,I.oO p o hk,hc⟩,λa e=>?_⟩;cases e;exact ⟨o,I.oO _ o hk,hd⟩
  .have z:∃o,s.heap.get? p=some o/\o.ExactDict:=by
    rcases hk with ⟨kvs,hk⟩ | ⟨kvs,hk⟩
    .obtain ⟨_,_,_,_,o,_,_,e,ex,_⟩:=I.bG p _ hk;exact ⟨o,e,ex⟩
    .obtain ⟨_,_,_,_,o,_,_,e,ex,_⟩:=I.bG p _ hk;exact ⟨o,e,ex⟩
   obtain ⟨o,e,ex⟩:=z;refine ⟨⟨o,e,ex.1⟩,λa e2=>?_⟩;cases e2;exact ⟨o,e,ex.2.1⟩
  .obtain ⟨o,_,_,_,e,ex,_⟩:=I.bG p _ hk;refine ⟨⟨o,e,ex.1⟩,λa e2=>?_⟩;cases e2;exact ⟨o,e,ex.2.1⟩
 | _=>exact False.elim ty
noncomputable def Kh (K:Frag)(T:String)(r:V->List V->Hp->VK->Prop)(to:TE)(t:TA):TE:=λσ H Q=>to σ H λx H1=>J6 K T x H1/\t σ H1 λxs H2=>r x xs H2 Q
variable {o e:Expr} {es:List Expr} {to:TE} {t:TA} {name:Str} {apos cpos:Pos} {T id:String} {r:V->List V->Hp->VK->Prop}
theorem xq (pa:PlainAttrs T)(slot:Slot T name id)(hty:typeOf (.builtin id)=pure (.type "method_descriptor"))(hm:J9 X id r)(ho:PE X o to)(ha:PA X (e::es) t)
  (hbase:autoParam (attributeBase o name X.env (eval o X.env)=eval o X.env) aZa._auto_1)
  (hfew:autoParam (((backTo cpos (starEach (e::es) X.env)).all (λx=>!x.1) && (backToKw cpos (keywordEach [] X.env)).all (λx=>x.1.isSome)
   && decide ((e::es).length+([]:List Keyword).length+(if ([]:List Keyword).isEmpty then 0 else 1)<30))=true) aZa._auto_1)
  (hline:autoParam ((apos.endLine == cpos.line)=true) aZa._auto_1) (hs:autoParam (starEach (e::es) X.env=(false,eval e X.env)::starEach es X.env) aZa._auto_1) (hplain:autoParam ((backTo cpos (starEach es X.env)).any (·.1)=false) aZa._auto_1) :
  PE X (.Call (.Attribute o name apos) (e::es) [] cpos) (Kh X.K T r to t):=by
 intro pins s σ H Q I h;refine wpAny_Call_method_late hbase hfew hline rfl (bU (ho pins s σ H _ I h) ?_);rintro v s1 ⟨x,H1,I1,r1,ty,q1⟩;obtain ⟨h1,h2⟩:=Gf I1 r1 ty;refine ⟨T,id,pa,slot,hty,h1,h2,?_⟩;have hA:=ha cpos pins s1 σ H1 _ I1 q1;rw[hs] at hA ⊢;refine Calls.callWith_builtin (by show (false || (backTo cpos (starEach es X.env)).any (·.1))=false;rw[hplain]<;>rfl) (Calls.evalArgs_plain ?_);exact bU hA (by rintro us s2 ⟨vs,H2,I2,r2,q2⟩;exact hm pins s2 σ H2 x vs v us Q I2 r1 r2 q2)
end
end L2
namespace L2
open PySem PySem.Spec PyProof.Rows
noncomputable def JT (X:Cx)(id:String)(r:V->List V->Hp->VK->Prop):Prop:=
 ∀(pins:List (Addr×Obj)) (s:Kp) (σ:St) (H:Hp) (x:V) (xs:List V) (v:Kn) (us:List Kn) (Q:VK),Inv X pins σ H s->RelV x v->Vals xs us->r x xs H Q ->
  wpAny (model X.prog X.w) X.A (call (.builtin id) (v::us)) (EP X pins σ Q) X.xe s
theorem Vals.one:∀{x:V} {us:List Kn},Vals [x] us->∃u,us = [u]/\RelV x u
 | _,_,.cons r .nil=>⟨_,rfl,r⟩
theorem Vals.rep {xs:List V}{us:List Kn}(h:Vals xs us):∀k:Nat,Vals (Le k xs).flatten (Le k us).flatten
 | 0=>.nil
 | k+1=>by
  rw[List.replicate_succ,List.replicate_succ,List.flatten_cons,List.flatten_cons];exact Vals.append h (Vals.rep h k)
theorem foldl_rep (its:List Kn):∀(k:Nat) (acc:List Kn),
  List.foldl (λx1 x2=>x1++x2) acc.toArray (Le k its.toArray)=(acc++(Le k its).flatten).toArray
 | 0,acc=>by simp
 | k+1,acc=>by
  have e:acc.toArray++its.toArray=(acc++its).toArray:=by simp
  have e2:(acc++its)++(Le k its).flatten=acc++(Le (k+1) its).flatten:=by
   rw[List.replicate_succ,List.flatten_cons,Lg]
  rw[<-e2,<-foldl_rep its k (acc++its),<-e,List.replicate_succ,List.foldl_cons]
section
variable {X:Cx} {pins:List (Addr×Obj)} {σ:St} {H:Hp} {s:Kp} {l b:Addr} {xs ys zs:List V}
theorem Inv.Ho {its its':List Kn}{n:Nat}{f:Array Kn->Array Kn}{t':Nat}(I:Inv X pins σ H s)(hH:H l=some (.lst xs))
  (e:s.heap.get? l=some { cls:=.type "list",data:=.seq its.toArray n }) (hf:f its.toArray=its'.toArray) (hv:Vals ys its') (hz:ys.length<=sizeLine) :
  Inv X pins σ (upd H l (.lst ys)) { s with heap:=s.heap.update l (Ld f),toks:=t' }:=by
 have q:=PySem.IsL.update e f;rw[hf] at q;refine I.write (x:=l) (e:=l) (by rw[hH];exact trivial) (.inl rfl) (λb' u hb hu=>(Heap.get?_update_other s.heap (Ld f) (Ne.symm hb)).trans hu) ⟨_,q⟩ ?_;exact ⟨hz,its',_,hv,q⟩
theorem Inv.Fi {its:List Kn}{t':Nat}(I:Inv X pins σ H s)(hv:Vals ys its)(hz:ys.length<=sizeLine) :
  Inv X pins σ (upd H s.heap.objs.size (.lst ys)) { s with heap:=s.heap.push { cls:=.type "list",data:=.seq its.toArray },toks:=t' }:=
 I.laid (λ_ _ q=>Kv _ q) (Ku _) ⟨hz,its,0,hv,KZ _ rfl⟩
theorem Inv.fresh (I:Inv X pins σ H s):H s.heap.objs.size=none:=I.bG.fresh (Ku _)
theorem Inv.yC (I:Inv X pins σ H s)(hH:H l=some (.lst xs)):xs.length<=sizeLine/\∃(its:List Kn) (n:Nat),Vals xs its/\xs.length=its.length/\s.heap.get? l=some { cls:=.type "list",data:=.seq its.toArray n }:=by
 obtain ⟨z,its,n,r,e⟩:=I.bG l _ hH;exact ⟨z,its,n,r,r.length,e⟩
theorem t7 {n:Nat}(h:n<=sizeLine):Builtin.List.listTooLong n=false:=by
 unfold Builtin.List.listTooLong;exact decide_eq_false (by lia)
end
section
variable {X:Cx}
noncomputable def xF:V->List V->Hp->VK->Prop:=λx vs H Q=>∃l xs y,x=.ref l/\vs = [y]/\H l=some (.lst xs)/\xs.length<sizeLine/\Q .non (upd H l (.lst (xs++[y])))
theorem jf:JT X "list.append" xF:=by
 intro pins s σ H x vs v us Q I rx rv h;obtain ⟨l,xs,y,rfl,rfl,hH,hz,q⟩:=h;cases rx;obtain ⟨u,rfl,ru⟩:=rv.one;obtain ⟨z,its,n,r,hl,e⟩:=I.yC hH;refine call_meets F.slot_list_append ⟨_,e,rfl⟩ F.entry_list_append (F.args_list_append_2 _ _) (PySem.list_append l its.toArray n u (by rw[KN];lia)) ⟨e,?_⟩;refine ⟨.non,_,I.Ho (its':=its++[u]) hH e (by simp) (r.append (.cons ru .nil)) ?_,rfl,q⟩;rw[KA,Lh];lia
noncomputable def Dl:V->List V->Hp->VK->Prop:=λx vs H Q=>∃l b xs zs,x=.ref l/\vs = [.ref b]/\H l=some (.lst xs)/\H b=some (.lst zs)/\xs.length+zs.length<=sizeLine/\Q .non (upd H l (.lst (xs++zs)))
theorem yF:JT X "list.extend" Dl:=by
 intro pins s σ H x vs v us Q I rx rv h;obtain ⟨l,b,xs,zs,rfl,rfl,hH,hB,hz,q⟩:=h;cases rx;obtain ⟨u,rfl,ru⟩:=rv.one;cases ru;obtain ⟨z,its,n,r,hl,e⟩:=I.yC hH;obtain ⟨z2,its2,n2,r2,hl2,e2⟩:=I.yC hB;have hsz:its.toArray.size+its2.toArray.size<=sizeLine:=by rw[KN,KN];lia
 have hlong:¬(!its.toArray.isEmpty && Builtin.List.listTooLong (its.toArray.size+its2.toArray.size))=true:=by
  rw[t7 hsz,Bool.and_false];exact KY
 refine call_meets F.slot_list_extend ⟨_,e,rfl⟩ F.entry_list_extend (F.args_list_extend_2 _ _)
  (AutoSeq1.list_extend_list_list_0 l its.toArray n b its2.toArray n2 hlong (by rw[KN];lia) (by lia)) ⟨e,e2,?_⟩
 refine ⟨.non,_,I.Ho (its':=its++its2) hH e (by simp) (r.append r2) ?_,rfl,q⟩;rw[KA];lia
noncomputable def Ju:R2:=λx y H Q=>∃l b xs zs,x=.ref l/\y=.ref b/\H l=some (.lst xs)/\H b=some (.lst zs)/\xs.length+zs.length<=sizeLine/\∀p,H p=none->Q (.ref p) (upd H p (.lst (xs++zs)))
theorem AY:iq X (binaryOp .Add) Ju:=by
 intro pins s σ H x y v u Q I rx ry h;obtain ⟨l,b,xs,zs,rfl,rfl,hH,hB,hz,q⟩:=h;cases rx;cases ry;obtain ⟨z,its,n,r,hl,e⟩:=I.yC hH;obtain ⟨z2,its2,n2,r2,hl2,e2⟩:=I.yC hB;refine PySem.P.add_list e e2 ?_ (by rw[KN,KN];lia);have ea:its.toArray++its2.toArray=(its++its2).toArray:=by simp
 rw[ea];exact ⟨.ref _,_,I.Fi (t':=s.toks) (r.append r2) (by rw[KA];lia),rfl,q _ I.fresh⟩
noncomputable def Jw:R2:=λx y H Q=>∃l k xs,x=.ref l/\y=.int k/\H l=some (.lst xs)/\-(2 ^ 63)<=k/\k<2 ^ 63/\xs.length*k.toNat<=sizeLine /\
 ∀p,H p=none->Q (.ref p) (upd H p (.lst (Le k.toNat xs).flatten))
theorem len_rep {α:Type}(xs:List α)(k:Nat):(Le k xs).flatten.length=k*xs.length:=by
 induction k with
 | zero=>simp
 | succ k ih=>rw[List.replicate_succ,List.flatten_cons,KA,ih,Nat.succ_mul,Nat.add_comm]
theorem Fz:iq X (binaryOp .Mult) Jw:=by
 intro pins s σ H x y v u Q I rx ry h;obtain ⟨l,k,xs,rfl,rfl,hH,h1,h2,hz,q⟩:=h;cases rx;obtain ⟨t,rfl⟩:=ry;obtain ⟨z,its,n,r,hl,e⟩:=I.yC hH;have hlen:its.toArray.size*k.toNat<=sizeLine:=by rw[KN,<-hl];exact hz
 have hcap:¬its.toArray.size*k.toNat>(2 ^ 63 - 1) / 8:=by
  have:(sizeLine:Nat)<=(2 ^ 63 - 1) / 8:=by decide
  lia
 have hfit:¬(!Builtin.List.listFitsIndex k)=true:=by
  rw[fitsIndex_both h1 h2];exact KY
 have hlong:¬Builtin.List.listTooLong (its.toArray.size*k.toNat)=true:=by
  rw[t7 hlen];exact KY
 have hnew:List.foldl (λx1 x2=>x1++x2) #[] (Le (if its.toArray.isEmpty=true then 0 else k.toNat) its.toArray)=(Le k.toNat its).flatten.toArray:=by
  have f0:∀m:Nat,List.foldl (λx1 x2=>x1++x2) #[] (Le m its.toArray)=(Le m its).flatten.toArray:=λm=>by
   have:=foldl_rep its m [];rw[List.nil_append] at this;exact this
  rw[f0];cases its with
  | nil=>simp
  | cons a r'=>rw[if_neg (by simp)]
 refine wpAny_binaryOp_repeat_ref (T:="list") (U:="int") (by decide) ⟨_,e,rfl⟩ (λs'=>typeIs_int s' k t) noFill_list_mul F.fills_int_mul F.slot_int_rmul repeat_list F.slot_int_index.lookup
  (call_meets F.slot_int_rmul (typeIs_int s k t) F.entry_int_rmul (F.args_int_rmul_2 _ _) (int___rmul___int_list k t l its.toArray n)
   ⟨e,rfl,⟨_,e,rfl⟩,call_meets F.slot_list_mul ⟨_,e,rfl⟩ F.entry_list_mul (F.args_list_mul_2 _ _) (AutoListH.list___mul___list_int_3 l its.toArray n k t hfit hcap hlong) ⟨e,?_⟩⟩)
 rw[hnew];exact ⟨.ref _,_,I.Fi (t':=s.toks) (r.rep k.toNat) (by rw[len_rep,Nat.mul_comm];exact hz),rfl,q _ I.fresh⟩
end
section
variable {prog:KP} {w:K7} {A:K1} {E:Kn->Kp->Prop} {s:Kp}
end
section
variable {X:Cx}
end
end L2
namespace Att
open PySem PySem.W PySem.Calls PyProof.Rows
theorem mw {P:Params}{h:Heap}:∀(ns:List Int) (vs:List Kn),WellAll P h vs (ns.map WData.int)->IntsAre vs ns:=by
 intro ns;induction ns with
 | nil =>
  intro vs w;rw[List.map_nil] at w;cases w;exact .nil
 | cons n ns ih =>
  intro vs w;rw[K3] at w;cases w with
  | cons a b =>
   cases a;exact .cons _ _ (ih _ b)
theorem yV {l:OpenLaw}{n:Nat}(hn:l.most=some n){P:Params}{h:Heap}{args:List WData}{vals:List Kn}
  (hpre:l.row.toRowW.claim.pre args=true) (hwl:WellAll P h vals args) :
  ∃a vs ns,vals = [Value.ref a]/\args = [WData.list (ns.map WData.int)]/\h.get? a=some { cls:=.type "list",data:=.seq vs.toArray }/\IntsAre vs ns/\ns.length<=n:=by
 have hsh:WShape.hasAll [] args [.list .int]=true:=(pre_splitW hpre).1;have hc:l.pre.holds [] { args:=args }=true:=(pre_splitW hpre).2;obtain ⟨d,r,rfl,h1,h2⟩:=hasAllW_cons hsh;obtain rfl:=hasAllW_nil h2;obtain ⟨xs,rfl,h3⟩:=hasW_list h1;obtain ⟨ns,rfl⟩:=items_int h3;have hlen:ns.length<=n:=by
  unfold OpenLaw.pre at hc;have h4:(WTm.not (.lt (.lit (.int (n:Int))) (.len (.arg 0)))).holds [] { args:=[.list (ns.map .int)] }=true:=by
   have h4:=(holds_andW hc).1;rw[hn] at h4;exact h4
  have h5:=condW_of h4 (w_not (w_lt w_lit (w_len_list (w_arg rfl))));rw[Ks] at h5;refine Nat.le_of_not_lt λq=>?_;have q':(n:Int)<((ns.length:Nat):Int):=by lia
  first
   | (rw[decide_eq_true q'] at h5;exact absurd h5 (by decide))
   | (simp at h5;lia)
 cases hwl with
 | cons w1 w2 =>
  cases w2;cases w1 with
  | list ho hall=>exact ⟨_,_,ns,rfl,rfl,ho,mw ns _ hall,hlen⟩
theorem yM (l:OpenLaw)(args:List WData):l.row.toRowW.claim.post args (.bool true) args=true:=
 postW_of (r:=l.row.toRowW) (X:=(true == true))
  (show WShape.has [] (.bool true) .bool=true by first | rfl | decide | simp[WShape.has,WShape.arms,WShape.armsAll])
  (show (WTm.eq .res (.lit (.bool true))).value [] { args:=args,res:=some (.bool true),after:=args }=some (.bool (true == true)) from w_eq_bool (w_res rfl) w_lit) rfl
theorem rZ {l:OpenLaw}{n:Nat}{q:KP}{loose:List Str}{XP:(Str->Option Kn)->Heap->Prop}{YP:K7->Heap->Prop}{d:DefRec}
  (hn:l.most=some n) (hdf:d.params.defaults = [])
  (call:∀(w:K7) (s₀ s₁:Kp) (mg mb:Str->Option Kn) (fa:Addr) (o:Obj) (pm cd doc:Kn) (a:Addr) (vs:List Kn) (ns:List Int),
   Ground q loose [] XP w s₀ mg mb s₁.heap->YP w s₁.heap ->
   s₁.heap.get? fa=some o->o.data=.func (docDef d.name d.params d.body d.scope pm cd doc)->s₁.heap.CodeRec cd d.name->mg d.name=some (.ref fa) ->
   s₁.heap.get? a=some { cls:=.type "list",data:=.seq vs.toArray }->IntsAre vs ns->ns.length<=n->s₁.gens = #[] ->
   codeAny (model l.prog w) callerA (.call (.ref fa) ⟨[.ref a],[]⟩) (λr s'=>r=.ok (.ret (.bool true))/\OldK s₁.heap s'.heap/\s'.os=s₁.os/\AllBare s'.gens) s₁) :
  WalkO q loose XP YP l.row.toRowW d [] (λf vs=>PySem.call f vs):=by
 intro w s₀ s₁ mg mb G Y fa o pm cd doc dV kV ho hd hcd hD hmg hg args vals as hpre hlay hrd hwl hlo;obtain rfl:dV=.none:=Dflts.none hD hdf;obtain rfl:kV=.none:=Dflts.noKw hD;obtain ⟨a,vs,ns,rfl,rfl,hobj,hints,hlen⟩:=yV hn hpre hwl;refine enter_call (codeAny_mono (call w s₀ s₁ mg mb fa o pm cd doc a vs ns G Y ho (fd_plain hd) hcd hmg hobj hints hlen hg) λr s' hq=>?_);obtain ⟨rfl,h2,h3,h4⟩:=hq;exact ⟨.inl ⟨.bool true,.bool true,[],rfl,λ_=>rfl,.bool true,yM l _,λ_=>⟨List.Pairwise.nil,λ_ hm=>(nomatch hm)⟩⟩,h2,h3,h4⟩
section
variable {prog:KP} {w:K7} {A:K1} {E:Kn->Kp->Prop} {s:Kp} {K:Frag}
end
end Att
namespace L2
open PySem PySem.Spec PyProof.Rows
theorem ql:∀{vs:List Kn} {ns:List Int},IntsAre vs ns->Vals (ns.map V.int) vs
 | _,_,.nil=>.nil
 | _,_,.cons n t h=>.cons ⟨t,rfl⟩ (ql h)
end L2
namespace L2
open PySem PySem.Spec PyProof.Rows
end L2
namespace L2
open PySem PySem.Spec PyProof.Rows
noncomputable def ba (s:Stmt):Arguments:=match s with
 | .FunctionDef _ a _ _ _ _ _ _ _ _=>a
 | _=>{ posonlyargs:=[],args:=[],vararg:=none,kwonlyargs:=[],kw_defaults:=[],kwarg:=none,defaults:=[] }
noncomputable def aN (s:Stmt):List Stmt:=match s with
 | .FunctionDef _ _ b _ _ _ _ _ _ _=>b
 | _=>[]
noncomputable def aj (s:Stmt):Scope:=match s with
 | .FunctionDef _ _ _ _ _ _ sc _ _ _=>sc
 | _=>{ kind:=.function,names:=[],isGenerator:=false,isCoroutine:=false }
noncomputable abbrev iu:BJ:=λ_ _ _ _ _ _=>False
noncomputable abbrev E0:XK:=λ_ _ _=>False
theorem HB {X:Cx}:Passes iu X E0:=λ_ _ _ _ _ _ _ h=>h.elim
structure lP (K:Frag)(x qual:Str)(st:Stmt)(f:Addr)(fd:FuncData):Prop where
 ex:∃(oc:Kn) (od:Option Addr) (kV doc pm:Kn) (an:Option Addr) (cdv ct:Kn) (osl:Array (Option Kn)),
  fd=fnOf x qual (ba st) (aN st) (aj st) .none kV doc pm an cdv ct/\K.lookup f=some ⟨oc,od,.func fd,osl⟩/\codeIn K cdv qual=true
 kp:keepIn K (.ref f)=true
section
variable {P:KP} {w:K7} {K:Frag} {mg:Str->Option Kn} {base:Heap}
theorem lP.ok {x qual:Str}{st:Stmt}{f:Addr}{fd:FuncData}{N ps:List Str}{k:Nat}{sp:Sp}(F:lP K x qual st f fd)(S:bj N ps (aj st))(len:∀vs H Q E,sp vs H Q E->vs.length=ps.length)
  (hbody:∀(cdv:Kn) (A:K1) (outer:List Env) (s:Kp) (H:Hp) (vs:List V) (Q:VK) (E:XK),cH k (A.deeper (envOfC qual (aj st) s.heap.objs.size f cdv))->sp vs H Q E ->
   ∃t,m8 (qA iu P w K mg base N qual (aj st) f cdv A outer s H E).D9 (aN st) t/\t { nx:=λ_ H'=>Q .non H',rt:=Q } (start N vs) H):cL P w K mg base iu (k+1) f fd ps sp:=by
 obtain ⟨oc,od,kV,doc,pm,an,cdv,ct,osl,rfl,lk,hcd⟩:=F.ex;refine D3 lk hcd S len λA outer s H vs Q E hr hsp=>?_;obtain ⟨t,h,q⟩:=hbody cdv A outer s H vs Q E hr hsp;exact ⟨t,h.D9,q⟩
theorem lP.binds {x qual:Str}{st:Stmt}{f:Addr}{fd:FuncData}{ps:List Str}(F:lP K x qual st f fd)
  (h:∀(kV doc pm:Kn) (an:Option Addr) (cdv ct:Kn) (us:List Kn),us.length=ps.length->bindArgs (fnOf x qual (ba st) (aN st) (aj st) .none kV doc pm an cdv ct) ⟨us,[]⟩=pure (ps.zip us)):Binds K fd ps []:=by
 obtain ⟨oc,od,kV,doc,pm,an,cdv,ct,osl,rfl,lk,hcd⟩:=F.ex;exact .all (h kV doc pm an cdv ct)
theorem cy {x qual:Str}{st:Stmt}{f:Addr}{oc:Kn}{od an:Option Addr}{osl:Array (Option Kn)}{kV doc pm cdv ct:Kn}(l:K.lookup f=some ⟨oc,od,.func (fnOf x qual (ba st) (aN st) (aj st) .none kV doc pm an cdv ct),osl⟩)
  (c:codeIn K cdv qual=true) (k:keepIn K (.ref f)=true):lP K x qual st f (fnOf x qual (ba st) (aN st) (aj st) .none kV doc pm an cdv ct):=⟨⟨oc,od,kV,doc,pm,an,cdv,ct,osl,rfl,l,c⟩,k⟩
end
theorem kC {A:K1}{k:Nat}(hr:cH k A):A.units+1<cLine:=Nat.lt_of_le_of_lt (Nat.add_le_add_left (by decide:1<=64) _) hr.units
theorem yY {n:Nat}(h:n<=1000):n<sizeLine:=Nat.lt_of_le_of_lt h (by decide)
section
variable {X:Cx}
theorem pv (i:Nat){x:Str}{pos:Pos}(hN:autoParam (X.N[i]?=some x) aZa._auto_1)(hv:autoParam (rV X.env.scope x) aZf._auto_1)(hd:autoParam ((x == ("__debug__" : Str))=false) aZb._auto_1)
  (hcd:autoParam ((x == ("__classdict__" : Str))=false) aZb._auto_1):PE X (.Name x pos) (Dy i):=cM hN hv hd hcd
end
theorem tG {A B:Prop}(h:B):if false=true then A else B:=by
 rw[if_neg KY];exact h
theorem tH {A B:Prop}(h:A):if true=true then A else B:=by
 rw[if_pos rfl];exact h
noncomputable def ar (H H':Hp):Prop:=∀b o,H b=some o->H' b=some o
theorem ar.refl (H:Hp):ar H H:=λ_ _ h=>h
theorem ar.trans {H H1 H2:Hp}(a:ar H H1)(b:ar H1 H2):ar H H2:=λc o h=>b c o (a c o h)
theorem ar.free {H H':Hp}(e:ar H H'){l:Addr}(h:H' l=Option.none):H l=Option.none:=by
 cases q:H l with
 | none=>rfl
 | some o =>
  rw[e l o q] at h;cases h
theorem ar.seq {K:Frag}{H H':Hp}{a:Addr}{xs:List V}(e:ar H H')(h:dc K H a xs):dc K H' a xs:=by
 rcases h with (h | ⟨o,h⟩) | h
 .exact .inl (.inl (e _ _ h))
 .exact .inl (.inr ⟨o,e _ _ h⟩)
 .exact .inr h
end L2
namespace L2
open PySem PySem.Spec PyProof.Rows
noncomputable def rW (X:Cx)(scope:Scope)(N':List Str)(cl:List (Str×Addr))(fp:List Addr)(C:Addr)(s:Kp)(H:Hp):Cx:=
 { X with N:=N',s₀:=s,H₀:=H,env:=compEnvC scope cl C X.env,outer:=X.stack,stack:=X.stack,ex:=fp,fn:=λ_=>false,pn:=[],xe:=λ_ _=>False }
noncomputable def i9 (sc0:Scope)(N0:List Str)(scope:Scope)(N':List Str)(fr:List (Option Nat)):Bool:=
 decide (scope.kind=.function) && scope.names.all (λy=>decide (y.2≠.cell)) && scope.names.all (λy=>decide (y.2=.local->scope.names.lookup y.1=some .local)) &&
 scope.names.all (λy=>decide (y.2=.free->(sc0.names.lookup y.1=some .cell\/sc0.names.lookup y.1=some .free))) && decide (fr.length=N'.length) &&
 (K6 N'.length).all (λi=>match fr[i]?,N'[i]? with
  | some (some j),some x=>decide (N0[j]?=some x) && decide (scope.names.lookup x=some .free) && decide (sc0.names.lookup x=some .cell\/sc0.names.lookup x=some .free)
  | _,_=>true)
structure kW (sc0:Scope)(N0:List Str)(scope:Scope)(N':List Str)(fr:List (Option Nat)):Prop where
 kind:scope.kind=.function
 AV:∀y∈scope.names,y.2≠.cell
 names:∀y∈scope.names,y.2=.local->scope.names.lookup y.1=some .local
 frees:∀y∈scope.names,y.2=.free->(sc0.names.lookup y.1=some .cell\/sc0.names.lookup y.1=some .free)
 len:fr.length=N'.length
 fix:∀(i j:Nat) (x:Str),fr[i]?=some (some j)->N'[i]?=some x->N0[j]?=some x/\scope.names.lookup x=some .free/\(sc0.names.lookup x=some .cell\/sc0.names.lookup x=some .free)
theorem pz {sc0:Scope}{N0:List Str}{scope:Scope}{N':List Str}{fr:List (Option Nat)}(h:i9 sc0 N0 scope N' fr=true):kW sc0 N0 scope N' fr:=by
 unfold i9 at h;rw[La,La,La,La,La] at h;obtain ⟨⟨⟨⟨⟨h1,h2⟩,h3⟩,h4⟩,h5⟩,h6⟩:=h;refine ⟨of_decide_eq_true h1,λy hy=>of_decide_eq_true (List.all_eq_true.mp h2 y hy),λy hy=>of_decide_eq_true (List.all_eq_true.mp h3 y hy),λy hy=>of_decide_eq_true (List.all_eq_true.mp h4 y hy),of_decide_eq_true h5,λi j x e1 e2=>?_⟩;have hi:i<N'.length:=(Kw.mp e2).1;have q:=List.all_eq_true.mp h6 i (mem_range.mpr hi);rw[e1,e2] at q;dsimp only at q;rw[La,La] at q;exact ⟨of_decide_eq_true q.1.1,of_decide_eq_true q.1.2,of_decide_eq_true q.2⟩
noncomputable def rX (env:Env):List (Str×NameKind)->List (Str×Addr)->List (Str×Addr)
 | [],cs=>cs
 | (n,k)::r,cs=>if k=.free then rX env r ((n,(env.cells.lookup n).getD 0)::cs) else rX env r cs
theorem mem_of_lookup {α:Type}:∀{l:List (Str×α)} {x:Str} {v:α},l.lookup x=some v->(x,v)∈l
 | [],_,_,h=>by simp at h
 | (y,w)::r,x,v,h=>by
  cases hx:x == y with
  | true =>
   simp only[lookup_cons,hx] at h;cases h;rw[beq_iff_eq.mp hx];exact mem_cons_self
  | false =>
   simp only[lookup_cons,hx] at h;exact K8 _ (mem_of_lookup h)
theorem qx {env:Env}:∀{l:List (Str×NameKind)} {cs:List (Str×Addr)} {p:Str×Addr},p∈rX env l cs->p∈cs\/(∃y∈l,y.2=.free/\p=(y.1,(env.cells.lookup y.1).getD 0))
 | [],_,_,h=>.inl h
 | (n,k)::r,cs,p,h=>by
  unfold rX at h;by_cases hk:k=.free
  .rw[if_pos hk] at h;rcases qx h with q | ⟨y,hy,e1,e2⟩
   .rcases KQ.mp q with q | q
    .exact .inr ⟨(n,k),mem_cons_self,hk,q⟩
    .exact .inl q
   .exact .inr ⟨y,K8 _ hy,e1,e2⟩
  .rw[if_neg hk] at h;rcases qx h with q | ⟨y,hy,e1,e2⟩
   .exact .inl q
   .exact .inr ⟨y,K8 _ hy,e1,e2⟩
theorem nu {env:Env}:∀{l:List (Str×NameKind)} {cs:List (Str×Addr)} {p:Str×Addr},p∈cs->p∈rX env l cs
 | [],_,_,h=>h
 | (n,k)::r,cs,p,h=>by
  unfold rX;by_cases hk:k=.free
  .rw[if_pos hk];exact nu (K8 _ h)
  .rw[if_neg hk];exact nu h
theorem mF {env:Env}:∀{l:List (Str×NameKind)} {cs:List (Str×Addr)} {x:Str},(x,NameKind.free)∈l->(x,(env.cells.lookup x).getD 0)∈rX env l cs
 | [],_,_,h=>nomatch h
 | (n,k)::r,cs,x,h=>by
  unfold rX;rcases KQ.mp h with q | q
  .cases q;rw[if_pos rfl];exact nu mem_cons_self
  .by_cases hk:k=.free
   .rw[if_pos hk];exact mF q
   .rw[if_neg hk];exact mF q
theorem fX {α:Type}:∀{l:List (Str×α)} {x:Str} {v:α},(x,v)∈l->∃w,l.lookup x=some w
 | [],_,_,h=>nomatch h
 | (y,w)::r,x,v,h=>by
  cases hx:x == y with
  | true=>exact ⟨w,by simp[lookup_cons,hx]⟩
  | false =>
   rcases KQ.mp h with q | q
   .cases q;simp at hx
   .obtain ⟨w',e⟩:=fX q;exact ⟨w',by simp[lookup_cons,hx,e]⟩
theorem jB {env:Env}:∀(l:List (Str×NameKind)) (cs:List (Str×Addr)),(∀y∈l,y.2=.free->∃c,env.cells.lookup y.1=some c) ->
    (forIn l cs λ(x:Str×NameKind) (r:List (Str×Addr))=>(if (x.2 == NameKind.free)=true then do let a <-cellOf env x.1;pure (ForInStep.yield ((x.1,a)::r)) else pure (ForInStep.yield r):Sem (ForInStep (List (Str×Addr)))))=pure (rX env l cs)
  | [],cs,_=>rfl
  | (n,k)::r,cs,h=>by
    rw[List.forIn_cons];by_cases hk:k=.free
    · subst hk;obtain ⟨c,e⟩:=h (n,.free) mem_cons_self rfl;have hc:cellOf env n=pure c:=by unfold cellOf;rw[e]
      have ih:=jB r ((n,c)::cs) λy hy=>h y (K8 _ hy);simp only[beq_self_eq_true,if_true,hc];unfold rX;rw[if_pos rfl,e];exact ih
    · have hb : (k == NameKind.free) = false := by simpa using hk
      have ih:=jB r cs λy hy=>h y (K8 _ hy);simp only[hb,KL,if_false];unfold rX;rw[if_neg hk];exact ih
theorem nv {scope:Scope}{env:Env}(h:∀y∈scope.names,y.2=.free->∃c,env.cells.lookup y.1=some c):closureFor scope env=pure (rX env scope.names []):=by
 unfold closureFor;have:=jB scope.names [] h;first
  | (rw[this];rfl)
  | (refine Eq.trans ?_ this;rfl)
  | (simp only[this];rfl)
theorem i8 {env:Env}{l:List (Str×NameKind)}(h:∀y∈l,y.2=.free->∃c,env.cells.lookup y.1=some c){x:Str}{c:Addr}(e:(rX env l []).lookup x=some c):env.cells.lookup x=some c:=by
 rcases qx (mem_of_lookup e) with q | ⟨y,hy,e1,e2⟩
 .exact nomatch q
 .obtain ⟨c',ec⟩:=h y hy e1;have e3:x=y.1:=congrArg Prod.fst e2;have e4:c=(env.cells.lookup y.1).getD 0:=congrArg Prod.snd e2;rw[ec] at e4;rw[e3,ec,e4];rfl
theorem rE {scope:Scope}{env:Env}{x:Str}:scope.names.lookup x=some .free->(relabel scope env).names.lookup x=some .cell\/(relabel scope env).names.lookup x=some .free:=by
 show scope.names.lookup x=some .free->(scope.names.map _).lookup x=_\/(scope.names.map _).lookup x=_;induction scope.names with
 | nil=>intro h;simp at h
 | cons p r ih =>
  intro h;obtain ⟨n,k⟩:=p;rw[K3];cases hx:x == n with
  | true =>
   simp only[lookup_cons,hx] at h;cases h;dsimp only;split
   .exact .inl (by simp[lookup_cons,hx])
   .exact .inr (by simp[lookup_cons,hx])
  | false =>
   simp only[lookup_cons,hx] at h;dsimp only;split<;>(simp only[lookup_cons,hx];exact ih h)
theorem rD {scope:Scope}{env:Env}{x:Str}(nc:∀y∈scope.names,y.2≠.cell):((relabel scope env).names.lookup x=some .cell\/(relabel scope env).names.lookup x=some .free)->scope.names.lookup x=some .free:=by
 show ((scope.names.map _).lookup x=_\/(scope.names.map _).lookup x=_)->_;revert nc;induction scope.names with
 | nil=>intro _ h;simp at h
 | cons p r ih =>
  intro nc h;obtain ⟨n,k⟩:=p;rw[K3] at h;have ih':=ih (λy hy=>nc y (K8 _ hy));cases hx:x == n with
  | true =>
   simp only[lookup_cons,hx];dsimp only at h;by_cases hc:(k == NameKind.free && env.scope.kind == .function && env.kindOf n == some .cell)=true
   .simp only[La] at hc;have:k=.free:=by simpa using hc.1.1
    rw[this]
   .rw[if_neg hc] at h;simp only[lookup_cons,hx] at h;rcases h with h | h
    .cases h;exact absurd rfl (nc (n,.cell) mem_cons_self)
    .exact h
  | false =>
   simp only[lookup_cons,hx];dsimp only at h;refine ih' ?_;by_cases hc:(k == NameKind.free && env.scope.kind == .function && env.kindOf n == some .cell)=true
   .rw[if_pos hc] at h;simpa only[lookup_cons,hx] using h
   .rw[if_neg hc] at h;simpa only[lookup_cons,hx] using h
theorem Un.but {fs ex:List Addr}{H H':Hp}{h h1 h2:Heap}{C:Addr}(u:Un fs ex H H' h h1)(sb:Heap.SameBut C h1 h2)(hC:h.objs.size<=C):Un fs ex H H' h h2:=by
 have ne:∀b o,h.get? b=some o->b≠C:=λb o e=>KR (KW (KG e) hC);refine ⟨λb o e n hb hx=>(sb.2 b (ne b o e)).trans (u.keep b o e n hb hx),λb o e n hb hx=>?_,u.free,λb o e hx=>?_,u.rS,u.oM,u.oB⟩
 .obtain ⟨sl,q⟩:=u.slot b o e n hb hx;exact ⟨sl,(sb.2 b (ne b o e)).trans q⟩
 .obtain ⟨o',q⟩:=u.there b o e hx;exact ⟨o',(sb.2 b (ne b o e)).trans q⟩
theorem jr.but {P:KP}{w:K7}{H:Hp}{h1 h2:Heap}{C:Addr}(x:jr P w H h1)(hC:H C=none)(sb:Heap.SameBut C h1 h2):jr P w H h2:=λb ob e=>by
 refine (x b ob e).dD (λc w' hc q=>(sb.2 c ?_).trans q) (λ_ q=>q) λ_ _ q=>q;rintro rfl;rcases hc with rfl | hc
 .rw[hC] at e;cases e
 .rw[hC] at hc;cases hc
noncomputable def mq (fr:List (Option Nat))(σ:St):St:=fr.map λo=>match o with | none=>none | some j=>(σ[j]?).getD none
theorem Ap {fr:List (Option Nat)}{σ:St}{i:Nat}{v:V}(e:(mq fr σ)[i]?=some (some v)):∃j,fr[i]?=some (some j)/\σ[j]?=some (some v):=by
 unfold mq at e;rw[KS] at e;cases q:fr[i]? with
 | none=>rw[q] at e;cases e
 | some o =>
  rw[q] at e;cases o with
  | none=>cases e
  | some j =>
   refine ⟨j,rfl,?_⟩;have e':(σ[j]?).getD none=some v:=Option.some.inj e;cases r:σ[j]? with
   | none=>rw[r] at e';cases e'
   | some y=>rw[r] at e';rw[<-e'];rfl
section
variable {X:Cx} {pins:List (Addr×Obj)} {σ:St} {H:Hp} {s:Kp}
theorem EC {scope:Scope}{N':List Str}{fr:List (Option Nat)}{fp:List Addr}(I:Inv X pins σ H s)(S:kW X.env.scope X.N scope N' fr)(hf:∀b∈fp,jV X pins H b)(ho:∀b∈fp,∃o,s.heap.get? b=some o) :
  (rW X scope N' (rX X.env scope.names []) fp s.heap.objs.size s H).Ok:=by
 have has:∀y∈scope.names,y.2=.free->∃c,X.env.cells.lookup y.1=some c:=λy hy hk=>I.ok.has y.1 (S.frees y hy hk);refine ⟨I.ok.mod,S.kind,I.ok.glob,I.ok.blt,Ku _,λx y c e1 e2=>I.ok.inj x y c (i8 has e1) (i8 has e2),λx hx=>?_,λx c hx=>(nomatch hx),I.ok.hd,I.ok.frames,.inl rfl,λb hb=>⟨?_,λx c e=>(hf b hb).2.2.2.2.1 x c (i8 has e)⟩,I.bs,Nat.le_trans I.ok.DP I.sz,λb o e hb=>?_,λb hb hz=>?_,I.stack,I.xP⟩
 .have q:=rD (env:=X.env) S.AV (x:=x) hx;exact fX (mF (mem_of_lookup q))
 .obtain ⟨o,e⟩:=ho b hb;exact KR (KG e)
 .rcases (hf b hb).2.2.2.1 with z | z
  .exact I.ok.AW b o e z
  .exact absurd (KW (KG e) (Nat.le_trans I.ok.DP z)) (Nat.lt_irrefl _)
 .rcases KQ.mp (I.vO b hz) with z | z
  .exact (hf b hb).2.1 z
  .exact (hf b hb).2.2.1 z
theorem xX {scope:Scope}{N':List Str}{fr:List (Option Nat)}{fp:List Addr}{h₁:Heap}{m₁:Str->Option Kn}{tk:Nat}(I:Inv X pins σ H s)(S:kW X.env.scope X.N scope N' fr)(hf:∀b∈fp,jV X pins H b)(ho:∀b∈fp,∃o,s.heap.get? b=some o)
  (hn:h₁.Ns s.heap.objs.size m₁) (hk:∀b o,s.heap.get? b=some o->h₁.get? b=some o) :
  Inv (rW X scope N' (rX X.env scope.names []) fp s.heap.objs.size s H) [] (mq fr σ) H { s with heap:=h₁,toks:=tk }:=by
 have has:∀y∈scope.names,y.2=.free->∃c,X.env.cells.lookup y.1=some c:=λy hy hk=>I.ok.has y.1 (S.frees y hy hk);have cellK:∀c v,s.heap.IsCell c v->h₁.IsCell c v:=by rintro c v ⟨o,e,d⟩;exact ⟨o,hk c o e,d⟩
 refine ⟨EC I S hf ho,rfl,I.bare,Un.kept hk,⟨m₁,hn,λi x v e1 e2 e3=>?_⟩,λx c e=>?_,I.bG.fresh (Ku _),λx c e=>I.jy x c (i8 has e),λp hp=>(nomatch hp),I.bG.kept hk,?_⟩
 .obtain ⟨j,q1,q2⟩:=Ap e2;obtain ⟨z1,z2,z3⟩:=S.fix i j x q1 e1;obtain ⟨m,hm,hl⟩:=I.loc;obtain ⟨u,ru,lk⟩:=hl j x v z1 q2 (.inr z3);refine ⟨u,ru,.inr ⟨rE (env:=X.env) z2,?_⟩⟩;rcases lk with ⟨k,_⟩ | ⟨k,c,e,z⟩
  .have k':X.env.scope.names.lookup x=some .local:=k;rcases z3 with z3 | z3<;>(rw[z3] at k';cases k')
  .obtain ⟨c',ec⟩:=fX (mF (env:=X.env) (cs:=[]) (mem_of_lookup z2));have:=i8 has ec;rw[e] at this;cases this;exact ⟨c,ec,cellK c _ z⟩
 .obtain ⟨v,z⟩:=I.cell x c (i8 has e);exact ⟨v,cellK c v z⟩
 .show (mq fr σ).length=N'.length;unfold mq;rw[Ks];exact S.len
end
noncomputable def uN (X:Cx)(ifs:List Expr)(t:TT):Prop:=
  ∀(pins:List (Addr×Obj)) (s:Kp) (σ:St) (H:Hp) (Q:Bool->Hp->Prop),Inv X pins σ H s->t σ H Q ->
    wpAny (model X.prog X.w) X.A (forIn ifs true λc r=>if r=true then do let ok <-isTrue c X.env (eval c X.env);pure (ForInStep.yield ok) else pure (ForInStep.yield r)) (TP X pins σ Q) X.xe s
noncomputable def Ij:TT:=λ_ H Q=>Q true H
theorem A9 {X:Cx}:uN X [] Ij:=λ_ _ _ H _ I h=>wpAny_tests_nil ⟨H,I,h⟩
theorem Ba {X:Cx}{c:Expr}{t:TT}(h:PT X c t):uN X [c] t:=λpins s σ H Q I q=>wpAny_tests_one (h pins s σ H Q I q)
section
variable {prog:KP} {w:K7} {A:K1} {R:Result->Kp->Prop} {s:Kp}
theorem sj {elt target iter:Expr}{ifs:List Expr}{scope:Scope}{pos:Pos}{it acc:Kn}{env:Env}(I:Nat->Kp->Prop)
    (turn:∀n s,I n s->wpAny (model prog w) A (pyNext it) (λr s₁=>match r with
      | none=>R (.ok .next) s₁
      | some v=>wpAny (model prog w) A (letOwnedTupleGo target it v) (λ_ s₁'=>wpAny (model prog w) A (assign target env v) (λ_ s₂ =>
          wpAny (model prog w) A (forIn ifs true λc r=>if r=true then do let ok <-isTrue c env (eval c env);pure (ForInStep.yield ok) else pure (ForInStep.yield r)) (λok s₃ =>
            if ok=true then wpAny (model prog w) A (eval elt env) (λx s₄ =>
              wpAny (model prog w) A (call (.builtin "list.append") [acc,x]) (λ_ s₅=>∃m,m<n/\I m s₅) (λ_ _=>False) s₄) (λ_ _=>False) s₃
            else ∃m,m<n/\I m s₃) (λ_ _=>False) s₂) (λ_ _=>False) s₁') (λ_ _=>False) s₁) (λ_ _=>False) s)
    (n:Nat) (h:I n s) :
    codeAny (model prog w) A (.compLoop (.ListComp elt [⟨target,iter,ifs,0⟩] scope pos) 0 it acc env) R s:=by
  refine codeAny_loop rfl I (λn s hI=>?_) n h;show wpAny _ A ((compTurn (.ListComp elt [⟨target,iter,ifs,0⟩] scope pos) 0 it acc env).onRaise (λx=>do noteFrame x env;theTreesLotGoes x)) _ _ s;refine wpAny_noted ?_;rw[compTurn_list];refine wpAny_mono (E:=λ_ _=>False) ?_ (λ_ _ q=>q) (λ_ _ f=>f.elim);refine Ko (wpAny_standAt (Ko (wpAny_mono (turn n s hI) (λr s₁ h₁=>?_) λ_ _ h'=>h')));cases r with
  | none=>exact Kq h₁
  | some v =>
    refine Ko (wpAny_mono h₁ (λ_ s₁' h₁'=>?_) λ_ _ h'=>h');refine Ko (wpAny_mono h₁' (λ_ s₂ h₂=>Ko (wpAny_mono h₂ (λok s₃ h₃=>?_) λ_ _ h'=>h')) λ_ _ h'=>h');cases ok with
    | false=>exact Kq ⟨rfl,h₃⟩
    | true =>
      exact Ko (Ko (wpAny_mono h₃ (λx s₄ h₄=>Ko (wpAny_mono h₄ (λ_ s₅ h₅=>Kq (Kq ⟨rfl,h₅⟩)) λ_ _ h'=>h')) λ_ _ h'=>h'))
end
noncomputable def IL (J:It)(D:Addr)(g:TG)(tc:TT)(te:TE)(Q:Hp->Prop)(σ0:St)(H0:Hp):Prop:=
 ∃W:Nat->Nat->List V->St->Hp->Prop,(∃m,W 0 m [] σ0 H0)/\∀i m ys σ H,W i m ys σ H ->
  ((J.stop i H/\Q H)\/(J.go i H/\∃N:List V->St->Hp->Prop,(∀ys' σ' H',N ys' σ' H'->∃m',m'<m/\W (i+1) m' ys' σ' H')/\∀x H',J.BI i H x H'->g x σ H' λσ2 H2=>tc σ2 H2 λb H3 =>
   if b=true then te σ2 H3 λv H4=>H4 D=some (.lst ys)/\ys.length<sizeLine/\N (ys++[v]) σ2 (upd H4 D (.lst (ys++[v])))
   else N ys σ2 H3))
noncomputable def JH (wi:TI)(fr:List (Option Nat))(g:TG)(tc:TT)(te:TE):TE:=λσ H Q=>wi σ H λJ H1=>∀D,H1 D=none->IL J D g tc te (Q (.ref D)) (mq fr σ) (upd H1 D (.lst []))
theorem zA {X:Cx}{tg iter elt:Expr}{ifs:List Expr}{scope:Scope}{pos:Pos}{g:TG}{tc:TT}{te:TE}{fp:List Addr}{it D:Addr}{tn:Nat->Heap->Prop}{J:It}{Q:Hp->Prop}{σ0:St}{H0:Hp}{s:Kp}{R:Result->Kp->Prop}
  (hxe:X.xe=λ_ _=>False) (hc:X.calm=true) (hpn:X.pn = []) (hex:X.ex=fp) (hg:PG X tg g) (ht:uN X ifs tc) (he:PE X elt te) (T:Turn X.prog X.w X.K tg J fp it tn)
  (hf:∀b∈fp,b≠X.env.locals/\b∉X.fs/\∀x c,X.env.cells.lookup x=some c->c≠b) (hW:IL J D g tc te Q σ0 H0) (B:Inv X [] σ0 H0 s) (st:tn 0 s.heap) (fr:∀b∈fp,H0 b=none)
  (fin:∀σ H s',Inv X [] σ H s'->Q H->R (.ok .next) s') :
  codeAny (model X.prog X.w) X.A (.compLoop (.ListComp elt [⟨tg,iter,ifs,0⟩] scope pos) 0 (.ref it) (.ref D) X.env) R s:=by
 obtain ⟨W,⟨m0,w0⟩,turn⟩:=hW;have stat:∀{H':Hp},(∀b∈fp,H' b=none)->∀b∈fp,jV X [] H' b:=λ{H'} hn b hb =>
  ⟨hn b hb,(hf b hb).1,(hf b hb).2.1,.inl (by rw[hex];exact hb),(hf b hb).2.2,λp hp=>by rw[hpn] at hp;exact nomatch hp⟩
 refine sj (λn s'=>∃i ys σ' H',Inv X [] σ' H' s'/\tn i s'.heap/\(∀b∈fp,H' b=none)/\W i n ys σ' H') ?_ m0 ⟨0,[],σ0,H0,B,st,fr,w0⟩;rintro n s3 ⟨i,ys,σ3,H3,I3,st3,fr3,w3⟩;rcases turn i n ys σ3 H3 w3 with ⟨stop,qn⟩ | ⟨go,N,hN,step⟩
 .refine bU (T.done X rfl rfl rfl hc i [] s3 σ3 H3 _ I3 (stat fr3) st3 stop) ?_;rintro r s4 ⟨hr,I4⟩;subst hr;exact fin σ3 H3 s4 I4 qn
 .refine bU (T.item X rfl rfl rfl hc i [] s3 σ3 H3 _ I3 (stat fr3) st3 go) ?_;rintro r s4 ⟨u,hr,h4⟩;subst hr;refine bU h4 ?_;rintro _ s5 ⟨x,H5,I5,r5,y5,st5,fr5⟩;have I5':=I5.pinned (stat fr5) (T.obj _ _ st5);have q1:=hg _ s5 σ3 H5 x u _ I5' r5 (step x H5 y5);rw[hxe] at q1;refine bU q1 ?_;rintro _ s6 ⟨σ6,H6,I6,q6⟩;have q2:=ht _ s6 σ6 H6 _ I6 q6;rw[hxe] at q2;refine bU q2 ?_;rintro ok s7 ⟨H7,I7,q7⟩;have again:∀{ys':List V} {σ8:St} {H8:Hp} {s8:Kp},Inv X ([]++nX fp s5.heap) σ8 H8 s8->N ys' σ8 H8->∃m,m<n/\∃i ys σ' H',Inv X [] σ' H' s8/\tn i s8.heap/\(∀b∈fp,H' b=none)/\W i m ys σ' H':=λ{ys' σ8 H8 s8} I8 n8=>by
   obtain ⟨m',hm,w8⟩:=hN ys' σ8 H8 n8;refine ⟨m',hm,i+1,ys',σ8,H8,I8.kP,T.keep _ _ _ st5 λb hb o e=>(I8.pin (b,o) (mem_append_right _ (mem_append_right _ (g6 hb e)))).1,λb hb=>?_,w8⟩;obtain ⟨o,e,d⟩:=T.obj _ _ st5 b hb;exact (I8.pin (b,o) (mem_append_right _ (mem_append_right _ (g6 hb e)))).2.1
  cases ok with
  | false=>exact again I7 q7
  | true =>
   have q3:=he _ s7 σ6 H7 _ I7 q7;rw[hxe] at q3;show wpAny _ _ (eval elt X.env) _ _ s7;refine bU q3 ?_;rintro xv s8 ⟨v,H8,I8,r8,hD8,hz8,n8⟩;have q4:=jf (X:=X) _ s8 σ6 H8 (.ref D) [v] (.ref D) [xv] (λ_ H9=>N (ys++[v]) σ6 H9) I8 rfl (.cons r8 .nil) ⟨D,ys,v,rfl,rfl,hD8,hz8,n8⟩;rw[hxe] at q4;refine bU q4 ?_;rintro _ s9 ⟨_,H9,I9,_,n9⟩;exact again I9 n9
section
variable {X:Cx} {tg iter elt:Expr} {ifs:List Expr} {scope:Scope} {pos:Pos} {wi:TI} {g:TG} {tc:TT} {te:TE}
theorem vW {pins:List (Addr×Obj)}{σ:St}{H2:Hp}{s2:Kp}{it:Addr}{fp:List Addr}{tn:Nat->Heap->Prop}{J:It}{Q:Addr->Hp->Prop}{N':List Str}{fr:List (Option Nat)}{RR:Kn->Addr->Result->Kp->Prop}
  (hc:X.calm=true) (S:kW X.env.scope X.N scope N' fr)
  (hg:∀cl fp C s H,PG (rW X scope N' cl fp C s H) tg g) (ht:∀cl fp C s H,uN (rW X scope N' cl fp C s H) ifs tc) (he:∀cl fp C s H,PE (rW X scope N' cl fp C s H) elt te)
  (I2:Inv X pins σ H2 s2) (T:Turn X.prog X.w X.K tg J fp it tn) (st2:tn 0 s2.heap) (f2:∀b∈fp,jV X pins H2 b)
  (h:∀D,H2 D=none->IL J D g tc te (Q D) (mq fr σ) (upd H2 D (.lst [])))
  (fin:∀D C s' m' H',s2.heap.objs.size<=C->C≠D->H' C=none->s'.heap.Ns C m'->(∀h',Heap.SameBut C s'.heap h'->Inv X pins σ H' { s' with heap:=h' })->Q D H'->RR (.ref D) C (.ok .next) s') {E:Kn->Kp->Prop} :
  wpAny (model X.prog X.w) X.A (newList []) (λacc s₃=>wpAny (model X.prog X.w) X.A (newFunctionEnv scope X.env.globals (rX X.env scope.names []) [] X.env.qual none .none (some X.env)) (λcenv s₄ =>
   codeAny (model X.prog X.w) X.A (.compStart (.ListComp elt [⟨tg,iter,ifs,0⟩] scope pos) 0 (.ref it) acc { cenv with scope:=relabel scope X.env }) (RR acc cenv.locals) s₄) E s₃) E s2:=by
 refine wpAny_newObj_type (wpAny_newFunctionEnv S.AV (by intro y hy;simp at hy) (λh₁ hns₁ hsb₁=>?_) S.kind);dsimp only at hns₁ hsb₁ ⊢;have hD:H2 s2.heap.objs.size=none:=I2.bG.fresh (Ku _);have I3:Inv X pins σ (upd H2 s2.heap.objs.size (.lst [])) { s2 with heap:=s2.heap.push { cls:=.type "list",dict:=none,data:=.seq ([]:List Kn).toArray },toks:=s2.toks }:=I2.Fi (its:=[]) .nil (Lc _);generalize hH2:s2.heap.push { cls:=.type "list",dict:=none,data:=.seq ([]:List Kn).toArray }=HH at hns₁ hsb₁ I3 ⊢;have hC:HH.objs.size=s2.heap.objs.size+1:=by rw[<-hH2,Heap.size_push]
 have old:∀b o,HH.get? b=some o->h₁.get? b=some o:=λb o e=>hsb₁.extBut b o (KR (KG e)) (Kv _ e);have old2:∀b o,s2.heap.get? b=some o->HH.get? b=some o:=λb o e=>hH2 ▸ Kv _ e;have ofp:∀b∈fp,∃o,s2.heap.get? b=some o:=λb hb=>by
  obtain ⟨o,e,_⟩:=T.obj _ _ st2 b hb;exact ⟨o,e⟩
 have neD:∀b∈fp,b≠s2.heap.objs.size:=λb hb=>by
  obtain ⟨o,e⟩:=ofp b hb;exact KR (KG e)
 have f3:∀b∈fp,jV X pins (upd H2 s2.heap.objs.size (.lst [])) b:=λb hb=>⟨by rw[au (neD b hb)];exact (f2 b hb).1,(f2 b hb).2⟩
 have ofp3:∀b∈fp,∃o,HH.get? b=some o:=λb hb=>by
  obtain ⟨o,e⟩:=ofp b hb;exact ⟨o,old2 b o e⟩
 have B:=xX (h₁:=h₁) (tk:=s2.toks+([]:List (Str×Kn)).length) I3 S f3 ofp3 hns₁ old;have st1:tn 0 h₁:=T.keep _ _ _ st2 λb hb o e=>old b o (old2 b o e);have loop:codeAny (model X.prog X.w) X.A (.compLoop (.ListComp elt [⟨tg,iter,ifs,0⟩] scope pos) 0 (.ref it) (.ref s2.heap.objs.size) (compEnvC scope (rX X.env scope.names []) HH.objs.size X.env))
   (RR (.ref s2.heap.objs.size) HH.objs.size) { s2 with heap:=h₁,toks:=s2.toks+([]:List (Str×Kn)).length }:=by
  refine zA (X:=rW X scope N' (rX X.env scope.names []) fp HH.objs.size { s2 with heap:=HH,toks:=s2.toks } (upd H2 s2.heap.objs.size (.lst []))) (fp:=fp) rfl hc rfl rfl (hg _ _ _ _ _) (ht _ _ _ _ _) (he _ _ _ _ _) T
   (λb hb=>⟨(B.ok.Iu b hb).1,B.ok.Al b hb,(B.ok.Iu b hb).2⟩) (h _ hD) B st1 (λb hb=>(f3 b hb).1) λσ4 H4 s4 I4 q4=>?_
  obtain ⟨m4,hn4,_⟩:=I4.loc;refine fin _ HH.objs.size s4 m4 H4 (by rw[hC];exact Nat.le_succ _) (by rw[hC];exact Nat.succ_ne_self _) I4.free hn4 (λh' sb=>?_) q4;have u4:Un (zm X.stack) fp (upd H2 s2.heap.objs.size (.lst [])) H4 HH s4.heap:=I4.base;exact I3.GI (s':={ s4 with heap:=h' }) I4.os (u4.but sb (Ku _)) (I4.bG.but I4.free sb) I4.bare λb hb=>⟨(f2 b hb).2.2.2.1,(f2 b hb).2.1,(f2 b hb).2.2.2.2.1,(f2 b hb).2.2.2.2.2⟩
 exact codeAny_compStart_list loop (T.self _ 0 _ _ _ st1 loop)
theorem HE (N':List Str)(fr:List (Option Nat))(hc:X.calm=true)(hi:PI X tg iter wi)
  (hg:∀cl fp C s H,PG (rW X scope N' cl fp C s H) tg g) (ht:∀cl fp C s H,uN (rW X scope N' cl fp C s H) ifs tc) (he:∀cl fp C s H,PE (rW X scope N' cl fp C s H) elt te)
  {sc0:Scope} {N0:List Str} (hsc:autoParam (X.env.scope=sc0) aZa._auto_1) (hN:autoParam (X.N=N0) aZa._auto_1) (bG:autoParam (i9 sc0 N0 scope N' fr=true) aZe._auto_1) (hs:autoParam (∀x,foldedSetIterable iter X.env x=pure x) aZc._auto_1) :
  PE X (.ListComp elt [⟨tg,iter,ifs,0⟩] scope pos) (JH wi fr g tc te):=by
 intro pins s σ H Q I h;have S:kW X.env.scope X.N scope N' fr:=by rw[hsc,hN];exact pz bG
 have has:∀y∈scope.names,y.2=.free->∃c,X.env.cells.lookup y.1=some c:=λy hy hk=>I.ok.has y.1 (S.frees y hy hk);rw[eval_ListComp];refine wpAny_comprehension_free (use:=none) rfl hs (nv has) S.kind S.names (bU (hi pins s σ H _ I h) λv s1 h1=>bU h1 λitv s2 h2=>?_);obtain ⟨it,fp,tn,J,H2,rfl,I2,T,st2,f2,w2⟩:=h2;refine vW (Q:=λD=>Q (.ref D)) (RR:=λacc C=>compPost (model X.prog X.w) X.A X.xe none (EP X pins σ Q) acc C) hc S hg ht he I2 T st2 f2 w2 λD C s' m' H' h1 h2 h3 h4 h5 q=>?_;exact ⟨m',h4,λh' sb=>⟨.ref D,H',h5 h' sb,rfl,q⟩⟩
noncomputable def F0 (i:Nat)(t:TE):TS:=λD σ H=>t σ H λv H1=>D.nx (σ.set i (some v)) H1
theorem Bc {i:Nat}{y:Str}{py spos:Pos}(hNd:X.N.Nodup)(hy:X.N[i]?=some y)(hly:Loc X.env.scope y)(N':List Str)(fr:List (Option Nat))(hc:X.calm=true)(hi:PI X tg iter wi)
    (hg:∀cl fp C s H,PG (rW X scope N' cl fp C s H) tg g) (ht:∀cl fp C s H,uN (rW X scope N' cl fp C s H) ifs tc) (he:∀cl fp C s H,PE (rW X scope N' cl fp C s H) elt te)
    {sc0:Scope} {N0:List Str} (hsw:autoParam (swapsWith (.ListComp elt [⟨tg,iter,ifs,0⟩] scope pos) (some (.Name y py)) spos.line X.env=pure true) aZa._auto_1)
    (hsc:autoParam (X.env.scope=sc0) aZa._auto_1) (hN:autoParam (X.N=N0) aZa._auto_1) (bG:autoParam (i9 sc0 N0 scope N' fr=true) aZe._auto_1) (hs:autoParam (∀x,foldedSetIterable iter X.env x=pure x) aZc._auto_1)
    (hf:autoParam (X.fn y=true\/X.env.scope.names.lookup y=some .local) aZg._auto_1) :
    PS X (.Assign [.Name y py] (.ListComp elt [⟨tg,iter,ifs,0⟩] scope pos) spos) (F0 i (JH wi fr g tc te)):=by
  intro pins s σ H D I h;have S:kW X.env.scope X.N scope N' fr:=by rw[hsc,hN];exact pz bG
  have has:∀y∈scope.names,y.2=.free->∃c,X.env.cells.lookup y.1=some c:=λy hy hk=>I.ok.has y.1 (S.frees y hy hk);rw[exec_Assign_Name_used _ _ _ _ hsw];refine Ko (wpAny_standAt (Ko ?_));show wpAny _ X.A (do let _ <-comprehension (.ListComp elt [⟨tg,iter,ifs,0⟩] scope pos) scope X.env _ (newList []) false (eval iter X.env) (some (assign (.Name y py) X.env))) _ _ s;refine Ko (wpAny_mono (wpAny_comprehension_free (use:=some (assign (.Name y py) X.env)) (Q:=λ_ s'=>SP X pins D .next s') rfl hs (nv has) S.kind S.names
    (bU (hi pins s σ H _ I h) λv s1 h1=>bU h1 λitv s2 h2=>?_)) (λ_ s' hq=>Kq (Kq hq)) λ_ _ e=>e)
  obtain ⟨it,fp,tn,J,H2,rfl,I2,T,st2,f2,w2⟩:=h2;refine vW (Q:=λB H1=>D.nx (σ.set i (some (.ref B))) H1) (RR:=λacc C=>compPost (model X.prog X.w) X.A X.xe (some (assign (.Name y py) X.env)) (λ_ s'=>SP X pins D .next s') acc C) hc S hg ht he I2 T st2 f2 w2 λB C s' m' H' h1 h2 h3 h4 h5 q=>?_;have I5:Inv X pins σ H' { s' with heap:=s'.heap }:=h5 s'.heap (.refl ..);show wpAny _ X.A (assign (.Name y py) X.env (.ref B)) _ _ s';refine wpAny_assign_Name (qh (v:=.ref B) I5 hNd hy hly rfl ?_ hf);rintro s6 I6 ⟨a,sb,ha⟩;have nL:C≠X.env.locals:=Nat.ne_of_gt (KW I2.lt h1);have nC:∀x c,X.env.cells.lookup x=some c->c≠C:=λx c e=>by
    obtain ⟨v,o,ho,_⟩:=I2.cell x c e;exact KR (KW (KG ho) h1)
  have nP:∀p∈X.pn++pins,p.1≠C:=λp hp=>by
    have e:=(I2.pin p hp).1;exact KR (KW (KG e) h1)
  have na:a≠C:=by
    rcases ha with e | e
    · rw[e];exact nL.symm
    · exact nC _ _ e
  refine ⟨m',h4.sameBut sb (Ne.symm na),λh' sb'=>⟨σ.set i (some (.ref B)),H',?_,q⟩⟩;exact I6.turned (t':=s6.toks) (λb o hb e=>(sb'.2 b hb).trans e) h3 nL (.inr (Nat.le_trans I2.sz h1)) nC nP
end
end L2
namespace L2
open PySem PySem.Spec PyProof.Rows
section
variable {X:Cx}
noncomputable def Jz (K:Frag):List V->Hp->VK->Prop:=λxs H Q=>∃(p:Addr) (ns:List Int),xs = [.ref p]/\dc K H p (ns.map V.int)/\Q (.int ns.sum) H
theorem yc (hc:X.calm=true):fe X (.builtin "sum") (Jz X.K):=by
 intro pins s σ H xs us Q I r h;obtain ⟨p,ns,rfl,hp,q⟩:=h;obtain ⟨u,rfl,ru⟩:=vals1 r;cases ru;obtain ⟨its,rv,pl,hz⟩:=I.list hp;have hi:IntsAre its ns:=intsAre_of rv;obtain ⟨zs,e⟩:=hi.allInts.items;refine sum_intListG (I.ok.hd hc) (xs:=zs) (e ▸ pl.isList) λh' tk t' hk=>⟨.int ns.sum,H,I.kept hk,⟨t',?_⟩,q⟩
 have e2:=congrArg Array.toList e;have e3:numsOf (intItems zs).toList=ns:=by rw[<-e];exact hi.numsOf
 rw[nums_intItems] at e3;rw[preSum_eq,take_of_length_le (by simp),e3]
noncomputable def Jv (K:Frag):List V->Hp->VK->Prop:=λxs H Q=>∃x n,xs = [x]/\Gy K x H n/\Q (.int n) H
theorem xZ:fe X (.builtin "len") (Jv X.K):=zC
theorem gF {n:Nat}(h:n<=1000):n<=sizeLine:=Nat.le_of_lt (yY h)
noncomputable def d9 {α:Type}(xs:List α)(lo hi st:Option Int):List α:=(sliceRange (sliceBounds lo hi st xs.length).1 (sliceBounds lo hi st xs.length).2.1 (sliceBounds lo hi st xs.length).2.2).filterMap (λj=>xs[j]?)
theorem jq {xs:List V}{its:List Kn}(r:Vals xs its):∀js:List Nat,Vals (js.filterMap λj=>xs[j]?) (js.filterMap λj=>its[j]?)
 | []=>.nil
 | j::js=>by
  rw[filterMap_cons,filterMap_cons];cases e:xs[j]? with
  | none=>rw[r.none_of e];exact jq r js
  | some x =>
   obtain ⟨u,e1,e2⟩:=r.get e;rw[e1];exact .cons e2 (jq r js)
theorem y7 {α β:Type}(f:α->β)(xs:List α)(lo hi st:Option Int):d9 (xs.map f) lo hi st=(d9 xs lo hi st).map f:=by
 unfold d9;rw[Ks];generalize sliceRange _ _ _=js;induction js with
 | nil=>rfl
 | cons j js ih =>
  rw[filterMap_cons,filterMap_cons,KS];cases xs[j]? with
  | none=>simpa using ih
  | some x=>simpa using ih
theorem y6 {xs:List V}{its:List Kn}(r:Vals xs its)(lo hi st:Option Int):(d9 xs lo hi st).length<=xs.length:=by
 have h:=slicePick_size_le its.toArray lo hi st;have e:Vals (d9 xs lo hi st) (slicePick its.toArray lo hi st).toList:=by
  unfold d9 slicePick;rw[show its.toArray.size=xs.length from r.length.symm];have:=jq r (sliceRange (sliceBounds lo hi st xs.length).1 (sliceBounds lo hi st xs.length).2.1 (sliceBounds lo hi st xs.length).2.2);simpa using this
 have e1:=e.length;have e2:=r.length;rw[e1,KH];have h3:its.toArray.size=its.length:=KN;lia
noncomputable def JN (K:Frag)(te:TE)(tl th ts:TO):TE:=λσ H Q=>te σ H λx H1=>tl σ H1 λl H2=>th σ H2 λu H3=>ts σ H3 λst H4 =>
 ∃a xs,x=.ref a/\dc K H4 a xs/\st≠some 0/\∀p,H4 p=none->Q (.ref p) (upd H4 p (.lst (d9 xs l u st)))
theorem yJ {e:Expr}{te:TE}{lo hi:Option Expr}{st:Expr}{tl th ts:TO}{p2 pos:Pos}(he:PE X e te)(hl:PO X lo tl)(hu:PO X hi th)(hs:PO X (some st) ts):PE X (.Subscript e (.Slice lo hi (some st) p2) pos) (JN X.K te tl th ts):=by
 intro pins s σ H Q I h;refine Subscript_ (bU (he pins s σ H _ I h) ?_);rintro v s1 ⟨x,H1,I1,r1,q1⟩;refine wpAny_Slice (bU (hl pins s1 σ H1 _ I1 q1) λvl s2 ⟨l,H2,I2,pl,q2⟩=>bU (hu pins s2 σ H2 _ I2 q2) λvu s3 ⟨u,H3,I3,pu,q3⟩=>bU (hs pins s3 σ H3 _ I3 q3) ?_);rintro vs s4 ⟨sv,H4,I4,ps,q4⟩;obtain ⟨a,xs,rfl,hx,h0,q⟩:=q4;cases r1;have I5:Inv X pins σ H4 { s4 with heap:=s4.heap.push { cls:=.type "slice",data:=.fields #[vl,vu,vs] } }:=I4.kept (t':=s4.toks) λb ob q=>Kv _ q;obtain ⟨its,r,ht,hz⟩:=I5.list hx;have hlen:=r.length;have hg:wpAny (model X.prog X.w) X.A (getItem (.ref a) (.ref s4.heap.objs.size)) (EP X pins σ Q) X.xe { s4 with heap:=s4.heap.push { cls:=.type "slice",data:=.fields #[vl,vu,vs] } }:=by
  refine wpAny_getItem_list_slice ht.isList (Heap.IsSliceOf.new ..) pl pu ps h0 ?_ (by rw[KN]<;>lia);refine ⟨.ref _,_,I5.laid (t':=s4.toks) (o:=.lst (d9 xs l u sv)) (λb ob q=>Kv _ q) (Ku _) ?_,rfl,q _ (I5.bG.fresh (Ku _))⟩;refine ⟨Nat.le_trans (y6 r l u sv) hz,(slicePick its.toArray l u sv).toList,0,?_,?_⟩
  .unfold d9 slicePick;rw[show its.toArray.size=xs.length from r.length.symm];have:=jq r (sliceRange (sliceBounds l u sv xs.length).1 (sliceBounds l u sv xs.length).2.1 (sliceBounds l u sv xs.length).2.2);simpa using this
  .rw[Array.toArray_toList];exact KZ _ rfl
 show wpAny (model X.prog X.w) X.A (subscriptTail e (.Slice lo hi (some st) p2) (.ref a) (.ref s4.heap.objs.size)) (EP X pins σ Q) X.xe { s4 with heap:=s4.heap.push { cls:=.type "slice",data:=.fields #[vl,vu,vs] } };exact tail_any (ops:=[.ref a,.ref s4.heap.objs.size]) ht.isList.typeIs slot_list_getitem.lookup hg (by with_unfolding_all rfl)
inductive Gj (K:Frag)(H:Hp):Nat->V->V->Prop where
 | sc {n:Nat} {x:V} (f:GZ x=true):Gj K H n x x
 | rf {n:Nat} {a:Addr}:Gj K H n (.ref a) (.ref a)
 | tup {n:Nat} {a b:Addr} {xs ys:List V} (h1:gM K H a xs) (h2:gM K H b ys) (hl:xs.length=ys.length) (h:∀(i:Nat) (x y:V),xs[i]?=some x->ys[i]?=some y->Gj K H n x y):Gj K H (n+1) (.ref a) (.ref b)
 | lst {n:Nat} {a b:Addr} {xs ys:List V} (h1:dc K H a xs) (h2:dc K H b ys) (hl:xs.length=ys.length) (h:∀(i:Nat) (x y:V),xs[i]?=some x->ys[i]?=some y->Gj K H n x y):Gj K H (n+1) (.ref a) (.ref b)
end
end L2
namespace WS
noncomputable abbrev S3:=Int×Int×Int
noncomputable def mx (i j:Int):Int:=if j>i then j else i
noncomputable def EA (b:S3)(L:Int):Int:=b.2.2*mx 0 (b.2.1 - mx b.1 L)
noncomputable def above (bs:List S3)(L:Int):Int:=(bs.map λb=>EA b L).sum
noncomputable def Jd (hs:List S3):List S3:=hs.map λx=>(x.2.1,x.1,x.2.2)
noncomputable def GJ (g:Int)(cs:List S3):List S3:=cs.map λx=>(x.1+g,x.2.1+g,x.2.2)
noncomputable def xf (g:Int)(hs cs:List S3)(L:Int):Int:=above (GJ g cs) L - above (Jd hs) L
structure zq (x:S3):Prop where
 lo:0<=x.2.1
 lt:x.2.1<x.1
 hi:x.1<=200
 r0:1<=x.2.2
 r1:x.2.2<=1000000000
structure kU (x:S3):Prop where
 lo:0<=x.1
 lt:x.1<x.2.1
 hi:x.2.1<=200
 r0:1<=x.2.2
 r1:x.2.2<=1000000000
end WS
namespace L2
open PySem PySem.Spec PyProof.Rows
structure Fn (P:KP)(w:K7)(K:Frag)(mg:Str->Option Kn)(base:Heap)(x:Str)(k:Nat)(ps:List Str)(sp:Sp):Prop where
 ex:∃f fd,cL P w K mg base iu k f fd ps sp/\mg x=some (.ref f)/\keepIn K (.ref f)=true/\Binds K fd ps []
theorem Ea {X:Cx}{x:Str}{k:Nat}{ps:List Str}{sp:Sp}{p pos:Pos}{e:Expr}{es:List Expr}{t:TA}(F:Fn X.prog X.w X.K X.mg X.base x k ps sp)(hr:cH k X.A)(hg:Gl X x)(ha:PA X (e::es) t)
  (hdb:autoParam ((x == ("__debug__" : Str))=false) aZb._auto_1) (he:autoParam (starEach (e::es) X.env=(false,eval e X.env)::starEach es X.env) aZa._auto_1) (hpl:autoParam ((backTo pos (starEach es X.env)).any (·.1)=false) aZa._auto_1) :
  PE X (.Call (.Name x p) (e::es) [] pos) (Ek sp [] E0 t):=by
 obtain ⟨f,fd,G,hm,hk,hb⟩:=F.ex;exact Dd G hr hg hm hk hb .nil HB ha hdb he hpl
theorem eC {P:KP}{w:K7}{K:Frag}{mg:Str->Option Kn}{base:Heap}{x qual:Str}{st:Stmt}{f:Addr}{fd:FuncData}{k:Nat}{ps:List Str}{sp:Sp}(F:lP K x qual st f fd)(hm:mg x=some (.ref f))(hb:Binds K fd ps [])(ok:cL P w K mg base iu k f fd ps sp) :
  Fn P w K mg base x k ps sp:=⟨f,fd,ok,hm,F.kp,hb⟩
theorem d6 {H:Hp}{a:Addr}{o:HO}(h:H a=none):ar H (upd H a o):=λb u e=>by
 rw[au (bp e h)];exact e
theorem ar.upd {H H':Hp}{a:Addr}{o:HO}(s:ar H H')(h:H a=none):ar H (upd H' a o):=λb u e=>by
 rw[au (bp e h)];exact s b u e
end L2
namespace WS
open PySem L2
theorem jI {α β:Type}{F:α->β->Prop}:∀{l:List α} {r:List β} {i:Nat} {a:α},Paired F l r->l[i]?=some a->∃b,r[i]?=some b/\F a b
 | _,_,_,_,.nil,e=>by simp at e
 | _,_,0,_,.cons h _,e=>by simp at e;subst e;exact ⟨_,rfl,h⟩
 | _,_,i+1,a,.cons _ t,e=>by
  obtain ⟨b,h1,h2⟩:=jI (i:=i) (a:=a) t (by simpa using e);exact ⟨b,by simpa using h1,h2⟩
theorem take_snoc {α:Type}{l:List α}{i:Nat}{x:α}(e:l[i]?=some x):l.take (i+1)=l.take i++[x]:=by
 rw[List.take_add_one,e];rfl
end WS
namespace L2
open PySem PySem.Spec PyProof.Rows
section
variable {X:Cx}
theorem sf:∀{bs:List Bool} {its:List Kn},Vals (bs.map V.bl) its->its=bs.map Value.bool
 | [],_,.nil=>rfl
 | b::r,_,.cons e h=>by
  rw[show _=Value.bool b from e,sf h];rfl
theorem all_range (bs:List Bool):(K6 bs.length).all (λi=>bs.getD i true)=bs.all id:=by
 rw[Bool.eq_iff_iff,List.all_eq_true,List.all_eq_true];constructor
 .intro h b hb;obtain ⟨i,hi,e⟩:=List.mem_iff_getElem.mp hb;have:=h i (mem_range.mpr hi);rw[getD_eq_getElem?_getD,Kt hi] at this;rw[<-e];exact this
 .intro h i hi;have hi':=mem_range.mp hi;rw[getD_eq_getElem?_getD,Kt hi'];exact h _ (List.getElem_mem hi')
noncomputable def Jt (K:Frag):List V->Hp->VK->Prop:=λxs H Q=>∃(p:Addr) (bs:List Bool),xs = [.ref p]/\dc K H p (bs.map V.bl)/\Q (.bl (bs.all id)) H
theorem xY (hc:X.calm=true):fe X (.builtin "all") (Jt X.K):=by
 intro pins s σ H xs us Q I r h;obtain ⟨p,bs,rfl,hp,q⟩:=h;obtain ⟨u,rfl,ru⟩:=vals1 r;cases ru;obtain ⟨its,rv,pl,hz⟩:=I.list hp;have e:=sf rv;subst e;have hlt:p<s.heap.objs.size:=by obtain ⟨_,e,_⟩:=pl.isList;exact KG e
 have hh:X.A.in1.handled=none:=I.ok.hd hc;refine call_all_walk (wpAny_pyIter_list pl.isList ?_);refine ⟨_,_,_,_,_,_,λi=>bs.getD i true,rfl,Walks.list (A:=X.A.in1) hh s.heap.objs.size p (KR hlt) (bs.map Value.bool).toArray,⟨⟨_,KZ _ rfl,rfl,rfl⟩,pl.isList.push _⟩,?_,λh' tk hk=>?_⟩
 .intro i v s' Q' E' hv hq;have hv':(bs.map Value.bool)[i]?=some v:=by simpa using hv
  rw[KS] at hv';cases z:bs[i]? with
  | none=>rw[z] at hv';cases hv'
  | some b =>
   rw[z] at hv';have e:v=Value.bool b:=(Option.some.inj hv').symm;subst e;have hq':Q' (bs.getD i true) s':=hq;rw[getD_eq_getElem?_getD,z] at hq';exact wpAny_truthy_bool hq'
 .have e:(K6 (bs.map Value.bool).toArray.size).all (λi=>bs.getD i true)=bs.all id:=by
   rw[KN,Ks];exact all_range bs
  rw[e];refine ⟨.bl (bs.all id),H,I.kept (t':=tk) λb o eb=>hk b o ?_ (Kv _ eb),rfl,q⟩;have:b≠s.heap.objs.size:=KR (KG eb);simpa using this
end
end L2
namespace L2
open PySem PySem.Spec PyProof.Rows
section
variable {X:Cx} {pins:List (Addr×Obj)} {σ:St} {H:Hp} {s:Kp} {h':Heap}
theorem Inv.Ik {t':Nat}{wr:List Addr}{T:Addr}{us:List Kn}{vs:List V}(I:Inv X pins σ H s)(hf:∀b∈wr,jV X pins H b)(k:∀b o,b∉wr->s.heap.get? b=some o->h'.get? b=some o)(hT:s.heap.objs.size<=T)(ht:h'.IsTuple T us.toArray)(r:Vals vs us)(hz:vs.length<=sizeLine) :
  Inv X pins σ (upd H T (.tup vs)) { s with heap:=h',toks:=t' }:=by
 have hn:H T=none:=I.bG.fresh hT;have nit:∀b u,H b=some u->b∉wr:=λb u e z=>by
  have:=(hf b z).1;rw[this] at e;cases e
 refine I.step (g':=s.gens) (d':=s.drawn) (ch:=wr) (λb hb=>⟨(hf b hb).2.2.2.1,(hf b hb).2.1,(hf b hb).2.2.2.2.1,(hf b hb).2.2.2.2.2⟩) (λb o _ _ hc e _=>k b o hc e) (λb o _ _ hc e _=>⟨o.slots,k b o hc e⟩)
  (λb o hc e n=>?_) (λb o hc e=>⟨o,k b o hc e⟩) (λb xs e=>?_) (λb o u e=>?_) (λb ps e=>⟨#[],?_⟩) (λm hm=>?_) (λb u e=>?_) I.bare
 .rw[au (KR (KW (KG e) hT))];exact n
 .rw[au (bp e hn)];exact e
 .rw[au (bp e hn)];exact e
 .rw[au (bp e hn)];simpa using e
 .obtain ⟨o,es,ep,ho,r⟩:=hm;exact ⟨o,es,ep,k _ o (λz=>(hf _ z).2.1 rfl) ho,r⟩
 .by_cases hb:b=T
  .subst hb;rw[aE] at e;cases e;exact ⟨hz,us,r,ht⟩
  .rw[au hb] at e;refine (I.bG b u e).dD (λc v hc q=>k c v ?_ q) (λc q=>by rw[au (bp q hn)];exact q) λc xs q=>by rw[au (bp q hn)];exact q
   rcases hc with z | z
   .rw[z];exact nit b u e
   .exact nit c _ z
theorem Inv.DC {t':Nat}{wr:List Addr}(I:Inv X pins σ H s)(hf:∀b∈wr,jV X pins H b)(k:∀b o,b∉wr->s.heap.get? b=some o->h'.get? b=some o):Inv X pins σ H { s with heap:=h',toks:=t' }:=by
 have nit:∀b u,H b=some u->b∉wr:=λb u e z=>by
  have:=(hf b z).1;rw[this] at e;cases e
 refine I.step (g':=s.gens) (d':=s.drawn) (ch:=wr) (λb hb=>⟨(hf b hb).2.2.2.1,(hf b hb).2.1,(hf b hb).2.2.2.2.1,(hf b hb).2.2.2.2.2⟩) (λb o _ _ hc e _=>k b o hc e) (λb o _ _ hc e _=>⟨o.slots,k b o hc e⟩)
  (λb o hc e n=>n) (λb o hc e=>⟨o,k b o hc e⟩) (λb xs e=>e) (λb o u e=>e) (λb ps e=>⟨#[],by rw[e];simp⟩) (λm hm=>?_) (λb u e=>?_) I.bare
 .obtain ⟨o,es,ep,ho,r⟩:=hm;exact ⟨o,es,ep,k _ o (λz=>(hf _ z).2.1 rfl) ho,r⟩
 .refine (I.bG b u e).dD (λc v hc q=>k c v ?_ q) (λ_ q=>q) λ_ _ q=>q;rcases hc with z | z
  .rw[z];exact nit b u e
  .exact nit c _ z
end
noncomputable def Im (Src:Hp->List (List V)->Prop):It:=
 ⟨λi H=>∃rows row,Src H rows/\rows[i]?=some row,λi H x H'=>∀rows,Src H rows->∃row p,rows[i]?=some row/\H p=none/\x=.ref p/\H'=upd H p (.tup row),λi H=>∃rows,Src H rows/\i=rows.length⟩
theorem Ge {P:KP}{w:K7}{K:Frag}{elts:List Expr}{kx:Nat}{pos:Pos}{e:Addr}{fp wr fpw:List Addr}{Src:Hp->List (List V)->Prop}{core:Nat->Heap->Prop}
  (me:e∈fp) (hwr:∀b∈wr,b∈fp) (src1:∀H r r',Src H r->Src H r'->r=r')
  (obj:∀i h,core i h->∀b∈fp,∃o,h.get? b=some o/\∀v,o.data≠.cell v)
  (keep:∀i h h',core i h->(∀b∈fp,∀o,h.get? b=some o->h'.get? b=some o)->core i h')
  (self:∀(A:K1) (i:Nat) (s:Kp) (Q:Kn->Kp->Prop) (E:Kn->Kp->Prop),core i s.heap->Q (.ref e) s->wpAny (model P w) A (pyIter (.ref e)) Q E s)
  (W:∀(X:Cx),X.prog=P->X.w=w->X.K=K->X.calm=true->∀(i:Nat) (pins:List (Addr×Obj)) (s:Kp) (σ:St) (H:Hp),Inv X pins σ H s->(∀b∈fp,jV X pins H b)->core i s.heap->∀rows,Src H rows ->
   ∃(n:Nat) (Pt:Nat->Array Kn->Prop) (St':Nat->Heap->Prop) (Mid:Nat->Addr->Heap->Prop),WalksT P w X.A e fpw wr n Pt St' Mid/\n=rows.length/\St' i s.heap/\(∀j vals,Pt j vals->∃row us,rows[j]?=some row/\vals=us.toArray/\Vals row us/\row.length<=sizeLine)/\∀j h,St' j h->core j h) :
  Turn P w K (.Tuple elts kx pos) (Im Src) fp e core where
 mem:=me
 obj:=obj
 keep:=keep
 self:=self
 item:=by
  intro X hP hw hK hc i pins s σ H E I hf st hg;obtain ⟨rows,row,hs,hr⟩:=hg;obtain ⟨n,Pt,St',Mid,V,hn,st',hp,back⟩:=W X hP hw hK hc i pins s σ H I hf st rows hs;have hi:i<n:=by rw[hn];exact (Kw.mp hr).1
  refine V.item i s _ E hi st' λT vals h' tk pt hT ht mid kk=>?_;obtain ⟨row',us,hr',rfl,rv,hz⟩:=hp i vals pt;refine ⟨.ref T,rfl,?_⟩;refine V.go elts kx pos i T { s with heap:=h',toks:=tk } _ E mid λh2 st2 k2=>?_;have nT:=V.apart i T h' mid;have ht2:h2.IsTuple T us.toArray:=ht.at λo q=>k2 T o nT q;have I2:Inv X pins σ (upd H T (.tup row')) { s with heap:=h2,toks:=tk }:=I.Ik (λb hb=>hf b (hwr b hb)) (λb o hb q=>k2 b o hb (kk b o hb q)) hT ht2 rv hz;refine ⟨.ref T,_,I2,rfl,λrows2 hs2=>?_,back _ _ st2,λb hb=>?_⟩
  .rw[src1 _ _ _ hs2 hs];exact ⟨row',T,hr',I.bG.fresh hT,rfl,rfl⟩
  .have hbT:b≠T:=by
    rintro rfl;obtain ⟨o,ho,_⟩:=obj _ _ st b hb;exact absurd (KW (KG ho) hT) (Nat.lt_irrefl _)
   rw[au hbT];exact (hf b hb).1
 done:=by
  intro X hP hw hK hc i pins s σ H E I hf st hg;obtain ⟨rows,hs,hr⟩:=hg;obtain ⟨n,Pt,St',Mid,V,hn,st',hp,back⟩:=W X hP hw hK hc i pins s σ H I hf st rows hs;rw[hr,<-hn] at st';exact V.done s _ E st' λh' tk kk=>⟨rfl,I.DC (λb hb=>hf b (hwr b hb)) kk⟩
section
variable {X:Cx}
theorem vV {zs:Array (Int×Tok)}{k:Nat}{v:Kn}(h:(intItems zs)[k]?=some v):(∃t,v=.int (numAt zs k) t)/\numAt zs k∈zs.toList.map (·.1):=by
 refine ⟨intItems_at h,?_⟩;simp only[intItems,Array.getElem?_map,Option.map_eq_some_iff] at h;obtain ⟨p,hp,rfl⟩:=h;rw[numAt_eq];have hp':zs.toList[k]?=some p:=by rw[<-hp];simp
 rw[getD_eq_getElem?_getD,KS,hp'];exact KJ.mpr ⟨p,KC hp',rfl⟩
theorem nR {zs:Array (Int×Tok)}{n:Int}(h:n∈zs.toList.map (·.1)):∃j,j<=zs.size - 1/\numAt zs j=n:=by
 obtain ⟨j,hj⟩:=List.getElem?_of_mem h;have hl:j<zs.size:=by have:=(Kw.mp hj).1;simpa using this
 exact ⟨j,by lia,by rw[numAt_eq,getD_eq_getElem?_getD,hj];rfl⟩
noncomputable def gj (xs:List V):List (List V):=(K6 xs.length).map λi=>[V.int (i:Nat),(xs[i]?).getD .non]
theorem kj {xs:List V}{i:Nat}{x:V}(h:xs[i]?=some x):(gj xs)[i]?=some [.int (i:Nat),x]:=by
 unfold gj;rw[KS,List.getElem?_range (Kw.mp h).1,Option.map_some,h];rfl
theorem km (xs:List V):(gj xs).length=xs.length:=by unfold gj;simp
noncomputable def xO (a:Addr)(H:Hp)(rows:List (List V)):Prop:=∃xs,H a=some (.lst xs)/\rows=gj xs
theorem zf {P:KP}{w:K7}{K:Frag}{elts:List Expr}{kx:Nat}{pos:Pos}(a e it:Addr)(hei:e≠it) :
    Turn P w K (.Tuple elts kx pos) (Im (xO a)) [e,it] e (λi h=>(∃old,IsEnum h e it i old)/\h.IsListIter it a i):=by
  refine Ge (fpw:=[e,it,a]) (wr:=[e,it]) (by simp) (λb hb=>hb) (λH r r' ⟨xs,h1,h2⟩ ⟨ys,h3,h4⟩=>?_) (λi h ⟨⟨old,he⟩,hit⟩ b hb=>?_) (by rintro i h h' ⟨⟨old,he⟩,hit⟩ k;exact ⟨⟨old,k e (by simp) _ he⟩,hit.at λo q=>k it (by simp) o q⟩) (by rintro A i s Q E ⟨⟨old,he⟩,hit⟩ q;exact wpAny_pyIter_enum he q) ?_
  · rw[h1] at h3;cases h3;rw[h2,h4]
  · rcases KQ.mp hb with rfl | hb
    · exact ⟨_,he,λv z=>by have z':Data.fields _=Data.cell v:=z;cases z'⟩
    · have : b = it := by simpa using hb
      subst this;obtain ⟨o,ho,_,hd⟩:=hit;exact ⟨o,ho,λv z=>by rw[hd] at z;cases z⟩
  · intro X hP hw hK hc i pins s σ H I hf st rows ⟨xs,hx,hr⟩;subst hP hw hK;obtain ⟨z,its,n,rv,hl⟩:=I.bG a _ hx;have hlist:s.heap.IsList a its.toArray:=⟨_,hl,rfl,n,rfl⟩
    have nae:a≠e:=λq=>by have:=(hf e (by simp)).1;rw[<-q,hx] at this;cases this
    have nai:a≠it:=λq=>by have:=(hf it (by simp)).1;rw[<-q,hx] at this;cases this
    refine ⟨its.toArray.size,_,_,_,WalksT.enumerate (I.ok.hd hc) e it a hei nae nai its.toArray,by rw[hr,km,KN,rv.length],⟨st.1,st.2,hlist⟩,?_,λj h ⟨h1,h2,_⟩=>⟨h1,h2⟩⟩;rintro j vals ⟨t,x,h1,h2⟩;have h1':its[j]?=some x:=by simpa using h1
    have hj:j<xs.length:=by rw[rv.length];exact (Kw.mp h1').1
    obtain ⟨u,g1,g2⟩:=rv.get (Kt hj);rw[h1'] at g1;cases g1;exact ⟨[.int (j:Nat),xs[j]],[.int j t,x],by rw[hr];exact kj (Kt hj),h2,.cons ⟨t,rfl⟩ (.cons g2 .nil),gF (Lb rfl)⟩
noncomputable def Hd (ta:TA):TI:=λσ H R=>ta σ H λvs H1=>∃a xs,vs = [.ref a]/\H1 a=some (.lst xs)/\R (Im (xO a)) H1
theorem Dg {elts:List Expr}{kx:Nat}{tpos:Pos}{l:Expr}{ta:TA}{p pos:Pos}(hg:Gl X "enumerate")(hm:X.mg "enumerate" = none)(ha:PA X [l] ta)(hs:autoParam (starEach [l] X.env = [(false,eval l X.env)]) aZa._auto_1):PI X (.Tuple elts kx tpos) (.Call (.Name "enumerate" p) [l] [] pos) (Hd ta):=by
  intro pins s σ H R I h;refine Call_ (gZ I hg hm boot_enumerate (PyProof.Rows.callWith_type1 (bU (ha pos pins s σ H _ I h) ?_) hs rfl));rintro us s1 ⟨vs,H1,I1,r1,q1⟩;obtain ⟨a,xs,rfl,hx,q⟩:=q1;obtain ⟨u,rfl,ru⟩:=vals1 r1;cases ru;obtain ⟨z,its,n,rv,hl⟩:=I1.bG a _ hx;refine call_enumerate_list (items:=its.toArray) ⟨_,hl,rfl,n,rfl⟩ λh' he hit hsz hk=>?_;refine wpAny_pyIter_enum he ?_;have I2:Inv X pins σ H1 { s1 with heap:=h' }:=I1.kept (t':=s1.toks) hk;refine ⟨s1.heap.objs.size+1,[s1.heap.objs.size+1,s1.heap.objs.size],_,_,H1,rfl,I2,zf a _ _ (Nat.succ_ne_self _),⟨⟨_,he⟩,hit⟩,λb hb=>?_,q⟩;rcases KQ.mp hb with rfl | hb
  · exact I1.Ct (Nat.le_succ _) (I1.bG.fresh (Nat.le_succ _))
  · have e : b = s1.heap.objs.size := by simpa using hb
    subst e;exact I1.Ct (Ku _) (I1.bG.fresh (Ku _))
section
variable {prog:KP} {w:K7} {A:K1} {E:Kn->Kp->Prop} {s:Kp}
theorem pM {it t:Addr}{items:Array Kn}(hne:t≠it):∀(n i:Nat) (s:Kp) (Q:List Kn->Kp->Prop),s.heap.IsListIter it t i->s.heap.IsList t items->i+n<=items.size ->
  (∀h',h'.IsListIter it t (i+n)->Heap.SameBut it s.heap h'->Q ((items.toList.drop i).take n) { s with heap:=h' })->wpAny (model prog w) A (draw (.ref it) n) Q E s
 | 0,i,s,Q,hit,_,_,hQ=>by
  show wpAny _ _ (pure []) Q E s;exact Kq (by simpa using hQ s.heap hit (Heap.SameBut.refl ..))
 | n+1,i,s,Q,hit,ht,hle,hQ=>by
  have hlt:i<items.size:=by lia
  show wpAny _ _ (pyNext (.ref it) >>= _) Q E s;refine Ko (wpAny_pyNext_list_item hit ht (x:=items[i]) (by simp[hlt]) λh₁ hit₁ hs₁=>?_);refine Ko (wpAny_holding (pM hne n (i+1) _ _ hit₁ (ht.extBut hs₁.extBut hne) (by lia) λh₂ hit₂ hs₂=>Kq ?_));have hd:items.toList.drop i=items[i]::items.toList.drop (i+1):=by simp[drop_eq_getElem_cons,hlt]
  have:=hQ h₂ (by rw[show i+(n+1)=i+1+n by lia];exact hit₂) (hs₁.trans hs₂);rw[hd,List.take_succ_cons] at this;exact this
theorem lO {t:Addr}{items:Array Kn}{Q:List Kn->Kp->Prop}(hh:A.handled=none)(ht:s.heap.IsList t items)
  (hQ:∀h',Heap.ExtBut s.heap.objs.size s.heap h'->Q items.toList { s with heap:=h' }):wpAny (model prog w) A (unpackItems (.ref t) items.size none) Q E s:=by
 have hlt:t≠s.heap.objs.size:=by obtain ⟨o,ho,_⟩:=ht;exact KR (KG ho)
 unfold unpackItems;refine Ko ?_;unfold notIterableAtAll;refine Ko (wpAny_specialOf ht.typeIs slot_list_iter.lookup ?_);refine Kq ?_;simp only[KL,if_false];refine Ko (wpAny_holding (wpAny_pyIter_list ht ?_));refine Ko (wpAny_holding (pM hlt items.size 0 _ _ ⟨_,KZ _ rfl,rfl,rfl⟩ (ht.at λo e=>Kv _ e) (by lia) λh₁ hit₁ hs₁=>?_));have hall:List.take items.size (List.drop 0 items.toList)=items.toList:=by
  rw[List.drop_zero];exact take_of_length_le (by simp)
 rw[hall];rw[if_neg (by simp)];have ht₁:h₁.IsList t items:=(ht.at λo e=>Kv _ e).extBut hs₁.extBut hlt;refine Ko (wpAny_holding (wpAny_pyNext_list_end hh hit₁ ht₁ (by simp) λh₂ he₂=>?_));simp only[Option.isSome_none,KL,if_false];refine Kq (hQ h₂ λb o hb e=>he₂ b o hb (hs₁.extBut b o hb (Kv _ e)))
theorem jW {env:Env}{elts:List Expr}{x1}{pos:Pos}{t:Addr}{items:Array Kn}{Q:Unit->Kp->Prop}(hh:A.handled=none)(ht:s.heap.IsList t items)
  (hn:(assignEach elts env).length=items.size) (hstar:(assignEach elts env).findIdx? (·.1)=none)
  (h:∀h',Heap.ExtBut s.heap.objs.size s.heap h'->wpAny (model prog w) A (assignInOrder ((assignEach elts env).map (·.2)) items.toList) Q E { s with heap:=h' }) :
  wpAny (model prog w) A (assign (.Tuple elts x1 pos) env (.ref t)) Q E s:=by
 rw[assign_Tuple];refine Ko (wpAny_standAt ?_);unfold unpack;rw[hn,hstar];exact Ko (wpAny_holding (lO hh ht h))
end
noncomputable def Hb (K:Frag)(n:Nat)(t:DK):TG:=λv σ H Q=>∃a xs,v=.ref a/\(gM K H a xs\/dc K H a xs)/\xs.length=n/\t xs σ H Q
theorem iO {es:List Expr}{k:Nat}{t:DK}{n:Nat}{pos:Pos}(hc:X.calm=true)(h:Io X es t)
  (hn:autoParam ((assignEach es X.env).length=n) aZa._auto_1) (hst:autoParam ((assignEach es X.env).findIdx? (·.1)=none) aZa._auto_1):PG X (.Tuple es k pos) (Hb X.K n t):=by
 intro pins s σ H v u Q I r hw;obtain ⟨a,xs,e1,hq,hl,hw⟩:=hw;subst e1;cases r;rcases hq with hq | hq
 .obtain ⟨its,rv,ht,hz⟩:=I.tuple hq;refine assign_Tuple_tuple (I.ok.hd hc) ht (by simp[hn,<-hl,rv.length]) hst λh' hx=>?_;have I1:Inv X pins σ H { s with heap:=h' }:=I.kept (t':=s.toks) λb o e=>hx b o (KR (KG e)) e;exact h pins _ σ H xs _ Q I1 (by simpa using rv) hw
 .obtain ⟨its,rv,ht,hz⟩:=I.list hq;refine jW (I.ok.hd hc) ht.isList (by simp[hn,<-hl,rv.length]) hst λh' hx=>?_;have I1:Inv X pins σ H { s with heap:=h' }:=I.kept (t':=s.toks) λb o e=>hx b o (KR (KG e)) e;exact h pins _ σ H xs _ Q I1 (by simpa using rv) hw
end
end L2
namespace DL
open PySem L2
inductive D where
 | non | bl (b:Bool) | int (i:Int) | str (x:Str) | tup (xs:List D) | lst (xs:List D) | scr (ns:List Int)
 | dct (kvs:List ((Int×Int)×Int))
noncomputable def encD (kvs:List ((Int×Int)×Int)):List (List Key×V):=kvs.map λp=>([Sum.inl p.1.1,Sum.inl p.1.2],V.int p.2)
inductive Rep (K:Frag)(G:Hp):V->D->Prop where
 | non:Rep K G .non .non
 | bl (b:Bool):Rep K G (.bl b) (.bl b)
 | int (i:Int):Rep K G (.int i) (.int i)
 | str (x:Str):Rep K G (.str x) (.str x)
 | tup {a:Addr} {vs:List V} {ds:List D} (h:G a=some (.tup vs)) (l:vs.length=ds.length) (r:∀(i:Nat) (v:V) (d:D),vs[i]?=some v->ds[i]?=some d->Rep K G v d):Rep K G (.ref a) (.tup ds)
 | scr {a:Addr} {ns:List Int} (h:dc K G a (ns.map V.int)):Rep K G (.ref a) (.scr ns)
 | dct {a:Addr} {kvs:List ((Int×Int)×Int)} (h:Rd G a (.dT (encD kvs))):Rep K G (.ref a) (.dct kvs)
 | lst {a:Addr} {vs:List V} {ds:List D} (h:G a=some (.lst vs)) (l:vs.length=ds.length) (r:∀(i:Nat) (v:V) (d:D),vs[i]?=some v->ds[i]?=some d->Rep K G v d):Rep K G (.ref a) (.lst ds)
noncomputable abbrev bf (K:Frag)(G:Hp):List V->List D->Prop:=Paired (Rep K G)
theorem aI {α β:Type}{F:α->β->Prop}:∀{l:List α} {r:List β},l.length=r.length->(∀(i:Nat) (a:α) (b:β),l[i]?=some a->r[i]?=some b->F a b)->Paired F l r
 | [],[],_,_=>.nil
 | a::l,b::r,e,h=>.cons (h 0 a b rfl rfl) (aI (by simpa using e) λi x y h1 h2=>h (i+1) x y (by simpa using h1) (by simpa using h2))
theorem gC {α β:Type}{F:α->β->Prop}:∀{l:List α} {r:List β},Paired F l r->∀(i:Nat) (a:α) (b:β),l[i]?=some a->r[i]?=some b->F a b
 | _,_,.nil,_,_,_,h,_=>by simp at h
 | _,_,.cons h _,0,_,_,h1,h2=>by simp at h1 h2;subst h1;subst h2;exact h
 | _,_,.cons _ t,i+1,a,b,h1,h2=>gC t i a b (by simpa using h1) (by simpa using h2)
theorem bH {α β:Type}{F:α->β->Prop}:∀{l:List α} {r:List β} {i:Nat} {b:β},Paired F l r->r[i]?=some b->∃a,l[i]?=some a/\F a b
 | _,_,_,_,.nil,e=>by simp at e
 | _,_,0,_,.cons h _,e=>by simp at e;subst e;exact ⟨_,rfl,h⟩
 | _,_,i+1,b,.cons _ t,e=>by
  obtain ⟨a,h1,h2⟩:=bH (i:=i) (b:=b) t (by simpa using e);exact ⟨a,by simpa using h1,h2⟩
section
variable {K:Frag} {G G' H H':Hp} {v:V} {d:D} {ds:List D} {vs:List V}
theorem Rep.rQ {a:Addr}(h:G a=some (.tup vs))(r:bf K G vs ds):Rep K G (.ref a) (.tup ds):=.tup h (Paired.length r) (gC r)
theorem Rep.CY {a:Addr}(h:G a=some (.lst vs))(r:bf K G vs ds):Rep K G (.ref a) (.lst ds):=.lst h (Paired.length r) (gC r)
theorem Rep.cB (h:Rep K G v (.tup ds)):∃a vs,v=.ref a/\gM K G a vs/\bf K G vs ds:=by
 cases h with | tup h l r=>exact ⟨_,_,rfl,.inl (.inl h),aI l r⟩
theorem Rep.rR (h:Rep K G v (.tup ds)):∃a vs,v=.ref a/\G a=some (.tup vs)/\bf K G vs ds:=by
 cases h with | tup h l r=>exact ⟨_,_,rfl,h,aI l r⟩
theorem Rep.lst_inv (h:Rep K G v (.lst ds)):∃a vs,v=.ref a/\G a=some (.lst vs)/\bf K G vs ds:=by
 cases h with | lst h l r=>exact ⟨_,_,rfl,h,aI l r⟩
theorem Rep.int_inv {i:Int}(h:Rep K G v (.int i)):v=.int i:=by cases h;rfl
theorem Rep.uT {b:Bool}(h:Rep K G v (.bl b)):v=.bl b:=by cases h;rfl
theorem fq {a:Addr}{u:HO}(e:ar G G')(h:Rd G a u):Rd G' a u:=h.elim (λz=>.inl (e _ _ z)) λ⟨o,z⟩=>.inr ⟨o,e _ _ z⟩
theorem aq {a:Addr}{xs:List V}(e:ar G G')(h:gM K G a xs):gM K G' a xs:=by
 rcases h with (h | ⟨o,h⟩) | h
 .exact .inl (.inl (e _ _ h))
 .exact .inl (.inr ⟨o,e _ _ h⟩)
 .exact .inr h
theorem Rep.mono (s:ar G G')(h:Rep K G v d):Rep K G' v d:=by
 induction h with
 | non=>exact .non
 | bl b=>exact .bl b
 | int i=>exact .int i
 | str x=>exact .str x
 | tup h l r ih=>exact .tup (s _ _ h) l ih
 | lst h l r ih=>exact .lst (s _ _ h) l ih
 | scr h=>exact .scr (s.seq h)
 | dct h=>exact .dct (fq s h)
theorem bf.mono (s:ar G G')(h:bf K G vs ds):bf K G' vs ds:=Paired.imp' (λ_ _=>Rep.mono s) h
noncomputable def D.sc:D->Bool
 | .tup _=>false
 | .lst _=>false
 | .scr _=>false
 | .dct _=>false
 | _=>true
theorem Rep.sc (h:Rep K G v d)(e:d.sc=true):Rep K G' v d:=by
 cases h with
 | non=>exact .non
 | bl b=>exact .bl b
 | int i=>exact .int i
 | str x=>exact .str x
 | tup h l r=>cases e
 | lst h l r=>cases e
 | scr h=>cases e
 | dct h=>cases e
end
inductive B where
 | p (d:D) | o (d:D) | n (t:Bool) (ds:List D)
noncomputable def B.val:B->D
 | .p d=>d
 | .o d=>d
 | .n true ds=>.tup ds
 | .n false ds=>.lst ds
noncomputable abbrev ax:=List (Option B)
noncomputable def aV:ax->Nat->Option B
 | [],_=>none
 | b::_,0=>b
 | _::r,n+1=>aV r n
noncomputable def dput:ax->Nat->B->ax
 | [],_,_=>[]
 | _::r,0,b=>some b::r
 | c::r,n+1,b=>c::dput r n b
noncomputable def E4:Option B->Option B
 | none=>none
 | some b=>some (.p b.val)
noncomputable def de:ax->ax
 | []=>[]
 | c::r=>E4 c::de r
theorem dS (b:B):∀(ρ:ax) (i:Nat),(dput ρ i b).length=ρ.length
 | [],_=>rfl
 | _::_,0=>rfl
 | _::r,n+1=>by show (dput r n b).length+1=r.length+1;rw[dS b r n]
theorem wU:∀(ρ:ax),(de ρ).length=ρ.length
 | []=>rfl
 | _::r=>by show (de r).length+1=_;rw[wU r];rfl
theorem aM {b:B}:∀{ρ:ax} {i j:Nat} {c:B},aV (dput ρ i b) j=some c->(i=j/\j<ρ.length/\c=b)\/(i≠j/\aV ρ j=some c)
 | [],_,_,_,h=>by cases h
 | _::_,0,0,_,h=>.inl ⟨rfl,Nat.succ_pos _,(Option.some.inj h).symm⟩
 | _::_,0,j+1,_,h=>.inr ⟨Nat.succ_ne_zero j |>.symm,h⟩
 | _::_,i+1,0,_,h=>.inr ⟨Nat.succ_ne_zero i,h⟩
 | _::r,i+1,j+1,_,h=>by
  rcases aM (ρ:=r) (i:=i) (j:=j) h with ⟨h1,h2,h3⟩ | ⟨h1,h2⟩
  .exact .inl ⟨by rw[h1],Nat.succ_lt_succ h2,h3⟩
  .exact .inr ⟨λe=>h1 (Nat.succ.inj e),h2⟩
theorem ny:∀{ρ:ax} {i:Nat} {c:B},aV (de ρ) i=some c->∃b,aV ρ i=some b/\c=.p b.val
 | [],_,_,h=>by cases h
 | none::_,0,_,h=>by cases h
 | some b::_,0,_,h=>⟨b,rfl,(Option.some.inj h).symm⟩
 | _::r,i+1,_,h=>ny (ρ:=r) h
theorem wG:∀{ρ:ax} {i:Nat} {c:B},aV ρ i=some c->i<ρ.length
 | [],_,_,h=>by cases h
 | _::_,0,_,_=>Nat.succ_pos _
 | _::r,i+1,_,h=>Nat.succ_lt_succ (wG (ρ:=r) h)
noncomputable def bX (K:Frag)(G H:Hp)(a:Addr)(d:D):Prop:=G a=none/\match d with
 | .lst ds=>∃vs,H a=some (.lst vs)/\bf K G vs ds
 | .dct kvs=>H a=some (.dT (encD kvs))
 | _=>False
noncomputable def En (H:Hp)(a:Addr):Prop:=∃o,H a=some o/\∀xs,o≠.tup xs
theorem En.there {H:Hp}{a:Addr}(h:En H a):H a≠none:=by obtain ⟨o,e,_⟩:=h;rw[e];simp
structure Wd (H0 G0 H G:Hp):Prop where
 hh:ar H0 H
 gg:ar G0 G
 gh:ar G H
 old:∀a,En H0 a->G a=G0 a
theorem Wd.refl {H G:Hp}(s:ar G H):Wd H G H G:=⟨ar.refl _,ar.refl _,s,λ_ _=>rfl⟩
theorem Wd.trans {H0 G0 H1 G1 H2 G2:Hp}(a:Wd H0 G0 H1 G1)(b:Wd H1 G1 H2 G2):Wd H0 G0 H2 G2:=
 ⟨a.hh.trans b.hh,a.gg.trans b.gg,b.gh,λx h=>by
  have h1:En H1 x:=by obtain ⟨o,e,n⟩:=h;exact ⟨o,a.hh _ _ e,n⟩
  rw[b.old x h1,a.old x h]⟩
theorem Wd.new {H0 G0 H G:Hp}{p:Addr}{o:HO}(w:Wd H0 G0 H G)(h:H p=none):Wd H0 G0 (upd H p o) (upd G p o):=
 ⟨w.hh.upd (w.hh.free h),w.gg.upd (w.gg.free (w.gh.free h)),λb u e=>by
  by_cases z:b=p
  .subst z;rw[aE] at e ⊢;exact e
  .rw[au z] at e ⊢;exact w.gh b u e,λa ha=>by
  have z:a≠p:=λe=>ha.there (e ▸ w.hh.free h);rw[au z,w.old a ha]⟩
theorem Wd.own {H0 G0 H G:Hp}{p:Addr}{o:HO}(w:Wd H0 G0 H G)(h0:H0 p=none)(h:G p=none):Wd H0 G0 (upd H p o) G:=
 ⟨w.hh.upd h0,w.gg,w.gh.upd h,w.old⟩
theorem Wd.give {H0 G0 H G:Hp}{p:Addr}{o:HO}(w:Wd H0 G0 H G)(h0:H0 p=none\/∃xs,o=.tup xs)(h:G p=none)(e:H p=some o):Wd H0 G0 H (upd G p o):=
 ⟨w.hh,w.gg.upd (w.gg.free h),λb u k=>by
  by_cases z:b=p
  .subst z;rw[aE] at k;rw[e,k]
  .rw[au z] at k;exact w.gh b u k,λa ha=>by
  have z:a≠p:=λz=>by
   subst z;obtain ⟨u,e1,n⟩:=ha;rcases h0 with h0 | ⟨xs,h0⟩
   .rw[h0] at e1;cases e1
   .have:=w.hh _ _ e1;rw[e] at this;cases this;exact n xs h0
  rw[au z,w.old a ha]⟩
theorem bX.rep {K:Frag}{G H G2:Hp}{a:Addr}{d:D}(h:bX K G H a d)(s:ar G G2)(e:∀o,H a=some o->G2 a=some o):Rep K G2 (.ref a) d:=by
 obtain ⟨g,k⟩:=h;cases d with
 | lst ds =>
  obtain ⟨vs,e',r⟩:=k;exact Rep.CY (e _ e') (bf.mono s r)
 | dct kvs=>exact .dct (.inl (e _ k))
 | non=>exact k.elim
 | bl _=>exact k.elim
 | int _=>exact k.elim
 | str _=>exact k.elim
 | tup _=>exact k.elim
 | scr _=>exact k.elim
noncomputable def fS (K:Frag)(H G' H':Hp)(v:V):B->Prop
 | .p d=>Rep K G' v d
 | .o d=>∃a,v=.ref a/\H a=none/\bX K G' H' a d
 | .n true ds=>∃a as,v=.ref a/\G' a=some (.tup (as.map V.ref))/\as.Nodup/\Paired (λx d=>H x=none/\bX K G' H' x d) as ds
 | .n false ds=>∃a as,v=.ref a/\H a=none/\G' a=none/\H' a=some (.lst (as.map V.ref))/\a∉as/\as.Nodup/\Paired (λx d=>H x=none/\bX K G' H' x d) as ds
theorem fS.ahead {K:Frag}{H0 H G' H':Hp}{v:V}{b:B}(s:ar H0 H)(h:fS K H G' H' v b):fS K H0 G' H' v b:=by
 cases b with
 | p d=>exact h
 | o d=>obtain ⟨a,e,n,o⟩:=h;exact ⟨a,e,s.free n,o⟩
 | n t ds =>
  cases t with
  | false =>
   obtain ⟨a,as,e,n,g,q,na,nd,pr⟩:=h;exact ⟨a,as,e,s.free n,g,q,na,nd,Paired.imp' (λ_ _ z=>⟨s.free z.1,z.2⟩) pr⟩
  | true =>
   obtain ⟨a,as,e,q,nd,pr⟩:=h;exact ⟨a,as,e,q,nd,Paired.imp' (λ_ _ z=>⟨s.free z.1,z.2⟩) pr⟩
theorem Wd.all {H G H' G':Hp}(w:Wd H G H' G'):∃G2,Wd H G H' G2/\ar G' G2/\∀a,H a=none->G' a=none->G2 a=H' a:=by
 classical
 have sG:ar G' (λa=>if H a=none/\G' a=none then H' a else G' a):=λa o h=>by
  show (if _ then H' a else G' a)=_;rw[if_neg λq=>by rw[q.2] at h;cases h];exact h
 refine ⟨λa=>if H a=none/\G' a=none then H' a else G' a,⟨w.hh,w.gg.trans sG,λa o h=>?_,λa h=>?_⟩,sG,λa h1 h2=>if_pos ⟨h1,h2⟩⟩
 .have h':(if H a=none/\G' a=none then H' a else G' a)=some o:=h;split at h'
  .exact h'
  .exact w.gh _ _ h'
 .show (if H a=none/\G' a=none then H' a else G' a)=_;rw[if_neg λq=>h.there q.1];exact w.old a h
theorem fS.give {K:Frag}{H G H' G':Hp}{v:V}{b:B}(w:Wd H G H' G')(h:fS K H G' H' v b):∃G2,Wd H G H' G2/\Rep K G2 v b.val:=by
 cases b with
 | p d=>exact ⟨G',w,h⟩
 | n t ds =>
  cases t with
  | false =>
   obtain ⟨a,as,rfl,n,g,q,na,nd,pr⟩:=h;obtain ⟨G2,w2,s2,k2⟩:=w.all;refine ⟨G2,w2,Rep.CY (by rw[k2 _ n g];exact q) ?_⟩;clear q nd na;induction pr with
   | nil=>exact .nil
   | cons f _ ih=>exact .cons (f.2.rep s2 λo z=>by rw[k2 _ f.1 f.2.1];exact z) ih
  | true =>
   obtain ⟨a,as,rfl,q,nd,pr⟩:=h;obtain ⟨G2,w2,s2,k2⟩:=w.all;refine ⟨G2,w2,Rep.rQ (s2 _ _ q) ?_⟩;clear q nd;induction pr with
   | nil=>exact .nil
   | cons f _ ih=>exact .cons (f.2.rep s2 λo z=>by rw[k2 _ f.1 f.2.1];exact z) ih
 | o d =>
  obtain ⟨a,rfl,n,k⟩:=h;obtain ⟨G2,w2,s2,k2⟩:=w.all;exact ⟨G2,w2,k.rep s2 λo z=>by rw[k2 _ n k.1];exact z⟩
noncomputable abbrev DT:=ax->(B->Prop)->Prop
noncomputable abbrev ig:=ax->(Bool->Prop)->Prop
noncomputable abbrev ff:=ax->(List D->Prop)->Prop
noncomputable def dM (K:Frag)(G:Hp)(σ:St)(ρ:ax):Prop:=∀i d,aV ρ i=some (.p d)->∃v,σ[i]?=some (some v)/\Rep K G v d
theorem dM.mono {K:Frag}{G G':Hp}{σ:St}{ρ:ax}(s:ar G G')(h:dM K G σ ρ):dM K G' σ ρ:=λi d e=>by
 obtain ⟨v,h1,h2⟩:=h i d e;exact ⟨v,h1,h2.mono s⟩
noncomputable def cE (K:Frag)(t:DT):TE:=λσ H Q=>∃(G:Hp) (ρ:ax) (P:B->Prop),ar G H/\dM K G σ ρ/\t ρ P/\∀b v H' G',P b->Wd H G H' G'->fS K H G' H' v b->Q v H'
noncomputable def cT (K:Frag)(t:ig):TT:=λσ H Q=>∃(G:Hp) (ρ:ax) (P:Bool->Prop),ar G H/\dM K G σ ρ/\t ρ P/\∀b H' G',P b->Wd H G H' G'->Q b H'
noncomputable def cA (K:Frag)(n:Nat)(t:ff):TA:=λσ H Q=>∃(G:Hp) (ρ:ax) (P:List D->Prop),ar G H/\dM K G σ ρ/\t ρ P/\∀ds vs H' G',P ds->ds.length=n->Wd H G H' G'->bf K G' vs ds->Q vs H'
structure DE (X:Cx)(e:Expr)(t:DT):Prop where
 pe:PE X e (cE X.K t)
structure oY (X:Cx)(e:Expr)(t:ig):Prop where
 pt:PT X e (cT X.K t)
structure DW (X:Cx)(e:Expr)(t:ig):Prop where
 pw:PW X e (cT X.K t)
structure DA (X:Cx)(es:List Expr)(t:ff):Prop where
 pa:PA X es (cA X.K es.length t)
theorem PE.imp {X:Cx}{e:Expr}{t t':TE}(h:PE X e t)(i:∀σ H Q,t' σ H Q->t σ H Q):PE X e t':=λpins s σ H Q I q=>h pins s σ H Q I (i σ H Q q)
theorem PT.imp {X:Cx}{e:Expr}{t t':TT}(h:PT X e t)(i:∀σ H Q,t' σ H Q->t σ H Q):PT X e t':=λpins s σ H Q I q=>h pins s σ H Q I (i σ H Q q)
theorem PW.imp {X:Cx}{e:Expr}{t t':TT}(h:PW X e t)(i:∀σ H Q,t' σ H Q->t σ H Q):PW X e t':=λwh pins s σ H Q I q=>h wh pins s σ H Q I (i σ H Q q)
theorem PA.imp {X:Cx}{es:List Expr}{t t':TA}(h:PA X es t)(i:∀σ H Q,t' σ H Q->t σ H Q):PA X es t':=λpos pins s σ H Q I q=>h pos pins s σ H Q I (i σ H Q q)
theorem PS.imp {X:Cx}{st:Stmt}{t t':TS}(h:PS X st t)(i:∀D σ H,t' D σ H->t D σ H):PS X st t':=λpins s σ H D I q=>h pins s σ H D I (i D σ H q)
theorem m8.imp {X:Cx}{st:List Stmt}{t t':TS}(h:m8 X st t)(i:∀D σ H,t' D σ H->t D σ H):m8 X st t':=λpins s σ H D I q=>h pins s σ H D I (i D σ H q)
theorem DE.of {X:Cx}{e:Expr}{t:TE}{t':DT}(h:PE X e t)(i:∀σ H Q,cE X.K t' σ H Q->t σ H Q):DE X e t':=⟨PE.imp h i⟩
theorem oY.of {X:Cx}{e:Expr}{t:TT}{t':ig}(h:PT X e t)(i:∀σ H Q,cT X.K t' σ H Q->t σ H Q):oY X e t':=⟨PT.imp h i⟩
theorem DW.of {X:Cx}{e:Expr}{t:TT}{t':ig}(h:PW X e t)(i:∀σ H Q,cT X.K t' σ H Q->t σ H Q):DW X e t':=⟨PW.imp h i⟩
theorem DA.of {X:Cx}{es:List Expr}{t:TA}{t':ff}(h:PA X es t)(i:∀σ H Q,cA X.K es.length t' σ H Q->t σ H Q):DA X es t':=⟨PA.imp h i⟩
section
variable {X:Cx} {a b e:Expr} {ta tb te:DT} {pos:Pos}
noncomputable def di (i:Nat):DT:=λρ Q=>match aV ρ i with
 | some (.p d)=>Q (.p d)
 | _=>False
theorem dv (i:Nat){x:Str}(hN:autoParam (X.N[i]?=some x) aZa._auto_1)(hv:autoParam (rV X.env.scope x) aZf._auto_1)(hd:autoParam ((x == ("__debug__" : Str))=false) aZb._auto_1)
  (hcd:autoParam ((x == ("__classdict__" : Str))=false) aZb._auto_1):DE X (.Name x pos) (di i):=
 DE.of (cM hN hv hd hcd)<|by
  rintro σ H Q ⟨G,ρ,P,s,r,h,k⟩;unfold di at h;split at h
  .rename_i d e;obtain ⟨v,h1,h2⟩:=r _ _ e;exact ⟨v,h1,k _ v H G h (Wd.refl s) h2⟩
  .exact h.elim
noncomputable def dC (d:D):DT:=λ_ Q=>Q (.p d)
noncomputable def Em (K:Frag)(v:V)(d:D):Prop:=∀G,Rep K G v d
theorem EY {v:V}{d:D}(h:PE X e (tC v))(r:Em X.K v d):DE X e (dC d):=
 DE.of h (by rintro σ H Q ⟨G,ρ,P,s,_,h,k⟩;exact k _ v H G h (Wd.refl s) (r G))
theorem ae {i:Int}{j}:DE X (.Constant (.int i) j pos) (dC (.int i)):=EY A3 λ_=>.int i
theorem lR {b:Bool}{j}:DE X (.Constant (.bool b) j pos) (dC (.bl b)):=EY HC λ_=>.bl b
theorem fB {j}:DE X (.Constant .none j pos) (dC .non):=EY FE λ_=>.non
theorem pS {K:Frag}{H G H1 G1:Hp}{P:B->Prop}{Q:VK}(k:∀b v H' G',P b->Wd H G H' G'->fS K H G' H' v b->Q v H')(w:Wd H G H1 G1):∀b v H' G',P b->Wd H1 G1 H' G'->fS K H1 G' H' v b->Q v H':=
 λb v H' G' p w' r=>k b v H' G' p (w.trans w') (r.ahead w.hh)
noncomputable abbrev D2:=D->D->(B->Prop)->Prop
noncomputable def m7 (X:Cx)(f:Kn->Kn->Sem Kn)(r:D2):Prop:=∃rv:R2,iq X f rv /\
 ∀(H G:Hp) (x y:V) (dx dy:D) (P:B->Prop) (Q:VK),ar G H->Rep X.K G x dx->Rep X.K G y dy->r dx dy P->(∀b v H' G',P b->Wd H G H' G'->fS X.K H G' H' v b->Q v H')->rv x y H Q
noncomputable def mm (r:D2)(ta tb:DT):DT:=λρ Q=>ta ρ λx=>tb ρ λy=>r x.val y.val Q
theorem nq {K:Frag}{ta tb:DT}{r:D2}{rv:R2}(hr:∀(H G:Hp) (x y:V) (dx dy:D) (P:B->Prop) (Q:VK),ar G H->Rep K G x dx->Rep K G y dy->r dx dy P->(∀b v H' G',P b->Wd H G H' G'->fS K H G' H' v b->Q v H')->rv x y H Q)
  (σ:St) (H:Hp) (Q:VK):cE K (mm r ta tb) σ H Q->FY rv (cE K ta) (cE K tb) σ H Q:=by
 rintro ⟨G,ρ,P,s,re,h,k⟩;refine ⟨G,ρ,_,s,re,h,λb v H1 G1 p1 w1 r1=>?_⟩;obtain ⟨G1',w1',r1'⟩:=r1.give w1;refine ⟨G1',ρ,_,w1'.gh,re.mono w1'.gg,p1,λb2 v2 H2 G2 p2 w2 r2=>?_⟩;obtain ⟨G2',w2',r2'⟩:=r2.give w2;exact hr H2 G2' v v2 b.val b2.val P Q w2'.gh (r1'.mono w2'.gg) r2' p2 (pS k (w1'.trans w2'))
theorem ao {op:Operator}{r:D2}(ho:m7 X (binaryOp op) r)(ha:DE X a ta)(hb:DE X b tb):DE X (.BinOp a op b pos) (mm r ta tb):=by
 obtain ⟨rv,h1,h2⟩:=ho;exact DE.of (xt h1 ha.pe hb.pe) (nq h2)
theorem lq {op:CmpOp}{r:D2}(ho:m7 X (compareOp op) r)(ha:DE X a ta)(hb:DE X b tb)(hm:behindInMarks op b=false):DE X (.Compare a [op] [b] pos) (mm r ta tb):=by
 obtain ⟨rv,h1,h2⟩:=ho;exact DE.of (De h1 ha.pe hb.pe hm) (nq h2)
noncomputable def dI (g:Int->Int->D):D2:=λx y Q=>match x,y with
 | .int i,.int j=>Q (.p (g i j))
 | _,_=>False
noncomputable def EJ (C:Int->Int->Prop)(g:Int->Int->D):D2:=λx y Q=>match x,y with
 | .int i,.int j=>C i j/\Q (.p (g i j))
 | _,_=>False
theorem uf {f:Kn->Kn->Sem Kn}{g:Int->Int->D}{gv:Int->Int->V}(h:iq X f (Dp gv))(hg:∀i j,Em X.K (gv i j) (g i j)):m7 X f (dI g):=by
 refine ⟨_,h,λH G x y dx dy P Q s rx ry hr k=>?_⟩;unfold dI at hr;split at hr
 .cases rx;cases ry;exact ⟨_,_,rfl,rfl,k _ _ H G hr (Wd.refl s) (hg _ _ _)⟩
 .exact hr.elim
theorem vF {f:Kn->Kn->Sem Kn}{C:Int->Int->Prop}{g:Int->Int->D}{gv:Int->Int->V}(h:iq X f (rI C gv))(hg:∀i j,Em X.K (gv i j) (g i j)):m7 X f (EJ C g):=by
 refine ⟨_,h,λH G x y dx dy P Q s rx ry hr k=>?_⟩;unfold EJ at hr;split at hr
 .cases rx;cases ry;exact ⟨_,_,rfl,rfl,hr.1,k _ _ H G hr.2 (Wd.refl s) (hg _ _ _)⟩
 .exact hr.elim
theorem lz:m7 X (binaryOp .Sub) (dI λi j=>.int (i - j)):=uf FA λ_ _ _=>.int _
theorem bx:m7 X (binaryOp .FloorDiv) (EJ Gs λi j=>.int (i / j)):=vF C7 λ_ _ _=>.int _
theorem aY:m7 X (binaryOp .Mod) (EJ (λ_ j=>0<j) λi j=>.int (i % j)):=vF Fu λ_ _ _=>.int _
theorem AX:m7 X (binaryOp .Pow) (EJ Gu λi j=>.int (i ^ j.toNat)):=vF Fy λ_ _ _=>.int _
theorem p6:m7 X (compareOp .Lt) (dI λi j=>.bl (decide (i<j))):=uf Hz λ_ _ _=>.bl _
theorem Hs:m7 X (compareOp .LtE) (dI λi j=>.bl (decide (i<=j))):=uf Hy λ_ _ _=>.bl _
theorem lX:m7 X (compareOp .Gt) (dI λi j=>.bl (decide (j<i))):=uf Hx λ_ _ _=>.bl _
theorem xm:m7 X (compareOp .GtE) (dI λi j=>.bl (decide (j<=i))):=uf Hw λ_ _ _=>.bl _
noncomputable def zK:D2:=λx y Q=>match x,y with
 | .int i,.int j=>Q (.p (.bl (decide (i=j))))
 | .str i,.str j=>Q (.p (.bl (decide (i=j))))
 | .bl i,.bl j=>Q (.p (.bl (decide (i=j))))
 | _,_=>False
noncomputable def zQ:D2:=λx y Q=>match x,y with
 | .int i,.int j=>Q (.p (.bl (!decide (i=j))))
 | .str i,.str j=>Q (.p (.bl (!decide (i=j))))
 | .bl i,.bl j=>Q (.p (.bl (!decide (i=j))))
 | _,_=>False
theorem yf {α:Type}[DecidableEq α]{f:α->V}(hf:∀a b,f a=f b->a=b)(i j:α):decide (f i=f j)=decide (i=j):=by
 by_cases h:i=j
 .rw[h,decide_eq_true rfl,decide_eq_true rfl]
 .rw[decide_eq_false h,decide_eq_false λe=>h (hf _ _ e)]
theorem dq:m7 X (compareOp .Eq) zK:=by
 refine ⟨_,Hv,λH G x y dx dy P Q s rx ry hr k=>?_⟩;unfold zK at hr;split at hr
 .cases rx;cases ry;exact ⟨rfl,by rw[yf (λ_ _ e=>V.int.inj e)];exact k _ _ H G hr (Wd.refl s) (.bl _)⟩
 .cases rx;cases ry;exact ⟨rfl,by rw[yf (λ_ _ e=>V.str.inj e)];exact k _ _ H G hr (Wd.refl s) (.bl _)⟩
 .cases rx;cases ry;exact ⟨rfl,by rw[yf (λ_ _ e=>V.bl.inj e)];exact k _ _ H G hr (Wd.refl s) (.bl _)⟩
 .exact hr.elim
theorem t8:m7 X (compareOp .NotEq) zQ:=by
 refine ⟨_,HA,λH G x y dx dy P Q s rx ry hr k=>?_⟩;unfold zQ at hr;split at hr
 .cases rx;cases ry;exact ⟨rfl,by rw[yf (λ_ _ e=>V.int.inj e)];exact k _ _ H G hr (Wd.refl s) (.bl _)⟩
 .cases rx;cases ry;exact ⟨rfl,by rw[yf (λ_ _ e=>V.str.inj e)];exact k _ _ H G hr (Wd.refl s) (.bl _)⟩
 .cases rx;cases ry;exact ⟨rfl,by rw[yf (λ_ _ e=>V.bl.inj e)];exact k _ _ H G hr (Wd.refl s) (.bl _)⟩
 .exact hr.elim
noncomputable def Cb:D2:=λx y Q=>match y with
 | .non=>Q (.p (.bl (match x with | .non=>true | _=>false)))
 | _=>False
noncomputable def wo:D2:=λx y Q=>match y with
 | .non=>Q (.p (.bl (match x with | .non=>false | _=>true)))
 | _=>False
theorem vD:m7 X (compareOp .Is) Cb:=by
 refine ⟨_,Ft,λH G x y dx dy P Q s rx ry hr k=>?_⟩;unfold Cb at hr;split at hr
 .cases ry;refine ⟨rfl,k _ _ H G hr (Wd.refl s) ?_⟩;cases rx<;>exact .bl _
 .exact hr.elim
theorem C3:m7 X (compareOp .IsNot) wo:=by
 refine ⟨_,C8,λH G x y dx dy P Q s rx ry hr k=>?_⟩;unfold wo at hr;split at hr
 .cases ry;refine ⟨rfl,k _ _ H G hr (Wd.refl s) ?_⟩;cases rx<;>exact .bl _
 .exact hr.elim
noncomputable def Ce (r:D->(B->Prop)->Prop)(ta:DT):DT:=λρ Q=>ta ρ λx=>r x.val Q
noncomputable def oI:D->(B->Prop)->Prop:=λx Q=>match x with
 | .int i=>Q (.p (.int (-i)))
 | _=>False
theorem bE (ha:DE X a ta):DE X (.UnaryOp .USub a pos) (Ce oI ta):=
 DE.of (HG Gg ha.pe)<|by
  rintro σ H Q ⟨G,ρ,P,s,re,h,k⟩;refine ⟨G,ρ,_,s,re,h,λb v H1 G1 p1 w1 r1=>?_⟩;obtain ⟨G1',w1',r1'⟩:=r1.give w1;unfold oI at p1;split at p1
  .rename_i i e;rw[e] at r1';cases r1';exact ⟨_,rfl,k _ _ H1 G1' p1 w1' (.int _)⟩
  .exact p1.elim
noncomputable def DY (ta:DT):DT:=λρ Q=>ta ρ λx=>match x.val with
 | .bl c=>Q (.p (.bl (!c)))
 | _=>False
theorem j3 {K:Frag}{H G H' G':Hp}{v:V}{b:B}{c:Bool}(w:Wd H G H' G')(r:fS K H G' H' v b)(e:b.val=.bl c):v=.bl c:=by
 obtain ⟨G1,_,r1⟩:=r.give w;rw[e] at r1;exact r1.uT
noncomputable def zI (ta tb:DT):DT:=λρ Q=>ta ρ λx=>match x.val with
 | .bl c=>(c=true->tb ρ Q)/\(c=false->Q (.p (.bl false)))
 | _=>False
noncomputable def ER (ta tb:DT):DT:=λρ Q=>ta ρ λx=>match x.val with
 | .bl c=>(c=true->Q (.p (.bl true)))/\(c=false->tb ρ Q)
 | _=>False
theorem u7 {op}{t:DT}(h:DE X a t):DE X (.BoolOp op [a] pos) t:=⟨FF h.pe⟩
theorem zZ {rest:List Expr}(ha:DE X a ta)(hb:DE X (.BoolOp .And (b::rest) pos) tb):DE X (.BoolOp .And (a::b::rest) pos) (zI ta tb):=
 DE.of (FD ha.pe hb.pe)<|by
  rintro σ H Q ⟨G,ρ,P,s,re,h,k⟩;refine ⟨G,ρ,_,s,re,h,λb v H1 G1 p1 w1 r1=>?_⟩;split at p1
  .rename_i c e;refine ⟨c,j3 w1 r1 e,?_⟩;cases c with
   | true=>exact tH ⟨G1,ρ,P,w1.gh,re.mono w1.gg,p1.1 rfl,pS k w1⟩
   | false=>exact tG (k _ _ H1 G1 (p1.2 rfl) w1 (.bl _))
  .exact p1.elim
theorem GS {rest:List Expr}(ha:DE X a ta)(hb:DE X (.BoolOp .Or (b::rest) pos) tb):DE X (.BoolOp .Or (a::b::rest) pos) (ER ta tb):=
 DE.of (HF ha.pe hb.pe)<|by
  rintro σ H Q ⟨G,ρ,P,s,re,h,k⟩;refine ⟨G,ρ,_,s,re,h,λb v H1 G1 p1 w1 r1=>?_⟩;split at p1
  .rename_i c e;refine ⟨c,j3 w1 r1 e,?_⟩;cases c with
   | true=>exact tH (k _ _ H1 G1 (p1.1 rfl) w1 (.bl _))
   | false=>exact tG ⟨G1,ρ,P,w1.gh,re.mono w1.gg,p1.2 rfl,pS k w1⟩
  .exact p1.elim
noncomputable def oJ (t:DT):ig:=λρ P=>t ρ λx=>match x.val with
 | .bl c=>P c
 | _=>False
theorem aF {op:CmpOp}{r:D2}(ho:m7 X (compareOp op) r)(ha:DE X a ta)(hb:DE X b tb)(hm:behindInMarks op b=false):oY X (.Compare a [op] [b] pos) (oJ (mm r ta tb)):=by
 obtain ⟨rv,h1,h2⟩:=ho;refine oY.of (xD h1 ha.pe hb.pe hm) ?_;rintro σ H Q ⟨G,ρ,P,s,re,h,k⟩;refine nq h2 σ H _ ⟨G,ρ,_,s,re,h,λb v H1 G1 p1 w1 r1=>?_⟩;split at p1
 .rename_i c e;exact ⟨c,j3 w1 r1 e,k _ H1 G1 p1 w1⟩
 .exact p1.elim
theorem nA (ha:DE X a ta)(he:autoParam (∀whole,isTrue a X.env whole=(do let v <-whole;standAt a.pos;holding [v] (truthy v))) aZc._auto_1):oY X a (oJ ta):=
  oY.of (FI ha.pe he)<|by
    rintro σ H Q ⟨G,ρ,P,s,re,h,k⟩;refine ⟨G,ρ,_,s,re,h,λb v H1 G1 p1 w1 r1=>?_⟩;split at p1
    · rename_i c e;exact ⟨c,j3 w1 r1 e,k _ H1 G1 p1 w1⟩
    · exact p1.elim
noncomputable def EO (t:ig):ig:=λρ P=>t ρ λc=>P (!c)
theorem qN {t:ig}(ha:oY X a t):oY X (.UnaryOp .Not a pos) (EO t):=
 oY.of (FH ha.pt) (by rintro σ H Q ⟨G,ρ,P,s,re,h,k⟩;exact ⟨G,ρ,_,s,re,h,λb H1 G1 p1 w1=>k _ H1 G1 p1 w1⟩)
noncomputable def B6 (t u:ig):ig:=λρ P=>t ρ λc=>(c=true->u ρ P)/\(c=false->P false)
noncomputable def Iq (t u:ig):ig:=λρ P=>t ρ λc=>(c=true->P true)/\(c=false->u ρ P)
theorem Au {K:Frag}{H G H1 G1:Hp}{P:Bool->Prop}{Q:Bool->Hp->Prop}(k:∀b H' G',P b->Wd H G H' G'->Q b H')(w:Wd H G H1 G1):∀b H' G',P b->Wd H1 G1 H' G'->Q b H':=
 λb H' G' p w'=>k b H' G' p (w.trans w')
theorem ED {K:Frag}{t u:ig}(σ:St)(H:Hp)(Q:Bool->Hp->Prop):cT K (B6 t u) σ H Q->HZ (cT K t) (cT K u) σ H Q:=by
 rintro ⟨G,ρ,P,s,re,h,k⟩;refine ⟨G,ρ,_,s,re,h,λc H1 G1 p1 w1=>?_⟩;cases c with
 | true=>exact tH ⟨G1,ρ,P,w1.gh,re.mono w1.gg,p1.1 rfl,Au (K:=K) k w1⟩
 | false=>exact tG (k _ H1 G1 (p1.2 rfl) w1)
theorem GG {K:Frag}{t u:ig}(σ:St)(H:Hp)(Q:Bool->Hp->Prop):cT K (Iq t u) σ H Q->J5 (cT K t) (cT K u) σ H Q:=by
 rintro ⟨G,ρ,P,s,re,h,k⟩;refine ⟨G,ρ,_,s,re,h,λc H1 G1 p1 w1=>?_⟩;cases c with
 | true=>exact tH (k _ H1 G1 (p1.1 rfl) w1)
 | false=>exact tG ⟨G1,ρ,P,w1.gh,re.mono w1.gg,p1.2 rfl,Au (K:=K) k w1⟩
end
end DL
namespace DL
open PySem L2
section
variable {X:Cx} {a b c e:Expr} {ta tb tc te:DT} {pos:Pos} {es:List Expr}
noncomputable def zJ (r r':D2)(ta tb tc:DT):DT:=λρ Q=>ta ρ λx=>tb ρ λy=>r x.val y.val λz=>match z.val with
 | .bl c=>(c=true->tc ρ λw=>r' y.val w.val Q)/\(c=false->Q (.p (.bl false)))
 | _=>False
theorem kf {t:ig}(ha:oY X a t):DW X (.BoolOp .And [a] pos) t:=⟨Dj ha.pt⟩
theorem jD {t:ig}(ha:oY X a t):DW X (.BoolOp .Or [a] pos) t:=⟨FL ha.pt⟩
theorem lu {t u:ig}{rest:List Expr}(ha:oY X a t)(hb:DW X (.BoolOp .And (b::rest) pos) u):DW X (.BoolOp .And (a::b::rest) pos) (B6 t u):=DW.of (FJ ha.pt hb.pw) ED
theorem nB {t u:ig}{rest:List Expr}(ha:oY X a t)(hb:DW X (.BoolOp .Or (b::rest) pos) u):DW X (.BoolOp .Or (a::b::rest) pos) (Iq t u):=DW.of (HJ ha.pt hb.pw) GG
theorem DW.dt {t:ig}(h:DW X e t):oY X e t:=⟨PW.pt h.pw⟩
noncomputable def qD:ff:=λ_ P=>P []
noncomputable def dE (te:DT)(t:ff):ff:=λρ P=>te ρ λb=>t ρ λds=>P (b.val::ds)
theorem ai:DA X [] qD:=DA.of g8 λσ H Q ⟨G,ρ,P,s,re,h,k⟩=>k [] [] H G h rfl (Wd.refl s) .nil
theorem aa {t:ff}(ha:DE X e te)(hr:DA X es t)(hs:autoParam (starEach (e::es) X.env=(false,eval e X.env)::starEach es X.env) aZa._auto_1):DA X (e::es) (dE te t):=
 DA.of (eQ ha.pe hr.pa hs)<|by
  rintro σ H Q ⟨G,ρ,P,s,re,h,k⟩;refine ⟨G,ρ,_,s,re,h,λb v H1 G1 p1 w1 r1=>?_⟩;obtain ⟨G1',w1',r1'⟩:=r1.give w1;refine ⟨G1',ρ,_,w1'.gh,re.mono w1'.gg,p1,λds vs H2 G2 p2 l2 w2 r2=>?_⟩;exact k _ _ H2 G2 p2 (by show ds.length+1=es.length+1;rw[l2]) (w1'.trans w2) (.cons (r1'.mono w2.gg) r2)
noncomputable def sM (t:ff):DT:=λρ Q=>t ρ λds=>Q (.p (.tup ds))
noncomputable def EM (t:ff):DT:=λρ Q=>t ρ λds=>Q (.o (.lst ds))
theorem d4 {K:Frag}{H G H1 G1:Hp}{vs:List V}{ds:List D}{p:Addr}(w:Wd H G H1 G1)(hp:H1 p=none)(r:bf K G1 vs ds):Wd H G (upd H1 p (.lst vs)) G1/\fS K H G1 (upd H1 p (.lst vs)) (.ref p) (.o (.lst ds)):=
 ⟨w.own (w.hh.free hp) (w.gh.free hp),p,rfl,w.hh.free hp,w.gh.free hp,vs,aE,r⟩
theorem jo {K:Frag}{H G H1 G1:Hp}{vs:List V}{ds:List D}{p:Addr}(w:Wd H G H1 G1)(hp:H1 p=none)(r:bf K G1 vs ds):Wd H G (upd H1 p (.tup vs)) (upd G1 p (.tup vs))/\fS K H (upd G1 p (.tup vs)) (upd H1 p (.tup vs)) (.ref p) (.p (.tup ds)):=
 ⟨w.new hp,Rep.rQ aE (bf.mono (d6 (w.gh.free hp)) r)⟩
theorem bw {t:ff}{x1}(h:DA X es t)(hn:autoParam (es.length<=1000) aZh._auto_1):DE X (.Tuple es x1 pos) (sM t):=
 DE.of (A7 h.pa)<|by
  rintro σ H Q ⟨G,ρ,P,s,re,h,k⟩;refine ⟨G,ρ,_,s,re,h,λds vs H1 G1 p1 l1 w1 r1=>⟨gF (by rw[Paired.length r1,l1];exact hn),λp hp=>?_⟩⟩;obtain ⟨w2,r2⟩:=jo w1 hp r1;exact k _ _ _ _ p1 w2 r2
theorem cf {t:ff}(h:DA X es t)(hn:autoParam (es.length<=1000) aZh._auto_1):DE X (.List es pos) (EM t):=
 DE.of (A4 h.pa)<|by
  rintro σ H Q ⟨G,ρ,P,s,re,h,k⟩;refine ⟨G,ρ,_,s,re,h,λds vs H1 G1 p1 l1 w1 r1=>⟨gF (by rw[Paired.length r1,l1];exact hn),λp hp=>?_⟩⟩;obtain ⟨w2,r2⟩:=d4 w1 hp r1;exact k _ _ _ _ p1 w2 r2
noncomputable abbrev DR:=List D->(B->Prop)->Prop
noncomputable def eP (K:Frag)(R:DR):Sp:=λvs H Q _=>∃(ds:List D) (G:Hp) (P:B->Prop),ar G H/\bf K G vs ds/\R ds P/\∀b v H' G',P b->Wd H G H' G'->fS K H G' H' v b->Q v H'
noncomputable abbrev J8 (P:KP)(w:K7)(K:Frag)(mg:Str->Option Kn)(base:Heap)(x:Str)(k:Nat)(ps:List Str)(R:DR):Prop:=Fn P w K mg base x k ps (eP K R)
noncomputable def su (R:DR)(t:ff):DT:=λρ Q=>t ρ λds=>R ds Q
theorem bz {x:Str}{k:Nat}{ps:List Str}{R:DR}{p:Pos}{t:ff}(F:J8 X.prog X.w X.K X.mg X.base x k ps R)(hr:cH k X.A)(hg:Gl X x)(ha:DA X (e::es) t)
  (hdb:autoParam ((x == ("__debug__" : Str))=false) aZb._auto_1) (he:autoParam (starEach (e::es) X.env=(false,eval e X.env)::starEach es X.env) aZa._auto_1) (hpl:autoParam ((backTo pos (starEach es X.env)).any (·.1)=false) aZa._auto_1) :
  DE X (.Call (.Name x p) (e::es) [] pos) (su R t):=
 DE.of (Ea F hr hg ha.pa hdb he hpl)<|by
  rintro σ H Q ⟨G,ρ,P,s,re,h,k⟩;refine ⟨G,ρ,_,s,re,h,λds vs H1 G1 p1 l1 w1 r1=>?_⟩;show eP X.K R (vs++[]) H1 Q E0;rw[append_nil];exact ⟨ds,G1,P,w1.gh,r1,p1,pS k w1⟩
noncomputable def CallD (X:Cx)(f:Kn)(r:DR):Prop:=∃rv,fe X f rv/\∀(H G:Hp) (vs:List V) (ds:List D) (P:B->Prop) (Q:VK),ar G H->bf X.K G vs ds->r ds P->(∀b v H' G',P b->Wd H G H' G'->fS X.K H G' H' v b->Q v H')->rv vs H Q
noncomputable def GN (r:DR)(t:ff):DT:=λρ Q=>t ρ λds=>r ds Q
theorem DQ {K:Frag}{n:Nat}{t:ff}{r:DR}{rv:List V->Hp->VK->Prop}(hr:∀(H G:Hp) (vs:List V) (ds:List D) (P:B->Prop) (Q:VK),ar G H->bf K G vs ds->r ds P->(∀b v H' G',P b->Wd H G H' G'->fS K H G' H' v b->Q v H')->rv vs H Q)
  (σ:St) (H:Hp) (Q:VK):cE K (GN r t) σ H Q->IE rv (cA K n t) σ H Q:=by
 rintro ⟨G,ρ,P,s,re,h,k⟩;exact ⟨G,ρ,_,s,re,h,λds vs H1 G1 p1 l1 w1 r1=>hr H1 G1 vs ds P Q w1.gh r1 p1 (pS k w1)⟩
theorem aG {id:String}{x:Str}{p:Pos}{t:ff}{r:DR}(hc:CallD X (.builtin id) r)(hg:Gl X x)(hm:X.mg x=none)(hv:bootBuiltins x=some (.builtin id))(ha:DA X (e::es) t)(hn:autoParam (x≠"__name__") aZb._auto_1)(hdb:autoParam ((x == ("__debug__" : Str))=false) aZb._auto_1)
  (he:autoParam (starEach (e::es) X.env=(false,eval e X.env)::starEach es X.env) aZa._auto_1) (hpl:autoParam ((backTo pos (starEach es X.env)).any (·.1)=false) aZa._auto_1):DE X (.Call (.Name x p) (e::es) [] pos) (GN r t):=by
 obtain ⟨rv,h1,h2⟩:=hc;exact DE.of (ug h1 hg hm hv ha.pa hn hdb he hpl) (DQ h2)
theorem pH {T:String}{x:Str}{p:Pos}{t:ff}{r:DR}(hc:CallD X (.type T) r)(hg:Gl X x)(hm:X.mg x=none)(hv:bootBuiltins x=some (.type T))(ha:DA X (e::es) t)(hn:autoParam (x≠"__name__") aZb._auto_1)(hdb:autoParam ((x == ("__debug__" : Str))=false) aZb._auto_1)
  (he:autoParam (starEach (e::es) X.env=(false,eval e X.env)::starEach es X.env) aZa._auto_1) (hpl:autoParam ((backTo pos (starEach es X.env)).any (·.1)=false) aZa._auto_1):DE X (.Call (.Name x p) (e::es) [] pos) (GN r t):=by
 obtain ⟨rv,h1,h2⟩:=hc;exact DE.of (p8 h1 hg hm hv ha.pa hn hdb he hpl) (DQ h2)
theorem eZ {K:Frag}{G:Hp}{vs:List V}{d:D}(h:bf K G vs [d]):∃v,vs = [v]/\Rep K G v d:=by
 cases h with | cons h t=>cases t;exact ⟨_,rfl,h⟩
theorem Eh {K:Frag}{G:Hp}{vs:List V}{d d':D}(h:bf K G vs [d,d']):∃v v',vs = [v,v']/\Rep K G v d/\Rep K G v' d':=by
 cases h with | cons h t=>obtain ⟨v',rfl,h'⟩:=eZ t;exact ⟨_,_,rfl,h,h'⟩
theorem fx {K:Frag}{G:Hp}:∀{ns:List Int} {vs:List V},bf K G vs (ns.map D.int)->vs=ns.map V.int
 | [],_,h=>by cases h;rfl
 | n::ns,_,h=>by cases h with | cons h t=>rw[h.int_inv,fx t];rfl
theorem uw {K:Frag}{G:Hp}:∀{ns:List Bool} {vs:List V},bf K G vs (ns.map D.bl)->vs=ns.map V.bl
 | [],_,h=>by cases h;rfl
 | n::ns,_,h=>by cases h with | cons h t=>rw[h.uT,uw t];rfl
theorem fu {K:Frag}{G:Hp}:∀(ns:List Int),bf K G (ns.map V.int) (ns.map D.int)
 | []=>.nil
 | n::ns=>.cons (.int n) (fu ns)
noncomputable def zP:DR:=λds P=>match ds with
 | [.lst xs]=>P (.p (.int xs.length))
 | [.tup xs]=>P (.p (.int xs.length))
 | [.scr ns]=>P (.p (.int ns.length))
 | [.str x]=>x.length<=sizeLine/\P (.p (.int x.length))
 | _=>False
theorem dA:CallD X (.builtin "len") zP:=by
 refine ⟨_,xZ,λH G vs ds P Q s r h k=>?_⟩;unfold zP at h;split at h
 .obtain ⟨v,rfl,rv⟩:=eZ r;obtain ⟨a,us,rfl,e,rr⟩:=rv.lst_inv;exact ⟨_,us.length,rfl,.inl ⟨us,dc.of (s _ _ e),rfl⟩,by rw[Paired.length rr];exact k _ _ H G h (Wd.refl s) (.int _)⟩
 .obtain ⟨v,rfl,rv⟩:=eZ r;obtain ⟨a,us,rfl,e,rr⟩:=rv.cB;exact ⟨_,us.length,rfl,.inr ⟨us,aq s e,rfl⟩,by rw[Paired.length rr];exact k _ _ H G h (Wd.refl s) (.int _)⟩
 .rename_i ns;obtain ⟨v,rfl,rv⟩:=eZ r;cases rv with
  | scr e=>exact ⟨_,ns.length,rfl,.inl ⟨_,s.seq e,by simp⟩,k _ _ H G h (Wd.refl s) (.int _)⟩
 .rename_i x;obtain ⟨v,rfl,rv⟩:=eZ r;cases rv;exact ⟨_,x.length,rfl,⟨h.1,rfl⟩,k _ _ H G h.2 (Wd.refl s) (.int _)⟩
 .exact h.elim
noncomputable def EV:DR:=λds P=>match ds with
 | [.lst xs]=>∃ns:List Int,xs=ns.map D.int/\P (.p (.int ns.sum))
 | _=>False
theorem uW (hc:X.calm=true):CallD X (.builtin "sum") EV:=by
 refine ⟨_,yc hc,λH G vs ds P Q s r h k=>?_⟩;unfold EV at h;split at h
 .obtain ⟨ns,rfl,h⟩:=h;obtain ⟨v,rfl,rv⟩:=eZ r;obtain ⟨a,us,rfl,e,rr⟩:=rv.lst_inv;rw[fx rr] at e;exact ⟨a,ns,rfl,dc.of (s _ _ e),k _ _ H G h (Wd.refl s) (.int _)⟩
 .exact h.elim
noncomputable def GL:DR:=λds P=>match ds with
 | [.lst xs]=>∃ns:List Bool,xs=ns.map D.bl/\P (.p (.bl (ns.all id)))
 | _=>False
noncomputable def Gn (g:Int->Int->Int):DR:=λds P=>match ds with
 | [.int i,.int j]=>P (.p (.int (g i j)))
 | _=>False
theorem DU {f:Kn}{g:Int->Int->Int}(h:fe X f (λxs H Q=>∃i j,xs = [.int i,.int j]/\Q (.int (g i j)) H)):CallD X f (Gn g):=by
 refine ⟨_,h,λH G vs ds P Q s r h k=>?_⟩;unfold Gn at h;split at h
 .obtain ⟨v,v',rfl,r1,r2⟩:=Eh r;cases r1;cases r2;exact ⟨_,_,rfl,k _ _ H G h (Wd.refl s) (.int _)⟩
 .exact h.elim
theorem qw (hc:X.calm=true):CallD X (.builtin "max") (Gn λi j=>if j>i then j else i):=DU (x6 hc)
theorem gP (hc:X.calm=true):CallD X (.builtin "min") (Gn λi j=>if j<i then j else i):=DU (x9 hc)
noncomputable def GO:DR:=λds P=>match ds with
 | [.int i]=>P (.p (.int i))
 | [.bl c]=>P (.p (.int (if c then 1 else 0)))
 | _=>False
noncomputable def sx:DR:=λds P=>match ds with
 | [.lst xs]=>P (.o (.lst xs))
 | [.tup xs]=>P (.o (.lst xs))
 | [.scr ns]=>P (.o (.lst (ns.map D.int)))
 | _=>False
theorem vX:CallD X (.type "list") sx:=by
 refine ⟨_,qv,λH G vs ds P Q s r h k=>?_⟩;unfold sx at h;split at h
 .obtain ⟨v,rfl,rv⟩:=eZ r;obtain ⟨a,us,rfl,e,rr⟩:=rv.lst_inv;refine ⟨a,us,rfl,.inl (dc.of (s _ _ e)),λl hl=>?_⟩;obtain ⟨w2,r2⟩:=d4 (Wd.refl s) hl rr;exact k _ _ _ _ h w2 r2
 .obtain ⟨v,rfl,rv⟩:=eZ r;obtain ⟨a,us,rfl,e,rr⟩:=rv.cB;refine ⟨a,us,rfl,.inr (aq s e),λl hl=>?_⟩;obtain ⟨w2,r2⟩:=d4 (Wd.refl s) hl rr;exact k _ _ _ _ h w2 r2
 .rename_i ns;obtain ⟨v,rfl,rv⟩:=eZ r;cases rv with
  | scr e =>
   refine ⟨_,_,rfl,.inl (s.seq e),λl hl=>?_⟩;obtain ⟨w2,r2⟩:=d4 (Wd.refl s) hl (fu (K:=X.K) ns);exact k _ _ _ _ h w2 r2
 .exact h.elim
noncomputable def Kk:D->String
 | .non=>"NoneType"
 | .bl _=>"bool"
 | .int _=>"int"
 | .str _=>"str"
 | .tup _=>"tuple"
 | .lst _=>"list"
 | .scr _=>"list"
 | .dct _=>"dict"
noncomputable def Iw (T:String)(d:D):Bool:=match T with
 | "int"=>(match d with | .int _=>true | .bl _=>true | _=>false)
 | "bool"=>(match d with | .bl _=>true | _=>false)
 | "str"=>(match d with | .str _=>true | _=>false)
 | "tuple"=>(match d with | .tup _=>true | _=>false)
 | "list"=>(match d with | .lst _=>true | .scr _=>true | _=>false)
 | _=>false
noncomputable def uX:D2:=λx y Q=>match x,y with
 | .lst xs,.int i=>∃d,fI xs i=some d/\Q (.p d)
 | .tup xs,.int i=>∃d,fI xs i=some d/\Q (.p d)
 | .scr ns,.int i=>∃n,fI ns i=some n/\Q (.p (.int n))
 | .str z,.int i=>∃c,z.length<=sizeLine/\fI z.cps.toList i=some c/\Q (.p (.str ⟨#[c]⟩))
 | _,_=>False
theorem vU {K:Frag}{G:Hp}{vs:List V}{ds:List D}{i:Int}{d:D}(r:bf K G vs ds)(h:fI ds i=some d):∃v,fI vs i=some v/\Rep K G v d:=by
 unfold fI at *;rw[Paired.length r];cases e:tI ds.length i with
 | none=>rw[e] at h;cases h
 | some j =>
  rw[e] at h;exact bH r h
theorem BY {α β:Type}(f:α->β){xs:List α}{i:Int}{x:α}(h:fI xs i=some x):fI (xs.map f) i=some (f x):=by
 unfold fI at *;rw[Ks];cases e:tI xs.length i with
 | none=>rw[e] at h;cases h
 | some j =>
  rw[e] at h;have h':xs[j]?=some x:=h;show (xs.map f)[j]?=_;rw[KS,h'];rfl
theorem aH (ha:DE X a ta)(hb:DE X b tb)(hs:autoParam (vT b) aZi._auto_1):DE X (.Subscript a b pos) (mm uX ta tb):=
 DE.of (HD E6 ha.pe hb.pe hs) (nq λH G x y dx dy P Q s rx ry h k=>by
  unfold uX at h;split at h
  .cases ry;obtain ⟨d,h1,h2⟩:=h;obtain ⟨a,us,rfl,e,rr⟩:=rx.lst_inv;obtain ⟨v,h3,h4⟩:=vU rr h1;exact .inl ⟨a,us,_,v,rfl,rfl,dc.of (s _ _ e),h3,k _ _ H G h2 (Wd.refl s) h4⟩
  .cases ry;obtain ⟨d,h1,h2⟩:=h;obtain ⟨a,us,rfl,e,rr⟩:=rx.cB;obtain ⟨v,h3,h4⟩:=vU rr h1;exact .inr (.inl ⟨a,us,_,v,rfl,rfl,aq s e,h3,k _ _ H G h2 (Wd.refl s) h4⟩)
  .cases ry;obtain ⟨n,h1,h2⟩:=h;cases rx with
   | scr e=>exact .inl ⟨_,_,_,.int n,rfl,rfl,s.seq e,BY _ h1,k _ _ H G h2 (Wd.refl s) (.int _)⟩
  .cases rx;cases ry;obtain ⟨c,h0,h1,h2⟩:=h;exact .inr (.inr ⟨_,_,c,rfl,rfl,h0,h1,k _ _ H G h2 (Wd.refl s) (.str _)⟩)
  .exact h.elim)
noncomputable abbrev zp:=ax->(Option Int->Prop)->Prop
noncomputable def cO (K:Frag)(t:zp):TO:=λσ H Q=>∃(G:Hp) (ρ:ax) (P:Option Int->Prop),ar G H/\dM K G σ ρ/\t ρ P/\∀o H' G',P o->Wd H G H' G'->Q o H'
structure DO (X:Cx)(e:Option Expr)(t:zp):Prop where
 po:PO X e (cO X.K t)
noncomputable def mH:zp:=λ_ P=>P none
noncomputable def fK (t:DT):zp:=λρ P=>t ρ λb=>match b.val with
 | .int i=>P (some i)
 | _=>False
theorem dg {K:Frag}{H G H' G':Hp}{v:V}{b:B}{c:Int}(w:Wd H G H' G')(r:fS K H G' H' v b)(e:b.val=.int c):v=.int c:=by
 obtain ⟨G1,_,r1⟩:=r.give w;rw[e] at r1;exact r1.int_inv
theorem PO.imp {e:Option Expr}{t t':TO}(h:PO X e t)(i:∀σ H Q,t' σ H Q->t σ H Q):PO X e t':=λpins s σ H Q I q=>h pins s σ H Q I (i σ H Q q)
theorem DO.of {e:Option Expr}{t:TO}{t':zp}(h:PO X e t)(i:∀σ H Q,cO X.K t' σ H Q->t σ H Q):DO X e t':=⟨PO.imp h i⟩
theorem aQ:DO X none mH:=DO.of rn λσ H Q ⟨G,ρ,P,s,re,h,k⟩=>k _ H G h (Wd.refl s)
theorem az (he:DE X e te):DO X (some e) (fK te):=DO.of (rp he.pe)<|by
 rintro σ H Q ⟨G,ρ,P,s,re,h,k⟩;refine ⟨G,ρ,_,s,re,h,λb v H1 G1 p1 w1 r1=>?_⟩;split at p1
 .rename_i i e;exact ⟨i,dg w1 r1 e,k _ H1 G1 p1 w1⟩
 .exact p1.elim
noncomputable def eD {α:Type}(xs:List α)(lo hi:Option Int):List α:=(xs.drop (HT.df xs.length 0 lo)).take (HT.df xs.length xs.length hi - HT.df xs.length 0 lo)
theorem iK {α β:Type}{F:α->β->Prop}:∀{l:List α} {r:List β} (n:Nat),Paired F l r->Paired F (l.drop n) (r.drop n)
 | _,_,0,h=>h
 | _,_,n+1,.nil=>by rw[List.drop_nil,List.drop_nil];exact .nil
 | _,_,n+1,.cons _ t=>iK n t
theorem iL {α β:Type}{F:α->β->Prop}:∀{l:List α} {r:List β} (n:Nat),Paired F l r->Paired F (l.take n) (r.take n)
 | _,_,0,h=>by rw[List.take_zero,List.take_zero];exact .nil
 | _,_,n+1,.nil=>by rw[List.take_nil,List.take_nil];exact .nil
 | _,_,n+1,.cons h t=>.cons h (iL n t)
theorem ux {K:Frag}{G:Hp}{vs:List V}{ds:List D}(r:bf K G vs ds)(lo hi:Option Int):bf K G (eE vs lo hi) (eD ds lo hi):=by
 unfold eE eD;rw[Paired.length r];exact iL _ (iK _ r)
noncomputable def DZ (te:DT)(tl th:zp):DT:=λρ Q=>te ρ λb=>tl ρ λlo=>th ρ λhi=>match b.val with
 | .lst xs=>Q (.o (.lst (eD xs lo hi)))
 | .scr ns=>Q (.o (.lst ((eD ns lo hi).map D.int)))
 | .tup xs=>¬(HT.df xs.length 0 lo=0/\HT.df xs.length xs.length hi=xs.length)/\Q (.p (.tup (eD xs lo hi)))
 | _=>False
theorem iy {α:Type}(f:α->V)(xs:List α)(lo hi:Option Int):eE (xs.map f) lo hi=(eD xs lo hi).map f:=by
 unfold eE eD;rw[Ks,map_take,map_drop]
theorem aC {lo hi:Option Expr}{tl th:zp}{p2:Pos}(he:DE X e te)(hl:DO X lo tl)(hu:DO X hi th):DE X (.Subscript e (.Slice lo hi none p2) pos) (DZ te tl th):=
 DE.of (nW (rF.or FU) he.pe hl.po hu.po)<|by
  rintro σ H Q ⟨G,ρ,P,s,re,h,k⟩;refine ⟨G,ρ,_,s,re,h,λb v H1 G1 p1 w1 r1=>?_⟩;obtain ⟨G1',w1',r1'⟩:=r1.give w1;refine ⟨G1',ρ,_,w1'.gh,re.mono w1'.gg,p1,λl H2 G2 p2 w2=>?_⟩;have w12:=w1'.trans w2;refine ⟨G2,ρ,_,w2.gh,re.mono w12.gg,p2,λu H3 G3 p3 w3=>?_⟩;have w13:=w12.trans w3;have r3:=r1'.mono (w2.trans w3).gg;split at p3
  .rename_i xs e;rw[e] at r3;obtain ⟨a,us,rfl,e,rr⟩:=r3.lst_inv;refine .inl ⟨a,us,rfl,dc.of (w3.gh _ _ e),λp hp=>?_⟩;obtain ⟨w4,r4⟩:=d4 w13 hp (ux rr l u);exact k _ _ _ _ p3 w4 r4
  .rename_i ns e;rw[e] at r3;cases r3 with
   | scr e =>
    refine .inl ⟨_,_,rfl,w3.gh.seq e,λp hp=>?_⟩;rw[iy];obtain ⟨w4,r4⟩:=d4 w13 hp (fu (K:=X.K) (eD ns l u));exact k _ _ _ _ p3 w4 r4
  .rename_i xs e;rw[e] at r3;obtain ⟨a,us,rfl,e,rr⟩:=r3.cB;refine .inr ⟨a,us,rfl,aq w3.gh e,by rw[Paired.length rr];exact p3.1,λp hp=>?_⟩;obtain ⟨w4,r4⟩:=jo w13 hp (ux rr l u);exact k _ _ _ _ p3.2 w4 r4
  .exact p3.elim
theorem lG {K:Frag}{G:Hp}{vs:List V}{ds:List D}(r:bf K G vs ds):∀js:List Nat,bf K G (js.filterMap λj=>vs[j]?) (js.filterMap λj=>ds[j]?)
 | []=>.nil
 | j::js=>by
  rw[filterMap_cons,filterMap_cons];cases e:ds[j]? with
  | none =>
   have:vs[j]?=none:=by
    rw[List.getElem?_eq_none_iff] at e ⊢;rw[Paired.length r];exact e
   rw[this];exact lG r js
  | some d =>
   obtain ⟨v,h1,h2⟩:=bH r e;rw[h1];exact .cons h2 (lG r js)
theorem yO {K:Frag}{G:Hp}{vs:List V}{ds:List D}(r:bf K G vs ds)(lo hi st:Option Int):bf K G (d9 vs lo hi st) (d9 ds lo hi st):=by
 unfold d9;rw[Paired.length r];exact lG r _
noncomputable def GQ (te:DT)(tl th ts:zp):DT:=λρ Q=>te ρ λb=>tl ρ λlo=>th ρ λhi=>ts ρ λst=>st≠some 0/\match b.val with
 | .lst xs=>Q (.o (.lst (d9 xs lo hi st)))
 | .scr ns=>Q (.o (.lst ((d9 ns lo hi st).map D.int)))
 | _=>False
theorem pJ {lo hi:Option Expr}{st:Expr}{tl th ts:zp}{p2:Pos}(he:DE X e te)(hl:DO X lo tl)(hu:DO X hi th)(hs:DO X (some st) ts):DE X (.Subscript e (.Slice lo hi (some st) p2) pos) (GQ te tl th ts):=
 DE.of (yJ he.pe hl.po hu.po hs.po)<|by
  rintro σ H Q ⟨G,ρ,P,s,re,h,k⟩;refine ⟨G,ρ,_,s,re,h,λb v H1 G1 p1 w1 r1=>?_⟩;obtain ⟨G1',w1',r1'⟩:=r1.give w1;refine ⟨G1',ρ,_,w1'.gh,re.mono w1'.gg,p1,λl H2 G2 p2 w2=>?_⟩;have w12:=w1'.trans w2;refine ⟨G2,ρ,_,w2.gh,re.mono w12.gg,p2,λu H3 G3 p3 w3=>?_⟩;have w13:=w12.trans w3;refine ⟨G3,ρ,_,w3.gh,re.mono w13.gg,p3,λst H4 G4 p4 w4=>?_⟩;have w14:=w13.trans w4;have r3:=r1'.mono ((w2.trans w3).trans w4).gg;obtain ⟨h0,p4⟩:=p4;split at p4
  .rename_i xs e;rw[e] at r3;obtain ⟨a,us,rfl,e,rr⟩:=r3.lst_inv;refine ⟨a,us,rfl,dc.of (w4.gh _ _ e),h0,λp hp=>?_⟩;obtain ⟨w5,r5⟩:=d4 w14 hp (yO rr l u st);exact k _ _ _ _ p4 w5 r5
  .rename_i ns e;rw[e] at r3;cases r3 with
   | scr e =>
    refine ⟨_,_,rfl,w4.gh.seq e,h0,λp hp=>?_⟩;rw[y7];obtain ⟨w5,r5⟩:=d4 w14 hp (fu (K:=X.K) (d9 ns l u st));exact k _ _ _ _ p4 w5 r5
  .exact p4.elim
noncomputable def ye:D2:=λx y Q=>match x,y with
 | .int i,.int j=>Q (.p (.int (i+j)))
 | .lst xs,.lst ys=>xs.length+ys.length<=sizeLine/\Q (.o (.lst (xs++ys)))
 | .str x,.str y=>x.length+y.length<=sizeLine/\Q (.p (.str (x++y)))
 | .tup xs,.tup ys=>xs≠[]/\ys≠[]/\xs.length+ys.length<=sizeLine/\Q (.p (.tup (xs++ys)))
 | _,_=>False
theorem bA {α β:Type}{F:α->β->Prop}:∀{l l':List α} {r r':List β},Paired F l r->Paired F l' r'->Paired F (l++l') (r++r')
 | _,_,_,_,.nil,h=>h
 | _,_,_,_,.cons h t,h'=>.cons h (bA t h')
theorem aD:m7 X (binaryOp .Add) ye:=by
 refine ⟨_,Fp.or (AY.or (vE.or mQ)),λH G x y dx dy P Q s rx ry h k=>?_⟩;unfold ye at h;split at h
 .cases rx;cases ry;exact .inl ⟨_,_,rfl,rfl,k _ _ H G h (Wd.refl s) (.int _)⟩
 .obtain ⟨a,us,rfl,e,rr⟩:=rx.lst_inv;obtain ⟨a',us',rfl,e',rr'⟩:=ry.lst_inv;refine .inr (.inl ⟨a,a',us,us',rfl,rfl,s _ _ e,s _ _ e',by rw[Paired.length rr,Paired.length rr'];exact h.1,λp hp=>?_⟩);obtain ⟨w2,r2⟩:=d4 (Wd.refl s) hp (bA rr rr');exact k _ _ _ _ h.2 w2 r2
 .cases rx;cases ry;exact .inr (.inr (.inl ⟨_,_,rfl,rfl,h.1,k _ _ H G h.2 (Wd.refl s) (.str _)⟩))
 .obtain ⟨h1,h2,h3,h4⟩:=h;obtain ⟨a,us,rfl,e,rr⟩:=rx.cB;obtain ⟨a',us',rfl,e',rr'⟩:=ry.cB;refine .inr (.inr (.inr ⟨a,a',us,us',rfl,rfl,aq s e,aq s e',λz=>?_,by rw[Paired.length rr,Paired.length rr'];exact h3,λz=>?_,λ_ p hp=>?_⟩))
  .subst z;cases rr;exact h1 rfl
  .subst z;cases rr';exact (h2 rfl).elim
  .obtain ⟨w2,r2⟩:=jo (Wd.refl s) hp (bA rr rr');exact k _ _ _ _ h4 w2 r2
 .exact h.elim
noncomputable def EN:D2:=λx y Q=>match x,y with
 | .int i,.int j=>uM i j/\Q (.p (.int (i*j)))
 | .lst xs,.int k=>(-(2 ^ 63)<=k/\k<2 ^ 63)/\xs.length*k.toNat<=sizeLine/\Q (.o (.lst (Le k.toNat xs).flatten))
 | _,_=>False
theorem uy {K:Frag}{G:Hp}{vs:List V}{ds:List D}(r:bf K G vs ds):∀n:Nat,bf K G (Le n vs).flatten (Le n ds).flatten
 | 0=>.nil
 | n+1=>by
  rw[List.replicate_succ,List.replicate_succ,List.flatten_cons,List.flatten_cons];exact bA r (uy r n)
theorem gA:m7 X (binaryOp .Mult) EN:=by
 refine ⟨_,Fv.or Fz,λH G x y dx dy P Q s rx ry h k=>?_⟩;unfold EN at h;split at h
 .cases rx;cases ry;exact .inl ⟨_,_,rfl,rfl,h.1,k _ _ H G h.2 (Wd.refl s) (.int _)⟩
 .cases ry;obtain ⟨a,us,rfl,e,rr⟩:=rx.lst_inv;obtain ⟨⟨h1,h2⟩,h3,h4⟩:=h;refine .inr ⟨a,_,us,rfl,rfl,s _ _ e,h1,h2,by rw[Paired.length rr];exact h3,λp hp=>?_⟩;obtain ⟨w2,r2⟩:=d4 (Wd.refl s) hp (uy rr _);exact k _ _ _ _ h4 w2 r2
 .exact h.elim
end
end DL
namespace DL
open PySem L2
mutual
noncomputable def bI:D->D->Bool
 | .non,.non=>true
 | .bl a,.bl b=>a == b
 | .bl a,.int b=>(if a then 1 else 0) == b
 | .int a,.bl b=>a == (if b then 1 else 0)
 | .int a,.int b=>a == b
 | .str a,.str b=>a == b
 | .tup xs,.tup ys=>jK xs ys
 | .lst xs,.lst ys=>jK xs ys
 | _,_=>false
noncomputable def jK:List D->List D->Bool
 | [],[]=>true
 | x::xs,y::ys=>bI x y && jK xs ys
 | _,_=>false
end
mutual
noncomputable def dep:D->Nat
 | .tup xs=>gQ xs+1
 | .lst xs=>gQ xs+1
 | _=>0
noncomputable def gQ:List D->Nat
 | []=>0
 | x::xs=>max (dep x) (gQ xs)
end
mutual
noncomputable def cF:D->Bool
 | .tup xs=>iJ xs
 | .lst xs=>iJ xs
 | .scr _=>false
 | .dct _=>false
 | _=>true
noncomputable def iJ:List D->Bool
 | []=>true
 | x::xs=>cF x && iJ xs
end
theorem kF (xs:List D):cF (.tup xs)=iJ xs:=by rw[cF]
theorem g7 (xs:List D):cF (.lst xs)=iJ xs:=by rw[cF]
theorem jg (i:Int):cF (.int i)=true:=by unfold cF;rfl
theorem dm:iJ []=true:=by rw[iJ]
theorem eF (x:D)(xs:List D):iJ (x::xs)=(cF x && iJ xs):=by rw[iJ]
theorem qH (xs:List D):dep (.tup xs)=gQ xs+1:=by rw[dep]
theorem mN (xs:List D):dep (.lst xs)=gQ xs+1:=by rw[dep]
theorem mM (i:Int):dep (.int i)=0:=by unfold dep;rfl
theorem iB:gQ []=0:=by rw[gQ]
theorem gf (x:D)(xs:List D):gQ (x::xs)=max (dep x) (gQ xs):=by rw[gQ]
theorem iA:∀{xs:List D} {i:Nat} {x:D},xs[i]?=some x->dep x<=gQ xs
 | [],_,_,h=>by simp at h
 | y::xs,0,x,h=>by simp at h;subst h;unfold gQ;exact Nat.le_max_left _ _
 | y::xs,i+1,x,h=>by
  have:=iA (xs:=xs) (i:=i) (x:=x) (by simpa using h);unfold gQ;exact Nat.le_trans this (Nat.le_max_right _ _)
theorem cj:∀{xs:List D} {i:Nat} {x:D},iJ xs=true->xs[i]?=some x->cF x=true
 | [],_,_,_,h=>by simp at h
 | y::xs,0,x,n,h=>by simp at h;subst h;unfold iJ at n;exact (La _ _ ▸ n).1
 | y::xs,i+1,x,n,h=>by
  unfold iJ at n;exact cj (xs:=xs) (i:=i) (x:=x) (La _ _ ▸ n).2 (by simpa using h)
theorem all_succ (n:Nat)(f:Nat->Bool):(K6 (n+1)).all f=(f 0 && (K6 n).all λi=>f (i+1)):=by
 rw[List.range_succ_eq_map,List.all_cons,List.all_map];rfl
theorem uj:∀(xs ys:List D),jK xs ys=((K6 (min xs.length ys.length)).all (λi=>match xs[i]?,ys[i]? with | some x,some y=>bI x y | _,_=>true) && xs.length == ys.length)
 | [],[]=>by unfold jK;rfl
 | [],y::ys=>by unfold jK;simp
 | x::xs,[]=>by unfold jK;simp
 | x::xs,y::ys=>by
  unfold jK;rw[uj xs ys];have:min (x::xs).length (y::ys).length=min xs.length ys.length+1:=by simp only[K9];lia
  rw[this,all_succ];simp only[List.getElem?_cons_zero,List.getElem?_cons_succ,K9,Bool.and_assoc];congr 2;simp
noncomputable def jw (xs ys:List D)(i:Nat):Bool:=match xs[i]?,ys[i]? with | some x,some y=>bI x y | _,_=>true
section
variable {X:Cx} {pins:List (Addr×Obj)} {σ:St} {H G:Hp} {s:Kp}
theorem items_eqAt {A:K1}{us us':List Kn}{vs vs':List V}{ds ds':List D}(r1:Vals vs us)(r2:Vals vs' us')(k1:bf X.K G vs ds)(k2:bf X.K G vs' ds')
  (ih:∀(i:Nat) (d d':D) (x y:V) (u v:Kn),ds[i]?=some d->ds'[i]?=some d'->Rep X.K G x d->Rep X.K G y d'->RelV x u->RelV y v->SeqAt.EqAt A s u v (bI d d')) :
  ∀j (h1:j<us.toArray.size) (h2:j<us'.toArray.size),SeqAt.EqAt A s us.toArray[j] us'.toArray[j] (jw ds ds' j):=λj q1 q2=>by
 have q1':j<us.length:=by simpa using q1
 have q2':j<us'.length:=by simpa using q2
 have l1:=r1.length;have l2:=r2.length;have e1:vs[j]?=some vs[j]:=Kt (by lia);have e2:vs'[j]?=some vs'[j]:=Kt (by lia);obtain ⟨u1,g1,s1⟩:=r1.get e1;obtain ⟨u2,g2,s2⟩:=r2.get e2;obtain ⟨d1,f1,t1⟩:=WS.jI k1 e1;obtain ⟨d2,f2,t2⟩:=WS.jI k2 e2;have z1:us.toArray[j]=u1:=by rw[Kt q1'] at g1;simpa using Option.some.inj g1
 have z2:us'.toArray[j]=u2:=by rw[Kt q2'] at g2;simpa using Option.some.inj g2
 rw[z1,z2];unfold jw;rw[f1,f2];exact ih j d1 d2 _ _ _ _ f1 f2 t1 t2 s1 s2
theorem kJ (xs ys:List D):jK xs ys=((K6 (min xs.length ys.length)).all (jw xs ys) && xs.length == ys.length):=uj xs ys
theorem uk {xs ys:List D}(h:xs.length=ys.length):jK xs ys=(K6 xs.length).all (jw xs ys):=by
 rw[kJ,h];simp
theorem iM {xs ys:List D}(h:xs.length≠ys.length):jK xs ys=false:=by
 rw[kJ];have:(xs.length == ys.length)=false:=by simpa using h
 rw[this,Bool.and_false]
theorem sz {vs:List V}{us:List Kn}{ds:List D}(r:Vals vs us)(k:bf X.K G vs ds):us.toArray.size=ds.length:=by
 rw[KN,<-r.length,Paired.length k]
mutual
theorem ui:∀d:D,cF d=true->bI d d=true
 | .non,_=>by unfold bI;rfl
 | .bl a,_=>by unfold bI;simp
 | .int a,_=>by unfold bI;simp
 | .str a,_=>by unfold bI;simp
 | .tup xs,h=>by unfold bI;unfold cF at h;exact fE xs h
 | .lst xs,h=>by unfold bI;unfold cF at h;exact fE xs h
 | .scr _,h=>by unfold cF at h;cases h
 | .dct _,h=>by unfold cF at h;cases h
theorem fE:∀ds:List D,iJ ds=true->jK ds ds=true
 | [],_=>by unfold jK;rfl
 | d::ds,h=>by
  unfold iJ at h;have h':=La _ _ ▸ h;unfold jK;rw[ui d h'.1,fE ds h'.2];rfl
end
theorem xH (I:Inv X pins σ H s)(sG:ar G H){x:V}{d:D}(h:Rep X.K G x d):cF d=true->∀{d':D},Rep X.K G x d'->cF d'=true->d=d':=by
  induction h with
  | non=>intro _ d' h _;cases h;rfl
  | bl b=>intro _ d' h _;cases h;rfl
  | int i=>intro _ d' h _;cases h;rfl
  | str z=>intro _ d' h _;cases h;rfl
  | scr _=>intro n;unfold cF at n;cases n
  | dct _=>intro n;unfold cF at n;cases n
  | @tup a vs ds h l r ih =>
    intro n d' h' n';unfold cF at n;cases h' with
    | scr _=>unfold cF at n';cases n'
    | dct _=>unfold cF at n';cases n'
    | lst h2 l2 r2 =>
      obtain ⟨_,_,t1,_⟩:=I.tuple (aq sG (.inl (.inl h)));obtain ⟨_,_,t2,_⟩:=I.list (dc.of (sG _ _ h2));exact absurd rfl (SeqAt.ne_of_list_tuple t2.isList t1)
    | @tup _ _ ds2 h2 l2 r2 =>
      unfold cF at n';have e:=I.ze (aq sG (.inl (.inl h))) (aq sG (.inl (.inl h2)));subst e;congr 1;refine List.ext_getElem? λi=>?_;by_cases hi:i<vs.length
      · rw [Kt (show i < _ by lia), Kt (show i < _ by lia)];have e1:=Kt (l:=ds) (show i<_ by lia);have e2:=Kt (l:=ds2) (show i<_ by lia);exact congrArg some (ih i _ _ (Kt hi) e1 (cj n e1) (r2 i _ _ (Kt hi) e2) (cj n' e2))
      · rw[List.getElem?_eq_none (by lia),List.getElem?_eq_none (by lia)]
  | @lst a vs ds h l r ih =>
    intro n d' h' n';unfold cF at n;cases h' with
    | scr _=>unfold cF at n';cases n'
    | dct _=>unfold cF at n';cases n'
    | tup h2 l2 r2 =>
      obtain ⟨_,_,t1,_⟩:=I.tuple (aq sG (.inl (.inl h2)));obtain ⟨_,_,t2,_⟩:=I.list (dc.of (sG _ _ h));exact absurd rfl (SeqAt.ne_of_list_tuple t2.isList t1)
    | @lst _ _ ds2 h2 l2 r2 =>
      unfold cF at n';rw[h] at h2;cases h2;congr 1;refine List.ext_getElem? λi=>?_;by_cases hi:i<vs.length
      · rw [Kt (show i < _ by lia), Kt (show i < _ by lia)];have e1:=Kt (l:=ds) (show i<_ by lia);have e2:=Kt (l:=ds2) (show i<_ by lia);exact congrArg some (ih i _ _ (Kt hi) e1 (cj n e1) (r2 i _ _ (Kt hi) e2) (cj n' e2))
      · rw[List.getElem?_eq_none (by lia),List.getElem?_eq_none (by lia)]
theorem Ak (I:Inv X pins σ H s)(sG:ar G H):∀(n:Nat) (dx dy:D),dep dx<=n->cF dx=true->cF dy=true->∀{x y:V} {u v:Kn} {A:K1},Rep X.K G x dx->Rep X.K G y dy->RelV x u->RelV y v->A.units+n<cLine->SeqAt.EqAt A s u v (bI dx dy):=by
 intro n;induction n with
 | zero =>
  intro dx dy hd n1 n2 x y u v A rx ry ru rv hu;have hu0:A.units<cLine:=hu;cases rx with
  | scr _=>unfold cF at n1;cases n1
  | dct _=>unfold cF at n1;cases n1
  | tup h l r=>unfold dep at hd;lia
  | lst h l r=>unfold dep at hd;lia
  | non =>
   cases ru;cases ry with
   | scr _=>unfold cF at n2;cases n2
   | dct _=>unfold cF at n2;cases n2
   | non=>cases rv;unfold bI;exact SeqAt.EqAt.same _
   | bl b=>cases rv;unfold bI;exact SeqAt.EqAt.none_bool b
   | int i=>obtain ⟨t,rfl⟩:=rv;unfold bI;exact SeqAt.EqAt.none_int i t
   | str z=>obtain ⟨t,rfl⟩:=rv;unfold bI;exact SeqAt.EqAt.none_str z t
   | tup h l r=>cases rv;obtain ⟨is,r1,t1,z1⟩:=I.tuple (aq sG (.inl (.inl h)));unfold bI;exact SeqAt.EqAt.none_tuple t1 hu0
   | lst h l r=>cases rv;obtain ⟨is,r1,t1,z1⟩:=I.list (dc.of (sG _ _ h));unfold bI;exact SeqAt.EqAt.none_list t1.isList hu0
  | bl a =>
   cases ru;cases ry with
   | scr _=>unfold cF at n2;cases n2
   | dct _=>unfold cF at n2;cases n2
   | non=>cases rv;unfold bI;exact SeqAt.EqAt.bool_none a
   | bl b=>cases rv;unfold bI;exact SeqAt.EqAt.bool_bool a b
   | int i=>obtain ⟨t,rfl⟩:=rv;unfold bI;exact SeqAt.EqAt.bool_int a i t
   | str z=>obtain ⟨t,rfl⟩:=rv;unfold bI;exact SeqAt.EqAt.bool_str a z t
   | tup h l r=>cases rv;obtain ⟨is,r1,t1,z1⟩:=I.tuple (aq sG (.inl (.inl h)));unfold bI;exact SeqAt.EqAt.bool_tuple a t1 hu0
   | lst h l r=>cases rv;obtain ⟨is,r1,t1,z1⟩:=I.list (dc.of (sG _ _ h));unfold bI;exact SeqAt.EqAt.bool_list a t1.isList hu0
  | int a =>
   obtain ⟨tt,rfl⟩:=ru;cases ry with
   | scr _=>unfold cF at n2;cases n2
   | dct _=>unfold cF at n2;cases n2
   | non=>cases rv;unfold bI;exact SeqAt.EqAt.int_none a tt
   | bl b=>cases rv;unfold bI;exact SeqAt.EqAt.int_bool a tt b
   | int i=>obtain ⟨t,rfl⟩:=rv;unfold bI;exact SeqAt.EqAt.int_int a tt i t
   | str z=>obtain ⟨t,rfl⟩:=rv;unfold bI;exact SeqAt.EqAt.int_str a tt z t
   | tup h l r=>cases rv;obtain ⟨is,r1,t1,z1⟩:=I.tuple (aq sG (.inl (.inl h)));unfold bI;exact SeqAt.EqAt.int_tuple a tt t1 hu0
   | lst h l r=>cases rv;obtain ⟨is,r1,t1,z1⟩:=I.list (dc.of (sG _ _ h));unfold bI;exact SeqAt.EqAt.int_list a tt t1.isList hu0
  | str a =>
   obtain ⟨tt,rfl⟩:=ru;cases ry with
   | scr _=>unfold cF at n2;cases n2
   | dct _=>unfold cF at n2;cases n2
   | non=>cases rv;unfold bI;exact SeqAt.EqAt.str_none a tt
   | bl b=>cases rv;unfold bI;exact SeqAt.EqAt.str_bool a tt b
   | int i=>obtain ⟨t,rfl⟩:=rv;unfold bI;exact SeqAt.EqAt.str_int a tt i t
   | str z=>obtain ⟨t,rfl⟩:=rv;unfold bI;exact SeqAt.EqAt.str_str a tt z t
   | tup h l r=>cases rv;obtain ⟨is,r1,t1,z1⟩:=I.tuple (aq sG (.inl (.inl h)));unfold bI;exact SeqAt.EqAt.str_tuple a tt t1 hu0
   | lst h l r=>cases rv;obtain ⟨is,r1,t1,z1⟩:=I.list (dc.of (sG _ _ h));unfold bI;exact SeqAt.EqAt.str_list a tt t1.isList hu0
 | succ n ihn =>
  intro dx dy hd n1 n2 x y u v A rx ry ru rv hu;have hu0:A.units<cLine:=by lia
  by_cases hs:dep dx=0
  .exact ihn dx dy (by lia) n1 n2 rx ry ru rv (by lia)
  cases rx with
  | scr _=>unfold cF at n1;cases n1
  | dct _=>unfold cF at n1;cases n1
  | non=>unfold dep at hs;exact absurd rfl hs
  | bl _=>unfold dep at hs;exact absurd rfl hs
  | int _=>unfold dep at hs;exact absurd rfl hs
  | str _=>unfold dep at hs;exact absurd rfl hs
  | @tup a vs ds h l r =>
   cases ru;obtain ⟨is,r1,t1,z1⟩:=I.tuple (aq sG (.inl (.inl h)));cases ry with
   | scr _=>unfold cF at n2;cases n2
   | dct _=>unfold cF at n2;cases n2
   | non=>cases rv;unfold bI;exact SeqAt.EqAt.tuple_none t1 hu0
   | bl b=>cases rv;unfold bI;exact SeqAt.EqAt.tuple_bool b t1 hu0
   | int i=>obtain ⟨t,rfl⟩:=rv;unfold bI;exact SeqAt.EqAt.tuple_int i t t1 hu0
   | str z=>obtain ⟨t,rfl⟩:=rv;unfold bI;exact SeqAt.EqAt.tuple_str z t t1 hu0
   | lst h2 l2 rr2=>cases rv;obtain ⟨is2,r2,t2,z2⟩:=I.list (dc.of (sG _ _ h2));unfold bI;exact SeqAt.EqAt.tuple_list t1 t2.isList hu0
   | @tup a' vs' ds' h2 l2 rr2 =>
    cases rv;obtain ⟨is2,r2,t2,z2⟩:=I.tuple (aq sG (.inl (.inl h2)));unfold bI;unfold dep at hd;unfold cF at n1 n2;have key:=SeqAt.RcAt.tuples (A:=A) (s:=s) (e:=jw ds ds') t1 t2 hu0 (items_eqAt (X:=X) (G:=G) r1 r2 (aI l r) (aI l2 rr2) λi d d' x y u v e1 e2 k1 k2 w1 w2 =>
     ihn d d' (by have:=iA e1;lia) (cj n1 e1) (cj n2 e2) k1 k2 w1 w2 (by show A.units+1+n<cLine;lia))
    rw[sz r1 (aI l r),sz r2 (aI l2 rr2),<-kJ] at key;by_cases hab:a=a'
    .subst hab;have e:ds=ds':=by
      have:=xH I sG (.tup h l r) (by unfold cF;exact n1) (.tup h2 l2 rr2) (by unfold cF;exact n2);injection this
     subst e;rw[fE ds n1];exact SeqAt.EqAt.same _
    .exact SeqAt.EqAt.of_refs hab key
  | @lst a vs ds h l r =>
   cases ru;obtain ⟨is,r1,t1,z1⟩:=I.list (dc.of (sG _ _ h));cases ry with
   | scr _=>unfold cF at n2;cases n2
   | dct _=>unfold cF at n2;cases n2
   | non=>cases rv;unfold bI;exact SeqAt.EqAt.list_none t1.isList hu0
   | bl b=>cases rv;unfold bI;exact SeqAt.EqAt.list_bool b t1.isList hu0
   | int i=>obtain ⟨t,rfl⟩:=rv;unfold bI;exact SeqAt.EqAt.list_int i t t1.isList hu0
   | str z=>obtain ⟨t,rfl⟩:=rv;unfold bI;exact SeqAt.EqAt.list_str z t t1.isList hu0
   | tup h2 l2 rr2=>cases rv;obtain ⟨is2,r2,t2,z2⟩:=I.tuple (aq sG (.inl (.inl h2)));unfold bI;exact SeqAt.EqAt.list_tuple t1.isList t2 hu0
   | @lst a' vs' ds' h2 l2 rr2 =>
    cases rv;obtain ⟨is2,r2,t2,z2⟩:=I.list (dc.of (sG _ _ h2));unfold bI;unfold dep at hd;unfold cF at n1 n2;by_cases hab:a=a'
    .subst hab;have e:ds=ds':=by
      have:=xH I sG (.lst h l r) (by unfold cF;exact n1) (.lst h2 l2 rr2) (by unfold cF;exact n2);injection this
     subst e;rw[fE ds n1];exact SeqAt.EqAt.same _
    .refine SeqAt.EqAt.of_refs hab ?_;by_cases hlen:ds.length=ds'.length
     .have key:=SeqAt.RcAt.lists (A:=A) (s:=s) (e:=jw ds ds') t1.isList t2.isList (by rw[sz r1 (aI l r),sz r2 (aI l2 rr2)];exact hlen) hu0 (items_eqAt (X:=X) (G:=G) r1 r2 (aI l r) (aI l2 rr2) λi d d' x y u v e1 e2 k1 k2 w1 w2 =>
       ihn d d' (by have:=iA e1;lia) (cj n1 e1) (cj n2 e2) k1 k2 w1 w2 (by show A.units+1+n<cLine;lia))
      rw[sz r1 (aI l r),<-uk hlen] at key;exact key
     .rw[iM hlen];exact SeqAt.RcAt.lists_lengths t1.isList t2.isList (by rw[sz r1 (aI l r),sz r2 (aI l2 rr2)];simpa using hlen) hu0
theorem Bk (I:Inv X pins σ H s)(sG:ar G H){dx dy:D}{x y:V}{u v:Kn}{A:K1}(n1:cF dx=true)(n2:cF dy=true)(rx:Rep X.K G x dx)(ry:Rep X.K G y dy)(ru:RelV x u)(rv:RelV y v)(hu:A.units+dep dx<cLine) :
  SeqAt.RcAt A s u v (bI dx dy)/\SeqAt.RcNeAt A s u v (!(bI dx dy)):=by
 have hu0:A.units<cLine:=by lia
 cases rx with
 | scr _=>unfold cF at n1;cases n1
 | dct _=>unfold cF at n1;cases n1
 | non =>
  cases ru;cases ry with
  | scr _=>unfold cF at n2;cases n2
  | dct _=>unfold cF at n2;cases n2
  | non=>cases rv;unfold bI;exact ⟨SeqAt.RcAt.none_none,SeqAt.RcNeAt.none_none⟩
  | bl b=>cases rv;unfold bI;exact ⟨SeqAt.RcAt.none_bool b,SeqAt.RcNeAt.none_bool b⟩
  | int i=>obtain ⟨t,rfl⟩:=rv;unfold bI;exact ⟨SeqAt.RcAt.none_int i t,SeqAt.RcNeAt.none_int i t⟩
  | str z=>obtain ⟨t,rfl⟩:=rv;unfold bI;exact ⟨SeqAt.RcAt.none_str z t,SeqAt.RcNeAt.none_str z t⟩
  | tup h l r=>cases rv;obtain ⟨is,r1,t1,z1⟩:=I.tuple (aq sG (.inl (.inl h)));unfold bI;exact ⟨SeqAt.RcAt.none_tuple t1 hu0,SeqAt.RcNeAt.none_tuple t1 hu0⟩
  | lst h l r=>cases rv;obtain ⟨is,r1,t1,z1⟩:=I.list (dc.of (sG _ _ h));unfold bI;exact ⟨SeqAt.RcAt.none_list t1.isList hu0,SeqAt.RcNeAt.none_list t1.isList hu0⟩
 | bl a =>
  cases ru;cases ry with
  | scr _=>unfold cF at n2;cases n2
  | dct _=>unfold cF at n2;cases n2
  | non=>cases rv;unfold bI;exact ⟨SeqAt.RcAt.bool_none a,SeqAt.RcNeAt.bool_none a⟩
  | bl b=>cases rv;unfold bI;exact ⟨SeqAt.RcAt.bool_bool a b,SeqAt.RcNeAt.bool_bool a b⟩
  | int i=>obtain ⟨t,rfl⟩:=rv;unfold bI;exact ⟨SeqAt.RcAt.bool_int a i t,SeqAt.RcNeAt.bool_int a i t⟩
  | str z=>obtain ⟨t,rfl⟩:=rv;unfold bI;exact ⟨SeqAt.RcAt.bool_str a z t,SeqAt.RcNeAt.bool_str a z t⟩
  | tup h l r=>cases rv;obtain ⟨is,r1,t1,z1⟩:=I.tuple (aq sG (.inl (.inl h)));unfold bI;exact ⟨SeqAt.RcAt.bool_tuple a t1 hu0,SeqAt.RcNeAt.bool_tuple a t1 hu0⟩
  | lst h l r=>cases rv;obtain ⟨is,r1,t1,z1⟩:=I.list (dc.of (sG _ _ h));unfold bI;exact ⟨SeqAt.RcAt.bool_list a t1.isList hu0,SeqAt.RcNeAt.bool_list a t1.isList hu0⟩
 | int a =>
  obtain ⟨tt,rfl⟩:=ru;cases ry with
  | scr _=>unfold cF at n2;cases n2
  | dct _=>unfold cF at n2;cases n2
  | non=>cases rv;unfold bI;exact ⟨SeqAt.RcAt.int_none a tt,SeqAt.RcNeAt.int_none a tt⟩
  | bl b=>cases rv;unfold bI;exact ⟨SeqAt.RcAt.int_bool a tt b,SeqAt.RcNeAt.int_bool a tt b⟩
  | int i=>obtain ⟨t,rfl⟩:=rv;unfold bI;exact ⟨SeqAt.RcAt.int_int a tt i t,SeqAt.RcNeAt.int_int a tt i t⟩
  | str z=>obtain ⟨t,rfl⟩:=rv;unfold bI;exact ⟨SeqAt.RcAt.int_str a tt z t,SeqAt.RcNeAt.int_str a tt z t⟩
  | tup h l r=>cases rv;obtain ⟨is,r1,t1,z1⟩:=I.tuple (aq sG (.inl (.inl h)));unfold bI;exact ⟨SeqAt.RcAt.int_tuple a tt t1 hu0,SeqAt.RcNeAt.int_tuple a tt t1 hu0⟩
  | lst h l r=>cases rv;obtain ⟨is,r1,t1,z1⟩:=I.list (dc.of (sG _ _ h));unfold bI;exact ⟨SeqAt.RcAt.int_list a tt t1.isList hu0,SeqAt.RcNeAt.int_list a tt t1.isList hu0⟩
 | str a =>
  obtain ⟨tt,rfl⟩:=ru;cases ry with
  | scr _=>unfold cF at n2;cases n2
  | dct _=>unfold cF at n2;cases n2
  | non=>cases rv;unfold bI;exact ⟨SeqAt.RcAt.str_none a tt,SeqAt.RcNeAt.str_none a tt⟩
  | bl b=>cases rv;unfold bI;exact ⟨SeqAt.RcAt.str_bool a tt b,SeqAt.RcNeAt.str_bool a tt b⟩
  | int i=>obtain ⟨t,rfl⟩:=rv;unfold bI;exact ⟨SeqAt.RcAt.str_int a tt i t,SeqAt.RcNeAt.str_int a tt i t⟩
  | str z=>obtain ⟨t,rfl⟩:=rv;unfold bI;exact ⟨SeqAt.RcAt.str_str a tt z t,SeqAt.RcNeAt.str_str a tt z t⟩
  | tup h l r=>cases rv;obtain ⟨is,r1,t1,z1⟩:=I.tuple (aq sG (.inl (.inl h)));unfold bI;exact ⟨SeqAt.RcAt.str_tuple a tt t1 hu0,SeqAt.RcNeAt.str_tuple a tt t1 hu0⟩
  | lst h l r=>cases rv;obtain ⟨is,r1,t1,z1⟩:=I.list (dc.of (sG _ _ h));unfold bI;exact ⟨SeqAt.RcAt.str_list a tt t1.isList hu0,SeqAt.RcNeAt.str_list a tt t1.isList hu0⟩
 | @tup a vs ds h l r =>
  cases ru;obtain ⟨is,r1,t1,z1⟩:=I.tuple (aq sG (.inl (.inl h)));cases ry with
  | scr _=>unfold cF at n2;cases n2
  | dct _=>unfold cF at n2;cases n2
  | non=>cases rv;unfold bI;exact ⟨SeqAt.RcAt.tuple_none t1 hu0,SeqAt.RcNeAt.tuple_none t1 hu0⟩
  | bl b=>cases rv;unfold bI;exact ⟨SeqAt.RcAt.tuple_bool b t1 hu0,SeqAt.RcNeAt.tuple_bool b t1 hu0⟩
  | int i=>obtain ⟨t,rfl⟩:=rv;unfold bI;exact ⟨SeqAt.RcAt.tuple_int i t t1 hu0,SeqAt.RcNeAt.tuple_int i t t1 hu0⟩
  | str z=>obtain ⟨t,rfl⟩:=rv;unfold bI;exact ⟨SeqAt.RcAt.tuple_str z t t1 hu0,SeqAt.RcNeAt.tuple_str z t t1 hu0⟩
  | lst h2 l2 rr2=>cases rv;obtain ⟨is2,r2,t2,z2⟩:=I.list (dc.of (sG _ _ h2));unfold bI;exact ⟨SeqAt.RcAt.tuple_list t1 t2.isList hu0,SeqAt.RcNeAt.tuple_list t1 t2.isList hu0⟩
  | @tup a' vs' ds' h2 l2 rr2 =>
   cases rv;obtain ⟨is2,r2,t2,z2⟩:=I.tuple (aq sG (.inl (.inl h2)));unfold bI;unfold dep at hu;unfold cF at n1 n2;have it:=items_eqAt (A:=A.in1) (s:=s) (X:=X) (G:=G) r1 r2 (aI l r) (aI l2 rr2) λi d d' x y u v e1 e2 k1 k2 w1 w2 =>
    Ak I sG (gQ ds) d d' (iA e1) (cj n1 e1) (cj n2 e2) k1 k2 w1 w2 (by show A.units+1+gQ ds<cLine;lia)
   have key:=SeqAt.RcAt.tuples (A:=A) (s:=s) (e:=jw ds ds') t1 t2 hu0 it;have key':=SeqAt.RcNeAt.tuples (A:=A) (s:=s) (e:=jw ds ds') t1 t2 hu0 it;rw[sz r1 (aI l r),sz r2 (aI l2 rr2),<-kJ] at key key';exact ⟨key,key'⟩
 | @lst a vs ds h l r =>
  cases ru;obtain ⟨is,r1,t1,z1⟩:=I.list (dc.of (sG _ _ h));cases ry with
  | scr _=>unfold cF at n2;cases n2
  | dct _=>unfold cF at n2;cases n2
  | non=>cases rv;unfold bI;exact ⟨SeqAt.RcAt.list_none t1.isList hu0,SeqAt.RcNeAt.list_none t1.isList hu0⟩
  | bl b=>cases rv;unfold bI;exact ⟨SeqAt.RcAt.list_bool b t1.isList hu0,SeqAt.RcNeAt.list_bool b t1.isList hu0⟩
  | int i=>obtain ⟨t,rfl⟩:=rv;unfold bI;exact ⟨SeqAt.RcAt.list_int i t t1.isList hu0,SeqAt.RcNeAt.list_int i t t1.isList hu0⟩
  | str z=>obtain ⟨t,rfl⟩:=rv;unfold bI;exact ⟨SeqAt.RcAt.list_str z t t1.isList hu0,SeqAt.RcNeAt.list_str z t t1.isList hu0⟩
  | tup h2 l2 rr2=>cases rv;obtain ⟨is2,r2,t2,z2⟩:=I.tuple (aq sG (.inl (.inl h2)));unfold bI;exact ⟨SeqAt.RcAt.list_tuple t1.isList t2 hu0,SeqAt.RcNeAt.list_tuple t1.isList t2 hu0⟩
  | @lst a' vs' ds' h2 l2 rr2 =>
   cases rv;obtain ⟨is2,r2,t2,z2⟩:=I.list (dc.of (sG _ _ h2));unfold bI;unfold dep at hu;unfold cF at n1 n2;by_cases hlen:ds.length=ds'.length
   .have it:=items_eqAt (A:=A.in1) (s:=s) (X:=X) (G:=G) r1 r2 (aI l r) (aI l2 rr2) λi d d' x y u v e1 e2 k1 k2 w1 w2 =>
     Ak I sG (gQ ds) d d' (iA e1) (cj n1 e1) (cj n2 e2) k1 k2 w1 w2 (by show A.units+1+gQ ds<cLine;lia)
    have e0:is.toArray.size=is2.toArray.size:=by rw[sz r1 (aI l r),sz r2 (aI l2 rr2)];exact hlen
    have key:=SeqAt.RcAt.lists (A:=A) (s:=s) (e:=jw ds ds') t1.isList t2.isList e0 hu0 it;have key':=SeqAt.RcNeAt.lists (A:=A) (s:=s) (e:=jw ds ds') t1.isList t2.isList e0 hu0 it;rw[sz r1 (aI l r),<-uk hlen] at key key';exact ⟨key,key'⟩
   .rw[iM hlen];have e0:(is.toArray.size != is2.toArray.size)=true:=by rw[sz r1 (aI l r),sz r2 (aI l2 rr2)];simpa using hlen
    exact ⟨SeqAt.RcAt.lists_lengths t1.isList t2.isList e0 hu0,SeqAt.RcNeAt.lists_lengths t1.isList t2.isList e0 hu0⟩
noncomputable def HL (K:Frag)(u:Nat)(neg:Bool):R2:=λx y H Q=>∃G dx dy,ar G H/\Rep K G x dx/\Rep K G y dy/\cF dx=true/\cF dy=true/\u+dep dx<cLine/\Q (.bl (if neg then !(bI dx dy) else bI dx dy)) H
theorem Fq:iq X (compareOp .Eq) (HL X.K X.A.units false):=by
 intro pins s σ H x y v u Q I rx ry h;obtain ⟨G,dx,dy,sG,r1,r2,n1,n2,hu,q⟩:=h;exact (Bk I sG n1 n2 r1 r2 rx ry hu).1 _ _ _ _ ⟨.bl _,H,I,rfl,q⟩
theorem Fw:iq X (compareOp .NotEq) (HL X.K X.A.units true):=by
 intro pins s σ H x y v u Q I rx ry h;obtain ⟨G,dx,dy,sG,r1,r2,n1,n2,hu,q⟩:=h;exact (Bk I sG n1 n2 r1 r2 rx ry hu).2 _ _ _ _ ⟨.bl _,H,I,rfl,q⟩
noncomputable def IW:D2:=λx y Q=>(cF x=true/\cF y=true/\dep x<=60)/\Q (.p (.bl (bI x y)))
noncomputable def Gp:D2:=λx y Q=>(cF x=true/\cF y=true/\dep x<=60)/\Q (.p (.bl (!(bI x y))))
theorem vC {k:Nat}(hr:cH k X.A):m7 X (compareOp .Eq) IW:=
 ⟨_,Fq,by rintro H G x y dx dy P Q s rx ry ⟨⟨h1,h2,h3⟩,h4⟩ c;exact ⟨G,dx,dy,s,rx,ry,h1,h2,by have:=hr.units;lia,c _ _ H G h4 (Wd.refl s) (.bl _)⟩⟩
theorem rg {k:Nat}(hr:cH k X.A):m7 X (compareOp .NotEq) Gp:=
 ⟨_,Fw,by rintro H G x y dx dy P Q s rx ry ⟨⟨h1,h2,h3⟩,h4⟩ c;exact ⟨G,dx,dy,s,rx,ry,h1,h2,by have:=hr.units;lia,c _ _ H G h4 (Wd.refl s) (.bl _)⟩⟩
end
end DL
namespace DL
open PySem L2
section
variable {X:Cx} {a b c e:Expr} {ta tb tc te:DT} {pos:Pos} {es:List Expr}
theorem CI {K:Frag}{T:String}(h:T = "int" \/ T = "bool" \/ T = "str" \/ T = "tuple" \/ T = "list")(d:D):kitOne K (.type (Kk d)) (.type T)=some (Iw T d):=by
 rcases h with rfl | rfl | rfl | rfl | rfl<;>cases d<;>rfl
theorem qu:fe X (.builtin "isinstance") (λxs H Q=>∃G x d T,xs = [x,.ty T]/\ar G H/\Rep X.K G x d/\(T = "int" \/ T = "bool" \/ T = "str" \/ T = "tuple" \/ T = "list")/\Q (.bl (Iw T d)) H):=by
 intro pins s σ H xs us Q I r h;obtain ⟨G,x,d,T,rfl,sG,rx,hT,q⟩:=h;obtain ⟨u,w',rfl,ru,rw'⟩:=vals2 r;cases (show w'=Value.type T from rw');have e:=CI (K:=X.K) hT d;have fin:∀tk,EP X pins σ Q (.bool (Iw T d)) { s with toks:=tk }:=λtk=>⟨.bl _,H,I.tok tk,rfl,q⟩
 cases rx with
 | non=>exact jb I ru .non e fin
 | bl b=>exact jb I ru (.bl b) e fin
 | int i=>exact jb I ru (.int i) e fin
 | str z=>exact jb I ru (.str z) e fin
 | @tup a vs ds h l r =>
  cases ru;obtain ⟨is,r1,⟨o,h1,h2,_⟩,z1⟩:=I.tuple (aq sG (.inl (.inl h)));exact kia_one kitx_tuple I.oO ⟨o,h1,h2⟩ e (λz=>nomatch z) fin
 | @lst a vs ds h l r =>
  cases ru;obtain ⟨is,r1,t1,z1⟩:=I.list (dc.of (sG _ _ h));obtain ⟨o,h1,h2,_⟩:=t1.isList;exact kia_one kitx_list I.oO ⟨o,h1,h2⟩ e (λz=>nomatch z) fin
 | @dct a kvs h =>
  cases ru;obtain ⟨_,_,_,_,o,_,_,h1,h2,_⟩:=Rd.ok (fq sG h) I.bG;exact kia_one kitx_dict I.oO ⟨o,h1,h2.1⟩ e (λz=>nomatch z) fin
 | @scr a ns h =>
  cases ru;obtain ⟨is,r1,t1,z1⟩:=I.list (sG.seq h);obtain ⟨o,h1,h2,_⟩:=t1.isList;exact kia_one kitx_list I.oO ⟨o,h1,h2⟩ e (λz=>nomatch z) fin
noncomputable def EL (T:String)(te:DT):DT:=λρ Q=>te ρ λb=>Q (.p (.bl (Iw T b.val)))
theorem EZ {T:String}{p:Pos}{e2:Expr}(hT:T = "int" \/ T = "bool" \/ T = "str" \/ T = "tuple" \/ T = "list")(hg:Gl X "isinstance")(hm:X.mg "isinstance" = none)(he:DE X e te)(h2:PE X e2 (tC (.ty T)))
  (hs:autoParam (starEach (e::[e2]) X.env=(false,eval e X.env)::starEach [e2] X.env) aZa._auto_1) (hs2:autoParam (starEach (e2::[]) X.env=(false,eval e2 X.env)::starEach [] X.env) aZa._auto_1) (hpl:autoParam ((backTo pos (starEach [e2] X.env)).any (·.1)=false) aZa._auto_1):DE X (.Call (.Name "isinstance" p) [e,e2] [] pos) (EL T te):=
 DE.of (ug qu hg hm boot_isinstance (eQ he.pe (eQ h2 g8 hs2) hs) (he:=hs) (hpl:=hpl))<|by
  rintro σ H Q ⟨G,ρ,P,s,re,h,k⟩;refine ⟨G,ρ,_,s,re,h,λb v H1 G1 p1 w1 r1=>?_⟩;obtain ⟨G1',w1',r1'⟩:=r1.give w1;exact ⟨G1',v,b.val,T,rfl,w1'.gh,r1',hT,k _ _ H1 G1' p1 w1' (.bl _)⟩
theorem EE (hc:X.calm=true):CallD X (.builtin "all") GL:=by
 refine ⟨_,xY hc,λH G vs ds P Q s r h k=>?_⟩;unfold GL at h;split at h
 .obtain ⟨ns,rfl,h⟩:=h;obtain ⟨v,rfl,rv⟩:=eZ r;obtain ⟨a,us,rfl,e,rr⟩:=rv.lst_inv;rw[uw rr] at e;exact ⟨a,ns,rfl,dc.of (s _ _ e),k _ _ H G h (Wd.refl s) (.bl _)⟩
 .exact h.elim
end
inductive Tg where
 | n (i:Nat) | t (is:List Nat)
noncomputable def jE:List Nat->DK
 | []=>Ha
 | i::is=>D4 (sW i) (jE is)
noncomputable def Tg.v (K:Frag):Tg->TG
 | .n i=>sW i
 | .t is=>Hb K is.length (jE is)
noncomputable def putN:List Nat->List D->ax->(ax->Prop)->Prop
 | [],[],ρ,P=>P ρ
 | i::is,d::ds,ρ,P=>putN is ds (dput ρ i (.p d)) P
 | _,_,_,_=>False
noncomputable def Tg.d:Tg->D->ax->(ax->Prop)->Prop
 | .n i,d,ρ,P=>P (dput ρ i (.p d))
 | .t is,.tup ds,ρ,P=>putN is ds ρ P
 | .t is,.lst ds,ρ,P=>putN is ds ρ P
 | .t _,_,_,_=>False
noncomputable def Tg.is:Tg->List Nat
 | .n i=>[i]
 | .t is=>is
noncomputable def qp (K:Frag)(H0 G H:Hp)(w:Addr->Nat)(i:Nat)(a:Addr)(t:Bool)(dss:List D):Prop:=∃as:List Addr,as.Nodup/\Paired (λx ds=>H0 x=none/\w x=i/\bX K G H x ds) as dss/\match t with
 | true=>G a=some (.tup (as.map V.ref))
 | false=>H0 a=none/\w a=i/\G a=none/\a∉as/\H a=some (.lst (as.map V.ref))
structure oH (K:Frag)(H0 G H:Hp)(w:Addr->Nat)(σ:St)(ρ:ax):Prop where
 len:σ.length=ρ.length
 p:∀i d,aV ρ i=some (.p d)->∃v,σ[i]?=some (some v)/\Rep K G v d
 o:∀i d,aV ρ i=some (.o d)->∃a,σ[i]?=some (some (.ref a))/\H0 a=none/\w a=i/\bX K G H a d
 n:∀i t dss,aV ρ i=some (.n t dss)->∃a,σ[i]?=some (some (.ref a))/\qp K H0 G H w i a t dss
noncomputable def aL (K:Frag)(H0 G H:Hp)(σ:St)(ρ:ax):Prop:=∃w,oH K H0 G H w σ ρ
section
variable {K:Frag} {H0 G H:Hp} {σ:St} {ρ:ax}
theorem aL.len (h:aL K H0 G H σ ρ):σ.length=ρ.length:=by obtain ⟨w,h⟩:=h;exact h.len
theorem aL.p (h:aL K H0 G H σ ρ):∀i d,aV ρ i=some (.p d)->∃v,σ[i]?=some (some v)/\Rep K G v d:=by obtain ⟨w,h⟩:=h;exact h.p
theorem aL.o (h:aL K H0 G H σ ρ):∀i d,aV ρ i=some (.o d)->∃a,σ[i]?=some (some (.ref a))/\H0 a=none/\bX K G H a d:=by
 obtain ⟨w,h⟩:=h;intro i d e;obtain ⟨a,h1,h2,_,h3⟩:=h.o i d e;exact ⟨a,h1,h2,h3⟩
theorem aL.only (l:σ.length=ρ.length)(hp:dM K G σ ρ)(h:∀i b,aV ρ i=some b->∃d,b=.p d):aL K H0 G H σ ρ:=by
 refine ⟨λ_=>0,l,hp,λi d e=>?_,λi t dss e=>?_⟩
 .obtain ⟨_,q⟩:=h i _ e;cases q
 .obtain ⟨_,q⟩:=h i _ e;cases q
end
theorem bX.dD {K:Frag}{G H G' H':Hp}{a:Addr}{d:D}(h:bX K G H a d)(hg:ar G G')(hn:G' a=none)(hh:∀o,H a=some o->H' a=some o):bX K G' H' a d:=by
 obtain ⟨h1,h2⟩:=h;refine ⟨hn,?_⟩;cases d with
 | lst ds=>obtain ⟨vs,e,r⟩:=h2;exact ⟨vs,hh _ e,bf.mono hg r⟩
 | non=>exact h2
 | bl _=>exact h2
 | int _=>exact h2
 | str _=>exact h2
 | tup _=>exact h2
 | scr _=>exact h2
 | dct kvs=>exact hh _ h2
theorem bX.chg {K:Frag}{G H:Hp}{a:Addr}{d:D}(h:bX K G H a d):En H a:=by
 obtain ⟨h1,h2⟩:=h;cases d with
 | lst ds=>obtain ⟨vs,e,r⟩:=h2;exact ⟨_,e,λ_ z=>nomatch z⟩
 | non=>exact h2.elim
 | bl _=>exact h2.elim
 | int _=>exact h2.elim
 | str _=>exact h2.elim
 | tup _=>exact h2.elim
 | scr _=>exact h2.elim
 | dct kvs=>exact ⟨_,h2,λ_ z=>nomatch z⟩
theorem bX.there {K:Frag}{G H:Hp}{a:Addr}{d:D}(h:bX K G H a d):H a≠none:=h.chg.there
theorem cx {α β:Type}{F F':α->β->Prop}{l:List α}{r:List β}(k:∀x d,x∈l->F x d->F' x d)(h:Paired F l r):Paired F' l r:=by
 induction h with
 | nil=>exact .nil
 | cons f _ ih=>exact .cons (k _ _ mem_cons_self f) (ih λx d m=>k x d (K8 _ m))
theorem fM {α β:Type}{F:α->β->Prop}{l:List α}{r:List β}(h:Paired F l r):∀x∈l,∃d,F x d:=by
 induction h with
 | nil=>intro x m;cases m
 | cons f _ ih =>
  intro x m;rcases KQ.mp m with rfl | m
  .exact ⟨_,f⟩
  .exact ih x m
theorem qp.dD {K:Frag}{H0 G H G' H':Hp}{w w':Addr->Nat}{i:Nat}{a:Addr}{t:Bool}{dss:List D}(h:qp K H0 G H w i a t dss)(hg:ar G G')(hn:∀x,H0 x=.none->w x=i->G x=.none->En H x->G' x=.none/\w' x=i/\∀o,H x=some o->H' x=some o):qp K H0 G' H' w' i a t dss:=by
 obtain ⟨as,nd,pr,e⟩:=h;have pr':=cx (F':=λx ds=>H0 x=none/\w' x=i/\bX K G' H' x ds) ( by
  rintro x d m ⟨h1,h2,h3⟩;obtain ⟨k1,k2,k3⟩:=hn x h1 h2 h3.1 h3.chg;exact ⟨h1,k2,h3.dD hg k1 k3⟩) pr
 refine ⟨as,nd,pr',?_⟩
 .cases t with
  | true=>exact hg _ _ e
  | false =>
   obtain ⟨e1,e2,e3,e4,e5⟩:=e;obtain ⟨k1,k2,k3⟩:=hn a e1 e2 e3 ⟨_,e5,λ_ z=>nomatch z⟩;exact ⟨e1,k2,k1,e4,k3 _ e5⟩
theorem oH.on {K:Frag}{H0 G H G' H':Hp}{o:Addr->Nat}{σ:St}{ρ:ax}(h:oH K H0 G H o σ ρ)(w:Wd H G H' G'):oH K H0 G' H' o σ ρ:=
 ⟨h.len,λi d e=>by obtain ⟨v,h1,h2⟩:=h.p i d e;exact ⟨v,h1,h2.mono w.gg⟩,λi d e=>by
  obtain ⟨a,h1,h2,h2',h3⟩:=h.o i d e;exact ⟨a,h1,h2,h2',h3.dD w.gg (by rw[w.old a h3.chg];exact h3.1) λo q=>w.hh _ _ q⟩,λi t dss e=>by
  obtain ⟨a,h1,h2⟩:=h.n i t dss e;exact ⟨a,h1,h2.dD w.gg λx k1 k2 k3 k4=>⟨by rw[w.old x k4];exact k3,k2,λo q=>w.hh _ _ q⟩⟩⟩
theorem aL.on {K:Frag}{H0 G H G' H':Hp}{σ:St}{ρ:ax}(h:aL K H0 G H σ ρ)(w:Wd H G H' G'):aL K H0 G' H' σ ρ:=by
 obtain ⟨o,h⟩:=h;exact ⟨o,h.on w⟩
theorem bg {σ:St}{i j:Nat}{v:V}(h:i≠j):(σ.set i (some v))[j]?=σ[j]?:=by rw[List.getElem?_set_ne h]
theorem iV {σ:St}{i:Nat}{v:V}(h:i<σ.length):(σ.set i (some v))[i]?=some (some v):=by rw[List.getElem?_set_self h]
theorem aL.rB {K:Frag}{H0 G H:Hp}{σ:St}{ρ:ax}{v:V}{d:D}(h:aL K H0 G H σ ρ)(i:Nat)(r:Rep K G v d):aL K H0 G H (σ.set i (some v)) (dput ρ i (.p d)):=by
 obtain ⟨o,h⟩:=h;refine ⟨o,by rw[length_set,dS];exact h.len,λj d' e=>?_,λj d' e=>?_,λj t dss e=>?_⟩
 .rcases aM e with ⟨rfl,hl,e⟩ | ⟨hne,e⟩
  .cases e;exact ⟨v,iV (by rw[h.len];exact hl),r⟩
  .obtain ⟨w,h1,h2⟩:=h.p j d' e;exact ⟨w,by rw[bg hne];exact h1,h2⟩
 .rcases aM e with ⟨rfl,hl,e⟩ | ⟨hne,e⟩
  .cases e
  .obtain ⟨a,h1,h2⟩:=h.o j d' e;exact ⟨a,by rw[bg hne];exact h1,h2⟩
 .rcases aM e with ⟨rfl,hl,e⟩ | ⟨hne,e⟩
  .cases e
  .obtain ⟨a,h1,h2⟩:=h.n j t dss e;exact ⟨a,by rw[bg hne];exact h1,h2⟩
theorem oH.BV {K:Frag}{H0 G H:Hp}{o:Addr->Nat}{σ:St}{ρ:ax}(h:oH K H0 G H o σ ρ){o':Addr->Nat}(q:∀x,H x≠.none->o' x=o x):oH K H0 G H o' σ ρ:=
 ⟨h.len,h.p,λj d e=>by
  obtain ⟨a,h1,h2,h3,h4⟩:=h.o j d e;exact ⟨a,h1,h2,by rw[q a h4.there];exact h3,h4⟩,λj t dss e=>by
  obtain ⟨a,h1,h2⟩:=h.n j t dss e;exact ⟨a,h1,h2.dD (ar.refl _) λx k1 k2 k3 k4=>⟨k3,by rw[q x k4.there];exact k2,λo q=>q⟩⟩⟩
theorem aL.Js {K:Frag}{H0 G H G' H':Hp}{σ:St}{ρ:ax}{a:Addr}{d:D}(h:aL K H0 G H σ ρ)(w:Wd H G H' G')(i:Nat)(h0:H0 a=none)(hn:H a=none)(r:bX K G' H' a d):aL K H0 G' H' (σ.set i (some (.ref a))) (dput ρ i (.o d)):=by
 obtain ⟨o,h⟩:=h;have h2:=(h.BV (o':=λx=>if x=a then i else o x) λx q=>if_neg λe:x=a=>q (e ▸ hn)).on w;refine ⟨λx=>if x=a then i else o x,by rw[length_set,dS];exact h.len,λj d' e=>?_,λj d' e=>?_,λj t dss e=>?_⟩
 .rcases aM e with ⟨rfl,hl,e⟩ | ⟨hne,e⟩
  .cases e
  .obtain ⟨w,h1,h2⟩:=h2.p j d' e;exact ⟨w,by rw[bg hne];exact h1,h2⟩
 .rcases aM e with ⟨rfl,hl,e⟩ | ⟨hne,e⟩
  .cases e;exact ⟨a,iV (by rw[h.len];exact hl),h0,if_pos rfl,r⟩
  .obtain ⟨b,h1,h2⟩:=h2.o j d' e;exact ⟨b,by rw[bg hne];exact h1,h2⟩
 .rcases aM e with ⟨rfl,hl,e⟩ | ⟨hne,e⟩
  .cases e
  .obtain ⟨b,h1,h2⟩:=h2.n j t dss e;exact ⟨b,by rw[bg hne];exact h1,h2⟩
theorem aL.HI {K:Frag}{H0 G H G' H':Hp}{σ:St}{ρ:ax}{a:Addr}{as:List Addr}{ds:List D}(h:aL K H0 G H σ ρ)(w:Wd H G H' G')(hh:ar H0 H)(i:Nat)(q:G' a=some (.tup (as.map V.ref)))(nd:as.Nodup)(pr:Paired (λx d=>H x=none/\bX K G' H' x d) as ds):aL K H0 G' H' (σ.set i (some (.ref a))) (dput ρ i (.n true ds)):=by
 obtain ⟨o,h⟩:=h;have h2:=(h.BV (o':=λx=>if x∈as then i else o x) λx z=>if_neg λm=>by
  obtain ⟨_,k,_⟩:=fM pr x m;exact z k).on w
 refine ⟨λx=>if x∈as then i else o x,by rw[length_set,dS];exact h.len,λj d' e=>?_,λj d' e=>?_,λj t dss e=>?_⟩
 .rcases aM e with ⟨rfl,hl,e⟩ | ⟨hne,e⟩
  .cases e
  .obtain ⟨w,h1,h2⟩:=h2.p j d' e;exact ⟨w,by rw[bg hne];exact h1,h2⟩
 .rcases aM e with ⟨rfl,hl,e⟩ | ⟨hne,e⟩
  .cases e
  .obtain ⟨b,h1,h2⟩:=h2.o j d' e;exact ⟨b,by rw[bg hne];exact h1,h2⟩
 .rcases aM e with ⟨rfl,hl,e⟩ | ⟨hne,e⟩
  .cases e;exact ⟨a,iV (by rw[h.len];exact hl),as,nd,cx (λx d m z=>⟨hh.free z.1,if_pos m,z.2⟩) pr,q⟩
  .obtain ⟨b,h1,h2⟩:=h2.n j t dss e;exact ⟨b,by rw[bg hne];exact h1,h2⟩
theorem aL.Ed {K:Frag}{H0 G H G' H':Hp}{σ:St}{ρ:ax}{a:Addr}{as:List Addr}{ds:List D}(h:aL K H0 G H σ ρ)(w:Wd H G H' G')(hh:ar H0 H)(i:Nat)(hn:H a=none)(ga:G' a=none)(q:H' a=some (.lst (as.map V.ref)))(na:a∉as)(nd:as.Nodup)(pr:Paired (λx d=>H x=none/\bX K G' H' x d) as ds):aL K H0 G' H' (σ.set i (some (.ref a))) (dput ρ i (.n false ds)):=by
 obtain ⟨o,h⟩:=h;have h2:=(h.BV (o':=λx=>if x=a\/x∈as then i else o x) λx z=>if_neg λm=>by
  rcases m with rfl | m
  .exact z hn
  .obtain ⟨_,k,_⟩:=fM pr x m;exact z k).on w
 refine ⟨λx=>if x=a\/x∈as then i else o x,by rw[length_set,dS];exact h.len,λj d' e=>?_,λj d' e=>?_,λj t dss e=>?_⟩
 .rcases aM e with ⟨rfl,hl,e⟩ | ⟨hne,e⟩
  .cases e
  .obtain ⟨w,h1,h2⟩:=h2.p j d' e;exact ⟨w,by rw[bg hne];exact h1,h2⟩
 .rcases aM e with ⟨rfl,hl,e⟩ | ⟨hne,e⟩
  .cases e
  .obtain ⟨b,h1,h2⟩:=h2.o j d' e;exact ⟨b,by rw[bg hne];exact h1,h2⟩
 .rcases aM e with ⟨rfl,hl,e⟩ | ⟨hne,e⟩
  .cases e;exact ⟨a,iV (by rw[h.len];exact hl),as,nd,cx (λx d m z=>⟨hh.free z.1,if_pos (.inr m),z.2⟩) pr,hh.free hn,if_pos (.inl rfl),ga,na,q⟩
  .obtain ⟨b,h1,h2⟩:=h2.n j t dss e;exact ⟨b,by rw[bg hne];exact h1,h2⟩
theorem rA {K:Frag}{H0 G H:Hp}:∀{is:List Nat} {ds:List D} {vs:List V} {σ:St} {ρ:ax} {P:ax->Prop} {Q:St->Hp->Prop},aL K H0 G H σ ρ->bf K G vs ds->putN is ds ρ P->(∀σ' ρ',aL K H0 G H σ' ρ'->P ρ'->Q σ' H)->jE is vs σ H Q
 | [],[],_,σ,ρ,P,Q,h,r,p,k=>by cases r;exact ⟨rfl,k _ _ h p⟩
 | i::is,d::ds,_,σ,ρ,P,Q,h,r,p,k=>by
  cases r with
  | cons r rr=>exact ⟨_,_,rfl,rA (h.rB i r) rr p k⟩
 | [],_::_,_,_,_,_,_,_,_,p,_=>p.elim
 | _::_,[],_,_,_,_,_,_,_,p,_=>p.elim
theorem oe:∀{is:List Nat} {ds:List D} {ρ:ax} {P:ax->Prop},putN is ds ρ P->is.length=ds.length
 | [],[],_,_,_=>rfl
 | _::is,_::ds,ρ,P,p=>by rw[K9,K9,oe (is:=is) p]
 | [],_::_,_,_,p=>p.elim
 | _::_,[],_,_,p=>p.elim
theorem Tg.ok {K:Frag}{H0 G H:Hp}{g:Tg}{d:D}{v:V}{σ:St}{ρ:ax}{P:ax->Prop}{Q:St->Hp->Prop}(s:ar G H)(h:aL K H0 G H σ ρ)(r:Rep K G v d)(p:g.d d ρ P)(k:∀σ' ρ',aL K H0 G H σ' ρ'->P ρ'->Q σ' H):g.v K v σ H Q:=by
 cases g with
 | n i=>exact k _ _ (h.rB i r) p
 | t is =>
  cases d with
  | tup ds =>
   obtain ⟨a,vs,rfl,e,rr⟩:=r.cB;exact ⟨a,vs,rfl,.inl (aq s e),by rw[Paired.length rr];exact (oe p).symm,rA h rr p k⟩
  | lst ds =>
   obtain ⟨a,vs,rfl,e,rr⟩:=r.lst_inv;exact ⟨a,vs,rfl,.inr (dc.of (s _ _ e)),by rw[Paired.length rr];exact (oe p).symm,rA h rr p k⟩
  | non=>exact p.elim
  | bl _=>exact p.elim
  | int _=>exact p.elim
  | str _=>exact p.elim
  | scr _=>exact p.elim
  | dct _=>exact p.elim
structure Gk (K:Frag)(G0:Hp)(J:It)(xs:List D):Prop where
 go:∀i d H G,xs[i]?=some d->ar G0 G->ar G H->J.go i H
 BI:∀i d H G x H',xs[i]?=some d->ar G0 G->ar G H->J.BI i H x H'->∃G',Wd H G H' G'/\Rep K G' x d
 stop:∀i H G,i=xs.length->ar G0 G->ar G H->J.stop i H
noncomputable def cI (K:Frag)(t:ff):TI:=λσ H R=>∃(G:Hp) (ρ:ax) (P:List D->Prop),ar G H/\dM K G σ ρ/\t ρ P/\∀xs J H' G',P xs->Wd H G H' G'->Gk K G' J xs->R J H'
structure DI (X:Cx)(tg e:Expr)(t:ff):Prop where
 pi:PI X tg e (cI X.K t)
theorem PI.imp {X:Cx}{tg e:Expr}{t t':TI}(h:PI X tg e t)(i:∀σ H Q,t' σ H Q->t σ H Q):PI X tg e t':=λpins s σ H Q I q=>h pins s σ H Q I (i σ H Q q)
theorem DI.of {X:Cx}{tg e:Expr}{t:TI}{t':ff}(h:PI X tg e t)(i:∀σ H Q,cI X.K t' σ H Q->t σ H Q):DI X tg e t':=⟨PI.imp h i⟩
section
variable {X:Cx} {tg e:Expr} {te:DT} {pos:Pos}
theorem tF {K:Frag}{G:Hp}{a:Addr}{vs:List V}{ds:List D}(h:dc K G a vs)(r:bf K G vs ds):Gk K G (IJ K a) ds where
 go:=λi d H G' e s1 s2=>by
  obtain ⟨v,h1,h2⟩:=bH r e;exact ⟨vs,v,(s1.trans s2).seq h,h1⟩
 BI:= by
  rintro i d H G' x H' e s1 s2 ⟨eH,y⟩;obtain ⟨v,h1,h2⟩:=bH r e;have:=y vs ((s1.trans s2).seq h);rw[h1] at this;cases this;subst eH;exact ⟨G',Wd.refl s2,h2.mono s1⟩
 stop:=λi H G' hi s1 s2=>⟨vs,(s1.trans s2).seq h,by rw[Paired.length r,hi];exact Ku _⟩
noncomputable def Ac (te:DT):ff:=λρ P=>te ρ λb=>match b.val with
 | .lst xs=>P xs
 | .scr ns=>P (ns.map D.int)
 | _=>False
theorem bL (he:DE X e te):DI X tg e (Ac te):=DI.of (xu he.pe)<|by
 rintro σ H R ⟨G,ρ,P,s,re,h,k⟩;refine ⟨G,ρ,_,s,re,h,λb v H1 G1 p1 w1 r1=>?_⟩;obtain ⟨G1',w1',r1'⟩:=r1.give w1;split at p1
 .rename_i xs e;rw[e] at r1';obtain ⟨a,us,rfl,e,rr⟩:=r1'.lst_inv;exact ⟨a,rfl,⟨us,dc.of (w1'.gh _ _ e)⟩,k _ _ H1 G1' p1 w1' (tF (dc.of e) rr)⟩
 .rename_i ns e;rw[e] at r1';cases r1' with
  | scr e=>exact ⟨_,rfl,⟨_,w1'.gh.seq e⟩,k _ _ H1 G1' p1 w1' (tF e (fu ns))⟩
 .exact p1.elim
noncomputable def jU (lo:Int)(n:Nat):List D:=(K6 n).map λi=>D.int (lo+(i:Nat))
theorem cC {lo:Int}{n i:Nat}{d:D}(h:(jU lo n)[i]?=some d):i<n/\d=.int (lo+(i:Nat)):=by
  unfold jU at h;rw[KS] at h;by_cases hi:i<n
  · rw[List.getElem?_range hi] at h;exact ⟨hi,(Option.some.inj h).symm⟩
  · rw [List.getElem?_eq_none (by simpa using hi)] at h;cases h
theorem cQ (lo:Int)(n:Nat):(jU lo n).length=n:=by unfold jU;simp
theorem wY {K:Frag}{G:Hp}{lo:Int}{n:Nat}:Gk K G (Gx lo n) (jU lo n) where
 go:=λi d H G' e s1 s2=>(cC e).1
 BI:= by
  rintro i d H G' x H' e s1 s2 ⟨eH,y⟩;obtain ⟨h1,rfl⟩:=cC e;subst eH;subst y;exact ⟨G',Wd.refl s2,.int _⟩
 stop:=λi H G' hi s1 s2=>by rw[cQ] at hi;rw[hi];exact Ku n
noncomputable def u9 (t:ff):ff:=λρ P=>t ρ λds=>match ds with
 | [.int j]=>(-(2 ^ 62)<=j/\j<2 ^ 62)/\P (jU 0 j.toNat)
 | _=>False
noncomputable def vb (t:ff):ff:=λρ P=>t ρ λds=>match ds with
 | [.int i,.int j]=>(-(2 ^ 62)<=i/\i<2 ^ 62/\-(2 ^ 62)<=j/\j<2 ^ 62)/\P (jU i (j - i).toNat)
 | _=>False
end
noncomputable def uK (fr:List (Option Nat))(ρ:ax):ax:=fr.map λo=>match o with
 | none=>none
 | some j=>aV ρ j
theorem qI:∀(ρ:ax) (i:Nat),aV ρ i=(ρ[i]?).getD none
 | [],_=>by simp[aV]
 | _::_,0=>by simp[aV]
 | _::r,i+1=>by simp[aV,qI r i]
theorem wQ {fr:List (Option Nat)}{ρ:ax}{i:Nat}{b:B}(h:aV (uK fr ρ) i=some b):∃j,fr[i]?=some (some j)/\aV ρ j=some b:=by
 rw[qI] at h;unfold uK at h;rw[KS] at h;cases e:fr[i]? with
 | none=>rw[e] at h;cases h
 | some o =>
  rw[e] at h;cases o with
  | none=>cases h
  | some j=>exact ⟨j,rfl,h⟩
theorem Cu {fr:List (Option Nat)}{σ:St}{i j:Nat}{v:V}(h1:fr[i]?=some (some j))(h2:σ[j]?=some (some v)):(mq fr σ)[i]?=some (some v):=by
 unfold mq;rw[KS,h1];show some ((σ[j]?).getD none)=_;rw[h2];rfl
noncomputable def fh (ρ:ax):ax:=ρ.map λo=>match o with
 | some (.p d)=>some (.p d)
 | _=>none
theorem lD {ρ:ax}{i:Nat}{b:B}(h:aV (fh ρ) i=some b):∃d,b=.p d/\aV ρ i=some (.p d):=by
 rw[qI] at h ⊢;unfold fh at h;rw[KS] at h;cases e:ρ[i]? with
 | none=>rw[e] at h;cases h
 | some o =>
  rw[e] at h;cases o with
  | none=>cases h
  | some b' =>
   cases b' with
   | p d=>exact ⟨d,(Option.some.inj h).symm,rfl⟩
   | o d=>cases h
   | n _ _=>cases h
noncomputable def Fg (xs:List D)(g:Tg)(tc:ig)(te:DT)(ρ:ax)(Q:B->Prop):Prop:=xs.length<=sizeLine/\∃F:D->Option D->Prop,
 (∀x∈xs,g.d x ρ λρ'=>tc ρ' λc=>(c=true->te ρ' λb=>F x (some b.val))/\(c=false->F x none))/\∀os,Paired F xs os->Q (.o (.lst (os.filterMap id)))
noncomputable def GP (ti:ff)(fr:List (Option Nat))(g:Tg)(tc:ig)(te:DT):DT:=λρ Q=>ti ρ λxs=>Fg xs g tc te (fh (uK fr ρ)) Q
noncomputable def gd:ig:=λ_ P=>P true
theorem gE {α β:Type}{F:α->β->Prop}{xs:List α}{os:List β}{i:Nat}{x:α}{o:β}(h:Paired F (xs.take i) os)(e:xs[i]?=some x)(f:F x o):Paired F (xs.take (i+1)) (os++[o]):=by
 rw[WS.take_snoc e];exact Paired.snoc h f
noncomputable def Gd (fr:List (Option Nat))(g:Tg):Bool:=g.is.all λi=>match fr[i]? with
 | some none=>true
 | _=>false
theorem qa {K:Frag}{G H:Hp}{ρ0:ax}:∀{is:List Nat} {vs:List V} {σ:St} {Q:St->Hp->Prop},(∀i∈is,aV ρ0 i=none)->dM K G σ ρ0->σ.length=ρ0.length->jE is vs σ H Q->jE is vs σ H λσ' H'=>Q σ' H'/\H'=H/\dM K G σ' ρ0/\σ'.length=ρ0.length
 | [],_,σ,Q,_,h,l,⟨e,q⟩=>⟨e,q,rfl,h,l⟩
 | i::is,_,σ,Q,hn,h,l,⟨v,r,e,q⟩=>by
  refine ⟨v,r,e,qa (is:=is) (λj hj=>hn j (K8 _ hj)) (λj d hd=>?_) (by rw[length_set];exact l) q⟩;have hne:i≠j:=by
   rintro rfl;rw[hn i mem_cons_self] at hd;cases hd
  obtain ⟨w,h1,h2⟩:=h j d hd;exact ⟨w,by rw[bg hne];exact h1,h2⟩
theorem Dz {K:Frag}{G H:Hp}{ρ0:ax}{g:Tg}{v:V}{σ:St}{Q:St->Hp->Prop}(hn:∀i∈g.is,aV ρ0 i=none)(h:dM K G σ ρ0)(l:σ.length=ρ0.length)(q:g.v K v σ H Q):g.v K v σ H λσ' H'=>Q σ' H'/\H'=H/\dM K G σ' ρ0/\σ'.length=ρ0.length:=by
 cases g with
 | n i =>
  refine ⟨q,rfl,λj d hd=>?_,by rw[length_set];exact l⟩;have hne:i≠j:=by
   rintro rfl;rw[hn i (mem_singleton.mpr rfl)] at hd;cases hd
  obtain ⟨w,h1,h2⟩:=h j d hd;exact ⟨w,by rw[bg hne];exact h1,h2⟩
 | t is =>
  obtain ⟨a,xs,e,h1,h2,q⟩:=q;exact ⟨a,xs,e,h1,h2,qa hn h l q⟩
structure BK (X:Cx)(ifs:List Expr)(t:ig):Prop where
 pf:uN X ifs (cT X.K t)
theorem fC {X:Cx}:BK X [] gd:=⟨by rintro pins s σ H Q I ⟨G,ρ,P,sg,re,h,k⟩;exact A9 pins s σ H Q I (k true H G h (Wd.refl sg))⟩
theorem iD {X:Cx}{c:Expr}{t:ig}(h:oY X c t):BK X [c] t:=⟨Ba h.pt⟩
theorem xg {K:Frag}{ti:ff}{fr:List (Option Nat)}{g:Tg}{tc:ig}{te:DT}(ht:Gd fr g=true)(σ:St)(H:Hp)(Q:VK):cE K (GP ti fr g tc te) σ H Q->JH (cI K ti) fr (g.v K) (cT K tc) (cE K te) σ H Q:=by
  rintro ⟨G,ρ,P,s,re,h,k⟩;refine ⟨G,ρ,_,s,re,h,λxs J H1 G1 p1 w1 it D hD=>?_⟩;obtain ⟨hz,F,hF,hP⟩:=p1;have hn:∀i∈g.is,aV (fh (uK fr ρ)) i=none:=λi hi=>by
    cases e:aV (fh (uK fr ρ)) i with
    | none=>rfl
    | some b =>
      obtain ⟨d,rfl,e'⟩:=lD e;obtain ⟨j,h1,_⟩:=wQ e';have:=List.all_eq_true.mp ht i hi;rw[h1] at this;cases this
  have len0:(fh (uK fr ρ)).length=fr.length:=by unfold fh uK;simp
  have fn0:(mq fr σ).length=fr.length:=by unfold mq;simp
  have rep0:dM K G1 (mq fr σ) (fh (uK fr ρ)):=λi d e=>by
    obtain ⟨d',e1,e2⟩:=lD e;cases e1;obtain ⟨j,h1,h2⟩:=wQ e2;obtain ⟨v,h3,h4⟩:=re j d h2;exact ⟨v,Cu h1 h3,h4.mono w1.gg⟩
  have gD:G1 D=none:=w1.gh.free hD;refine ⟨λi m ys σ' H'=>m=xs.length - i/\i<=xs.length/\∃G' os,Wd H1 G1 H' G'/\G' D=none/\H' D=some (.lst ys)/\ys.length<=i/\Paired F (xs.take i) os/\bf K G' ys (os.filterMap id)/\dM K G' σ' (fh (uK fr ρ))/\σ'.length=(fh (uK fr ρ)).length,⟨xs.length,by simp,Lc _,G1,[],(Wd.refl w1.gh).own hD gD,gD,aE,Ku _,by rw[List.take_zero];exact .nil,.nil,rep0,by rw[fn0,len0]⟩,?_⟩;rintro i m ys σ' H' ⟨rfl,hi,G',os,w',gD',hD',hy,hos,hr,re',ln'⟩;by_cases hlt:i<xs.length
  · have hx:xs[i]?=some xs[i]:=Kt hlt;refine .inr ⟨it.go i _ H' G' hx w'.gg w'.gh,λys' σ2 H2=>∃G2 os',Wd H1 G1 H2 G2/\G2 D=none/\H2 D=some (.lst ys')/\ys'.length<=i+1/\Paired F (xs.take (i+1)) os'/\bf K G2 ys' (os'.filterMap id)/\dM K G2 σ2 (fh (uK fr ρ))/\σ2.length=(fh (uK fr ρ)).length,by rintro ys' σ2 H2 ⟨G2,os',z⟩;exact ⟨xs.length - (i+1),by lia,rfl,hlt,G2,os',z⟩,λx H2 y=>?_⟩;obtain ⟨G2,w2,r2⟩:=it.BI i _ H' G' x H2 hx w'.gg w'.gh y;have e2:aL K H2 G2 H2 σ' (fh (uK fr ρ)):=aL.only ln' (re'.mono w2.gg) λj b e=>by
        obtain ⟨d',e1,_⟩:=lD e;exact ⟨d',e1⟩
    have re2:dM K G2 σ' (fh (uK fr ρ)):=e2.p;have w12:=w'.trans w2;have hD2:H2 D=some (.lst ys):=w2.hh _ _ hD';have gD2:G2 D=none:=by rw[w2.old D ⟨_,hD',λ_ z=>nomatch z⟩];exact gD'
    refine (?_:g.v K x σ' H2 _);refine tgv_mono (Dz hn re2 ln' (Tg.ok w2.gh e2 r2 (hF _ (List.getElem_mem hlt)) (Q:=λσ3 H3=>H3=H2/\∃ρ3,aL K H2 G2 H2 σ3 ρ3/\tc ρ3 λc=>(c=true->te ρ3 λb=>F xs[i] (some b.val))/\(c=false->F xs[i] none)) λσ3 ρ3 e3 p3=>⟨rfl,ρ3,e3,p3⟩)) ?_;rintro σ3 H3 ⟨⟨rfl,ρ3,e3,p3⟩,_,re3,ln3⟩;refine ⟨G2,ρ3,_,w2.gh,e3.p,p3,λc H4 G4 p4 w4=>?_⟩;have hD4:H4 D=some (.lst ys):=w4.hh _ _ hD2;have gD4:G4 D=none:=by rw[w4.old D ⟨_,hD2,λ_ z=>nomatch z⟩];exact gD2
    cases c with
    | true =>
      refine tH ⟨G4,ρ3,_,w4.gh,dM.mono w4.gg e3.p,p4.1 rfl,λb v H5 G5 p5 w5 r5=>?_⟩;obtain ⟨G5',w5',r5'⟩:=r5.give w5;have hD5:H5 D=some (.lst ys):=w5.hh _ _ hD4;have gD5:G5' D=none:=by rw[w5'.old D ⟨_,hD4,λ_ z=>nomatch z⟩];exact gD4
      have w15:=(w12.trans w4).trans w5';refine ⟨hD5,by have:sizeLine=16777216:=sizeLine_eq;lia,G5',os++[some b.val],w15.own hD gD5,gD5,aE,by rw[KA,Lh];lia,gE hos hx p5,?_,dM.mono (w4.trans w5').gg re3,ln3⟩;rw[List.filterMap_append];exact bA (bf.mono ((w2.trans w4).trans w5').gg hr) (.cons r5' .nil)
    | false =>
      refine tG ⟨G4,os++[none],w12.trans w4,gD4,hD4,by lia,gE hos hx (p4.2 rfl),?_,dM.mono w4.gg re3,ln3⟩;rw[List.filterMap_append,show List.filterMap id [(none:Option DL.D)] = [] from rfl,append_nil];exact bf.mono (w2.trans w4).gg hr
  · have e : i = xs.length := by lia
    subst e;refine .inl ⟨it.stop _ H' G' rfl w'.gg w'.gh,?_⟩;rw[List.take_length] at hos;exact k _ _ H' G' (hP os hos) (w1.trans w') ⟨D,rfl,w1.hh.free hD,gD',ys,hD',hr⟩
where
 tgv_mono {K:Frag} {g:Tg} {v:V} {σ:St} {H:Hp} {Q Q':St->Hp->Prop} (h:g.v K v σ H Q) (i:∀σ' H',Q σ' H'->Q' σ' H'):g.v K v σ H Q':=by
  cases g with
  | n j=>exact i _ _ h
  | t is =>
   obtain ⟨a,xs,e,h1,h2,q⟩:=h;exact ⟨a,xs,e,h1,h2,names_mono q i⟩
 names_mono {Q Q':St->Hp->Prop}:∀{is:List Nat} {vs:List V} {σ:St} {H:Hp},jE is vs σ H Q->(∀σ' H',Q σ' H'->Q' σ' H')->jE is vs σ H Q'
  | [],_,_,_,⟨e,q⟩,i=>⟨e,i _ _ q⟩
  | _::is,_,_,_,⟨v,r,e,q⟩,i=>⟨v,r,e,names_mono (is:=is) q i⟩
section
variable {X:Cx} {tg iter elt:Expr} {ifs:List Expr} {scope:Scope} {pos:Pos} {ti:ff} {g:Tg} {tc:ig} {te:DT}
theorem iz (N':List Str)(fr:List (Option Nat))(hc:X.calm=true)(hi:DI X tg iter ti)
  (hg:∀cl fp C s H,PG (rW X scope N' cl fp C s H) tg (g.v X.K)) (ht:∀cl fp C s H,BK (rW X scope N' cl fp C s H) ifs tc) (he:∀cl fp C s H,DE (rW X scope N' cl fp C s H) elt te)
  {sc0:Scope} {N0:List Str} (htg:autoParam (Gd fr g=true) aZb._auto_1) (hsc:autoParam (X.env.scope=sc0) aZa._auto_1) (hN:autoParam (X.N=N0) aZa._auto_1) (bG:autoParam (i9 sc0 N0 scope N' fr=true) aZe._auto_1) (hs:autoParam (∀x,foldedSetIterable iter X.env x=pure x) aZc._auto_1) :
  DE X (.ListComp elt [⟨tg,iter,ifs,0⟩] scope pos) (GP ti fr g tc te):=
 DE.of (HE (tc:=cT X.K tc) (te:=cE X.K te) N' fr hc hi.pi hg (λcl fp C s H=>(ht cl fp C s H).pf) (λcl fp C s H=>(he cl fp C s H).pe) hsc hN bG hs) (xg htg)
end
end DL
namespace DL
open PySem L2
structure iw where
 nx:ax->Prop
 rt:B->Prop
 bk:ax->Prop:=λ_=>False
 ct:ax->Prop:=λ_=>False
noncomputable abbrev fU:=iw->ax->Prop
structure m6 (K:Frag)(H0 G0:Hp)(E:iw)(Dn:Ends):Prop where
 nx:∀σ H G ρ,Wd H0 G0 H G->aL K H0 G H σ ρ->E.nx ρ->Dn.nx σ H
 bk:∀σ H G ρ,Wd H0 G0 H G->aL K H0 G H σ ρ->E.bk ρ->Dn.bk σ H
 ct:∀σ H G ρ,Wd H0 G0 H G->aL K H0 G H σ ρ->E.ct ρ->Dn.ct σ H
 rt:∀b v H G,Wd H0 G0 H G->fS K H0 G H v b->E.rt b->Dn.rt v H
noncomputable def cS (K:Frag)(H0 G0:Hp)(t:fU):TS:=λDn σ H=>∃(E:iw) (G:Hp) (ρ:ax),m6 K H0 G0 E Dn/\Wd H0 G0 H G/\aL K H0 G H σ ρ/\t E ρ
structure DS (X:Cx)(st:Stmt)(t:fU):Prop where
 ps:∀H0 G0,PS X st (cS X.K H0 G0 t)
structure rY (X:Cx)(st:List Stmt)(t:fU):Prop where
 yN:∀H0 G0,m8 X st (cS X.K H0 G0 t)
section
variable {K:Frag} {H0 G0 G H H':Hp} {σ:St} {ρ:ax}
theorem aL.freeze (e:aL K H0 G H σ ρ)(w:Wd H0 G0 H G):∃G1,Wd H0 G0 H G1/\ar G G1/\aL K H0 G1 H σ (de ρ):=by
 classical
 obtain ⟨o,e⟩:=e;have to:∀a,H0 a=none->G a=none->(if H0 a=none/\G a=none then H a else G a)=H a:=λa h1 h2=>if_pos ⟨h1,h2⟩;have sG:ar G (λa=>if H0 a=none/\G a=none then H a else G a):=λa o h=>by
  show (if _ then H a else G a)=_;rw[if_neg λq=>by rw[q.2] at h;cases h];exact h
 refine ⟨λa=>if H0 a=none/\G a=none then H a else G a,⟨w.hh,w.gg.trans sG,λa o h=>?_,λa h=>?_⟩,sG,?_⟩
 .have h':(if H0 a=none/\G a=none then H a else G a)=some o:=h;split at h'
  .exact h'
  .exact w.gh _ _ h'
 .show (if H0 a=none/\G a=none then H a else G a)=_;rw[if_neg λq=>h.there q.1];exact w.old a h
 .have own:∀a d,H0 a=none->bX K G H a d->Rep K (λa=>if H0 a=none/\G a=none then H a else G a) (.ref a) d:=λa d h0 h=>h.rep sG λo z=>by
   show (if H0 a=none/\G a=none then H a else G a)=_;rw[to a h0 h.1];exact z
  refine aL.only (by rw[wU];exact e.len) (λi d h=>?_) λi b h=>?_
  .obtain ⟨b,h1,h2⟩:=ny h;cases h2;cases b with
   | p d =>
    obtain ⟨v,h3,h4⟩:=e.p i d h1;exact ⟨v,h3,h4.mono sG⟩
   | o d =>
    obtain ⟨a,h3,h4,h4',h5⟩:=e.o i d h1;exact ⟨.ref a,h3,own a d h4 h5⟩
   | n t dss =>
    obtain ⟨a,h3,as,nd,pr,q⟩:=e.n i t dss h1;have rs:bf K (λa=>if H0 a=none/\G a=none then H a else G a) (as.map V.ref) dss:=by
     clear q h1 h nd;induction pr with
     | nil=>exact .nil
     | cons f _ ih=>exact .cons (own _ _ f.1 f.2.2) ih
    refine ⟨.ref a,h3,?_⟩;cases t with
    | true=>exact Rep.rQ (sG _ _ q) rs
    | false =>
     refine Rep.CY ?_ rs;show (if H0 a=none/\G a=none then H a else G a)=_;rw[to a q.1 q.2.2.1];exact q.2.2.2.2
  .obtain ⟨b',h1,h2⟩:=ny h;exact ⟨_,h2⟩
theorem oH.back {o:Addr->Nat}(e:oH K H0 G H o σ ρ)(hh:ar H H'):oH K H0 G H' o σ ρ:=
 ⟨e.len,e.p,λi d h=>by
  obtain ⟨a,h1,h2,h2',h3⟩:=e.o i d h;exact ⟨a,h1,h2,h2',h3.dD (ar.refl _) h3.1 λo q=>hh _ _ q⟩,λi t dss h=>by
  obtain ⟨a,h1,h2⟩:=e.n i t dss h;exact ⟨a,h1,h2.dD (ar.refl _) λx k1 k2 k3 k4=>⟨k3,k2,λo q=>hh _ _ q⟩⟩⟩
theorem aL.back (e:aL K H0 G H σ ρ)(hh:ar H H'):aL K H0 G H' σ ρ:=by
 obtain ⟨o,e⟩:=e;exact ⟨o,e.back hh⟩
theorem Wd.back {G1 G1':Hp}(w:Wd H0 G0 H G)(w1:Wd H G1 H' G1'):Wd H0 G0 H' G:=⟨w.hh.trans w1.hh,w.gg,w.gh.trans w1.hh,w.old⟩
end
section
variable {X:Cx} {st:Stmt} {rest:List Stmt} {t u:fU} {a b c e:Expr} {ta tb te:DT} {pos:Pos}
noncomputable def zS:fU:=λE ρ=>E.nx ρ
noncomputable def EU (t u:fU):fU:=λE ρ=>t { E with nx:=u E } ρ
theorem aJ:rY X [] zS:=rY.mk λH0 G0=>m8.imp xB λDn σ H ⟨E,G,ρ,eo,w,en,h⟩=>eo.nx σ H G ρ w en h
theorem af (h1:DS X st t)(h2:rY X rest u):rY X (st::rest) (EU t u):=rY.mk λH0 G0=>m8.imp (uo (h1.ps H0 G0) (h2.yN H0 G0)) λDn σ H ⟨E,G,ρ,eo,w,en,h⟩ =>
 ⟨{ E with nx:=u E },G,ρ,⟨λσ' H' G' ρ' w' en' h'=>⟨E,G',ρ',eo,w',en',h'⟩,eo.bk,eo.ct,eo.rt⟩,w,en,h⟩
theorem ak (h1:DS X st t):rY X [st] t:=rY.mk λH0 G0=>xC (h1.ps H0 G0)
noncomputable def ET (te:DT):fU:=λE ρ=>te (de ρ) E.rt
theorem aP (he:DE X e te):DS X (.Return (some e) pos) (ET te):=DS.mk λH0 G0=>PS.imp (vJ he.pe)<|by
 rintro Dn σ H ⟨E,G,ρ,eo,w,en,h⟩;obtain ⟨G1,w1,sg,e1⟩:=en.freeze w;exact ⟨G1,de ρ,_,w1.gh,e1.p,h,λb v H' G' p' w' r'=>eo.rt b v H' G' (w1.trans w') (r'.ahead w.hh) p'⟩
noncomputable def wu (i:Nat):fU:=λE ρ=>match aV ρ i with
 | some (.o d)=>E.rt (.o d)
 | _=>False
theorem qM (i:Nat){x:Str}{px:Pos}(hN:autoParam (X.N[i]?=some x) aZa._auto_1)(hv:autoParam (rV X.env.scope x) aZf._auto_1)(hd:autoParam ((x == ("__debug__" : Str))=false) aZb._auto_1)
  (hcd:autoParam ((x == ("__classdict__" : Str))=false) aZb._auto_1):DS X (.Return (some (.Name x px)) pos) (wu i):=DS.mk λH0 G0=>PS.imp (vJ (cM hN hv hd hcd))<|by
 rintro Dn σ H ⟨E,G,ρ,eo,w,en,h⟩;unfold wu at h;split at h
 .rename_i d e;obtain ⟨a,h1,h2,h3⟩:=en.o i d e;exact ⟨.ref a,h1,eo.rt (.o d) _ H G w ⟨a,rfl,h2,h3⟩ h⟩
 .exact h.elim
noncomputable def Ca (tc:ig)(t u:fU):fU:=λE ρ=>tc (de ρ) λc=>(c=true->t E ρ)/\(c=false->u E ρ)
theorem bq {x y:List Stmt}{tc:ig}(hc:oY X c tc)(ha:rY X x t)(hb:rY X y u):DS X (.If c x y pos) (Ca tc t u):=DS.mk λH0 G0=>PS.imp (Eb hc.pt (ha.yN H0 G0) (hb.yN H0 G0))<|by
 rintro Dn σ H ⟨E,G,ρ,eo,w,en,h⟩;obtain ⟨G1,w1,sg,e1⟩:=en.freeze w;refine ⟨G1,de ρ,_,w1.gh,e1.p,h,λc H' G' p' w'=>?_⟩;cases c with
 | true=>exact tH ⟨E,G,ρ,eo,w.back w',en.back w'.hh,p'.1 rfl⟩
 | false=>exact tG ⟨E,G,ρ,eo,w.back w',en.back w'.hh,p'.2 rfl⟩
noncomputable def Cc (i:Nat)(te:DT):fU:=λE ρ=>te ρ λb=>E.nx (dput ρ i b)
noncomputable def wx (i:Nat)(te:DT):fU:=λE ρ=>te (de ρ) λb=>b.val.sc=true/\E.nx (dput ρ i (.p b.val))
theorem ot {K:Frag}{H0 G0 H G H' G':Hp}{σ:St}{ρ:ax}{E:iw}{Dn:Ends}(i:Nat)(eo:m6 K H0 G0 E Dn)(w:Wd H0 G0 H G)(en:aL K H0 G H σ ρ){b:B}{v:V}(p:E.nx (dput ρ i b))(w':Wd H G H' G')(r:fS K H G' H' v b):Dn.nx (σ.set i (some v)) H':=by
 cases b with
 | p d=>exact eo.nx _ H' G' _ (w.trans w') ((en.on w').rB i r) p
 | o d =>
  obtain ⟨a,rfl,hn,o⟩:=r;exact eo.nx _ H' G' _ (w.trans w') (en.Js w' i (w.hh.free hn) hn o) p
 | n t ds =>
  cases t with
  | false =>
   obtain ⟨a,as,rfl,n,g,q,na,nd,pr⟩:=r;exact eo.nx _ H' G' _ (w.trans w') (en.Ed w' w.hh i n g q na nd pr) p
  | true =>
   obtain ⟨a,as,rfl,q,nd,pr⟩:=r;exact eo.nx _ H' G' _ (w.trans w') (en.HI w' w.hh i q nd pr) p
theorem Ah {K:Frag}{H0 G0:Hp}{i:Nat}(Dn:Ends)(σ:St)(H:Hp):cS K H0 G0 (Cc i te) Dn σ H->cE K te σ H λv H1=>Dn.nx (σ.set i (some v)) H1:=by
 rintro ⟨E,G,ρ,eo,w,en,h⟩;exact ⟨G,ρ,_,w.gh,en.p,h,λb v H' G' p' w' r'=>ot i eo w en p' w' r'⟩
theorem yk {K:Frag}{H0 G0:Hp}{i:Nat}(Dn:Ends)(σ:St)(H:Hp):cS K H0 G0 (wx i te) Dn σ H->cE K te σ H λv H1=>Dn.nx (σ.set i (some v)) H1:=by
 rintro ⟨E,G,ρ,eo,w,en,h⟩;obtain ⟨G1,w1,sg,e1⟩:=en.freeze w;refine ⟨G1,de ρ,_,w1.gh,e1.p,h,λb v H' G' p' w' r'=>?_⟩;obtain ⟨G2,w2,r2⟩:=r'.give w';exact eo.nx _ H' G _ (w.back w') ((en.back w'.hh).rB i (r2.sc p'.1)) p'.2
noncomputable def wy (i:Nat)(te:DT):fU:=λE ρ=>te ρ λb=>E.nx (dput ρ i (.p b.val))
noncomputable def qE (i:Nat)(te:DT):fU:=λE ρ=>te (de ρ) λb=>E.nx (dput (de ρ) i (.p b.val))
theorem yl {K:Frag}{H0 G0:Hp}{i:Nat}(Dn:Ends)(σ:St)(H:Hp):cS K H0 G0 (wy i te) Dn σ H->cE K te σ H λv H1=>Dn.nx (σ.set i (some v)) H1:=by
 rintro ⟨E,G,ρ,eo,w,en,h⟩;refine ⟨G,ρ,_,w.gh,en.p,h,λb v H' G' p' w' r'=>?_⟩;obtain ⟨G2,w2,r2⟩:=r'.give w';exact ot i eo w en (b:=.p b.val) p' w2 r2
theorem vj {K:Frag}{H0 G0:Hp}{i:Nat}(Dn:Ends)(σ:St)(H:Hp):cS K H0 G0 (qE i te) Dn σ H->cE K te σ H λv H1=>Dn.nx (σ.set i (some v)) H1:=by
 rintro ⟨E,G,ρ,eo,w,en,h⟩;obtain ⟨G1,w1,sg,e1⟩:=en.freeze w;refine ⟨G1,de ρ,_,w1.gh,e1.p,h,λb v H' G' p' w' r'=>?_⟩;obtain ⟨G2,w2,r2⟩:=r'.give w';exact ot i eo w1 e1 (b:=.p b.val) p' w2 r2
section
variable {i:Nat} {x:Str} {px:Pos}
theorem fD (hN:X.N.Nodup)(hi:X.N[i]?=some x)(hx:Loc X.env.scope x)(he:DE X e te)(hs:autoParam (swapsWith e (some (.Name x px)) pos.line X.env=pure false) aZa._auto_1)(hf:autoParam (X.fn x=true\/X.env.scope.names.lookup x=some .local) aZd._auto_1) :
  DS X (.Assign [.Name x px] e pos) (Cc i te):=DS.mk λH0 G0=>PS.imp (jL hN hi hx he.pe hs hf) Ah
theorem aw (hN:X.N.Nodup)(hi:X.N[i]?=some x)(hx:Loc X.env.scope x)(he:DE X e te)(hs:autoParam (swapsWith e (some (.Name x px)) pos.line X.env=pure false) aZa._auto_1)(hf:autoParam (X.fn x=true\/X.env.scope.names.lookup x=some .local) aZd._auto_1) :
  DS X (.Assign [.Name x px] e pos) (wy i te):=DS.mk λH0 G0=>PS.imp (jL hN hi hx he.pe hs hf) yl
theorem wK (hN:X.N.Nodup)(hi:X.N[i]?=some x)(hx:Loc X.env.scope x)(he:DE X e te)(hs:autoParam (swapsWith e (some (.Name x px)) pos.line X.env=pure false) aZa._auto_1)(hf:autoParam (X.fn x=true\/X.env.scope.names.lookup x=some .local) aZd._auto_1) :
  DS X (.Assign [.Name x px] e pos) (wx i te):=DS.mk λH0 G0=>PS.imp (jL hN hi hx he.pe hs hf) yk
variable {tg iter elt:Expr} {ifs:List Expr} {scope:Scope} {spos:Pos} {ti:ff} {g:Tg} {tc:ig}
theorem vi (hNd:X.N.Nodup)(hy:X.N[i]?=some x)(hly:Loc X.env.scope x)(N':List Str)(fr:List (Option Nat))(hc:X.calm=true)(hi:DI X tg iter ti)
  (hg:∀cl fp C s H,PG (rW X scope N' cl fp C s H) tg (g.v X.K)) (ht:∀cl fp C s H,BK (rW X scope N' cl fp C s H) ifs tc) (he:∀cl fp C s H,DE (rW X scope N' cl fp C s H) elt te)
  {sc0:Scope} {N0:List Str} (htg:autoParam (Gd fr g=true) aZb._auto_1) (hsw:autoParam (swapsWith (.ListComp elt [⟨tg,iter,ifs,0⟩] scope pos) (some (.Name x px)) spos.line X.env=pure true) aZa._auto_1)
  (hsc:autoParam (X.env.scope=sc0) aZa._auto_1) (hN:autoParam (X.N=N0) aZa._auto_1) (bG:autoParam (i9 sc0 N0 scope N' fr=true) aZe._auto_1) (hs:autoParam (∀x,foldedSetIterable iter X.env x=pure x) aZc._auto_1)
  (hf:autoParam (X.fn x=true\/X.env.scope.names.lookup x=some .local) aZg._auto_1) :
  DS X (.Assign [.Name x px] (.ListComp elt [⟨tg,iter,ifs,0⟩] scope pos) spos) (qE i (GP ti fr g tc te)):=DS.mk λH0 G0 =>
 PS.imp (Bc (tc:=cT X.K tc) (te:=cE X.K te) hNd hy hly N' fr hc hi.pi hg (λcl fp C s H=>(ht cl fp C s H).pf) (λcl fp C s H=>(he cl fp C s H).pe) hsw hsc hN bG hs hf) λDn σ H h=>xg htg σ H _ (vj Dn σ H h)
noncomputable def B8 (i:Nat)(te:DT)(f:Int->Int->Int):fU:=λE ρ=>match aV ρ i with
 | some (.p (.int m))=>te (de ρ) λb=>match b.val with
  | .int n=>E.nx (dput ρ i (.p (.int (f m n))))
  | _=>False
 | _=>False
theorem Ae {op:Operator}{f:Int->Int->Int}(hN:X.N.Nodup)(hi:X.N[i]?=some x)(hx:Loc X.env.scope x)(he:DE X e te)(ho:GB X op (Iv f))(hf:autoParam (X.fn x=true\/X.env.scope.names.lookup x=some .local) aZd._auto_1) :
  DS X (.AugAssign (.Name x px) op e pos) (B8 i te f):=DS.mk λH0 G0=>PS.imp (FG hN hi hx he.pe ho hf)<|by
 rintro Dn σ H ⟨E,G,ρ,eo,w,en,h⟩;unfold B8 at h;split at h
 .rename_i m q;obtain ⟨G1,w1,sg,e1⟩:=en.freeze w;obtain ⟨v,h1,h2⟩:=en.p i _ q;cases h2;refine ⟨_,h1,G1,de ρ,_,w1.gh,e1.p,h,λb v H' G' p' w' r'=>?_⟩;split at p'
  .rename_i n e;exact ⟨m,n,rfl,dg w' r' e,eo.nx _ H' G _ (w.back w') ((en.back w'.hh).rB i (.int _)) p'⟩
  .exact p'.elim
 .exact h.elim
end
noncomputable def EH (te:DT)(g:Tg):fU:=λE ρ=>te ρ λb=>g.d b.val ρ E.nx
theorem qL {tg:Expr}{g:Tg}(he:DE X e te)(hg:PG X tg (g.v X.K))(hs:autoParam (swapsWithSole [tg] e pos.line X.env=pure false) aZa._auto_1)(hw:autoParam (swappedStores [tg] e X.env=pure none) aZa._auto_1)
  (h1:autoParam ((assignEach [tg] X.env).map (·.2) = [assign tg X.env]) aZa._auto_1):DS X (.Assign [tg] e pos) (EH te g):=DS.mk λH0 G0=>PS.imp (nZ he.pe hg hs hw h1)<|by
 rintro Dn σ H ⟨E,G,ρ,eo,w,en,h⟩;refine ⟨G,ρ,_,w.gh,en.p,h,λb v H' G' p' w' r'=>?_⟩;obtain ⟨G2,w2,r2⟩:=r'.give w';exact Tg.ok w2.gh (en.on w2) r2 p' λσ' ρ' e' q=>eo.nx σ' H' G2 ρ' (w.trans w2) e' q
theorem aL.Du {K:Frag}{H0 G H:Hp}{σ:St}{ρ:ax}{i:Nat}{a:Addr}{ds ds':List D}{vs:List V}(e:aL K H0 G H σ ρ)(h1:aV ρ i=some (.o (.lst ds)))(h2:σ[i]?=some (some (.ref a)))(r:bf K G vs ds'):aL K H0 G (upd H a (.lst vs)) σ (dput ρ i (.o (.lst ds'))):=by
 obtain ⟨o,e⟩:=e;have hlt:=wG h1;obtain ⟨a',h3,h4,h4',h5⟩:=e.o i _ h1;rw[h2] at h3;cases h3;refine ⟨o,by rw[dS];exact e.len,λj d q=>?_,λj d q=>?_,λj t dss q=>?_⟩
 .rcases aM q with ⟨rfl,_,q⟩ | ⟨hne,q⟩
  .cases q
  .exact e.p j d q
 .rcases aM q with ⟨rfl,_,q⟩ | ⟨hne,q⟩
  .cases q;exact ⟨a,h2,h4,h4',h5.1,vs,aE,r⟩
  .obtain ⟨b,k1,k2,k2',k3⟩:=e.o j d q;refine ⟨b,k1,k2,k2',k3.dD (ar.refl _) k3.1 λo z=>?_⟩;have:b≠a:=by
    rintro rfl;exact hne (h4'.symm.trans k2')
   rw[au this];exact z
 .rcases aM q with ⟨rfl,_,q⟩ | ⟨hne,q⟩
  .cases q
  .obtain ⟨b,k1,k2⟩:=e.n j t dss q;refine ⟨b,k1,k2.dD (ar.refl _) λx z1 z2 z3 z4=>⟨z3,z2,λo z=>?_⟩⟩;have:x≠a:=by
    rintro rfl;exact hne (h4'.symm.trans z2)
   rw[au this];exact z
noncomputable def B7 (i:Nat)(te:DT):fU:=λE ρ=>match aV ρ i with
 | some (.o (.lst ds))=>te ρ λb=>ds.length<sizeLine/\E.nx (dput ρ i (.o (.lst (ds++[b.val]))))
 | _=>False
theorem BX {K:Frag}{H0 G0 G H:Hp}{σ:St}{ρ:ax}{i:Nat}{a:Addr}{ds:List D}{vs:List V}{v:V}{d:D}{E:iw}{Dn:Ends}(eo:m6 K H0 G0 E Dn)(w:Wd H0 G0 H G)(e:aL K H0 G H σ ρ)(h1:aV ρ i=some (.o (.lst ds)))(h2:σ[i]?=some (some (.ref a)))(h3:H a=some (.lst vs))(r:bf K G vs ds)(rv:Rep K G v d)(hz:ds.length<sizeLine)(p:E.nx (dput ρ i (.o (.lst (ds++[d]))))) :
  xF (.ref a) [v] H λ_ H3=>Dn.nx σ H3:=by
 obtain ⟨a',k1,k2,k3⟩:=e.o i _ h1;rw[h2] at k1;cases k1;exact ⟨a,vs,v,rfl,rfl,h3,by rw[Paired.length r];exact hz,eo.nx σ _ G _ (w.own k2 k3.1) (e.Du h1 h2 (bA r (.cons rv .nil))) p⟩
section
variable {i:Nat} {x:Str} {px apos cpos spos:Pos}
theorem qK (hN:X.N[i]?=some x)(hv:rV X.env.scope x)(he:DE X e te)(hd:autoParam ((x == ("__debug__" : Str))=false) aZb._auto_1)(hcd:autoParam ((x == ("__classdict__" : Str))=false) aZb._auto_1)
  (hbase:autoParam (attributeBase (.Name x px) "append" X.env (eval (.Name x px) X.env)=eval (.Name x px) X.env) aZa._auto_1)
  (hfew:autoParam (((backTo cpos (starEach (e::[]) X.env)).all (λx=>!x.1) && (backToKw cpos (keywordEach [] X.env)).all (λx=>x.1.isSome)
   && decide ((e::[]).length+([]:List Keyword).length+(if ([]:List Keyword).isEmpty then 0 else 1)<30))=true) aZa._auto_1)
  (hline:autoParam ((apos.endLine == cpos.line)=true) aZa._auto_1) (hs:autoParam (starEach (e::[]) X.env=(false,eval e X.env)::starEach [] X.env) aZa._auto_1) (hplain:autoParam ((backTo cpos (starEach [] X.env)).any (·.1)=false) aZa._auto_1)
  (hsw:autoParam (swapsWith (.Call (.Attribute (.Name x px) "append" apos) [e] [] cpos) none spos.line X.env=pure false) aZa._auto_1) :
  DS X (.Expr (.Call (.Attribute (.Name x px) "append" apos) [e] [] cpos) spos) (B7 i te):=DS.mk λH0 G0 =>
 PS.imp (mT (xq PySem.F.plainAttrs_list PySem.F.slot_list_append PySem.F.type_list_append jf (cM hN hv hd hcd) (eQ he.pe g8 hs) hbase hfew hline hs hplain) hsw)<|by
  rintro Dn σ H ⟨E,G,ρ,eo,w,en,h⟩;unfold B7 at h;split at h
  .rename_i ds q;obtain ⟨a,h1,h2,h3,vs,h4,h5⟩:=en.o i _ q;refine ⟨_,h1,.inl ⟨rfl,_,dc.of h4⟩,G,ρ,_,w.gh,en.p,h,λb v H' G' p' w' r'=>?_⟩;obtain ⟨G2,w2,r2⟩:=r'.give w';exact BX eo (w.trans w2) (en.on w2) q h1 (w2.hh _ _ h4) (bf.mono w2.gg h5) r2 p'.1 p'.2
  .exact h.elim
noncomputable def uZ (i:Nat)(tk te:DT):fU:=λE ρ=>te ρ λb=>match aV ρ i with
 | some (.o (.lst ds))=>tk (de ρ) λk=>match k.val with
  | .int z=>∃j,tI ds.length z=some j/\E.nx (dput ρ i (.o (.lst (ds.set j b.val))))
  | _=>False
 | _=>False
theorem jJ {α β:Type}{F:α->β->Prop}{v:α}{d:β}(h:F v d):∀{l:List α} {r:List β} (j:Nat),Paired F l r->Paired F (l.set j v) (r.set j d)
 | _,_,_,.nil=>.nil
 | _,_,0,.cons _ t=>.cons h t
 | _,_,j+1,.cons k t=>.cons k (jJ h j t)
theorem yX {K:Frag}{H0 G0 G H:Hp}{σ:St}{ρ:ax}{v:V}{d:D}{tk:DT}{E:iw}{Dn:Ends}(eo:m6 K H0 G0 E Dn)(w:Wd H0 G0 H G)(en:aL K H0 G H σ ρ)(rv:Rep K G v d){ds:List D}(q:aV ρ i=some (.o (.lst ds)))
  (h:tk (de ρ) λk=>match k.val with
  | .int z=>∃j,tI ds.length z=some j/\E.nx (dput ρ i (.o (.lst (ds.set j d))))
  | _=>False):Hc (Dy i) (cE K tk) Ef v σ H Dn.nx:=by
 obtain ⟨a,h1,h2,h3,vs,h4,h5⟩:=en.o i _ q;obtain ⟨G1,w1,sg,e1⟩:=en.freeze w;refine ⟨_,h1,G1,de ρ,_,w1.gh,e1.p,h,λb v' H' G' p' w' r'=>?_⟩;split at p'
 .rename_i z e;obtain ⟨j,hj,p'⟩:=p';refine ⟨a,vs,z,j,rfl,dg w' r' e,w'.hh _ _ h4,by rw[Paired.length h5];exact hj,?_⟩;exact eo.nx σ _ G _ ((w.back w').own h2 h3) ((en.back w'.hh).Du q h1 (jJ rv j h5)) p'
 .exact p'.elim
theorem sR {k:Expr}{tk:DT}{tpos:Pos}(hN:X.N[i]?=some x)(hv:rV X.env.scope x)(hk:DE X k tk)(he:DE X e te)(hd:autoParam ((x == ("__debug__" : Str))=false) aZb._auto_1)(hcd:autoParam ((x == ("__classdict__" : Str))=false) aZb._auto_1)
    (ha:autoParam (∀v,assign (.Subscript (.Name x px) k tpos) X.env v=(do
      let ov <-holding [v] (eval (.Name x px) X.env)
      let iv <-holding [v,ov] (eval k X.env)
      standAt tpos
      holding [v,ov,iv] (setItem ov iv v)
      release [v,ov,iv] [])) aZc._auto_1)
    (hs:autoParam (swapsWithSole [.Subscript (.Name x px) k tpos] e pos.line X.env=pure false) aZa._auto_1) (hw:autoParam (swappedStores [.Subscript (.Name x px) k tpos] e X.env=pure none) aZa._auto_1)
    (h1:autoParam ((assignEach [.Subscript (.Name x px) k tpos] X.env).map (·.2) = [assign (.Subscript (.Name x px) k tpos) X.env]) aZa._auto_1) :
    DS X (.Assign [.Subscript (.Name x px) k tpos] e pos) (uZ i tk te):=DS.mk λH0 G0 =>
  PS.imp (nZ he.pe (rm (cM hN hv hd hcd) hk.pe set_list ha) hs hw h1)<|by
    rintro Dn σ H ⟨E,G,ρ,eo,w,en,h⟩;refine ⟨G,ρ,_,w.gh,en.p,h,λb v H' G' p' w' r'=>?_⟩;obtain ⟨G2,w2,r2⟩:=r'.give w';split at p'
    · rename_i ds q;exact yX eo (w.trans w2) (en.on w2) r2 q p'
    · exact p'.elim
end
noncomputable def Cs (g:Tg)(tb:fU)(E:iw)(xs:List D)(ρ:ax):Prop:=∃I:Nat->ax->Prop,I 0 ρ /\
 (∀i d ρ,xs[i]?=some d->I i ρ->g.d d ρ λρ'=>tb { E with nx:=I (i+1),ct:=I (i+1),bk:=E.nx } ρ')/\∀ρ,I xs.length ρ->E.nx ρ
noncomputable def EI (ti:ff)(g:Tg)(tb:fU):fU:=λE ρ=>ti ρ λxs=>Cs g tb E xs ρ
theorem Wd.base {H0 G0 H9 G9 H G:Hp}(w9:Wd H0 G0 H9 G9)(w:Wd H0 G9 H G):Wd H0 G0 H G:=⟨w.hh,w9.gg.trans w.gg,w.gh,λa h=>by rw[w.old a h,w9.old a h]⟩
noncomputable def cX (K:Frag)(t:fU):TS:=λDn σ H=>∃H0 G0,cS K H0 G0 t Dn σ H
theorem rY.x {sts:List Stmt}(h:rY X sts t):m8 X sts (cX X.K t):=λpins s σ H D I ⟨H0,G0,q⟩=>h.yN H0 G0 pins s σ H D I q
theorem sV {K:Frag}{H0 G0 G H:Hp}{σ:St}{ρ:ax}{g:Tg}{tb:fU}{J:It}{xs:List D}{E:iw}{Dn:Ends}(eo:m6 K H0 G0 E Dn)(w:Wd H0 G0 H G)(en:aL K H0 G H σ ρ)(it:Gk K G J xs)(h:Cs g tb E xs ρ) :
    ∃W:Nat->Nat->St->Hp->Prop,(∃m,W 0 m σ H)/\∀i m σ H,W i m σ H ->
      (J.stop i H/\Dn.nx σ H)\/(J.go i H/\∃N:St->Hp->Prop,(∀σ' H',N σ' H'->∃m',m'<m/\W (i+1) m' σ' H')/\∀x H',J.BI i H x H'->g.v K x σ H' λσ2 H2=>cX K tb { Dn with nx:=N,ct:=N,bk:=Dn.nx } σ2 H2):=by
  obtain ⟨I,i0,is,ie⟩:=h;have w0:Wd H0 G H G:=⟨w.hh,ar.refl _,w.gh,λ_ _=>rfl⟩
  refine ⟨λi m σ H=>m=xs.length - i/\i<=xs.length/\∃G' ρ',Wd H0 G H G'/\aL K H0 G' H σ ρ'/\I i ρ',⟨xs.length,by simp,Lc _,G,ρ,w0,en,i0⟩,?_⟩;rintro i m σ H ⟨rfl,hi,G',ρ',w',en',p⟩;by_cases hlt:i<xs.length
  · have hx:xs[i]?=some xs[i]:=Kt hlt;refine .inr ⟨it.go i _ H G' hx w'.gg w'.gh,λσ2 H2=>∃G2 ρ2,Wd H0 G H2 G2/\aL K H0 G2 H2 σ2 ρ2/\I (i+1) ρ2,by rintro σ2 H2 ⟨G2,ρ2,z⟩;exact ⟨xs.length - (i+1),by lia,rfl,hlt,G2,ρ2,z⟩,λx H2 y=>?_⟩;obtain ⟨G2,w2,r2⟩:=it.BI i _ H G' x H2 hx w'.gg w'.gh y;refine Tg.ok w2.gh (en'.on w2) r2 (is i _ ρ' hx p) λσ3 ρ3 e3 p3=>?_;exact ⟨H0,G,{ E with nx:=I (i+1),ct:=I (i+1),bk:=E.nx },G2,ρ3,⟨λσ4 H4 G4 ρ4 w4 e4 p4=>⟨G4,ρ4,w4,e4,p4⟩,λσ4 H4 G4 ρ4 w4 e4 p4=>eo.nx σ4 H4 G4 ρ4 (w.base w4) e4 p4,λσ4 H4 G4 ρ4 w4 e4 p4=>⟨G4,ρ4,w4,e4,p4⟩,λb v H4 G4 w4 r4 p4=>eo.rt b v H4 G4 (w.base w4) r4 p4⟩,w'.trans w2,e3,p3⟩
  · have e : i = xs.length := by lia
    subst e;exact .inl ⟨it.stop _ H G' rfl w'.gg w'.gh,eo.nx σ H G' ρ' (w.base w') en' (ie ρ' p)⟩
section
variable {tg iter:Expr} {body:List Stmt} {ti:ff} {g:Tg} {tb:fU}
theorem jC (hp:PassesOwn (model X.prog X.w) X.A X.env X.xe)(hc:X.calm=true)(hi:DI X tg iter ti)(hg:PG X tg (g.v X.K))(hb:rY X body tb)(hs:autoParam (∀x,foldedSetIterable iter X.env x=pure x) aZc._auto_1):DS X (.For tg iter body [] pos) (EI ti g tb):=DS.mk λH0 G0 =>
 PS.imp (vI hp hc hi.pi hg hb.x hs) (by rintro Dn σ H ⟨E,G,ρ,eo,w,en,h⟩;exact ⟨G,ρ,_,w.gh,en.p,h,λxs J H' G' p' w' it=>sV eo (w.trans w') (en.on w') it p'⟩)
noncomputable def JY (K:Frag)(t:ff):TI:=λσ H R=>∃(G:Hp) (ρ:ax) (P:List D->Prop),ar G H/\dM K G σ ρ/\t ρ P/\∀xs J H' G',P xs->Wd H G H' G'->(∀G,Gk K G J xs)->R J H'
structure Ep (X:Cx)(tg e:Expr)(t:ff):Prop where
 pi:PI X tg e (JY X.K t)
theorem Ep.of {e:Expr}{t:TI}{t':ff}(h:PI X tg e t)(i:∀σ H Q,JY X.K t' σ H Q->t σ H Q):Ep X tg e t':=⟨PI.imp h i⟩
theorem j8 {a:Expr}{t:ff}{p:Pos}(hg:Gl X "range")(hm:X.mg "range" = none)(ha:DA X [a] t)(hs:autoParam (starEach [a] X.env = [(false,eval a X.env)]) aZa._auto_1):Ep X tg (.Call (.Name "range" p) [a] [] pos) (u9 t):=
 Ep.of (yK hg hm ha.pa hs)<|by
  rintro σ H R ⟨G,ρ,P,s,re,h,k⟩;refine ⟨G,ρ,_,s,re,h,λds vs H1 G1 p1 l1 w1 r1=>?_⟩;split at p1
  .obtain ⟨v,rfl,rv⟩:=eZ r1;cases rv;exact ⟨_,rfl,p1.1.1,p1.1.2,k _ _ H1 G1 p1.2 w1 λ_=>wY⟩
  .exact p1.elim
theorem nz {a b:Expr}{t:ff}{p:Pos}(hg:Gl X "range")(hm:X.mg "range" = none)(ha:DA X [a,b] t)(hs:autoParam (starEach [a,b] X.env = [(false,eval a X.env),(false,eval b X.env)]) aZa._auto_1)(hs2:autoParam (starEach [b] X.env = [(false,eval b X.env)]) aZa._auto_1) :
  Ep X tg (.Call (.Name "range" p) [a,b] [] pos) (vb t):=
 Ep.of (yL hg hm ha.pa hs hs2)<|by
  rintro σ H R ⟨G,ρ,P,s,re,h,k⟩;refine ⟨G,ρ,_,s,re,h,λds vs H1 G1 p1 l1 w1 r1=>?_⟩;split at p1
  .obtain ⟨v,v',rfl,rv,rv'⟩:=Eh r1;cases rv;cases rv';exact ⟨_,_,rfl,p1.1,k _ _ H1 G1 p1.2 w1 λ_=>wY⟩
  .exact p1.elim
noncomputable def zM (ti:ff)(g:Tg)(tb:fU):fU:=λE ρ=>ti (de ρ) λxs=>Cs g tb E xs ρ
theorem gR (hp:PassesOwn (model X.prog X.w) X.A X.env X.xe)(hc:X.calm=true)(hi:Ep X tg iter ti)(hg:PG X tg (g.v X.K))(hb:rY X body tb)(hs:autoParam (∀x,foldedSetIterable iter X.env x=pure x) aZc._auto_1):DS X (.For tg iter body [] pos) (zM ti g tb):=DS.mk λH0 G0 =>
 PS.imp (vI hp hc hi.pi hg hb.x hs)<|by
  rintro Dn σ H ⟨E,G,ρ,eo,w,en,h⟩;obtain ⟨G1,w1,sg,e1⟩:=en.freeze w;exact ⟨G1,de ρ,_,w1.gh,e1.p,h,λxs J H' G' p' w' it=>sV eo (w.back w') (en.back w'.hh) (it G) p'⟩
noncomputable def zY (tc:ig)(tb:fU):fU:=λE ρ=>∃(I:ax->Prop) (μ:ax->Nat),I ρ/\∀ρ,I ρ->tc (de ρ) λc=>(c=true->tb { E with nx:=λρ'=>I ρ'/\μ ρ'<μ ρ,ct:=λρ'=>I ρ'/\μ ρ'<μ ρ,bk:=E.nx } ρ)/\(c=false->E.nx ρ)
theorem Ag {tc:ig}(hp:PassesOwn (model X.prog X.w) X.A X.env X.xe)(hc:oY X c tc)(hb:rY X body tb):DS X (.While c body [] pos) (zY tc tb):=DS.mk λH0 G0 =>
 PS.imp (Bd hp hc.pt (hb.yN H0 G0))<|by
  rintro Dn σ H ⟨E,G,ρ,eo,w,en,I,μ,i0,h⟩;refine ⟨λm σ H=>∃G ρ,m=μ ρ/\Wd H0 G0 H G/\aL X.K H0 G H σ ρ/\I ρ,⟨_,G,ρ,rfl,w,en,i0⟩,?_⟩;rintro m σ H ⟨G,ρ,rfl,w,en,i0⟩;obtain ⟨G1,w1,sg,e1⟩:=en.freeze w;refine ⟨G1,de ρ,_,w1.gh,e1.p,h ρ i0,λc H' G' p' w'=>?_⟩;cases c with
  | true =>
   refine tH ⟨λσ' H'=>∃G' ρ',Wd H0 G0 H' G'/\aL X.K H0 G' H' σ' ρ'/\I ρ'/\μ ρ'<μ ρ,by rintro σ' H' ⟨G',ρ',w',e',i',l⟩;exact ⟨_,l,G',ρ',rfl,w',e',i'⟩,_,G,ρ,?_,w.back w',en.back w'.hh,p'.1 rfl⟩;exact ⟨λσ4 H4 G4 ρ4 w4 e4 p4=>⟨G4,ρ4,w4,e4,p4⟩,λσ4 H4 G4 ρ4 w4 e4 p4=>eo.nx σ4 H4 G4 ρ4 w4 e4 p4,λσ4 H4 G4 ρ4 w4 e4 p4=>⟨G4,ρ4,w4,e4,p4⟩,eo.rt⟩
  | false=>exact tG (eo.nx σ H' G ρ (w.back w') (en.back w'.hh) (p'.2 rfl))
end
end
noncomputable def dB:Nat->List D->ax
 | 0,ds=>ds.map λd=>some (.p d)
 | n+1,[]=>none::dB n []
 | n+1,d::ds=>some (.p d)::dB n ds
theorem fz {K:Frag}{G:Hp}:∀(n:Nat) {vs:List V} {ds:List D},bf K G vs ds->dM K G (vs.map some++Le (n - vs.length) none) (dB n ds)/\(vs.map some++Le (n - vs.length) (none:Option V)).length=(dB n ds).length/\∀i d,aV (dB n ds) i≠some (.o d)
 | 0,_,_,.nil=>⟨λi d h=>(nomatch (show (none:Option B)=some (.p d) from h)),rfl,λi d h=>(nomatch (show (none:Option B)=some (.o d) from h))⟩
 | 0,_,_,.cons (a:=v) (b:=d) (l₁:=vs) (l₂:=ds) r rr=>by
  obtain ⟨h1,h2,h3⟩:=fz (K:=K) (G:=G) 0 rr;have e0:dB 0 (d::ds)=some (.p d)::dB 0 ds:=rfl;have e1:(v::vs).map some++Le (0 - (v::vs).length) (none:Option V)=some v::(vs.map some++Le (0 - vs.length) none):=by simp
  rw[e0,e1];refine ⟨λi d' h=>?_,by rw[K9,K9,h2],λi d' h=>?_⟩
  .cases i with
   | zero=>cases h;exact ⟨v,rfl,r⟩
   | succ i=>exact h1 i d' h
  .cases i with
   | zero=>cases h
   | succ i=>exact h3 i d' h
 | n+1,_,_,.nil=>by
  obtain ⟨h1,h2,h3⟩:=fz (K:=K) (G:=G) n (vs:=[]) (ds:=[]) .nil;have e1:([]:List V).map some++Le (n+1 - ([]:List V).length) (none:Option V)=none::(([]:List V).map some++Le (n - ([]:List V).length) none):=by simp[List.replicate_succ]
  rw[e1];refine ⟨λi d' h=>?_,by show _=(none::dB n []).length;rw[K9,K9,h2],λi d' h=>?_⟩
  .cases i with
   | zero=>cases h
   | succ i=>exact h1 i d' h
  .cases i with
   | zero=>cases h
   | succ i=>exact h3 i d' h
 | n+1,_,_,.cons (a:=v) (b:=d) (l₁:=vs) (l₂:=ds) r rr=>by
  obtain ⟨h1,h2,h3⟩:=fz (K:=K) (G:=G) n rr;have e1:(v::vs).map some++Le (n+1 - (v::vs).length) (none:Option V)=some v::(vs.map some++Le (n - vs.length) none):=by simp
  rw[e1];refine ⟨λi d' h=>?_,by show _=(some (B.p d)::dB n ds).length;rw[K9,K9,h2],λi d' h=>?_⟩
  .cases i with
   | zero=>cases h;exact ⟨v,rfl,r⟩
   | succ i=>exact h1 i d' h
  .cases i with
   | zero=>cases h
   | succ i=>exact h3 i d' h
theorem gG:∀(n:Nat) (ds:List D) (i:Nat) (b:B),aV (dB n ds) i=some b->∃d,b=.p d
 | 0,[],_,_,h=>by cases h
 | 0,d::ds,0,_,h=>by cases h;exact ⟨_,rfl⟩
 | 0,d::ds,i+1,b,h=>gG 0 ds i b h
 | n+1,[],0,_,h=>by cases h
 | n+1,[],i+1,b,h=>gG n [] i b h
 | n+1,d::ds,0,_,h=>by cases h;exact ⟨_,rfl⟩
 | n+1,d::ds,i+1,b,h=>gG n ds i b h
section
variable {P:KP} {w:K7} {K:Frag} {mg:Str->Option Kn} {base:Heap}
theorem uL {x qual:Str}{st:Stmt}{f:Addr}{fd:FuncData}{N ps:List Str}{k:Nat}{R:DR}(F:lP K x qual st f fd)(S:bj N ps (aj st))(len:∀ds Q,R ds Q->ds.length=ps.length)
  (hbody:∀(cdv:Kn) (A:K1) (outer:List Env) (s:Kp) (H:Hp) (E:XK),cH k (A.deeper (PyProof.Rows.envOfC qual (aj st) s.heap.objs.size f cdv)) ->
   ∃t,rY (qA iu P w K mg base N qual (aj st) f cdv A outer s H E).D9 (aN st) t/\∀ds Q,R ds Q->t { nx:=λ_=>Q (.p .non),rt:=Q } (dB N.length ds)):cL P w K mg base iu (k+1) f fd ps (eP K R):=by
 refine F.ok S (by rintro vs H Q E ⟨ds,G,P,s,r,h,_⟩;rw[Paired.length r];exact len ds P h) ?_;rintro cdv A outer s H vs Q E hr ⟨ds,G,P,sg,r,h,k⟩;obtain ⟨t,h1,h2⟩:=hbody cdv A outer s H E hr;obtain ⟨e1,e2,e3⟩:=fz (K:=K) N.length r;refine ⟨_,h1.yN H G,_,G,_,?_,Wd.refl sg,aL.only e2 e1 (gG _ _),h2 ds P h⟩;exact ⟨λσ H' G' ρ w' _ p=>k _ _ H' G' p w' (show Rep K G' V.non D.non from .non),λσ H' G' ρ w' _ p=>p.elim,λσ H' G' ρ w' _ p=>p.elim,λb v H' G' w' r' p=>k b v H' G' p w' r'⟩
end
end DL
namespace DL
open PySem L2
section
variable {X:Cx} {tg e:Expr} {te:DT} {pos:Pos} {es:List Expr}
noncomputable def J0:DR:=λds P=>match ds with
 | [.lst xs]=>∃ns:List Int,xs=ns.map D.int/\ns≠[]/\∀m,m∈ns->(∀n∈ns,n<=m)->P (.p (.int m))
 | _=>False
theorem Hh {K:Frag}{G:Hp}{Src:Hp->List (List V)->Prop}{rows:List (List V)}{xs:List D}(hs:∀H,ar G H->Src H rows)(r:Paired (λrow d=>∃ds,d=D.tup ds/\bf K G row ds) rows xs):Gk K G (Im Src) xs where
 go:=λi d H G' e s1 s2=>by
  obtain ⟨row,h1,h2⟩:=bH r e;exact ⟨rows,row,hs H (s1.trans s2),h1⟩
 BI:=λi d H G' x H' e s1 s2 y=>by
  obtain ⟨row,h1,ds,rfl,h2⟩:=bH r e;obtain ⟨row',p,h3,h4,rfl,rfl⟩:=y rows (hs H (s1.trans s2));rw[h1] at h3;cases h3;exact ⟨_,(Wd.refl s2).new h4,Rep.rQ aE (bf.mono (d6 (s2.free h4)) (bf.mono s1 h2))⟩
 stop:=λi H G' hi s1 s2=>⟨rows,hs H (s1.trans s2),by rw[Paired.length r,hi]⟩
noncomputable def dj:Nat->List D->List D
 | _,[]=>[]
 | k,x::xs=>.tup [.int (k:Nat),x]::dj (k+1) xs
theorem gU:∀(k:Nat) (xs:List D),(dj k xs).length=xs.length
 | _,[]=>rfl
 | k,x::xs=>by show (dj (k+1) xs).length+1=_;rw[gU];rfl
theorem gS:∀{k:Nat} {xs:List D} {i:Nat} {d:D},(dj k xs)[i]?=some d->∃x,xs[i]?=some x/\d=.tup [.int ((k+i:Nat):Int),x]
 | _,[],_,_,h=>by simp[dj] at h
 | k,x::xs,0,d,h=>⟨x,rfl,by simpa [dj] using h.symm⟩
 | k,x::xs,i+1,d,h=>by
  have h':(dj (k+1) xs)[i]?=some d:=by simpa [dj] using h
  obtain ⟨y,h1,h2⟩:=gS h';exact ⟨y,by simpa using h1,by rw[h2];congr 3;lia⟩
noncomputable def fW (t:ff):ff:=λρ P=>t ρ λds=>match ds with
 | [.lst xs]=>P (dj 0 xs)
 | _=>False
theorem yR {K:Frag}{G:Hp}{vs:List V}{ds:List D}(r:bf K G vs ds):Paired (λrow d=>∃ds,d=D.tup ds/\bf K G row ds) (gj vs) (dj 0 ds):=by
 refine aI (by rw[km,gU,Paired.length r]) λi row d h1 h2=>?_;obtain ⟨x,h3,rfl⟩:=gS h2;obtain ⟨v,h4,h5⟩:=bH r h3;rw[kj h4] at h1;cases h1;exact ⟨_,rfl,.cons (by rw[Nat.zero_add];exact .int _) (.cons h5 .nil)⟩
theorem qJ {elts:List Expr}{kx:Nat}{tpos:Pos}{l:Expr}{t:ff}{p:Pos}(hg:Gl X "enumerate")(hm:X.mg "enumerate" = none)(ha:DA X [l] t)(hs:autoParam (starEach [l] X.env = [(false,eval l X.env)]) aZa._auto_1):DI X (.Tuple elts kx tpos) (.Call (.Name "enumerate" p) [l] [] pos) (fW t):=
 DI.of (Dg hg hm ha.pa hs)<|by
  rintro σ H R ⟨G,ρ,P,s,re,h,k⟩;refine ⟨G,ρ,_,s,re,h,λds vs H1 G1 p1 l1 w1 r1=>?_⟩;split at p1
  .obtain ⟨v,rfl,rv⟩:=eZ r1;obtain ⟨a,us,rfl,e,rr⟩:=rv.lst_inv;exact ⟨a,us,rfl,w1.gh _ _ e,k _ _ H1 G1 p1 w1 (Hh (λH s=>⟨us,s _ _ e,rfl⟩) (yR rr))⟩
  .exact p1.elim
noncomputable def JR (xs ys:List D):List D:=(xs.zip ys).map λp=>.tup [p.1,p.2]
noncomputable def wH (t:ff):ff:=λρ P=>t ρ λds=>match ds with
 | [.lst xs,.lst ys]=>P (JR xs ys)
 | _=>False
noncomputable def j7 (t:ff):ff:=λρ P=>t ρ λds=>match ds with
 | [.lst xs]=>P xs.reverse
 | _=>False
end
end DL
namespace DL
open PySem L2
noncomputable def HX (K:Frag):Sp:=λvs H Q _=>∃(a:Addr) (ns:List Int),vs = [.ref a]/\dc K H a (ns.map V.int)/\ns.length<=63/\∀H',Q (.bl true) H'
noncomputable def Bj:DR:=λds P=>∃ns:List Int,ds = [.scr ns]/\ns.length<=63/\P (.p (.bl true))
theorem lE {P P':ax->Prop}(i:∀ρ,P ρ->P' ρ):∀{is:List Nat} {ds:List D} {ρ:ax},putN is ds ρ P->putN is ds ρ P'
 | [],[],ρ,h=>i ρ h
 | _::is,_::ds,_,h=>lE i (is:=is) (ds:=ds) h
 | [],_::_,_,h=>h.elim
 | _::_,[],_,h=>h.elim
theorem BB {g:Tg}{d:D}{ρ:ax}{P P':ax->Prop}(h:g.d d ρ P)(i:∀ρ,P ρ->P' ρ):g.d d ρ P':=by
 cases g with
 | n j=>exact i _ h
 | t is =>
  cases d with
  | tup ds=>exact lE i h
  | non=>exact h
  | bl _=>exact h
  | int _=>exact h
  | str _=>exact h
  | lst ds=>exact lE i h
  | scr _=>exact h
  | dct _=>exact h
theorem nU {α β:Type}{f:α->β}:∀{xs:List α} {os:List β},Paired (λx o=>o=f x) xs os->os=xs.map f
 | _,_,.nil=>rfl
 | _,_,.cons h t=>by rw[h,nU t];rfl
theorem ku {α β:Type}(f:α->Option β):∀xs:List α,(xs.map f).filterMap id=xs.filterMap f
 | []=>rfl
 | x::xs=>by
  rw[K3,filterMap_cons,filterMap_cons,ku f xs];rfl
theorem filterMap_some {α β:Type}(f:α->β):∀xs:List α,xs.filterMap (λx=>some (f x))=xs.map f
 | []=>rfl
 | x::xs=>by rw[filterMap_cons,filterMap_some f xs];rfl
theorem AH {xs:List D}{g:Tg}{tc:ig}{te:DT}{ρ:ax}{Q:B->Prop}(f:D->Option D)(hz:xs.length<=1000000)(h:∀x∈xs,g.d x ρ λρ'=>tc ρ' λc=>(c=true->te ρ' λb=>some b.val=f x)/\(c=false->none=f x))(q:Q (.o (.lst (xs.filterMap f)))) :
  Fg xs g tc te ρ Q:=by
 refine ⟨by have:sizeLine=16777216:=sizeLine_eq;lia,λx o=>o=f x,h,λos ho=>?_⟩;rw[nU ho,ku];exact q
theorem Fh {xs:List D}{g:Tg}{te:DT}{ρ:ax}{Q:B->Prop}(f:D->D)(hz:xs.length<=1000000)(h:∀x∈xs,g.d x ρ λρ'=>te ρ' λb=>some b.val=some (f x))(q:Q (.o (.lst (xs.map f)))) :
  Fg xs g gd te ρ Q:=
 AH (λx=>some (f x)) hz (λx hx=>BB (h x hx) λρ' z=>⟨λ_=>z,λe=>nomatch e⟩) (by rw[filterMap_some];exact q)
theorem cJ {g:Tg}{tb:fU}{E:iw}{xs:List D}{ρ:ax}(I:Nat->ax->Prop)(h0:I 0 ρ)(hs:∀i x ρ,xs[i]?=some x->I i ρ->g.d x ρ λρ'=>tb { E with nx:=I (i+1),ct:=I (i+1),bk:=E.nx } ρ')(hd:∀ρ,I xs.length ρ->E.nx ρ):Cs g tb E xs ρ:=⟨I,h0,hs,hd⟩
theorem bV {α β:Type}(p:α->Prop)[DecidablePred p](f:α->β):∀xs:List α,xs.filterMap (λx=>if p x then some (f x) else none)=(xs.filter λx=>decide (p x)).map f
 | []=>rfl
 | x::xs=>by
  rw[filterMap_cons,filter_cons,bV p f xs];by_cases h:p x
  .rw[if_pos h,if_pos (decide_eq_true h)];rfl
  .rw[if_neg h,if_neg (by simpa using h)]
theorem Cd {ns:List Int}{P:B->Prop}(h:P (.p (.int ns.sum))):EV [.lst (ns.map D.int)] P:=⟨ns,rfl,h⟩
end DL
namespace DL
open PySem L2
theorem e8 {α:Type}(l:List α)(k:Nat):eD l none (some ((k:Nat):Int))=l.take k:=by
 unfold eD;rw[HT.uA,HT.xI,List.drop_zero,Nat.sub_zero,<-List.take_take,List.take_length]
theorem dh {α:Type}(l:List α)(k:Nat):eD l (some ((k:Nat):Int)) none=l.drop k:=by
 unfold eD;rw[HT.uA,HT.xI];by_cases h:k<=l.length
 .rw[Nat.min_eq_left h];exact take_of_length_le (by rw[Li];exact Ku _)
 .rw[Nat.min_eq_right (by lia),List.drop_eq_nil_of_le (Ku _),List.drop_eq_nil_of_le (by lia),List.take_nil]
theorem CM {α:Type}{xs:List α}{e:α->D}{g:Tg}{te:DT}{ρ:ax}{Q:B->Prop}(F:D->D)(f:α->D)(hF:∀x∈xs,F (e x)=f x)(hz:xs.length<=1000000)(h:∀x∈xs,g.d (e x) ρ λρ'=>te ρ' λb=>some b.val=some (f x))(q:Q (.o (.lst (xs.map f)))) :
  Fg (xs.map e) g gd te ρ Q:=by
 refine Fh F (by rw[Ks];exact hz) (λd hd=>?_) ?_
 .obtain ⟨x,hx,rfl⟩:=KJ.mp hd;rw[hF x hx];exact h x hx
 .rw[map_map,show xs.map (F∘e)=xs.map f from map_congr_left hF];exact q
theorem gn {α β:Type}{f g:α->Option β}:∀{xs:List α},(∀x∈xs,f x=g x)->xs.filterMap f=xs.filterMap g
 | [],_=>rfl
 | x::xs,h=>by rw[filterMap_cons,filterMap_cons,h x mem_cons_self,gn λy hy=>h y (K8 _ hy)]
theorem CL {α:Type}{xs:List α}{e:α->D}{g:Tg}{tc:ig}{te:DT}{ρ:ax}{Q:B->Prop}(F:D->Option D)(f:α->Option D)(hF:∀x∈xs,F (e x)=f x)(hz:xs.length<=1000000)(h:∀x∈xs,g.d (e x) ρ λρ'=>tc ρ' λc=>(c=true->te ρ' λb=>some b.val=f x)/\(c=false->none=f x))(q:Q (.o (.lst (xs.filterMap f)))) :
  Fg (xs.map e) g tc te ρ Q:=by
 refine AH F (by rw[Ks];exact hz) (λd hd=>?_) ?_
 .obtain ⟨x,hx,rfl⟩:=KJ.mp hd;rw[hF x hx];exact h x hx
 .rw[List.filterMap_map,show xs.filterMap (F∘e)=xs.filterMap f from gn hF];exact q
theorem we (xs:List D)(i:Int)(Q:B->Prop):uX (.lst xs) (.int i) Q = ∃d,fI xs i=some d/\Q (.p d):=rfl
theorem wj (xs:List D)(i:Int)(Q:B->Prop):uX (.tup xs) (.int i) Q = ∃d,fI xs i=some d/\Q (.p d):=rfl
theorem wg (ns:List Int)(i:Int)(Q:B->Prop):uX (.scr ns) (.int i) Q = ∃n,fI ns i=some n/\Q (.p (.int n)):=rfl
theorem sk (i j:Int)(Q:B->Prop):ye (.int i) (.int j) Q=Q (.p (.int (i+j))):=rfl
theorem so (xs ys:List D)(Q:B->Prop):ye (.lst xs) (.lst ys) Q=(xs.length+ys.length<=sizeLine/\Q (.o (.lst (xs++ys)))):=rfl
theorem sq (x y:Str)(Q:B->Prop):ye (.str x) (.str y) Q=(x.length+y.length<=sizeLine/\Q (.p (.str (x++y)))):=rfl
theorem sr (xs ys:List D)(Q:B->Prop):ye (.tup xs) (.tup ys) Q=(xs≠[]/\ys≠[]/\xs.length+ys.length<=sizeLine/\Q (.p (.tup (xs++ys)))):=rfl
theorem sI (i j:Int)(Q:B->Prop):EN (.int i) (.int j) Q=(uM i j/\Q (.p (.int (i*j)))):=rfl
theorem sy (i j:Int)(Q:B->Prop):zK (.int i) (.int j) Q=Q (.p (.bl (decide (i=j)))):=rfl
theorem sA (i j:Str)(Q:B->Prop):zK (.str i) (.str j) Q=Q (.p (.bl (decide (i=j)))):=rfl
theorem wc (i j:Bool)(Q:B->Prop):zK (.bl i) (.bl j) Q=Q (.p (.bl (decide (i=j)))):=rfl
theorem sJ (i j:Int)(Q:B->Prop):zQ (.int i) (.int j) Q=Q (.p (.bl (!decide (i=j)))):=rfl
theorem sL (i j:Str)(Q:B->Prop):zQ (.str i) (.str j) Q=Q (.p (.bl (!decide (i=j)))):=rfl
theorem wm (i j:Bool)(Q:B->Prop):zQ (.bl i) (.bl j) Q=Q (.p (.bl (!decide (i=j)))):=rfl
theorem sD (xs:List D)(P:B->Prop):zP [.lst xs] P=P (.p (.int xs.length)):=rfl
theorem sF (xs:List D)(P:B->Prop):zP [.tup xs] P=P (.p (.int xs.length)):=rfl
theorem sE (xs:List Int)(P:B->Prop):zP [.scr xs] P=P (.p (.int xs.length)):=rfl
noncomputable def Jf (d:D)(P:List D->Prop):Prop:=match d with
 | .lst xs=>P xs
 | .scr ns=>P (ns.map D.int)
 | _=>False
theorem pK (te:DT)(ρ:ax)(P:List D->Prop):Ac te ρ P=te ρ λb=>Jf b.val P:=rfl
theorem wW (xs:List D)(P:List D->Prop):Jf (.lst xs) P=P xs:=rfl
theorem wX (xs:List Int)(P:List D->Prop):Jf (.scr xs) P=P (xs.map D.int):=rfl
noncomputable def IC (d:D)(lo hi:Option Int)(Q:B->Prop):Prop:=match d with
 | .lst xs=>Q (.o (.lst (eD xs lo hi)))
 | .scr ns=>Q (.o (.lst ((eD ns lo hi).map D.int)))
 | .tup xs=>¬(HT.df xs.length 0 lo=0/\HT.df xs.length xs.length hi=xs.length)/\Q (.p (.tup (eD xs lo hi)))
 | _=>False
theorem zW (te:DT)(tl th:zp)(ρ:ax)(Q:B->Prop):DZ te tl th ρ Q=te ρ λb=>tl ρ λlo=>th ρ λhi=>IC b.val lo hi Q:=rfl
theorem xK (xs:List D)(lo hi:Option Int)(Q:B->Prop):IC (.lst xs) lo hi Q=Q (.o (.lst (eD xs lo hi))):=rfl
theorem xM (xs:List Int)(lo hi:Option Int)(Q:B->Prop):IC (.scr xs) lo hi Q=Q (.o (.lst ((eD xs lo hi).map D.int))):=rfl
theorem xN (xs:List D)(lo hi:Option Int)(Q:B->Prop):IC (.tup xs) lo hi Q=(¬(HT.df xs.length 0 lo=0/\HT.df xs.length xs.length hi=xs.length)/\Q (.p (.tup (eD xs lo hi)))):=rfl
noncomputable def FT (d:D)(lo hi st:Option Int)(Q:B->Prop):Prop:=match d with
 | .lst xs=>Q (.o (.lst (d9 xs lo hi st)))
 | .scr ns=>Q (.o (.lst ((d9 ns lo hi st).map D.int)))
 | _=>False
theorem wz (te:DT)(tl th ts:zp)(ρ:ax)(Q:B->Prop):GQ te tl th ts ρ Q=te ρ λb=>tl ρ λlo=>th ρ λhi=>ts ρ λst=>st≠some 0/\FT b.val lo hi st Q:=rfl
theorem uF (xs:List D)(lo hi st:Option Int)(Q:B->Prop):FT (.lst xs) lo hi st Q=Q (.o (.lst (d9 xs lo hi st))):=rfl
theorem uG (xs:List Int)(lo hi st:Option Int)(Q:B->Prop):FT (.scr xs) lo hi st Q=Q (.o (.lst ((d9 xs lo hi st).map D.int))):=rfl
theorem pE (xs:List D)(P:B->Prop):sx [.lst xs] P=P (.o (.lst xs)):=rfl
theorem pG (xs:List D)(P:B->Prop):sx [.tup xs] P=P (.o (.lst xs)):=rfl
theorem pF (xs:List Int)(P:B->Prop):sx [.scr xs] P=P (.o (.lst (xs.map D.int))):=rfl
theorem Hi {α:Type}(a:α)(l:List α):fI (a::l) (0:Int)=some a:=by unfold fI tI;simp
theorem Hj {α:Type}(a b:α)(l:List α):fI (a::b::l) (1:Int)=some b:=by
 have:fI (a::b::l) (((1:Nat)):Int)=some b:=jX rfl;exact this
theorem Hk {α:Type}(a b c:α)(l:List α):fI (a::b::c::l) (2:Int)=some c:=by
 have:fI (a::b::c::l) (((2:Nat)):Int)=some c:=jX rfl;exact this
theorem Jg {α:Type}(a b c d:α)(l:List α):fI (a::b::c::d::l) (3:Int)=some d:=by
 have:fI (a::b::c::d::l) (((3:Nat)):Int)=some d:=jX rfl;exact this
theorem Jh {α:Type}(a b c d e:α)(l:List α):fI (a::b::c::d::e::l) (4:Int)=some e:=by
 have:fI (a::b::c::d::e::l) (((4:Nat)):Int)=some e:=jX rfl;exact this
theorem GX {α:Type}(a:α)(p:α->Prop):(∃d,some a=some d/\p d)=p a:=propext ⟨by rintro ⟨d,e,h⟩;cases e;exact h,λh=>⟨a,rfl,h⟩⟩
theorem gN {α:Type}{xs:List α}{e:α->D}{k:Nat}{x:α}(h:xs[k]?=some x):fI (xs.map e) ((k:Nat):Int)=some (e x):=by
 refine jX ?_;rw[KS,h];rfl
end DL
namespace PySem
open Sem (wp)
section
variable {prog:KP} {w:K7} {A:K1} {E:Kn->Kp->Prop} {s:Kp}
noncomputable abbrev Et (h:Heap)(z TI TO:Addr)(f0:Kn)(b:Bool):Prop:=
 h.get? z=some { cls:=.type "zip",dict:=none,data:=.fields #[f0,.bool b,.bool false,.ref TI,.ref TO],slots:=#[] }
structure JW (h:Heap)(z TI TO i1 i2 l1 l2:Addr)(xs ys:Array Kn)(i:Nat):Prop where
 ti:IsPair h TI (.ref i1) (.ref i2)
 a1:h.IsListIter i1 l1 i
 a2:h.IsListIter i2 l2 i
 b1:h.IsList l1 xs
 b2:h.IsList l2 ys
 f:(IsZip h z TI TO .none/\∃a b,IsPair h TO a b)\/∃(T:Addr) (b:Bool) (x y:Kn),Et h z TI TO (rawInt T) b/\IsPair h T x y/\T≠z/\T≠TO/\T≠i1/\T≠i2
structure JV (h:Heap)(xs ys:Array Kn)(lo:Nat)(acc:Array Kn):Prop where
 at':∀(j:Nat) (v:Kn),acc[j]?=some v->∃(T:Addr) (x y:Kn),v=Value.ref T/\xs[j]?=some x/\ys[j]?=some y/\IsPair h T x y/\lo<=T
 one:∀(i j:Nat) (v:Kn),acc[i]?=some v->acc[j]?=some v->i=j
end
end PySem
namespace L2
open PySem PySem.Spec PyProof.Rows
section
variable {X:Cx} {pins:List (Addr×Obj)} {σ:List (Option V)} {H H':Hp} {s:Kp} {h':Heap}
end
end L2
namespace WS
end WS
namespace WS
noncomputable def IB (xs:List Int)(L:Nat):Int:=(xs.drop L).sum
structure Drawn (g:Int)(hs cs:List S3)(gv wt:List Int):Prop where
 lg:gv.length=251
 lw:wt.length=251
 ng:∀x∈gv,0<=x
 nw:∀x∈wt,0<=x
 Kc:∀L:Nat,L<=251->xf g hs cs (L:Nat)<=IB wt L - IB gv L
 all:IB wt 0 - IB gv 0=xf g hs cs 0
end WS
namespace L2
open PySem PySem.Spec PyProof.Rows PyProof
section
variable {X:Cx}
end
end L2
namespace PySem
open PyProof.Rows
section
variable {prog:KP} {w:K7} {A:K1} {E:Kn->Kp->Prop} {s:Kp}
end
end PySem
namespace PySem
open PyProof.Rows
section
variable {prog:KP} {w:K7} {A:K1} {R:Result->Kp->Prop} {I:Addr} {fp wr:List Addr} {n:Nat} {P:Nat->Kn->Prop} {St:Nat->Heap->Prop}
end
section
variable {prog:KP} {w:K7} {A:K1} {E:Kn->Kp->Prop} {s:Kp}
end
end PySem
namespace L2
open PySem PySem.Spec PyProof.Rows
section
variable {X:Cx} {l e:Expr} {p pos p2 pos2 kpos cpos:Pos} {j:Nat} {d:Int} {ta:TA}
end
end L2
namespace DL
open PySem L2
section
variable {X:Cx} {l e:Expr} {p pos p2 pos2 kpos cpos:Pos} {j:Nat} {d:Int} {t:ff}
end
end DL
namespace HT
open PySem PyProof.Rows
section
variable {prog:KP} {w:K7} {A:K1} {E:Kn->Kp->Prop} {s:Kp}
theorem zD {t b:Addr}{ws:List Kn}{Q:Kn->Kp->Prop}(ht:IsTup s.heap t #[])(hb:IsTup s.heap b ws.toArray)(h:Q (.ref b) s):wpAny (model prog w) A (binaryOp .Add (.ref t) (.ref b)) Q E s:=by
 obtain ⟨⟨cls,dd,data,sl⟩,ho,hc,n,hd⟩:=id ht;obtain ⟨⟨cls2,dd2,data2,sl2⟩,ho2,hc2,n2,hd2⟩:=id hb;simp only at hc hd hc2 hd2;subst hc hd hc2 hd2;exact concat_meets ⟨_,ho,rfl⟩ ⟨_,ho2,rfl⟩ noFill_tuple_add seq_tuple_add PySem.F.slot_tuple_add PySem.F.entry_tuple_add (PySem.F.args_tuple_add_2 _ _)
  (tuple_addW0 t b #[] ws.toArray n n2 dd dd2 sl sl2 rfl) ⟨ho,ho2,h⟩
end
end HT
namespace DL
open PySem L2
section
variable {X:Cx}
theorem AZ:iq X (binaryOp .Add) (λx y H Q=>∃a b ys,x=.ref a/\y=.ref b/\gM X.K H a []/\gM X.K H b ys/\Q (.ref b) H):=by
 intro pins s σ H x y v u Q I rx ry h;obtain ⟨a,b,ys,rfl,rfl,ha,hb,q⟩:=h;cases rx;cases ry;obtain ⟨its,r1,p1,_⟩:=I.tuple ha;obtain ⟨its2,r2,p2,_⟩:=I.tuple hb;cases r1;exact HT.zD p1 p2 ⟨.ref b,H,I,rfl,q⟩
noncomputable def zH:D2:=λx y Q=>match x,y with
 | .tup xs,.tup ys=>xs.length+ys.length<=sizeLine/\Q (.p (.tup (xs++ys)))
 | _,_=>False
theorem pD (xs ys:List D)(Q:B->Prop):zH (.tup xs) (.tup ys) Q=(xs.length+ys.length<=sizeLine/\Q (.p (.tup (xs++ys)))):=rfl
theorem gz:m7 X (binaryOp .Add) zH:=by
 refine ⟨_,AZ.or mQ,λH G x y dx dy P Q s rx ry h k=>?_⟩;unfold zH at h;split at h
 .obtain ⟨h3,h4⟩:=h;have rx':=rx;have ry':=ry;obtain ⟨a,us,rfl,e,rr⟩:=rx.cB;obtain ⟨a',us',rfl,e',rr'⟩:=ry.cB;cases rr with
  | nil=>exact .inl ⟨a,a',us',rfl,rfl,aq s e,aq s e',k _ _ H G h4 (Wd.refl s) ry'⟩
  | cons h1 t1 =>
   refine .inr ⟨a,a',_,us',rfl,rfl,aq s e,aq s e',List.cons_ne_nil _ _,by rw[Paired.length (.cons h1 t1),Paired.length rr'];exact h3,λz=>?_,λ_ p hp=>?_⟩
   .subst z;cases rr';rw[append_nil] at h4;exact k _ _ H G h4 (Wd.refl s) rx'
   .obtain ⟨w2,r2⟩:=jo (Wd.refl s) hp (bA (.cons h1 t1) rr');exact k _ _ _ _ h4 w2 r2
 .exact h.elim
end
end DL
namespace DL
open PySem L2
theorem vG {α β:Type}{F:α->β->Prop}{l:List α}{r:List β}{j:Nat}{d:β}(h:Paired F l r)(e:r[j]?=some d):∃x,l[j]?=some x/\F x d:=bH h e
section
variable {X:Cx} {e0 e1:Expr} {t0 t1 te:DT} {i:Nat} {x:Str} {pos px:Pos}
end
theorem nV {α β:Type}{F F':α->β->Prop}{x:α}{d':β}(f:F' x d'):∀{l:List α} {r:List β} {j:Nat},Paired F l r->l.Nodup->l[j]?=some x->(∀y d,y∈l->y≠x->F y d->F' y d)->Paired F' l (r.set j d')
 | _,_,_,.nil,_,e,_=>by simp at e
 | _,_,0,.cons g t,nd,e,k=>by
  cases e;refine .cons f (cx (λy d m q=>k y d (K8 _ m) (λz=>?_) q) t);exact (nodup_cons.mp nd).1 (z ▸ m)
 | _,_,j+1,.cons (a:=y) g t,nd,e,k=>by
  have e':_=some x:=e;have nd':=nodup_cons.mp nd;refine .cons (k _ _ mem_cons_self (λz=>nd'.1 (z ▸ KC (by simpa using e))) g) (nV f t nd'.2 (by simpa using e) λy d m=>k y d (K8 _ m))
theorem aL.inner {K:Frag}{H0 G H:Hp}{σ:St}{ρ:ax}{i:Nat}{t:Bool}{dss:List D}(e:aL K H0 G H σ ρ)(h1:aV ρ i=some (.n t dss)) :
  ∃(a:Addr) (as:List Addr),σ[i]?=some (some (.ref a))/\(match t with | true=>gM K G a (as.map V.ref) | false=>H a=some (.lst (as.map V.ref)))/\as.length=dss.length/\∀j ds,dss[j]?=some (.lst ds)->∃x vs,as[j]?=some x/\H0 x=none/\G x=none/\H x=some (.lst vs)/\bf K G vs ds /\
   ∀H' vs' ds',ar H H'->bf K G vs' ds'->aL K H0 G (upd H' x (.lst vs')) σ (dput ρ i (.n t (dss.set j (.lst ds')))):=by
 obtain ⟨o,e⟩:=e;obtain ⟨a,h2,as,nd,pr,q⟩:=e.n i t dss h1;refine ⟨a,as,h2,?_,Paired.length pr,λj ds hj=>?_⟩
 .cases t with
  | true=>exact .inl (.inl q)
  | false=>exact q.2.2.2.2
 obtain ⟨x,hx,z0,z1,z2⟩:=vG pr hj;have gx:=z2.1;obtain ⟨_,vs,hv,rv⟩:=z2;refine ⟨x,vs,hx,z0,gx,hv,rv,λH' vs' ds' hh r'=>?_⟩;have eb:=e.back hh;refine ⟨o,by rw[dS];exact e.len,λj' d q=>?_,λj' d q=>?_,λj' t' dss' q'=>?_⟩
 .rcases aM q with ⟨rfl,_,q⟩ | ⟨hne,q⟩
  .cases q
  .exact e.p j' d q
 .rcases aM q with ⟨rfl,_,q⟩ | ⟨hne,q⟩
  .cases q
  .obtain ⟨b,k1,k2,k2',k3⟩:=eb.o j' d q;refine ⟨b,k1,k2,k2',k3.dD (ar.refl _) k3.1 λo z=>?_⟩;have:b≠x:=by
    rintro rfl;exact hne (z1.symm.trans k2')
   rw[au this];exact z
 .rcases aM q' with ⟨rfl,_,q'⟩ | ⟨hne,q'⟩
  .cases q';refine ⟨a,h2,as,nd,nV ⟨z0,z1,gx,vs',aE,r'⟩ pr nd hx (by rintro y d m hne ⟨k1,k2,k3⟩;exact ⟨k1,k2,k3.dD (ar.refl _) k3.1 λo z=>by rw[au hne];exact hh _ _ z⟩),?_⟩;cases t with
   | true=>exact q
   | false =>
    obtain ⟨e1,e2,e3,e4,e5⟩:=q;refine ⟨e1,e2,e3,e4,?_⟩;have:a≠x:=by
     rintro rfl;exact e4 (KC hx)
    rw[au this];exact hh _ _ e5
  .obtain ⟨b,k1,k2⟩:=eb.n j' t' dss' q';refine ⟨b,k1,k2.dD (ar.refl _) λy y1 y2 y3 y4=>⟨y3,y2,λo z=>?_⟩⟩;have:y≠x:=by
    rintro rfl;exact hne (z1.symm.trans y2)
   rw[au this];exact z
section
variable {X:Cx} {e k m:Expr} {tk tm te:DT} {i:Nat} {x:Str} {pos px sp tpos:Pos}
end
theorem mU {K:Frag}{G G':Hp}{vs:List V}{ds:List D}(h:bf K G vs ds)(k:ds.all D.sc=true):bf K G' vs ds:=by
 induction h with
 | nil=>exact .nil
 | cons f _ ih =>
  rw[List.all_cons,La] at k;exact .cons (f.sc k.1) (ih k.2)
section
variable {X:Cx} {e k:Expr} {tk te:DT} {i:Nat} {x:Str} {pos px tpos:Pos}
end
end DL
namespace DL
open PySem L2
theorem aL.grow {K:Frag}{H0 G H:Hp}{σ:St}{ρ:ax}{a:Addr}{u:HO}(e:aL K H0 G H σ ρ)(g:G a=none)(h:∀vs,H a≠some (.lst vs))(h':∀vs,H a≠some (.dT vs)):aL K H0 (upd G a u) H σ ρ:=by
 obtain ⟨o,e⟩:=e;have sg:ar G (upd G a u):=d6 g;have own:∀x d,bX K G H x d->bX K (upd G a u) H x d:=λx d q=>by
  refine q.dD sg ?_ λo z=>z;obtain ⟨k1,k2⟩:=q;cases d with
  | lst ds =>
   obtain ⟨vs,k3,_⟩:=k2;rw[au (by rintro rfl;exact h vs k3)];exact k1
  | non=>exact k2.elim
  | bl _=>exact k2.elim
  | int _=>exact k2.elim
  | str _=>exact k2.elim
  | tup _=>exact k2.elim
  | scr _=>exact k2.elim
  | dct kvs =>
   rw[au (by rintro rfl;exact h' _ k2)];exact k1
 refine ⟨o,e.len,λi d q=>?_,λi d q=>?_,λi t dss q=>?_⟩
 .obtain ⟨v,h1,h2⟩:=e.p i d q;exact ⟨v,h1,h2.mono sg⟩
 .obtain ⟨b,h1,h2,h3,h4⟩:=e.o i d q;exact ⟨b,h1,h2,h3,own b d h4⟩
 .obtain ⟨b,h1,as,nd,pr,z⟩:=e.n i t dss q;refine ⟨b,h1,as,nd,cx (by rintro x d _ ⟨k1,k2,k3⟩;exact ⟨k1,k2,own x _ k3⟩) pr,?_⟩;cases t with
  | true=>exact sg _ _ z
  | false =>
   obtain ⟨z1,z2,z3,z4,z5⟩:=z;exact ⟨z1,z2,by rw[au (by rintro rfl;exact h _ z5)];exact z3,z4,z5⟩
theorem BF {K:Frag}{H0 G0 G H G1 H' G':Hp}{σ:St}{ρ:ax}{v:V}{es:List D}(w:Wd H0 G0 H G)(w1:Wd H0 G0 H G1)(sg:ar G G1)(w':Wd H G1 H' G')(en:aL K H0 G H' σ ρ)(r:Rep K G' v (.tup es))(sc:es.all D.sc=true) :
  ∃G3,Wd H0 G0 H' G3/\ar G G3/\aL K H0 G3 H' σ ρ/\Rep K G3 v (.tup es):=by
 obtain ⟨a,vs,rfl,gu,rr⟩:=r.rR;have hu:H' a=some (.tup vs):=w'.gh _ _ gu;cases ga:G a with
 | some x =>
  have:G' a=some x:=w'.gg _ _ (sg _ _ ga);rw[gu] at this;cases this;exact ⟨G,w.back w',ar.refl _,en,Rep.rQ ga (mU rr sc)⟩
 | none =>
  refine ⟨upd G a (.tup vs),(w.back w').give (.inr ⟨_,rfl⟩) ga hu,d6 ga,en.grow ga (λvs z=>?_) (λvs z=>?_),Rep.rQ aE (mU rr sc)⟩
  .rw[hu] at z;cases z
  .rw[hu] at z;cases z
section
variable {X:Cx} {e:Expr} {te:DT} {i:Nat} {x:Str} {px apos cpos spos:Pos}
end
end DL
namespace DL
open PySem L2
theorem aL.A0 {K:Frag}{H0 G H:Hp}{σ:St}{ρ:ax}{i:Nat}{dss:List D}(e:aL K H0 G H σ ρ)(h0:ar H0 H)(h1:aV ρ i=some (.n false dss)) :
  ∃(a:Addr) (as:List Addr),σ[i]?=some (some (.ref a))/\H0 a=none/\G a=none/\H a=some (.lst (as.map V.ref))/\as.length=dss.length/\∀y ds H',ar H H'->H y=none->bX K G H' y (.lst ds) ->
   aL K H0 G (upd H' a (.lst (as.map V.ref++[.ref y]))) σ (dput ρ i (.n false (dss++[.lst ds]))):=by
 obtain ⟨o,e⟩:=e;obtain ⟨a,h2,as,nd,pr,q1,q2,q3,q4,q5⟩:=e.n i false dss h1;refine ⟨a,as,h2,q1,q3,q5,Paired.length pr,λy ds H' hh hy oy=>?_⟩;have ea:=e.BV (o':=λx=>if x=y then i else o x) λx q=>if_neg λz:x=y=>q (z ▸ hy);have eb:=ea.back hh;have ay:a≠y:=by rintro rfl;rw[q5] at hy;cases hy
 have yas:y∉as:=λm=>by
  obtain ⟨d,_,_,z⟩:=fM pr y m;exact z.there hy
 have oa:(if a=y then i else o a)=i:=by rw[if_neg ay];exact q2
 refine ⟨λx=>if x=y then i else o x,by rw[dS];exact e.len,λj' d q=>?_,λj' d q=>?_,λj' t' dss' q'=>?_⟩
 .rcases aM q with ⟨rfl,_,q⟩ | ⟨hne,q⟩
  .cases q
  .exact e.p j' d q
 .rcases aM q with ⟨rfl,_,q⟩ | ⟨hne,q⟩
  .cases q
  .obtain ⟨b,k1,k2,k2',k3⟩:=eb.o j' d q;refine ⟨b,k1,k2,k2',k3.dD (ar.refl _) k3.1 λo z=>?_⟩;have:b≠a:=by
    rintro rfl;exact hne (oa.symm.trans k2')
   rw[au this];exact z
 .rcases aM q' with ⟨rfl,_,q'⟩ | ⟨hne,q'⟩
  .cases q';refine ⟨a,h2,as++[y],nodup_append.mpr ⟨nd,by simp,λu hu v hv=>?_⟩,?_,q1,oa,q3,λm=>?_,?_⟩
   .rw[mem_singleton.mp hv];rintro rfl;exact yas hu
   .have pA:Paired (λz d=>H0 z=none/\(if z=y then i else o z)=i/\bX K G (upd H' a (.lst (as.map V.ref++[.ref y]))) z d) as dss:=cx ( by
     rintro x d m ⟨k1,k2,k3⟩;have xa:x≠a:=λz=>q4 (z ▸ m);have xy:x≠y:=λz=>yas (z ▸ m);refine ⟨k1,?_,k3.dD (ar.refl _) k3.1 λo z=>?_⟩
     .rw[if_neg xy];exact k2
     .rw[au xa];exact hh _ _ z) pr
    exact bA pA (.cons ⟨h0.free hy,if_pos rfl,oy.dD (ar.refl _) oy.1 λo z=>by
     rw[au ay.symm];exact z⟩ .nil)
   .rcases Lf.mp m with m | m
    .exact q4 m
    .exact ay (mem_singleton.mp m)
   .rw[aE,KU];rfl
  .obtain ⟨b,k1,k2⟩:=eb.n j' t' dss' q';refine ⟨b,k1,k2.dD (ar.refl _) λx y1 y2 y3 y4=>⟨y3,y2,λo z=>?_⟩⟩;have:x≠a:=by
    rintro rfl;exact hne (oa.symm.trans y2)
   rw[au this];exact z
section
variable {X:Cx} {e:Expr} {te:DT} {i:Nat} {x:Str} {pos px apos cpos spos lp:Pos}
noncomputable def uY (i:Nat):fU:=λE ρ=>E.nx (dput ρ i (.n false []))
theorem Af (hN:X.N.Nodup)(hi:X.N[i]?=some x)(hx:Loc X.env.scope x)(hs:autoParam (swapsWith (.List [] lp) (some (.Name x px)) pos.line X.env=pure false) aZa._auto_1)(hf:autoParam (X.fn x=true\/X.env.scope.names.lookup x=some .local) aZd._auto_1) :
  DS X (.Assign [.Name x px] (.List [] lp) pos) (uY i):=DS.mk λH0 G0=>PS.imp (jL hN hi hx (A4 g8) hs hf)<|by
 rintro Dn σ H ⟨E,G,ρ,eo,w,en,h⟩;refine ⟨Lc _,λp hp=>?_⟩;have w3:Wd H G (upd H p (.lst [])) G:=(Wd.refl w.gh).own hp (w.gh.free hp);exact eo.nx _ _ G _ (w.trans w3) (en.Ed w3 w.hh i hp (w.gh.free hp) (as:=[]) aE (by simp) .nil .nil) h
noncomputable def j4 (i:Nat)(te:DT):fU:=λE ρ=>match aV ρ i with
 | some (.n false dss)=>te (de ρ) λb=>match b with
  | .o (.lst ds)=>ds.all D.sc=true/\dss.length<sizeLine/\E.nx (dput ρ i (.n false (dss++[.lst ds])))
  | _=>False
 | _=>False
theorem vf (hN:X.N[i]?=some x)(hv:rV X.env.scope x)(he:DE X e te)(hd:autoParam ((x == ("__debug__" : Str))=false) aZb._auto_1)(hcd:autoParam ((x == ("__classdict__" : Str))=false) aZb._auto_1)
  (hbase:autoParam (attributeBase (.Name x px) "append" X.env (eval (.Name x px) X.env)=eval (.Name x px) X.env) aZa._auto_1)
  (hfew:autoParam (((backTo cpos (starEach (e::[]) X.env)).all (λx=>!x.1) && (backToKw cpos (keywordEach [] X.env)).all (λx=>x.1.isSome)
   && decide ((e::[]).length+([]:List Keyword).length+(if ([]:List Keyword).isEmpty then 0 else 1)<30))=true) aZa._auto_1)
  (hline:autoParam ((apos.endLine == cpos.line)=true) aZa._auto_1) (hs:autoParam (starEach (e::[]) X.env=(false,eval e X.env)::starEach [] X.env) aZa._auto_1) (hplain:autoParam ((backTo cpos (starEach [] X.env)).any (·.1)=false) aZa._auto_1)
  (hsw:autoParam (swapsWith (.Call (.Attribute (.Name x px) "append" apos) [e] [] cpos) none spos.line X.env=pure false) aZa._auto_1) :
  DS X (.Expr (.Call (.Attribute (.Name x px) "append" apos) [e] [] cpos) spos) (j4 i te):=DS.mk λH0 G0 =>
 PS.imp (mT (xq PySem.F.plainAttrs_list PySem.F.slot_list_append PySem.F.type_list_append jf (cM hN hv hd hcd) (eQ he.pe g8 hs) hbase hfew hline hs hplain) hsw)<|by
  rintro Dn σ H ⟨E,G,ρ,eo,w,en,h⟩;unfold j4 at h;split at h
  .rename_i dss q;obtain ⟨a,as,hσ,a0,ag,ah,hl,fin⟩:=en.A0 w.hh q;obtain ⟨G1,w1,sg,e1⟩:=en.freeze w;refine ⟨_,hσ,.inl ⟨rfl,_,dc.of ah⟩,G1,de ρ,_,w1.gh,e1.p,h,λb v H' G' p' w' r'=>?_⟩;split at p'
   .rename_i ds;obtain ⟨y,rfl,hy,oy⟩:=r';obtain ⟨sc,hz,p'⟩:=p';obtain ⟨_,vs,yv,yr⟩:=oy;have wb:Wd H0 G0 H' G:=⟨w.hh.trans w'.hh,w.gg,w.gh.trans w'.hh,w.old⟩
    refine ⟨a,_,_,rfl,rfl,w'.hh _ _ ah,by rw[Ks,hl];exact hz,?_⟩;exact eo.nx σ _ G _ (wb.own a0 ag) (fin y ds H' w'.hh hy ⟨w.gh.free hy,vs,yv,mU yr sc⟩) p'
   .exact p'.elim
  .exact h.elim
end
end DL
namespace DL
open PySem L2
section
variable {X:Cx} {i m:Nat} {x y:Str} {pos pb px py px2 py2 p1 p2 p3 p4:Pos}
noncomputable def mI (i m:Nat):fU:=λE ρ=>match aV ρ i,aV ρ m with
 | some (.n false dss),some (.p (.int z))=>∃n:Nat,z=(n:Int)/\dss.length<=sizeLine/\E.rt (.n false (dss.drop n++dss.take n))
 | _,_=>False
theorem yj (hN:X.N[i]?=some x)(hv:rV X.env.scope x)(hM:X.N[m]?=some y)(hu:rV X.env.scope y)(hd:autoParam ((x == ("__debug__" : Str))=false) aZb._auto_1)(hcd:autoParam ((x == ("__classdict__" : Str))=false) aZb._auto_1)(hd2:autoParam ((y == ("__debug__" : Str))=false) aZb._auto_1)(hcd2:autoParam ((y == ("__classdict__" : Str))=false) aZb._auto_1) :
  DS X (.Return (some (.BinOp (.Subscript (.Name x px) (.Slice (some (.Name y py)) none none p1) p2) .Add (.Subscript (.Name x px2) (.Slice none (some (.Name y py2)) none p3) p4) pb)) pos) (mI i m):=DS.mk λH0 G0 =>
 PS.imp (vJ (xt AY (nW rF (cM hN hv hd hcd) (rp (cM hM hu hd2 hcd2)) rn) (nW rF (cM hN hv hd hcd) rn (rp (cM hM hu hd2 hcd2)))))<|by
  rintro Dn σ H ⟨E,G,ρ,eo,w,en,h⟩;unfold mI at h;split at h
  .rename_i dss z q qm;obtain ⟨n,rfl,hz,h⟩:=h;obtain ⟨v,hm,rv⟩:=en.p m _ qm;cases rv;obtain ⟨o,e⟩:=en;obtain ⟨a,hσ,as,nd,pr,q1,q2,q3,q4,q5⟩:=e.n i false dss q;have hl:as.length=dss.length:=Paired.length pr;refine ⟨_,hσ,⟨_,hm,(n:Int),rfl,a,_,rfl,dc.of q5,λb hb=>?_⟩⟩;have ab:a≠b:=by rintro rfl;rw[q5] at hb;cases hb
   have h5:upd H b (.lst (eE (as.map V.ref) (some (n:Int)) none)) a=some (.lst (as.map V.ref)):=by rw[au ab];exact q5
   refine ⟨_,hσ,⟨_,hm,(n:Int),rfl,a,_,rfl,dc.of h5,λc hc=>?_⟩⟩;have bc:b≠c:=by rintro rfl;rw[aE] at hc;cases hc
   refine ⟨b,c,_,_,rfl,rfl,by rw[au bc,aE],aE,?_,λp hp=>?_⟩
   .rw[iy,iy,dh,e8,Ks,Ks,Li,KO];lia
   .have hpH:H p=none:=by
     cases e2:H p with
     | none=>rfl
     | some o =>
      have pb:p≠b:=by rintro rfl;rw[hb] at e2;cases e2
      have hcH:H c=none:=by
       by_cases cb:c=b
       .rw[cb];exact hb
       .rw[au cb] at hc;exact hc
      have pc:p≠c:=by rintro rfl;rw[hcH] at e2;cases e2
      rw[au pc,au pb,e2] at hp;cases hp
    have hcH:H c=none:=by
     by_cases cb:c=b
     .rw[cb];exact hb
     .rw[au cb] at hc;exact hc
    have keep:∀y o,H y=some o->upd (upd (upd H b (.lst (eE (as.map V.ref) (some (n:Int)) none))) c (.lst (eE (as.map V.ref) none (some (n:Int))))) p (.lst (eE (as.map V.ref) (some (n:Int)) none++eE (as.map V.ref) none (some (n:Int)))) y=some o:=λy o z=>by
     rw[au (by rintro rfl;rw[hpH] at z;cases z),au (by rintro rfl;rw[hcH] at z;cases z),au (by rintro rfl;rw[hb] at z;cases z)];exact z
    have sH:ar H (upd (upd (upd H b (.lst (eE (as.map V.ref) (some (n:Int)) none))) c (.lst (eE (as.map V.ref) none (some (n:Int))))) p (.lst (eE (as.map V.ref) (some (n:Int)) none++eE (as.map V.ref) none (some (n:Int))))):=keep;have pas:p∉as:=λm=>by
     obtain ⟨d,_,_,z⟩:=fM pr p m;exact z.there hpH
    have wb:Wd H0 G0 (upd (upd (upd H b (.lst (eE (as.map V.ref) (some (n:Int)) none))) c (.lst (eE (as.map V.ref) none (some (n:Int))))) p (.lst (eE (as.map V.ref) (some (n:Int)) none++eE (as.map V.ref) none (some (n:Int))))) G:=⟨w.hh.trans sH,w.gg,w.gh.trans sH,w.old⟩
    have pr2:=cx (F':=λx d=>H0 x=none/\bX X.K G (upd (upd (upd H b (.lst (eE (as.map V.ref) (some (n:Int)) none))) c (.lst (eE (as.map V.ref) none (some (n:Int))))) p (.lst (eE (as.map V.ref) (some (n:Int)) none++eE (as.map V.ref) none (some (n:Int))))) x d) (by rintro x d _ ⟨k1,_,k3⟩;exact ⟨k1,k3.dD (ar.refl _) k3.1 λo z=>keep _ _ z⟩) pr;refine eo.rt (.n false (dss.drop n++dss.take n)) _ _ G wb ⟨p,as.drop n++as.take n,rfl,w.hh.free hpH,w.gh.free hpH,?_,λm=>?_,?_,bA (iK n pr2) (iL n pr2)⟩ h
    .rw[aE,iy,iy,dh,e8,KU]
    .rcases Lf.mp m with m | m
     .exact pas (mem_of_mem_drop m)
     .exact pas (mem_of_mem_take m)
    .have pm:=perm_append_comm (l₁:=as.drop n) (l₂:=as.take n);rw[take_append_drop] at pm;exact pm.nodup_iff.mpr nd
  .exact h.elim
end
noncomputable def ir (i j k n:Nat)(a:Addr)(σ:L2.St)(H:Hp)(ρ:ax):Prop:=(∃dss,aV ρ i=some (.n false dss)/\dss.length=n)/\σ[i]?=some (some (.ref a))/\∃(as:List Addr) (x:Addr),H a=some (.lst (as.map V.ref))/\as[k]?=some x/\σ[j]?=some (some (.ref x))
noncomputable def BS (i k:Nat)(ρ:ax):D:=match aV ρ i with
 | some (.n false dss)=>dss.getD k .non
 | _=>.non
noncomputable def wO (i j k:Nat)(ρ:ax):ax:=dput (de ρ) j (.p (BS i k ρ))
noncomputable abbrev vS:=Nat->(ax->Prop)->ax->Prop
structure Gv (K:Frag)(H0 G0:Hp)(i j k n:Nat)(a:Addr)(N:ax->Prop)(Dn:Ends):Prop where
 nx:∀σ H G ρ,Wd H0 G0 H G->aL K H0 G H σ ρ->ir i j k n a σ H ρ->N ρ->Dn.nx σ H
noncomputable def JZ (K:Frag)(i j:Nat)(t:vS):TS:=λDn σ H=>∃(H0 G0:Hp) (k n:Nat) (a:Addr) (N:ax->Prop) (G:Hp) (ρ:ax),Gv K H0 G0 i j k n a N Dn/\Wd H0 G0 H G/\aL K H0 G H σ ρ/\ir i j k n a σ H ρ/\t k N ρ
structure Gh (X:Cx)(i j:Nat)(st:Stmt)(t:vS):Prop where
 ps:PS X st (JZ X.K i j t)
structure Eo (X:Cx)(i j:Nat)(st:List Stmt)(t:vS):Prop where
 yN:m8 X st (JZ X.K i j t)
theorem wR:∀{ρ:ax} {i:Nat} {b:B},aV ρ i=some b->aV (de ρ) i=some (.p b.val)
 | [],_,_,h=>by cases h
 | none::_,0,_,h=>by cases h
 | some b::_,0,_,h=>by cases h;rfl
 | _::r,i+1,_,h=>wR (ρ:=r) h
theorem lY {α β:Type}{F:α->β->Prop}:∀{l:List α} {r:List β} {i:Nat} {a:α},Paired F l r->l[i]?=some a->∃b,r[i]?=some b/\F a b
 | _,_,_,_,.nil,e=>by simp at e
 | _,_,0,_,.cons h _,e=>by simp at e;subst e;exact ⟨_,rfl,h⟩
 | _,_,i+1,a,.cons _ t,e=>by
  obtain ⟨b,h1,h2⟩:=lY (i:=i) (a:=a) t (by simpa using e);exact ⟨b,by simpa using h1,h2⟩
section
variable {K:Frag} {H0 G0 G H H':Hp} {σ:L2.St} {ρ:ax} {i j k n:Nat} {a:Addr}
theorem ir.back (h:ir i j k n a σ H ρ)(s:ar H H'):ir i j k n a σ H' ρ:=by
 obtain ⟨h1,h2,as,x,h3,h4,h5⟩:=h;exact ⟨h1,h2,as,x,s _ _ h3,h4,h5⟩
theorem ir.seen (h:ir i j k n a σ H ρ)(w:Wd H0 G0 H G)(en:aL K H0 G H σ ρ):∃G1,Wd H0 G0 H G1/\ar G G1/\dM K G1 σ (wO i j k ρ):=by
 obtain ⟨⟨dss,q,_⟩,h2,as,x,h3,h4,h5⟩:=h;obtain ⟨G1,w1,sg,e1⟩:=en.freeze w;refine ⟨G1,w1,sg,λm d e=>?_⟩;unfold wO at e;rcases aM e with ⟨rfl,_,e⟩ | ⟨_,e⟩
 .cases e;refine ⟨_,h5,?_⟩;have qf:aV (de ρ) i=some (.p (.lst dss)):=wR q;obtain ⟨v,hv,rv⟩:=e1.p i _ qf;rw[h2] at hv;cases hv;obtain ⟨a',us,e2,e3,rr⟩:=rv.lst_inv;cases e2;have e4:=w1.gh _ _ e3;rw[h3] at e4;cases e4;have hk:(as.map V.ref)[k]?=some (.ref x):=by rw[KS,h4];rfl
  obtain ⟨d,hd,rd⟩:=lY rr hk;unfold BS;rw[q];dsimp only;rw[getD_eq_getElem?_getD,hd];exact rd
 .exact e1.p m d e
theorem iC {b:B}:∀{ρ:ax} {i j:Nat},i≠j->aV (dput ρ i b) j=aV ρ j
 | [],_,_,_=>rfl
 | _::_,0,0,h=>absurd rfl h
 | _::_,0,_+1,_=>rfl
 | _::_,_+1,0,_=>rfl
 | _::r,i+1,j+1,h=>iC (ρ:=r) (λz=>h (by rw[z]))
theorem lT {b:B}:∀{ρ:ax} {i:Nat} {c:B},aV ρ i=some c->aV (dput ρ i b) i=some b
 | [],_,_,h=>by cases h
 | _::_,0,_,_=>rfl
 | _::r,i+1,_,h=>lT (ρ:=r) h
theorem ir.other (h:ir i j k n a σ H ρ){m:Nat}{v:V}{b:B}(mi:m≠i)(mj:m≠j):ir i j k n a (σ.set m (some v)) H (dput ρ m b):=by
 obtain ⟨⟨dss,q,l⟩,h2,as,x,h3,h4,h5⟩:=h;exact ⟨⟨dss,by rw[iC (ρ:=ρ) mi];exact q,l⟩,by rw[bg mi];exact h2,as,x,h3,h4,by rw[bg mj];exact h5⟩
theorem own_apart (e:aL K H0 G H σ ρ){dss:List D}{d:D}{m:Nat}{b:Addr}(q:aV ρ i=some (.n false dss))(hσ:σ[i]?=some (some (.ref a)))(qm:aV ρ m=some (.o d))(hm:σ[m]?=some (some (.ref b))):a≠b:=by
 obtain ⟨o,e⟩:=e;obtain ⟨a',s1,as,nd,pr,q1,q2,q3,q4,q5⟩:=e.n i false dss q;rw[hσ] at s1;cases s1;obtain ⟨b',s2,k2,k2',k3⟩:=e.o m d qm;rw[hm] at s2;cases s2;rintro rfl;rw[q2] at k2';subst k2';rw[q] at qm;cases qm
theorem vw (e:aL K H0 G H σ ρ){dss:List D}{as:List Addr}{y:Addr}(q:aV ρ i=some (.n false dss))(hσ:σ[i]?=some (some (.ref a)))(ha:H a=some (.lst (as.map V.ref)))(hy:y∈as):a≠y:=by
 obtain ⟨o,e⟩:=e;obtain ⟨a',s1,as',nd,pr,q1,q2,q3,q4,q5⟩:=e.n i false dss q;rw[hσ] at s1;cases s1;rw[ha] at q5;have em:as.map V.ref=as'.map V.ref:=HO.lst.inj (Option.some.inj q5);have:as=as':=by
  have inj:∀{l l':List Addr},l.map V.ref=l'.map V.ref->l=l':=λ{l}=>by
   induction l with
   | nil=>intro l' h;cases l' with
    | nil=>rfl
    | cons _ _=>cases h
   | cons x l ih=>intro l' h;cases l' with
    | nil=>cases h
    | cons z l' =>
     rw[K3,K3] at h;obtain ⟨h1,h2⟩:=List.cons.inj h;cases h1;rw[ih h2]
  exact inj em
 subst this;rintro rfl;exact q4 hy
end
section
variable {X:Cx} {i j m:Nat} {e c:Expr} {te:DT} {x:Str} {pos px:Pos} {t u:vS} {st:Stmt} {rest:List Stmt}
noncomputable def zT (t u:vS):vS:=λk N ρ=>t k (u k N) ρ
theorem wB (h:Gh X i j st t):Eo X i j [st] t:=⟨xC h.ps⟩
theorem j5 (h1:Gh X i j st t)(h2:Eo X i j rest u):Eo X i j (st::rest) (zT t u):=⟨m8.imp (uo h1.ps h2.yN) λDn σ H ⟨H0,G0,k,n,a,N,G,ρ,eo,w,en,al,h⟩ =>
 ⟨H0,G0,k,n,a,u k N,G,ρ,⟨λσ' H' G' ρ' w' en' al' h'=>⟨H0,G0,k,n,a,N,G',ρ',⟨eo.nx⟩,w',en',al',h'⟩⟩,w,en,al,h⟩⟩
theorem Cf:Eo X i j [] (λ_ N ρ=>N ρ):=⟨m8.imp xB (by rintro Dn σ H ⟨H0,G0,k,n,a,N,G,ρ,eo,w,en,al,h⟩;exact eo.nx σ H G ρ w en al h)⟩
noncomputable def zU (i j m:Nat)(te:DT):vS:=λk N ρ=>te (wO i j k ρ) λb=>b.val.sc=true/\N (dput ρ m (.p b.val))
theorem u5 (hmi:m≠i)(hmj:m≠j)(hN:X.N.Nodup)(hi:X.N[m]?=some x)(hx:Loc X.env.scope x)(he:DE X e te)(hs:autoParam (swapsWith e (some (.Name x px)) pos.line X.env=pure false) aZa._auto_1)(hf:autoParam (X.fn x=true\/X.env.scope.names.lookup x=some .local) aZd._auto_1) :
  Gh X i j (.Assign [.Name x px] e pos) (zU i j m te):=⟨PS.imp (jL hN hi hx he.pe hs hf)<|by
 rintro Dn σ H ⟨H0,G0,k,n,a,N,G,ρ,eo,w,en,al,h⟩;obtain ⟨G1,w1,sg,re⟩:=al.seen w en;refine ⟨G1,wO i j k ρ,_,w1.gh,re,h,λb v H' G' p' w' r'=>?_⟩;obtain ⟨G2,w2,r2⟩:=r'.give w';exact eo.nx _ H' G _ (w.back w') ((en.back w'.hh).rB m (r2.sc p'.1)) ((al.back w'.hh).other hmi hmj) p'.2⟩
noncomputable def EK (i j:Nat)(tc:ig)(t u:vS):vS:=λk N ρ=>tc (wO i j k ρ) λc=>(c=true->t k N ρ)/\(c=false->u k N ρ)
theorem GR {a b:List Stmt}{tc:ig}(hc:oY X c tc)(ha:Eo X i j a t)(hb:Eo X i j b u):Gh X i j (.If c a b pos) (EK i j tc t u):=⟨PS.imp (Eb hc.pt ha.yN hb.yN)<|by
 rintro Dn σ H ⟨H0,G0,k,n,a,N,G,ρ,eo,w,en,al,h⟩;obtain ⟨G1,w1,sg,re⟩:=al.seen w en;refine ⟨G1,wO i j k ρ,_,w1.gh,re,h,λb H' G' p' w'=>?_⟩;cases b with
 | true=>exact tH ⟨H0,G0,k,n,a,N,G,ρ,⟨eo.nx⟩,w.back w',en.back w'.hh,al.back w'.hh,p'.1 rfl⟩
 | false=>exact tG ⟨H0,G0,k,n,a,N,G,ρ,⟨eo.nx⟩,w.back w',en.back w'.hh,al.back w'.hh,p'.2 rfl⟩⟩
variable {apos cpos spos:Pos}
noncomputable def v8 (i j m:Nat)(te:DT):vS:=λk N ρ=>match aV ρ m with
 | some (.o (.lst ds))=>te (wO i j k ρ) λb=>match b.val with
  | .tup es=>es.all D.sc=true/\ds.length<sizeLine/\N (dput ρ m (.o (.lst (ds++[.tup es]))))
  | _=>False
 | _=>False
theorem EW (hmi:m≠i)(hmj:m≠j)(hN:X.N[m]?=some x)(hv:rV X.env.scope x)(he:DE X e te)(hd:autoParam ((x == ("__debug__" : Str))=false) aZb._auto_1)(hcd:autoParam ((x == ("__classdict__" : Str))=false) aZb._auto_1)
  (hbase:autoParam (attributeBase (.Name x px) "append" X.env (eval (.Name x px) X.env)=eval (.Name x px) X.env) aZa._auto_1)
  (hfew:autoParam (((backTo cpos (starEach (e::[]) X.env)).all (λx=>!x.1) && (backToKw cpos (keywordEach [] X.env)).all (λx=>x.1.isSome)
   && decide ((e::[]).length+([]:List Keyword).length+(if ([]:List Keyword).isEmpty then 0 else 1)<30))=true) aZa._auto_1)
  (hline:autoParam ((apos.endLine == cpos.line)=true) aZa._auto_1) (hs:autoParam (starEach (e::[]) X.env=(false,eval e X.env)::starEach [] X.env) aZa._auto_1) (hplain:autoParam ((backTo cpos (starEach [] X.env)).any (·.1)=false) aZa._auto_1)
  (hsw:autoParam (swapsWith (.Call (.Attribute (.Name x px) "append" apos) [e] [] cpos) none spos.line X.env=pure false) aZa._auto_1) :
  Gh X i j (.Expr (.Call (.Attribute (.Name x px) "append" apos) [e] [] cpos) spos) (v8 i j m te):=
 ⟨PS.imp (mT (xq PySem.F.plainAttrs_list PySem.F.slot_list_append PySem.F.type_list_append jf (cM hN hv hd hcd) (eQ he.pe g8 hs) hbase hfew hline hs hplain) hsw)<|by
  rintro Dn σ H ⟨H0,G0,k,n,a,N,G,ρ,eo,w,en,al,h⟩;unfold v8 at h;split at h
  .rename_i ds q;obtain ⟨b,h1,h2,h3,vs,h4,h5⟩:=en.o m _ q;obtain ⟨G1,w1,sg,re⟩:=al.seen w en;refine ⟨_,h1,.inl ⟨rfl,_,dc.of h4⟩,G1,wO i j k ρ,_,w1.gh,re,h,λbb v H' G' p' w' r'=>?_⟩;obtain ⟨G2,w2,r2⟩:=r'.give w';split at p'
   .rename_i es ee;rw[ee] at r2;obtain ⟨G3,w3,s3,e3,r3⟩:=BF w w1 sg w2 (en.back w2.hh) r2 p'.1;obtain ⟨b',k1,k2,k3⟩:=e3.o m _ q;rw[h1] at k1;cases k1;have al2:=al.back w2.hh;obtain ⟨⟨dss,qi,hl⟩,sa,as,xx,ha,hk,hx⟩:=al2;have ab:=own_apart e3 qi sa q h1;refine ⟨b,vs,v,rfl,rfl,w2.hh _ _ h4,by rw[Paired.length h5];exact p'.2.1,eo.nx σ _ G3 _ (w3.own k2 k3.1) (e3.Du q h1 (bA (bf.mono s3 h5) (.cons r3 .nil))) ⟨⟨dss,by rw[iC (ρ:=ρ) hmi];exact qi,hl⟩,sa,as,xx,by rw[au ab];exact ha,hk,hx⟩ p'.2.2⟩
   .exact p'.elim
  .exact h.elim⟩
noncomputable def zO (i j:Nat)(tk te:DT):vS:=λk N ρ=>te (wO i j k ρ) λb=>b.val.sc=true/\match aV ρ i with
 | some (.n false dss)=>tk (wO i j k ρ) λq=>match q.val with
  | .int z=>∃ds j',dss[k]?=some (.lst ds)/\tI ds.length z=some j'/\N (dput ρ i (.n false (dss.set k (.lst (ds.set j' b.val)))))
  | _=>False
 | _=>False
theorem EX {kx:Expr}{tk:DT}{tpos:Pos}(hij:i≠j)(hN:X.N[j]?=some x)(hv:rV X.env.scope x)(hk:DE X kx tk)(he:DE X e te)(hd:autoParam ((x == ("__debug__" : Str))=false) aZb._auto_1)(hcd:autoParam ((x == ("__classdict__" : Str))=false) aZb._auto_1)
    (ha:autoParam (∀v,assign (.Subscript (.Name x px) kx tpos) X.env v=(do
      let ov <-holding [v] (eval (.Name x px) X.env)
      let iv <-holding [v,ov] (eval kx X.env)
      standAt tpos
      holding [v,ov,iv] (setItem ov iv v)
      release [v,ov,iv] [])) aZc._auto_1)
    (hs:autoParam (swapsWithSole [.Subscript (.Name x px) kx tpos] e pos.line X.env=pure false) aZa._auto_1) (hw:autoParam (swappedStores [.Subscript (.Name x px) kx tpos] e X.env=pure none) aZa._auto_1)
    (h1:autoParam ((assignEach [.Subscript (.Name x px) kx tpos] X.env).map (·.2) = [assign (.Subscript (.Name x px) kx tpos) X.env]) aZa._auto_1) :
    Gh X i j (.Assign [.Subscript (.Name x px) kx tpos] e pos) (zO i j tk te):=
  ⟨PS.imp (nZ he.pe (rm (cM hN hv hd hcd) hk.pe set_list ha) hs hw h1)<|by
    rintro Dn σ H ⟨H0,G0,k,n,a,N,G,ρ,eo,w,en,al,h⟩;obtain ⟨G1,w1,sg,re⟩:=al.seen w en;refine ⟨G1,wO i j k ρ,_,w1.gh,re,h,λb v H' G' p' w' r'=>?_⟩;obtain ⟨G2,w2,r2⟩:=r'.give w';obtain ⟨sc,p'⟩:=p';split at p'
    · rename_i dss q;obtain ⟨⟨dss',q',hl⟩,sa,as,xx,hA,hkx,hxj⟩:=al;rw[q] at q';cases q';refine ⟨.ref xx,hxj,G2,wO i j k ρ,_,w2.gh,dM.mono w2.gg re,p',λb3 v3 H3 G3 p3 w3 r3=>?_⟩;split at p3
      · rename_i z ez;obtain ⟨ds,j',hds,hj',p3⟩:=p3;obtain ⟨a2,as2,hσ2,ho,hl2,hin⟩:=en.inner q;rw[sa] at hσ2;cases hσ2;have ho:H a=some (.lst (as2.map V.ref)):=ho;obtain ⟨y,vs,hy,y0,yg,yh,yr,fin⟩:=hin k ds hds;have exy:xx=y:=by
          rw[hA] at ho;have em:as.map V.ref=as2.map V.ref:=HO.lst.inj (Option.some.inj ho);have e1:(as.map V.ref)[k]?=some (.ref xx):=by rw[KS,hkx];rfl
          rw[em,KS,hy] at e1;cases e1;rfl
        subst exy;have s3:ar H H3:=w2.hh.trans w3.hh;have wb:Wd H0 G0 H3 G:=⟨w.hh.trans s3,w.gg,w.gh.trans s3,w.old⟩
        have ne:a≠xx:=vw en q sa hA (KC hkx);refine ⟨xx,vs,z,j',rfl,dg w3 r3 ez,s3 _ _ yh,by rw[Paired.length yr];exact hj',?_⟩;exact eo.nx σ _ G _ (wb.own y0 yg) (fin H3 _ _ s3 (jJ (r2.sc sc) j' yr)) ⟨⟨_,lT q,by rw[length_set];exact hl⟩,sa,as,xx,by rw[au ne];exact s3 _ _ hA,hkx,hxj⟩ p3
      · exact p3.elim
    · exact p'.elim⟩
end
noncomputable def oK:ax->Nat->ax
 | [],_=>[]
 | _::r,0=>none::r
 | c::r,n+1=>c::oK r n
theorem sO:∀(ρ:ax) (j:Nat),(oK ρ j).length=ρ.length
 | [],_=>rfl
 | _::_,0=>rfl
 | _::r,n+1=>by show (oK r n).length+1=_;rw[sO r n];rfl
theorem j6:∀{ρ:ax} {j m:Nat} {b:B},aV (oK ρ j) m=some b->j≠m/\aV ρ m=some b
 | [],_,_,_,h=>by cases h
 | _::_,0,0,_,h=>by cases h
 | _::_,0,_+1,_,h=>⟨Nat.succ_ne_zero _ |>.symm,h⟩
 | _::_,_+1,0,_,h=>⟨Nat.succ_ne_zero _,h⟩
 | _::r,j+1,m+1,_,h=>by
  obtain ⟨h1,h2⟩:=j6 (ρ:=r) h;exact ⟨λz=>h1 (Nat.succ.inj z),h2⟩
theorem lS:∀{ρ:ax} {j m:Nat},j≠m->aV (oK ρ j) m=aV ρ m
 | [],_,_,_=>rfl
 | _::_,0,0,h=>absurd rfl h
 | _::_,0,_+1,_=>rfl
 | _::_,_+1,0,_=>rfl
 | _::r,j+1,m+1,h=>lS (ρ:=r) λz=>h (by rw[z])
theorem aL.Kb {K:Frag}{H0 G H:Hp}{σ:L2.St}{ρ:ax}{v:V}(h:aL K H0 G H σ ρ)(j:Nat):aL K H0 G H (σ.set j (some v)) (oK ρ j):=by
 obtain ⟨o,h⟩:=h;refine ⟨o,by rw[length_set,sO];exact h.len,λm d e=>?_,λm d e=>?_,λm t dss e=>?_⟩
 .obtain ⟨h1,e⟩:=j6 e;obtain ⟨w,k1,k2⟩:=h.p m d e;exact ⟨w,by rw[bg h1];exact k1,k2⟩
 .obtain ⟨h1,e⟩:=j6 e;obtain ⟨b,k1,k2⟩:=h.o m d e;exact ⟨b,by rw[bg h1];exact k1,k2⟩
 .obtain ⟨h1,e⟩:=j6 e;obtain ⟨b,k1,k2⟩:=h.n m t dss e;exact ⟨b,by rw[bg h1];exact k1,k2⟩
section
variable {X:Cx} {i j:Nat} {x y:Str} {pos px py:Pos} {tb:vS} {body:List Stmt}
noncomputable def zL (i j:Nat)(tb:vS):fU:=λE ρ=>match aV ρ i with
 | some (.n false dss)=>j<ρ.length/\∃I:Nat->ax->Prop,I 0 ρ/\(∀k ρ,k<dss.length->I k ρ->(∃dss',aV ρ i=some (.n false dss')/\dss'.length=dss.length)/\tb k (I (k+1)) (oK ρ j))/\∀ρ,I dss.length ρ->E.nx ρ
 | _=>False
theorem Co (hij:i≠j)(hp:PassesOwn (model X.prog X.w) X.A X.env X.xe)(hc:X.calm=true)(hN:X.N[i]?=some x)(hv:rV X.env.scope x)(hg:PG X (.Name y py) (sW j))(hb:Eo X i j body tb)(hd:autoParam ((x == ("__debug__" : Str))=false) aZb._auto_1)(hcd:autoParam ((x == ("__classdict__" : Str))=false) aZb._auto_1)(hs:autoParam (∀z,foldedSetIterable (.Name x px) X.env z=pure z) aZc._auto_1) :
    DS X (.For (.Name y py) (.Name x px) body [] pos) (zL i j tb):=DS.mk λH0 G0 =>
  PS.imp (vI hp hc (xu (cM hN hv hd hcd)) hg hb.yN hs)<|by
    rintro Dn σ H ⟨E,G,ρ,eo,w,en,h⟩;unfold zL at h;split at h
    · rename_i dss q;obtain ⟨hjl,I,i0,is,ie⟩:=h;have en0:=en;obtain ⟨o,e⟩:=en0;obtain ⟨a,hσ,as,nd,pr,q1,q2,q3,q4,q5⟩:=e.n i false dss q;have hl:as.length=dss.length:=Paired.length pr;refine ⟨_,hσ,a,rfl,⟨_,dc.of q5⟩,?_⟩;refine ⟨λk m σ H=>m=dss.length - k/\k<=dss.length/\∃G ρ,Wd H0 G0 H G/\aL X.K H0 G H σ ρ/\(∃dss',aV ρ i=some (.n false dss')/\dss'.length=dss.length)/\σ[i]?=some (some (.ref a))/\j<σ.length/\I k ρ,⟨dss.length,by simp,Lc _,G,ρ,w,en,⟨dss,q,rfl⟩,hσ,?_,i0⟩,?_⟩
      · rw[en.len];exact hjl
      rintro k m σ H ⟨rfl,hk,G,ρ,w,en,⟨dss',qi,hl'⟩,sa,hjσ,p⟩;have en0:=en;obtain ⟨o,e⟩:=en0;obtain ⟨a',s1,as',nd',pr',z1,z2,z3,z4,z5⟩:=e.n i false dss' qi;rw[sa] at s1;cases s1;have hl2:as'.length=dss.length:=(Paired.length pr').trans hl';by_cases hlt:k<dss.length
      · obtain ⟨_,pt⟩:=is k ρ hlt p;have hx:as'[k]?=some as'[k]:=Kt (by lia);have hxv:(as'.map V.ref)[k]?=some (.ref as'[k]):=by rw[KS,hx];rfl
        refine .inr ⟨⟨_,_,dc.of z5,hxv⟩,λσ2 H2=>∃G2 ρ2,Wd H0 G0 H2 G2/\aL X.K H0 G2 H2 σ2 ρ2/\ir i j k dss.length a σ2 H2 ρ2/\I (k+1) ρ2,λσ2 H2 ⟨G2,ρ2,w2,e2,al2,p2⟩=>?_,λv H2 ⟨eH,yv⟩=>?_⟩
        · obtain ⟨⟨d2,q2',l2⟩,sa2,as2,x2,h3,h4,h5⟩:=al2;exact ⟨dss.length - (k+1),by lia,rfl,hlt,G2,ρ2,w2,e2,⟨d2,q2',l2⟩,sa2,(Kw.mp h5).1,p2⟩
        · have:=yv _ (dc.of z5);rw[hxv] at this;cases this;subst eH;exact ⟨H0,G0,k,dss.length,a,I (k+1),G,oK ρ j,⟨λσ4 H4 G4 ρ4 w4 e4 al4 p4=>⟨G4,ρ4,w4,e4,al4,p4⟩⟩,w,en.Kb j,⟨⟨dss',by rw[lS (λz=>hij z.symm)];exact qi,hl'⟩,by rw[bg (λz=>hij z.symm)];exact sa,as',as'[k],z5,hx,iV hjσ⟩,pt⟩
      · have e : k = dss.length := by lia
        subst e;exact .inl ⟨⟨_,dc.of z5,by rw[Ks];lia⟩,eo.nx σ H G ρ w en (ie ρ p)⟩
    · exact h.elim
end
end DL
namespace L2
open PySem PySem.Spec PyProof.Rows
section
variable {κ:Type} [DecidableEq κ]
noncomputable def ic (kvs:List (κ×V))(k:κ):Option V:=(kvs.find? λkv=>decide (kv.1=k)).map (·.2)
noncomputable def putK (kvs:List (κ×V))(k:κ)(v:V):List (κ×V):=
 if (kvs.any λkv=>decide (kv.1=k))=true then kvs.map (λkv=>if kv.1=k then (kv.1,v) else kv) else kvs++[(k,v)]
noncomputable def pN (kvs:List (κ×V))(k:κ):List (κ×V):=kvs.filter λkv=>decide (kv.1≠k)
theorem oE {p:κ×V}{r:List (κ×V)}{k:κ}(e:p.1=k):ic (p::r) k=some p.2:=by simp[ic,List.find?_cons,e]
theorem oD {p:κ×V}{r:List (κ×V)}{k:κ}(e:¬p.1=k):ic (p::r) k=ic r k:=by simp[ic,List.find?_cons,e]
theorem kR (k:κ):∀kvs:List (κ×V),(kvs.any λkv=>decide (kv.1=k))=(ic kvs k).isSome
 | []=>rfl
 | p::r=>by
  rw[List.any_cons];by_cases e:p.1=k
  .simp only[oE e,decide_eq_true e,Bool.true_or,Option.isSome_some]
  .rw[oD e,decide_eq_false e,Bool.false_or];exact kR k r
theorem tL (kvs:List (κ×V))(k:κ)(v:V):(putK kvs k v).length<=kvs.length+1:=by
 unfold putK;split
 .rw[Ks];lia
 .rw[KA,K9,List.length_nil];lia
theorem m9.pU {o:Option V}{u:Option Kn}(r:m9 o u):o.isSome=u.isSome:=by
 cases o with
 | none=>cases u with
  | none=>rfl
  | some _=>exact (show False from r).elim
 | some _=>cases u with
  | none=>exact (show False from r).elim
  | some _=>rfl
theorem m9.getD {o:Option V}{u:Option Kn}{d:V}{d':Kn}(r:m9 o u)(rd:RelV d d'):RelV (o.getD d) (u.getD d'):=by
 cases o with
 | none=>cases u with
  | none=>exact rd
  | some _=>exact (show False from r).elim
 | some _=>cases u with
  | none=>exact (show False from r).elim
  | some _=>exact r
theorem Ad (kvs:List (κ×V))(k:κ):(pN kvs k).length<=kvs.length:=List.length_filter_le _ _
end
theorem Hl {P:KP}{w:K7}{k:Key}{u:Kn}(r:RelV (kV k) u):(bC P w).is k u=true:=by
 cases k with
 | inl i=>obtain ⟨t,e⟩:=(show ∃t,u=Value.int i t from r);subst e;exact tY P w i t
 | inr x=>obtain ⟨t,e⟩:=(show ∃t,u=Value.str x t from r);subst e;exact tZ P w x t
theorem ly {P:KP}{w:K7}:∀{ks:List Key} {us:List Kn},Vals (ks.map kV) us->ItemsAre (bC P w) ks us
 | [],_,r=>by rw[List.map_nil] at r;cases r;exact .nil
 | k::ks,_,r=>by
  rw[K3] at r;cases r with
  | cons h t=>exact .cons (Hl h) (ly t)
noncomputable abbrev KT (H:Hp):List (List Key×V)->List (List Key×Addr×Kn)->Prop:=Paired λp q=>p.1=q.1/\H q.2.1=some (.tup (p.1.map kV))/\RelV p.2 q.2.2
theorem KT.val {H:Hp}{kvs:List (List Key×V)}{xs:List (List Key×Addr×Kn)}(r:KT H kvs xs)(k:List Key):m9 (ic kvs k) ((atKey xs k).map (·.2)):=by
 induction r with
 | nil=>exact True.intro
 | @cons p q ps qs h t ih =>
  obtain ⟨h1,_,h2⟩:=h;by_cases e:p.1=k
  .have e':q.1=k:=h1.symm.trans e;have b:atKey (q::qs) k=some q.2:=by simp[atKey,List.find?_cons,e']
   rw[oE e,b];exact h2
  .have e':¬q.1=k:=λz=>e (h1.trans z);have b:atKey (q::qs) k=atKey qs k:=by simp[atKey,List.find?_cons,e']
   rw[oD e,b];exact ih
theorem KT.HS {H:Hp}{kvs:List (List Key×V)}{xs:List (List Key×Addr×Kn)}(r:KT H kvs xs)(k:List Key){y:V}{u:Kn}(ry:RelV y u) :
  KT H (kvs.map λkv=>if kv.1=k then (kv.1,y) else kv) (xs.map (putAt k u)):=by
 induction r with
 | nil=>exact .nil
 | @cons p q ps qs h t ih =>
  rw[K3,K3];refine .cons ?_ ih;obtain ⟨h1,h2,h3⟩:=h;unfold putAt;by_cases e:p.1=k
  .rw[if_pos e,if_pos (h1.symm.trans e)];exact ⟨h1,h2,ry⟩
  .rw[if_neg e,if_neg (λz=>e (h1.trans z))];exact ⟨h1,h2,h3⟩
theorem KT.put {H:Hp}{kvs:List (List Key×V)}{xs:List (List Key×Addr×Kn)}(r:KT H kvs xs)(k:List Key){b:Addr}{y:V}{u:Kn}(hb:H b=some (.tup (k.map kV)))(ry:RelV y u) :
  KT H (putK kvs k y) (storedH xs k b u):=by
 have e:(kvs.any λkv=>decide (kv.1=k))=(atKey xs k).isSome:=by
  rw[kR,(r.val k).pU,Option.isSome_map]
 unfold putK storedH;rw[e];by_cases q:(atKey xs k).isSome=true
 .rw[if_pos q,if_pos q];exact r.HS k ry
 .rw[if_neg q,if_neg q];exact Paired.snoc r ⟨rfl,hb,ry⟩
theorem KT.keeps {H H':Hp}{kvs:List (List Key×V)}{xs:List (List Key×Addr×Kn)}(r:KT H kvs xs)(ht:∀b ys,H b=some (.tup ys)->H' b=some (.tup ys)):KT H' kvs xs:=
 Paired.C0 r λ_ _ z=>⟨z.1,ht _ _ z.2.1,z.2.2⟩
section
variable {P:KP} {w:K7} {H:Hp} {h:Heap} {a:Addr}
theorem Eg {u:HO}(ok:jr P w H h)(e:Rd H a u):cw P w H h a u:=e.ok ok
theorem GU {kvs:List (Key×V)}(ok:jr P w H h)(e:Rd H a (.dK kvs)):kvs.length<=sizeLine/\(a == sysModules)=false/\∃vs,KV kvs vs/\h.DictOf (bC P w) a vs:=
 show cw P w H h a (.dK kvs) from Eg ok e
theorem Fd {ks:List Key}(ok:jr P w H h)(e:H a=some (.tup (ks.map kV))):(tupleKind (bC P w)).is h ks a:=by
 obtain ⟨_,its,r,o,h1,h2,n,h3⟩:=(show cw P w H h a (.tup (ks.map kV)) from ok a _ e)
 exact ⟨o,its.toArray,n,h1,h2,h3,by simpa using ly r⟩
theorem lU {kvs:List (List Key×V)}(ok:jr P w H h)(e:Rd H a (.dT kvs)):kvs.length<=sizeLine/\(a == sysModules)=false /\
  ∃xs,KT H kvs xs/\h.DictOfH (tupleKind (bC P w)) a xs:=by
 obtain ⟨z,y,xs,r,o,es,ep,h1,h2,h3,h4,h5⟩:=(show cw P w H h a (.dT kvs) from Eg ok e)
 refine ⟨z,y,xs,r,o,es,ep,h1,h2,h3,h4,λx hx=>?_,h5⟩;have all:∀{l:List (List Key×V)} {m:List (List Key×Addr×Kn)},KT H l m->∀x∈m,(tupleKind (bC P w)).is h x.1 x.2.1:=by
  intro l m q;induction q with
  | nil=>intro x hx;exact nomatch hx
  | @cons p q ps qs hq t ih =>
   intro x hx;rcases KQ.mp hx with e | hx
   .subst e;exact Fd ok (by rw[<-hq.1];exact hq.2.1)
   .exact ih x hx
 exact all r x hx
theorem D0 {kvs:List (List Key×V)}(ok:jr P w H h)(e:H a=some (.dT kvs)):kvs.length<=sizeLine/\(a == sysModules)=false /\
  ∃xs,KT H kvs xs/\h.DictOfH (tupleKind (bC P w)) a xs:=lU ok (.inl e)
end
section
variable {X:Cx} {pins:List (Addr×Obj)} {σ:St} {H:Hp} {s:Kp} {a:Addr} {y v:V} {u r:Kn} {o:Option V} {A:K1} {E:Kn->Kp->Prop}
theorem Inv.big (I:Inv X pins σ H s):sysModules<s.heap.objs.size:=by
 have h:mainGlobals<s.heap.objs.size:=(I.mod.glob.keeps I.bk).lt;exact Nat.lt_trans (by decide) h
theorem wA {h':Heap}{t':Nat}{ob:HO}(I:Inv X pins σ H s)(mu:Gz (H a))(hs:Heap.SameBut a s.heap h')(he:∃q,h'.get? a=some q)(new:cw X.prog X.w (upd H a ob) h' a ob) :
  Inv X pins σ (upd H a ob) { s with heap:=h',toks:=t' }:=
 I.write (x:=a) (e:=a) mu (.inl rfl) (λb q hb z=>(hs.2 b hb).trans z) he new
end
section
variable {X:Cx} {pins:List (Addr×Obj)} {σ:St} {H:Hp} {s:Kp} {a:Addr} {kvs:List (Key×V)} {k:Key} {u:Kn} {A:K1} {E:Kn->Kp->Prop}
end
noncomputable def Eu (i:Expr):Prop:=∀ov iv,subscripted i false ov iv=operate [ov,iv] (getItem ov iv)
theorem Dv {prog:KP}{w:K7}{A:K1}{E:Kn->Kp->Prop}{s:Kp}{env:Env}{value slice:Expr}{pos:Pos}{T id:String}{Q:Kn->Kp->Prop}
  (hl:typeLookup (.type T) "__getitem__" = pure (some (.builtin id))) (hs:Eu slice)
  (h:wpAny (model prog w) A (eval value env) (λo s₁=>wpAny (model prog w) A (eval slice env) (λi s₂=>s₂.TypeIs o T/\wpAny (model prog w) A (getItem o i) Q E s₂) E s₁) E s) :
  wpAny (model prog w) A (eval (.Subscript value slice pos) env) Q E s:=by
 refine Subscript_ (wpAny_mono h (λo s₁ h₁=>wpAny_mono h₁ (λi s₂ h₂=>?_) λ_ _ x=>x) λ_ _ x=>x);obtain ⟨hT,h₂⟩:=h₂;unfold subscriptTail;refine Ko ?_;rw[getitemInPython_of_ne hT.not_modules];refine Ko (wpAny_specialOf hT hl ?_);have fin:wpAny (model prog w) A (subscripted slice false o i) (λr s₃=>wpAny (model prog w) A (letTemporaryGo value o r >>= λ_=>pure r) Q E s₃) E s₂:=by
  rw[hs o i];exact wpAny_operating (wpAny_mono h₂ (λr s₃ h₃=>Ko (wpAny_letTemporaryGo (Kq h₃))) λ_ _ x=>x)
 first
  | exact Kq (Ko fin)
  | exact Ko (Kq (Ko fin))
  | exact Ko fin
section
variable {X:Cx} {o i e value:Expr} {pos pos' tpos:Pos} {td ty tv:TE}
end
theorem Ai {P:KP}{w:K7}{H:Hp}(h:Heap)(hb:sysModules<h.objs.size):cw P w H (h.push { cls:=.type "dict",data:=.dict #[] }) h.objs.size (.dT []):=
 ⟨Lc _,beq_eq_false_iff_ne.mpr (Ne.symm (KR hb)),[],.nil,_,#[],0,KZ _ rfl,⟨rfl,rfl,rfl⟩,rfl,rfl,List.nodup_nil⟩
noncomputable def FW:TE:=λ_ H Q=>∀p,H p=none->Q (.ref p) (upd H p (.dT []))
section
variable {X:Cx} {pos:Pos}
theorem A1:PE X (.Dict [] [] pos) FW:=λpins s σ H Q I h =>
 wpAny_Dict_empty ⟨.ref s.heap.objs.size,_,I.laid (a:=s.heap.objs.size) (o:=.dT []) (t':=s.toks) (λ_ _ q=>Kv _ q) (Ku _) (Ai s.heap I.big),rfl,h _ (I.bG.fresh (Ku _))⟩
end
structure M1 (X:Cx)(o:Expr)(m:Str)(apos:Pos)(e:Expr)(cpos:Pos):Prop where
 base:attributeBase o m X.env (eval o X.env)=eval o X.env
 GY:((backTo cpos (starEach [e] X.env)).all (λx=>!x.1) && (backToKw cpos (keywordEach [] X.env)).all (λx=>x.1.isSome)
  && decide (([e]:List Expr).length+([]:List Keyword).length+(if ([]:List Keyword).isEmpty then 0 else 1)<30))=true
 line:(apos.endLine == cpos.line)=true
 trees:backTo cpos (starEach [e] X.env) = [(false,eval e X.env)]
structure M2 (X:Cx)(o:Expr)(m:Str)(apos:Pos)(e f:Expr)(cpos:Pos):Prop where
 base:attributeBase o m X.env (eval o X.env)=eval o X.env
 GY:((backTo cpos (starEach [e,f] X.env)).all (λx=>!x.1) && (backToKw cpos (keywordEach [] X.env)).all (λx=>x.1.isSome)
  && decide (([e,f]:List Expr).length+([]:List Keyword).length+(if ([]:List Keyword).isEmpty then 0 else 1)<30))=true
 line:(apos.endLine == cpos.line)=true
 trees:backTo cpos (starEach [e,f] X.env) = [(false,eval e X.env),(false,eval f X.env)]
noncomputable def II (H:Hp)(a:Addr):Prop:=(∃kvs,Rd H a (.dK kvs))\/∃kvs,Rd H a (.dT kvs)
theorem Az {X:Cx}{pins:List (Addr×Obj)}{σ:St}{H:Hp}{s:Kp}{a:Addr}(I:Inv X pins σ H s)(d:II H a) :
  s.TypeIs (.ref a) "dict"/\(∀b,Value.ref a=.ref b->∃ob,s.heap.get? b=some ob/\ob.dict=none)/\(a == sysModules)=false:=by
 rcases d with ⟨kvs,e⟩ | ⟨kvs,e⟩
 .obtain ⟨_,hd,vs,_,dd⟩:=GU I.bG e;refine ⟨dd.typeIs,λb q=>?_,hd⟩;cases q;obtain ⟨ob,_,_,h1,h2,_⟩:=dd;exact ⟨ob,h1,h2.2.1⟩
 .obtain ⟨_,hd,xs,_,dd⟩:=lU I.bG e;refine ⟨dd.typeIs,λb q=>?_,hd⟩;cases q;obtain ⟨ob,_,_,h1,h2,_⟩:=dd;exact ⟨ob,h1,h2.2.1⟩
section
variable {X:Cx} {pins:List (Addr×Obj)} {σ:St} {H:Hp} {s:Kp} {a:Addr} {y d:V} {u r:Kn} {o:Option V} {A:K1} {E:Kn->Kp->Prop}
end
section
variable {X:Cx} {o e f:Expr} {apos cpos:Pos} {td ty tx:TE}
end
section
variable {X:Cx} {pins:List (Addr×Obj)} {σ:St} {H:Hp} {s:Kp} {a:Addr} {kvs:List (Key×V)} {A:K1} {E:Kn->Kp->Prop}
end
section
variable {X:Cx} {pins:List (Addr×Obj)} {σ:St} {H:Hp} {s:Kp} {a:Addr} {y:V} {u:Kn} {A:K1} {E:Kn->Kp->Prop}
end
section
variable {X:Cx}
end
section
variable {κ:Type} [DecidableEq κ]
end
end L2
namespace L2
open PySem PySem.Spec PyProof.Rows
section
variable {X:Cx} {pins:List (Addr×Obj)} {σ:St} {H:Hp} {s:Kp} {a b:Addr}
theorem jG {ks:List Key}(I:Inv X pins σ H s)(h:gM X.K H b (ks.map kV)):(tupleKind (bC X.prog X.w)).is s.heap ks b:=by
 obtain ⟨its,r,⟨o,h1,h2,n,h3⟩,z⟩:=I.tuple h;exact ⟨o,its.toArray,n,h1,h2,h3,by simpa using ly r⟩
noncomputable def Bh (K:Frag):V->V->Hp->VK->Prop:=λx y H Q=>∃a b kvs ks v,x=.ref a/\y=.ref b/\Rd H a (.dT kvs)/\gM K H b (ks.map kV)/\ic kvs ks=some v/\Q v H
theorem sZ {A:K1}{E:Kn->Kp->Prop}{kvs:List (List Key×V)}{ks:List Key}{v:V}{Q:Kn->Kp->Prop}(hu:A.units+1<cLine)(I:Inv X pins σ H s)(e:Rd H a (.dT kvs))(hb:gM X.K H b (ks.map kV))(l:ic kvs ks=some v)
  (h:∀w' s',Inv X pins σ H s'->RelV v w'->Q w' s'):wpAny (model X.prog X.w) A (getItem (.ref a) (.ref b)) Q E s:=by
 obtain ⟨z,hd,xs,rel,dd⟩:=lU I.bG e;obtain ⟨w',hw,rw'⟩:=m9.some_of (v:=v) (o:=(atKey xs ks).map (·.2)) (by rw[<-l];exact rel.val ks);obtain ⟨p,hp,hp2⟩:=Option.map_eq_some_iff.mp hw;exact wpAny_getItem_heap (tupleKind_room_in1 hu) (jG I hb) dd hp (by rw[hp2];exact h w' _ (I.tok _) rw')
theorem get_dict (hu:X.A.units+1<cLine):GA X (Bh X.K):=by
 intro pins s σ H o i ov iv Q I ro ri h;obtain ⟨a,b,kvs,ks,v,rfl,rfl,e,hb,l,q⟩:=h;cases ro;cases ri;exact sZ hu I e hb l λw' s' I' rw'=>⟨v,H,I',rw',q⟩
noncomputable def Ee (K:Frag):gc:=λx y v H Q=>∃a b kvs ks,x=.ref a/\y=.ref b/\H a=some (.dT kvs)/\gM K H b (ks.map kV)/\(ic kvs ks≠none\/H b=some (.tup (ks.map kV)))/\kvs.length<sizeLine/\Q (upd H a (.dT (putK kvs ks v)))
theorem KT.old {H:Hp}{kvs:List (List Key×V)}{xs:List (List Key×Addr×Kn)}(r:KT H kvs xs)(k:List Key){b:Addr}{y:V}{u:Kn}(hb:ic kvs k≠none)(ry:RelV y u):KT H (putK kvs k y) (storedH xs k b u):=by
 have e:(kvs.any λkv=>decide (kv.1=k))=(atKey xs k).isSome:=by rw[kR,(r.val k).pU,Option.isSome_map]
 have q:(atKey xs k).isSome=true:=by
  rw[<-e,kR];cases z:ic kvs k with
  | none=>exact absurd z hb
  | some _=>rfl
 unfold putK storedH;rw[e,if_pos q,if_pos q];exact r.HS k ry
theorem set_dict (hu:X.A.units+1<cLine):BQ X (Ee X.K):=by
 intro pins s σ H o i v ov iv u Q I ro ri rv h;obtain ⟨a,b,kvs,ks,rfl,rfl,e,hb,hk,l,q⟩:=h;cases ro;cases ri;obtain ⟨z,hd,xs,rel,dd⟩:=D0 I.bG e;have hz:xs.length<=sizeLine:=by rw[<-Paired.length rel];exact z
 have hl:(putK kvs ks v).length<=sizeLine:=by have:=tL kvs ks v;lia
 have rel':KT H (putK kvs ks v) (storedH xs ks b u):=by
  rcases hk with hk | hk
  .exact rel.old ks hk rv
  .exact rel.put ks hk rv
 refine wpAny_setItem_heap (hsz:=hz) (tupleKind_room_in1 hu) (jG I hb) dd λh' dd' hs=>⟨_,?_,q⟩
 obtain ⟨o',es,ep,hq,h2,h3,h4,_,h5⟩:=dd';exact wA I (by rw[e];exact True.intro) hs ⟨o',hq⟩ ⟨hl,hd,_,rel'.keeps λc ys ec=>by rw[au (xl ec e λz=>nomatch z)];exact ec,o',es,ep,hq,h2,h3,h4,h5⟩
theorem Df {o i:Expr}{pos:Pos}{td ty:TE}(hu:X.A.units+1<cLine)(ho:PE X o td)(hi:PE X i ty)(hs:Eu i):PE X (.Subscript o i pos) (FY (Bh X.K) td ty):=by
 intro pins s σ H Q I h;refine Dv PySem.F.slot_dict_getitem.lookup hs (bU (ho pins s σ H _ I h) λu s1 ⟨x,H1,I1,rx,q1⟩=>bU (hi pins s1 σ H1 _ I1 q1) ?_);rintro iv s2 ⟨y,H2,I2,ry,a,b,kvs,ks,v,ex,ey,e,hb,l,q2⟩;subst ex ey;cases rx;cases ry;obtain ⟨_,_,xs,_,ob,_,_,h1,h2,_⟩:=lU I2.bG e;exact ⟨⟨ob,h1,h2.1⟩,sZ hu I2 e hb l λw' s3 I3 rw'=>⟨v,H2,I3,rw',q2⟩⟩
end
end L2
namespace DL
open PySem L2
noncomputable abbrev bY:=List ((Int×Int)×Int)
noncomputable def aO (kvs:bY)(k:Int×Int):Option Int:=(kvs.find? λp=>decide (p.1=k)).map (·.2)
noncomputable def putD (kvs:bY)(k:Int×Int)(v:Int):bY:=if (kvs.any λp=>decide (p.1=k))=true then kvs.map (λp=>if p.1=k then (p.1,v) else p) else kvs++[(k,v)]
noncomputable def k2 (k:Int×Int):List Key:=[Sum.inl k.1,Sum.inl k.2]
theorem jF {a b:Int×Int}:k2 a=k2 b↔a=b:=by
 constructor
 .intro h;unfold k2 at h;injection h with h1 h2
  injection h2 with h2 _
  exact Prod.ext (Sum.inl.inj h1) (Sum.inl.inj h2)
 .rintro rfl;rfl
theorem gL (kvs:bY)(k:Int×Int):ic (encD kvs) (k2 k)=(aO kvs k).map V.int:=by
 induction kvs with
 | nil=>rfl
 | cons p r ih =>
  have e:encD (p::r)=(k2 p.1,V.int p.2)::encD r:=rfl;rw[e];by_cases h:p.1=k
  .rw[oE (p:=(k2 p.1,V.int p.2)) (jF.mpr h)];simp[aO,List.find?_cons,h]
  .rw[oD (p:=(k2 p.1,V.int p.2)) (λz=>h (jF.mp z)),ih];simp[aO,List.find?_cons,h]
theorem BW (kvs:bY)(k:Int×Int):((encD kvs).any λkv=>decide (kv.1=k2 k))=kvs.any λp=>decide (p.1=k):=by
 induction kvs with
 | nil=>rfl
 | cons p r ih =>
  have e:encD (p::r)=(k2 p.1,V.int p.2)::encD r:=rfl;rw[e,List.any_cons,List.any_cons,ih];congr 1;exact decide_eq_decide.mpr jF
theorem n6 (kvs:bY)(k:Int×Int)(v:Int):putK (encD kvs) (k2 k) (.int v)=encD (putD kvs k v):=by
 unfold putK putD;rw[BW];by_cases h:(kvs.any λp=>decide (p.1=k))=true
 .rw[if_pos h,if_pos h];unfold encD;rw[map_map,map_map];refine map_congr_left λp _=>?_;show (if k2 p.1=k2 k then (k2 p.1,V.int v) else (k2 p.1,V.int p.2))=_;show _=(k2 (if p.1=k then (p.1,v) else p).1,V.int (if p.1=k then (p.1,v) else p).2)
  by_cases e:p.1=k
  .rw[if_pos (jF.mpr e),if_pos e]
  .rw[if_neg (λz=>e (jF.mp z)),if_neg e]
 .rw[if_neg h,if_neg h];unfold encD;rw[KU];rfl
theorem ki (kvs:bY):(encD kvs).length=kvs.length:=by unfold encD;rw[Ks]
theorem mR {K:Frag}{G:Hp}{v:V}{i j:Int}(r:Rep K G v (.tup [.int i,.int j])):∃b,v=.ref b/\gM K G b ((k2 (i,j)).map kV):=by
 obtain ⟨b,vs,rfl,e,rr⟩:=r.cB;refine ⟨b,rfl,?_⟩;cases rr with
 | cons r1 rr=>cases rr with
  | cons r2 rr=>cases rr;cases r1;cases r2;exact e
theorem C9 {K:Frag}{G:Hp}{v:V}{i j:Int}(r:Rep K G v (.tup [.int i,.int j])):∃b,v=.ref b/\G b=some (.tup ((k2 (i,j)).map kV)):=by
 obtain ⟨b,vs,rfl,e,rr⟩:=r.rR;refine ⟨b,rfl,?_⟩;cases rr with
 | cons r1 rr=>cases rr with
  | cons r2 rr=>cases rr;cases r1;cases r2;exact e
theorem aL.Bp {K:Frag}{H0 G H:Hp}{σ:St}{ρ:ax}{i:Nat}{a:Addr}{d d':D}{ob:HO}(e:aL K H0 G H σ ρ)(h1:aV ρ i=some (.o d))(h2:σ[i]?=some (some (.ref a)))(r:bX K G (upd H a ob) a d'):aL K H0 G (upd H a ob) σ (dput ρ i (.o d')):=by
 obtain ⟨o,e⟩:=e;obtain ⟨a',h3,h4,h4',h5⟩:=e.o i _ h1;rw[h2] at h3;cases h3;refine ⟨o,by rw[dS];exact e.len,λj d q=>?_,λj d q=>?_,λj t dss q=>?_⟩
 .rcases aM q with ⟨rfl,_,q⟩ | ⟨hne,q⟩
  .cases q
  .exact e.p j d q
 .rcases aM q with ⟨rfl,_,q⟩ | ⟨hne,q⟩
  .cases q;exact ⟨a,h2,h4,h4',r⟩
  .obtain ⟨b,k1,k2,k2',k3⟩:=e.o j d q;refine ⟨b,k1,k2,k2',k3.dD (ar.refl _) k3.1 λo z=>?_⟩;rw[au (by rintro rfl;exact hne (h4'.symm.trans k2'))];exact z
 .rcases aM q with ⟨rfl,_,q⟩ | ⟨hne,q⟩
  .cases q
  .obtain ⟨b,k1,k2⟩:=e.n j t dss q;refine ⟨b,k1,k2.dD (ar.refl _) λx z1 z2 z3 z4=>⟨z3,z2,λo z=>?_⟩⟩;rw[au (by rintro rfl;exact hne (h4'.symm.trans z2))];exact z
section
variable {X:Cx} {e e1 e2 o k:Expr} {te t1 t2 ta tk:DT} {i:Nat} {x:Str} {pos px lp tpos sp:Pos}
noncomputable def zR:DT:=λ_ Q=>Q (.o (.dct []))
theorem qG:DE X (.Dict [] [] pos) zR:=
 DE.of A1 (by rintro σ H Q ⟨G,ρ,P,s,_,h,k⟩ p hp;exact k _ _ _ G h ((Wd.refl s).own hp (s.free hp)) ⟨p,rfl,hp,s.free hp,aE⟩)
noncomputable def sC:D2:=λx y Q=>match x,y with
 | .dct kvs,.tup [.int i,.int j]=>∃v,aO kvs (i,j)=some v/\Q (.p (.int v))
 | _,_=>False
theorem mJ {n:Nat}(hr:cH n X.A)(ha:DE X o ta)(hk:DE X k tk)(hs:autoParam (Eu k) aZi._auto_1):DE X (.Subscript o k pos) (mm sC ta tk):=
 DE.of (Df (kC hr) ha.pe hk.pe hs) (nq λH G x y dx dy P Q s rx ry h kk=>by
  unfold sC at h;split at h
  .obtain ⟨v,h1,h2⟩:=h;obtain ⟨b,rfl,hb⟩:=mR ry;cases rx with
   | dct e=>exact ⟨_,b,_,_,.int v,rfl,rfl,fq s e,aq s hb,by rw[gL,h1];rfl,kk _ _ H G h2 (Wd.refl s) (.int _)⟩
  .exact h.elim)
noncomputable def wa (i:Nat)(t1 t2 te:DT):fU:=λE ρ=>match aV ρ i with
 | some (.o (.dct kvs))=>te (de ρ) λb=>match b.val with
  | .int v=>t1 (de ρ) λb1=>match b1.val with
   | .int z=>t2 (de ρ) λb2=>match b2.val with
    | .int y=>kvs.length<sizeLine/\E.nx (dput ρ i (.o (.dct (putD kvs (z,y) v))))
    | _=>False
   | _=>False
  | _=>False
 | _=>False
theorem Cm {n:Nat}{x1}(hr:cH n X.A)(hN:X.N[i]?=some x)(hv:rV X.env.scope x)(h1:DE X e1 t1)(h2:DE X e2 t2)(he:DE X e te)(hd:autoParam ((x == ("__debug__" : Str))=false) aZb._auto_1)(hcd:autoParam ((x == ("__classdict__" : Str))=false) aZb._auto_1)
    (hs0:autoParam (starEach [e1,e2] X.env=(false,eval e1 X.env)::starEach [e2] X.env) aZa._auto_1) (hs1:autoParam (starEach [e2] X.env=(false,eval e2 X.env)::starEach [] X.env) aZa._auto_1)
    (ha:autoParam (∀v,assign (.Subscript (.Name x px) (.Tuple [e1,e2] x1 lp) tpos) X.env v=(do
      let ov <-holding [v] (eval (.Name x px) X.env)
      let iv <-holding [v,ov] (eval (.Tuple [e1,e2] x1 lp) X.env)
      standAt tpos
      holding [v,ov,iv] (setItem ov iv v)
      release [v,ov,iv] [])) aZc._auto_1)
    (hs:autoParam (swapsWithSole [.Subscript (.Name x px) (.Tuple [e1,e2] x1 lp) tpos] e pos.line X.env=pure false) aZa._auto_1) (hw:autoParam (swappedStores [.Subscript (.Name x px) (.Tuple [e1,e2] x1 lp) tpos] e X.env=pure none) aZa._auto_1)
    (h0:autoParam ((assignEach [.Subscript (.Name x px) (.Tuple [e1,e2] x1 lp) tpos] X.env).map (·.2) = [assign (.Subscript (.Name x px) (.Tuple [e1,e2] x1 lp) tpos) X.env]) aZa._auto_1) :
    DS X (.Assign [.Subscript (.Name x px) (.Tuple [e1,e2] x1 lp) tpos] e pos) (wa i t1 t2 te):=DS.mk λH0 G0 =>
  PS.imp (nZ he.pe (rm (cM hN hv hd hcd) (A7 (eQ h1.pe (eQ h2.pe g8 hs1) hs0)) (set_dict (kC hr)) ha) hs hw h0)<|by
    rintro Dn σ H ⟨E,G,ρ,eo,w,en,h⟩;unfold wa at h;split at h
    · rename_i kvs q;obtain ⟨a,ha1,ha2,ha3,ha4⟩:=en.o i _ q;have ha4:H a=some (.dT (encD kvs)):=ha4;obtain ⟨G1,w1,sg,en1⟩:=en.freeze w;refine ⟨G1,de ρ,_,w1.gh,en1.p,h,λb v H' G' p' w' r'=>?_⟩;split at p'
      · rename_i vv ev;have hvv:=dg w' r' ev;subst hvv;refine ⟨.ref a,ha1,G',de ρ,_,w'.gh,dM.mono w'.gg en1.p,p',λb1 v1 H1 G1' p1 w1' r1=>?_⟩;split at p1
        · rename_i z ez;have hz:=dg w1' r1 ez;subst hz;refine ⟨G1',de ρ,_,w1'.gh,dM.mono (w'.trans w1').gg en1.p,p1,λb2 v2 H2 G2 p2 w2 r2=>?_⟩;split at p2
          · rename_i y ey;have hy:=dg w2 r2 ey;subst hy;obtain ⟨hl,p2⟩:=p2;refine ⟨gF (by show 2<=1000;decide),λp hp=>?_⟩;have s2:ar H H2:=(w'.hh.trans w1'.hh).trans w2.hh;have e2:H2 a=some (.dT (encD kvs)):=s2 _ _ ha4;have pa:a≠p:=by rintro rfl;rw[e2] at hp;cases hp
            have hu:upd H2 p (.tup [.int z,.int y]) a=some (.dT (encD kvs)):=by rw[au pa];exact e2
            refine ⟨a,p,encD kvs,k2 (z,y),rfl,rfl,hu,.inl (.inl aE),.inr aE,by rw[ki];exact hl,?_⟩;rw[n6];have s3:ar H (upd H2 p (.tup [.int z,.int y])):=s2.trans (d6 hp);have wb:Wd H0 G0 (upd H2 p (.tup [.int z,.int y])) G:=⟨w.hh.trans s3,w.gg,w.gh.trans s3,w.old⟩
            exact eo.nx σ _ G _ (wb.own ha2 ha3) ((en.back s3).Bp q ha1 ⟨ha3,aE⟩) p2
          · exact p2.elim
        · exact p1.elim
      · exact p'.elim
    · exact h.elim
noncomputable def v9 (i:Nat)(tk te:DT)(f:Int->Int->Int):fU:=λE ρ=>match aV ρ i with
 | some (.o (.dct kvs))=>tk (de ρ) λb=>match b.val with
  | .tup [.int z,.int y]=>∃m,aO kvs (z,y)=some m/\te (de ρ) λb=>match b.val with
   | .int v=>kvs.length<sizeLine/\E.nx (dput ρ i (.o (.dct (putD kvs (z,y) (f m v)))))
   | _=>False
  | _=>False
 | _=>False
theorem Ck {op:Operator}{f:Int->Int->Int}(h:PS X (.AugAssign (.Subscript (.Name x px) k tpos) op e pos) (Ej (Dy i) (cE X.K tk) (cE X.K te) (Bh X.K) (Iv f) (Ee X.K))) :
  DS X (.AugAssign (.Subscript (.Name x px) k tpos) op e pos) (v9 i tk te f):=DS.mk λH0 G0 =>
 PS.imp h<|by
  rintro Dn σ H ⟨E,G,ρ,eo,w,en,h⟩;unfold v9 at h;split at h
  .rename_i kvs q;obtain ⟨a,ha1,ha2,ha3,ha4⟩:=en.o i _ q;have ha4:H a=some (.dT (encD kvs)):=ha4;obtain ⟨G1,w1,sg,en1⟩:=en.freeze w;refine ⟨.ref a,ha1,G1,de ρ,_,w1.gh,en1.p,h,λb v H' G' p' w' r'=>?_⟩;obtain ⟨G2,w2,r2⟩:=r'.give w';split at p'
   .rename_i z y ez;rw[ez] at r2;obtain ⟨m,hm,p'⟩:=p';obtain ⟨c,rfl,hc⟩:=mR r2;have hv:ic (encD kvs) (k2 (z,y))=some (.int m):=by rw[gL,hm];rfl
    refine ⟨a,c,encD kvs,k2 (z,y),.int m,rfl,rfl,.inl (w2.hh _ _ ha4),aq w2.gh hc,hv,?_⟩;refine ⟨G2,de ρ,_,w2.gh,dM.mono w2.gg en1.p,p',λb3 v3 H3 G3 p3 w3 r3=>?_⟩;split at p3
    .rename_i n en3;obtain ⟨hl,p3⟩:=p3;have s3:ar H H3:=w2.hh.trans w3.hh;refine ⟨m,n,rfl,dg w3 r3 en3,a,c,encD kvs,k2 (z,y),rfl,rfl,s3 _ _ ha4,aq (w2.gh.trans w3.hh) hc,.inl (by rw[hv];simp),by rw[ki];exact hl,?_⟩;rw[n6];have wb:Wd H0 G0 H3 G:=⟨w.hh.trans s3,w.gg,w.gh.trans s3,w.old⟩
     exact eo.nx σ _ G _ (wb.own ha2 ha3) ((en.back s3).Bp q ha1 ⟨ha3,aE⟩) p3
    .exact p3.elim
   .exact p'.elim
  .exact h.elim
end
end DL
namespace DL
open PySem L2
theorem GD {K:Frag}{H0 G0 G H G1 H' G':Hp}(w:Wd H0 G0 H G)(w1:Wd H0 G0 H G1)(w':Wd H G1 H' G') :
  ∃G3,Wd H0 G0 H' G3/\ar G G3/\(∀c us,gM K G' c us->gM K G3 c us)/\(∀c us,H' c=some (.tup us)->G3 c=some (.tup us))/\∀x,(∀us,H' x≠some (.tup us))->(∀o us,H' x≠some (.de o us))->G3 x=G x:=by
 classical
 have gh':ar G H':=w.gh.trans w'.hh;let C:Addr->Prop:=λc=>(∃us,H' c=some (.tup us))\/(H0 c=none/\∃o us,H' c=some (.de o us))
 obtain ⟨G3,yes,no⟩ : ∃G3:Hp,(∀c,C c->G3 c=H' c)/\∀c,¬C c->G3 c=G c:=⟨λc=>if C c then H' c else G c,λc h=>if_pos h,λc h=>if_neg h⟩
 have sg:ar G G3:=λc o e=>by
  by_cases z:C c
  .rw[yes c z];exact gh' _ _ e
  .rw[no c z];exact e
 refine ⟨G3,⟨w.hh.trans w'.hh,w.gg.trans sg,λc o e=>?_,λc hc=>?_⟩,sg,λc us h=>?_,λc us h=>by rw[yes c (.inl ⟨us,h⟩)];exact h,λx h1 h2=>no x ?_⟩
 .by_cases z:C c
  .rw[yes c z] at e;exact e
  .rw[no c z] at e;exact gh' _ _ e
 .rw[no c ?_]
  .exact w.old c hc
  .obtain ⟨o,e,n⟩:=hc;rintro (⟨us,z⟩ | ⟨z,_⟩)
   .have:=(w.hh.trans w'.hh) _ _ e;rw[z] at this;cases this;exact n us rfl
   .rw[z] at e;cases e
 .rcases h with h | h
  .rcases h with h | ⟨o,h⟩
   .have e:=w'.gh _ _ h;exact .inl (.inl (by rw[yes c (.inl ⟨us,e⟩)];exact e))
   .have e:=w'.gh _ _ h;by_cases z:H0 c=none
    .exact .inl (.inr ⟨o,by rw[yes c (.inr ⟨z,o,_,e⟩)];exact e⟩)
    .have cg:En H0 c:=by
      cases q:H0 c with
      | none=>exact absurd q z
      | some y =>
       have:=(w.hh.trans w'.hh) _ _ q;rw[e] at this;cases this;exact ⟨_,q,λ_ z=>nomatch z⟩
     have n:¬C c:=by
      rintro (⟨us',k⟩ | ⟨k,_⟩)
      .rw[e] at k;cases k
      .exact z k
     refine .inl (.inr ⟨o,?_⟩);rw[no c n,w.old c cg,<-(w1.trans w').old c cg];exact h
  .exact .inr h
 .rintro (⟨us,z⟩ | ⟨_,o,us,z⟩)
  .exact h1 us z
  .exact h2 o us z
theorem aL.more {K:Frag}{H0 G H G3:Hp}{σ:St}{ρ:ax}(e:aL K H0 G H σ ρ)(sg:ar G G3)(hk:∀x,G x=none->((∃vs,H x=some (.lst vs))\/∃kvs,H x=some (.dT kvs))->G3 x=none):aL K H0 G3 H σ ρ:=by
 obtain ⟨o,e⟩:=e;have own:∀x d,bX K G H x d->bX K G3 H x d:=λx d q=>by
  refine q.dD sg (hk x q.1 ?_) λo z=>z;obtain ⟨k1,k2⟩:=q;cases d with
  | lst ds=>obtain ⟨vs,k3,_⟩:=k2;exact .inl ⟨vs,k3⟩
  | dct kvs=>exact .inr ⟨_,k2⟩
  | non=>exact k2.elim
  | bl _=>exact k2.elim
  | int _=>exact k2.elim
  | str _=>exact k2.elim
  | tup _=>exact k2.elim
  | scr _=>exact k2.elim
 refine ⟨o,e.len,λi d q=>?_,λi d q=>?_,λi t dss q=>?_⟩
 .obtain ⟨v,h1,h2⟩:=e.p i d q;exact ⟨v,h1,h2.mono sg⟩
 .obtain ⟨b,h1,h2,h3,h4⟩:=e.o i d q;exact ⟨b,h1,h2,h3,own b d h4⟩
 .obtain ⟨b,h1,as,nd,pr,z⟩:=e.n i t dss q;refine ⟨b,h1,as,nd,cx (by rintro x d _ ⟨k1,k2,k3⟩;exact ⟨k1,k2,own x _ k3⟩) pr,?_⟩;cases t with
  | true=>exact sg _ _ z
  | false =>
   obtain ⟨z1,z2,z3,z4,z5⟩:=z;exact ⟨z1,z2,hk b z3 (.inl ⟨_,z5⟩),z4,z5⟩
noncomputable def D.flat:D->Bool
 | .tup es=>es.all D.sc
 | d=>d.sc
theorem Rep.flat {K:Frag}{G' G3:Hp}{v:V}{d:D}(k:∀c us,G' c=some (.tup us)->G3 c=some (.tup us))(r:Rep K G' v d)(f:d.flat=true):Rep K G3 v d:=by
 cases d with
 | tup es =>
  obtain ⟨a,vs,rfl,e,rr⟩:=r.rR;exact Rep.rQ (k _ _ e) (mU rr f)
 | non=>exact r.sc f
 | bl _=>exact r.sc f
 | int _=>exact r.sc f
 | str _=>exact r.sc f
 | lst _=>exact r.sc f
 | scr _=>exact r.sc f
 | dct _=>exact r.sc f
theorem bf.flat {K:Frag}{G' G3:Hp}{vs:List V}{ds:List D}(k:∀c us,G' c=some (.tup us)->G3 c=some (.tup us))(r:bf K G' vs ds)(f:ds.all D.flat=true):bf K G3 vs ds:=by
 induction r with
 | nil=>exact .nil
 | cons h _ ih =>
  rw[List.all_cons,La] at f;exact .cons (h.flat k f.1) (ih f.2)
section
variable {X:Cx} {tg iter:Expr} {te:DT} {body:List Stmt} {g:Tg} {tb:fU} {pos:Pos}
end
section
variable {X:Cx} {e k m:Expr} {tk tm te:DT} {i:Nat} {x:Str} {pos px sp tpos:Pos}
end
end DL
namespace DIt
open PySem PySem.W PySem.Calls PyProof.Rows
structure At (h:Heap)(d:Addr)(es:Array DictEntry)(ep:Nat):Prop where
 ex:∃o,h.get? d=some o/\o.ExactDict/\o.data=.dict es ep
theorem At.ty {s:Kp}{d es ep}(x:At s.heap d es ep):s.TypeIs (.ref d) "dict":=by
 obtain ⟨o,h1,h2,_⟩:=x.ex;exact ⟨o,h1,h2.1⟩
theorem At.keep {h h':Heap}{d es ep}(x:At h d es ep)(k:∀o,h.get? d=some o->h'.get? d=some o):At h' d es ep:=by
 obtain ⟨o,h1,r⟩:=x.ex;exact ⟨o,k _ h1,r⟩
theorem At.lt {h:Heap}{d es ep}(x:At h d es ep):d<h.objs.size:=by
 obtain ⟨o,h1,_⟩:=x.ex;exact KG h1
section
variable {prog:KP} {w:K7} {A:K1} {E:Kn->Kp->Prop} {s:Kp} {d it:Addr} {es:Array DictEntry} {ep i:Nat}
theorem start {Q:Kn->Kp->Prop}(hd:(d == sysModules)=false)(x:At s.heap d es ep)
  (q:Q (.ref s.heap.objs.size) { s with heap:=s.heap.push { cls:=.type "dict_keyiterator",data:=.fields #[.ref d,.int 0 0,.int es.size 0,.int ep 0] } }):wpAny (model prog w) A (pyIter (.ref d)) Q E s:=by
 obtain ⟨o,e1,e2,e3⟩:=x.ex;have ty:=x.ty;refine wpAny_pyIter_slot ty PySem.F.slot_dict_iter (wpAny_call_entry PySem.F.slot_dict_iter ty PySem.F.entry_dict_iter ?_ (PySem.F.args_dict_iter_1 _));unfold Builtin.«dict.__iter__» Builtin.Dict.dictSlotNone;refine Ko (Ko (wpAny_notOrdered_dict ty (show wpAny _ _ (pure (Value.ref d)) _ _ s from Kq ?_)));show wpAny _ _ (Builtin.Dict.showsAll d >>= _) _ _ s;unfold Builtin.Dict.showsAll;rw[if_neg (show ¬(d == sysModules)=true by rw[hd];exact KY)];refine Ko (Kq (Ko (wpAny_dictEntries e1 e3 (Ko (wpAny_dictEpoch e1 e3 ?_)))));refine Ko (wpAny_newObj_type (Kq ⟨_,rfl,"dict_keyiterator",_,⟨_,KZ _ rfl,rfl⟩,PySem.F.slot_dict_keyiterator_next.lookup,?_⟩));simpa [rawInt] using q
theorem item {Q:Option Kn->Kp->Prop}(hit:s.heap.IsKeyIter it d i es.size ep)(x:At s.heap d es ep)(hi:i<es.size)
  (hQ:∀h',h'.IsKeyIter it d (i+1) es.size ep->Heap.SameBut it s.heap h'->Q (some es[i].key) { s with heap:=h' }):wpAny (model prog w) A (pyNext (.ref it)) Q E s:=by
 obtain ⟨o,f1,f2,f3⟩:=id hit;obtain ⟨od,e1,e2,e3⟩:=x.ex;unfold pyNext;refine Ko (wpAny_attempt (wpAny_callSpecial?_slot (name:=Str.ofString "__next__") hit.typeIs PySem.F.slot_dict_keyiterator_next (wpAny_call_entry PySem.F.slot_dict_keyiterator_next hit.typeIs PySem.F.entry_dict_keyiterator_next ?_ (PySem.F.args_dict_keyiterator_next_1 _))));refine Ko (Kq (Ko (Ko ?_)));first | refine Ko (wpAny_typeNameOfWhole_keyiter hit.typeIs (Kq (Ko (wpAny_fieldsOf f1 f3 ?_)))) | refine Ko (wpAny_typeNameOf_keyiter hit.typeIs (Kq (Ko (wpAny_fieldsOf f1 f3 ?_))))
 have own:Builtin.Dict_items.ownsTuple "dict_keyiterator" = false:=by decide
 simp only[own,KL,if_false];show wpAny _ _ (if (Value.ref d == Value.none)=true then _ else _) _ _ s;rw[if_neg (show ¬(Value.ref d == Value.none)=true from KY)];refine Ko (Kq (Ko (wpAny_dictEntries e1 e3 ?_)));rw[if_neg (show ¬_ by simp)];refine Ko (Kq (Ko (wpAny_dictEpoch e1 e3 ?_)));rw[if_neg (show ¬_ by simp)];refine Kq ?_;simp only[show ¬((i:Int)<0) from by lia,if_false,Int.toNat_natCast,Ky hi];refine Ko ?_;first | refine Ko (wpAny_typeNameOfWhole_keyiter hit.typeIs (Kq (Ko (wpAny_isOneOf_keyiter hit.typeIs ?_)))) | refine Ko (wpAny_typeNameOf_keyiter hit.typeIs (Kq (Ko (wpAny_isOneOf_keyiter hit.typeIs ?_))))
 first | refine Ko (wpAny_isOneOf_keyiter hit.typeIs ?_) | skip
 show wpAny _ _ (setField (.ref it) 1 (rawInt ((i:Int)+1)) >>= _) _ _ s;refine Ko (wpAny_setField f1 f3 (by simp) ?_);have hit':(s.heap.update it (Obj.mapFields (·.setIfInBounds 1 (rawInt ((i:Int)+1))))).IsKeyIter it d (i+1) es.size ep:=
  ⟨_,Heap.get?_update_self _ f1 (Obj.isFreed_of_fields (Obj.data_mapFields f3 _)),(Obj.cls_mapFields ..).trans f2,by rw[Obj.data_mapFields f3];simp[rawInt]⟩
 refine Ko (wpAny_holding (Ko (wpAny_isOneOf_keyiter (s:={ s with heap:=s.heap.update it (Obj.mapFields (·.setIfInBounds 1 (rawInt ((i:Int)+1)))) }) hit'.typeIs ?_)));show wpAny _ _ (pure es[i].key) _ _ _;exact Kq (Kq ⟨_,rfl,Kq (hQ _ hit' (Heap.SameBut.update ..))⟩)
theorem done {Q:Option Kn->Kp->Prop}(hh:A.handled=none)(hit:s.heap.IsKeyIter it d es.size es.size ep)(x:At s.heap d es ep)(hQ:∀h',Heap.ExtBut it s.heap h'->Q none { s with heap:=h' }):wpAny (model prog w) A (pyNext (.ref it)) Q E s:=by
 obtain ⟨o,f1,f2,f3⟩:=id hit;obtain ⟨od,e1,e2,e3⟩:=x.ex;unfold pyNext;refine Ko (wpAny_attempt (wpAny_callSpecial?_slot (name:=Str.ofString "__next__") hit.typeIs PySem.F.slot_dict_keyiterator_next (wpAny_call_entry PySem.F.slot_dict_keyiterator_next hit.typeIs PySem.F.entry_dict_keyiterator_next ?_ (PySem.F.args_dict_keyiterator_next_1 _))));refine Ko (Kq (Ko (Ko ?_)));first | refine Ko (wpAny_typeNameOfWhole_keyiter hit.typeIs (Kq (Ko (wpAny_fieldsOf f1 f3 ?_)))) | refine Ko (wpAny_typeNameOf_keyiter hit.typeIs (Kq (Ko (wpAny_fieldsOf f1 f3 ?_))))
 have own:Builtin.Dict_items.ownsTuple "dict_keyiterator" = false:=by decide
 simp only[own,KL,if_false];show wpAny _ _ (if (Value.ref d == Value.none)=true then _ else _) _ _ s;rw[if_neg (show ¬(Value.ref d == Value.none)=true from KY)];refine Ko (Kq (Ko (wpAny_dictEntries e1 e3 ?_)));rw[if_neg (show ¬_ by simp)];refine Ko (Kq (Ko (wpAny_dictEpoch e1 e3 ?_)));rw[if_neg (show ¬_ by simp)];refine Kq ?_;simp only[show ¬((es.size:Int)<0) from by lia,if_false,Int.toNat_natCast,Array.getElem?_eq_none (Ku es.size)];refine Ko ?_;first | refine Ko (wpAny_typeNameOfWhole_keyiter hit.typeIs (Kq ?_)) | skip
 show wpAny _ _ (setField (.ref it) 0 .none >>= _) _ _ s;refine Ko (wpAny_setField f1 f3 (by simp) ?_);show wpAny _ _ (newExc (.type "StopIteration") [] >>= _) _ _ _;refine Ko ?_;simp only[newExc,newTuple];refine Ko (wpAny_newObj_type (Ko (m:=firstArgMember _ _) (wpAny_of_eq (a:=Value.none) (by first | rfl | (simp only[firstArgMember];rfl)) (wpAny_newObj_type ?_ (by size_fits)))) (by size_fits));simp only[raiseNew];refine Ko (wpAny_handled ?_);rw[show A.in1.handled=none from hh];refine Ko (Kq (wpAny_throw ?_));refine Ko (wpAny_isInstance (T:="StopIteration") (b:=true) ⟨_,KZ _ rfl,rfl⟩ isSubtype_stop (Kq (hQ _ (((Heap.SameBut.update ..).extBut.push _).push _))))
theorem walk (hh:A.handled=none)(I d:Addr)(hne:d≠I)(es:Array DictEntry)(ep:Nat) :
  Walks prog w A I [I,d] [I] es.size (λi v=>∃e,es[i]?=some e/\v=e.key) (λi h=>h.IsKeyIter I d i es.size ep/\At h d es ep) where
 sub:=λb hb=>by simp at hb;simp[hb]
 frame:=λ_ _ _ st hk=>⟨st.1.at λo e=>hk I (by simp) o e,st.2.keep λo e=>hk d (by simp) o e⟩
 item:=λi s Q E hi st hQ=>item st.1 st.2 hi λh' k hs'=>hQ _ h' s.toks ⟨es[i],by simp[hi],rfl⟩ ⟨k,st.2.keep λo e=>hs'.extBut d o hne e⟩ λb o hb e=>hs'.extBut b o (λh=>hb (by simp[h])) e
 done:=λs Q E st hQ=>done hh st.1 st.2 λh' he'=>hQ h' s.toks λb o hb e=>he' b o (λh=>hb (by simp[h])) e
 self:=λ_ _ _ _ st hQ=>wpAny_pyIter_keyiter st.1 hQ
theorem src (lo:(d == sysModules)=false):KdlSrc prog w "dict" d d es.size (λi v=>∃e,es[i]?=some e/\v=e.key) (λh=>At h d es ep) where
 type:=λ_ hm=>hm.ty
 there:=λ_ hm=>⟨hm.lt,hm.lt⟩
 keep:=λ_ _ hm hk=>hm.keep λo e=>hk d (.inl rfl) o e
 notList:=by decide
 notTuple:=by decide
 hint:=λ_ _ _ _ hm hq=>kdl_hint_dict hm.ty hq
 iter:=λ_ _ hh hm=>⟨_,_,(λ_ _ hq=>start lo hm hq),walk hh _ d (KR hm.lt) es ep,⟨⟨_,KZ _ rfl,rfl,rfl⟩,hm.keep λo e=>Kv _ e⟩⟩
end
end DIt
namespace SoT
open PySem PySem.W PySem.Calls PyProof.Rows
noncomputable def AI (fin:Bool):List Int->List Int->Bool
 | a::r,b::r'=>if a=b then AI fin r r' else decide (a<b)
 | _,_=>fin
noncomputable def Tp (h:Heap)(v:Kn)(ns:List Int):Prop:=∃a o xs n,v=.ref a/\h.get? a=some o/\o.cls=.type "tuple"/\o.data=.seq xs n/\IntsAre xs.toList ns
theorem Tp.keep {h h':Heap}{v:Kn}{ns:List Int}(k:∀b o,h.get? b=some o->o.cls=.type "tuple"->h'.get? b=some o)(t:Tp h v ns):Tp h' v ns:=by
 obtain ⟨a,o,xs,n,e,h1,h2,r⟩:=t;exact ⟨a,o,xs,n,e,k a o h1 h2,h2,r⟩
section
variable {prog:KP} {w:K7} {A:K1} {E:Kn->Kp->Prop} {s:Kp}
theorem Fo {b:Bool}{x y:Int}{t u:Tok}{Q:Bool->Kp->Prop}(h:Q (decide (x<y)) s):wpAny (model prog w) A (oneLt' b (.int x t) (.int y u)) Q E s:=by
 cases b with
 | true=>exact oneLt_int h
 | false=>exact kat_one _ _ (PyProof.Rows.lt_int (show Q (decide (x<y)) s from h))
theorem xk {b fin:Bool}{Q:Bool->Kp->Prop}:∀{us vs:List Kn} {ns ms:List Int} (i:Nat),IntsAre us ns->IntsAre vs ms->Q (AI fin ns ms) s->KatLex prog w A b fin Q (us.zip vs) i s
 | _,_,_,_,_,.nil,.nil,h=>h
 | _,_,_,_,_,.nil,.cons _ _ _,h=>h
 | _,_,_,_,_,.cons _ _ _,.nil,h=>h
 | _,_,_,_,i,.cons x t r,.cons y u r',h=>by
  rw[List.zip_cons_cons];refine kat_cons (wpAny_eqBool_int ?_);have h':Q (if x=y then AI fin _ _ else decide (x<y)) s:=h;by_cases e:x=y
  .rw[if_pos e] at h';rw[show (x == y)=true by simp[e]];exact kat_yes (xk (i+1) r r' h')
  .rw[if_neg e] at h';rw[show (x == y)=false by simp[e]];exact kat_no (Fo h')
theorem Fc {v u:Kn}{ns ms:List Int}{Q:Bool->Kp->Prop}(hv:Tp s.heap v ns)(hu:Tp s.heap u ms)(h:Q (AI (decide (ns.length<ms.length)) ns ms) s):wpAny (model prog w) A (keyLt' (tuples' true) v u) Q E s:=by
 obtain ⟨a,o,xs,n,rfl,h1,h2,h3,h4⟩:=hv;obtain ⟨a',o',xs',n',rfl,g1,g2,g3,g4⟩:=hu;have il:∀{us:List Kn} {ns:List Int},IntsAre us ns->us.length=ns.length:=λr=>by
  induction r with
  | nil=>rfl
  | cons _ _ _ ih=>simp[ih]
 have e1:xs.size=ns.length:=by rw[<-il h4];simp
 have e2:xs'.size=ms.length:=by rw[<-il g4];simp
 refine kat_lt h1 h3 g1 g3 (xk 0 h4 g4 ?_);rw[e1,e2];exact h
theorem AD {h:Heap}:∀{vs:List Kn} {nss:List (List Int)},vs.length=nss.length->(∀(i:Nat) v ns,vs[i]?=some v->nss[i]?=some ns->0<ns.length/\Tp h v ns)->∃fs,KatTups h vs fs/\fs.length=vs.length/\∀f∈fs,∃n t,f=Value.int n t
 | [],[],_,_=>⟨[],KatTups.nil,rfl,λ_ z=>nomatch z⟩
 | v::vs,ns::nss,e,f=>by
  obtain ⟨fs,h1,h2,h3⟩:=AD (vs:=vs) (nss:=nss) (by simpa using e) λi v ns a b=>f (i+1) v ns (by simpa using a) (by simpa using b);obtain ⟨hl,a,o,xs,n,rfl,g1,g2,g3,g4⟩:=f 0 v ns rfl rfl;cases ns with
  | nil=>simp at hl
  | cons x r =>
   cases q:xs.toList with
   | nil=>rw[q] at g4;cases g4
   | cons u us =>
    rw[q] at g4;cases g4 with
    | cons _ t _ =>
     refine ⟨.int x t::fs,KatTups.cons g1 g2 g3 (by rw[<-Kx,q];rfl) h1,by simp[h2],λf hf=>?_⟩;rcases KQ.mp hf with rfl | hf
     .exact ⟨x,t,rfl⟩
     .exact h3 f hf
theorem mB {h:Heap}{a:Addr}{vs:List Kn}{out:Array Kn}{b:Addr}{o:Obj}(hb:b≠a)(e:h.get? b=some o):(sortedHeap h a vs out).get? b=some o:=by
 unfold sortedHeap;refine (Heap.get?_update_other _ _ (Ne.symm hb)).trans (Kv _ (Kv _ ((Heap.get?_update_other _ _ (Ne.symm hb)).trans e)))
end
end SoT
namespace L2
open PySem PySem.Spec PyProof.Rows
section
variable {X:Cx}
theorem nE {P:KP}{w:K7}{H:Hp}:∀{ps:List ((Int×Int)×Int)} {xs:List (List Key×Addr×Kn)},KT H (DL.encD ps) xs->∃bs:List Addr,Paired (λb p=>H b=some (.tup [.int p.1.1,.int p.1.2])) bs ps/\(xs.map (entryOfKey (tupleKind (bC P w)))).map (·.key)=bs.map Value.ref
 | [],_,r=>by
  have r':KT H [] _:=r;cases r';exact ⟨[],.nil,rfl⟩
 | p::ps,_,r=>by
  have r':KT H ((DL.k2 p.1,V.int p.2)::DL.encD ps) _:=r;cases r' with
  | cons h t =>
   obtain ⟨bs,h1,h2⟩:=nE (P:=P) (w:=w) t;rename_i q qs;refine ⟨q.2.1::bs,.cons h.2.1 h1,?_⟩;rw[K3,K3,K3,h2];rfl
end
end L2
namespace DL
open PySem L2
noncomputable def AE (kvs:bY):List D:=kvs.map λp=>.tup [.int p.1.1,.int p.1.2]
theorem zj {K:Frag}{H G:Hp}{l:Addr}{bs:List Addr}{ps:bY}(s:ar G H)(hl:H l=none)(hb:Paired (λb p=>H b=some (.tup [.int p.1.1,.int p.1.2])) bs ps) :
  ∃G',Wd H G (upd H l (.lst (bs.map V.ref))) G'/\fS K H G' (upd H l (.lst (bs.map V.ref))) (.ref l) (.o (.lst (AE ps))):=by
 obtain ⟨G3,w3,s3,k3,t3,o3⟩:=GD (K:=K) (Wd.refl s) (Wd.refl s) ((Wd.refl s).own hl (s.free hl) (o:=.lst (bs.map V.ref)));have hl3:G3 l=none:=by
  rw[o3 l (λus z=>by rw[aE] at z;cases z) (λo us z=>by rw[aE] at z;cases z)];exact s.free hl
 refine ⟨G3,w3,l,rfl,hl,hl3,bs.map V.ref,aE,?_⟩;unfold AE;clear w3 s3 k3 o3 hl3;induction hb with
 | nil=>exact .nil
 | @cons b p bs ps h _ ih =>
  refine .cons ?_ (ih ?_)
  .refine Rep.rQ (t3 b _ ?_) (.cons (.int _) (.cons (.int _) .nil));rw[au (by rintro rfl;rw[h] at hl;cases hl)];exact h
  .intro c us z;refine t3 c us ?_;by_cases e:c=l
   .subst e;rw[aE] at z;cases z
   .rw[au e] at z ⊢;exact z
end DL
namespace L2
open PySem PySem.Spec PyProof.Rows
end L2
namespace DL
open PySem L2
end DL
namespace PySem
section
variable {prog:KP} {w:K7} {K:Type} [DecidableEq K] {knd:HeapKind prog w K} {A:K1} {E:Kn->Kp->Prop} {s:Kp}
noncomputable def dr (xs:List (K×Addr×Kn))(k:K):List (K×Addr×Kn):=xs.filter λx=>decide (x.1≠k)
theorem pO {α β:Type}(f:α->β):∀(xs:List α) (j:Nat),(xs.eraseIdx j).map f=(xs.map f).eraseIdx j
 | [],_=>rfl
 | x::xs,0=>rfl
 | x::xs,j+1=>by
  rw[List.eraseIdx_cons_succ,K3,K3,List.eraseIdx_cons_succ,pO f xs j]
theorem jx:∀{xs:List (K×Addr×Kn)} {j:Nat} {k:K} {p:Addr×Kn},(xs.map (·.1)).Nodup->xs[j]?=some (k,p)->xs.eraseIdx j=dr xs k
 | [],j,k,p,_,h=>by simp at h
 | x::xs,0,k,p,hn,h=>by
  rw[K3,nodup_cons] at hn;simp only[List.getElem?_cons_zero,Option.some.injEq] at h;subst h;unfold dr;rw[List.eraseIdx_zero,List.tail_cons,List.filter_cons_of_neg (by simp)];symm;rw[List.filter_eq_self];intro y hy;rw[decide_eq_true_eq];exact λe=>hn.1 (KJ.mpr ⟨y,hy,e⟩)
 | x::xs,j+1,k,p,hn,h=>by
  rw[K3,nodup_cons] at hn;simp only[List.getElem?_cons_succ] at h;have hne:x.1≠k:=λe=>hn.1 (KJ.mpr ⟨(k,p),KC h,e.symm⟩);unfold dr;rw[List.eraseIdx_cons_succ,List.filter_cons_of_pos (by rw[decide_eq_true_eq];exact hne)];have:=jx hn.2 h;unfold dr at this;rw[this]
theorem nQ {xs:List (K×Addr×Kn)}(hn:(xs.map (·.1)).Nodup)(k:K):((dr xs k).map (·.1)).Nodup:=by
 unfold dr;exact List.Nodup.sublist (List.Sublist.map _ filter_sublist) hn
theorem rN {d a:Addr}{xs:List (K×Addr×Kn)}{k:K}{Q:Option DictEntry->Kp->Prop}(hu:knd.room A)(hkey:knd.is s.heap k a)(hm:s.heap.DictOfH knd d xs)(hz:xs.length<=sizeLine)
  (hnone:atKey xs k=none->Q none { s with toks:=s.toks+knd.draws k })
  (hsome:∀p e,atKey xs k=some p->e.val=p.2->∀h',h'.DictOfH knd d (dr xs k)->Heap.SameBut d s.heap h'->Q (some e) { s with heap:=h',toks:=s.toks+knd.draws k }) :
  wpAny (model prog w) A (Builtin.Dict.takeOut d (.ref a)) Q E s:=by
 obtain ⟨o,es,ep,ho,hc,hd,he,his,hn⟩:=hm;have hes:es.size<=sizeLine:=by rw[size_of_entries he];exact hz
 unfold Builtin.Dict.takeOut;try with_reducible refine wpAny_holding ?_
 refine Ko (knd.pyHash hu hkey ?_);refine Ko (wpAny_dictFind_heap (s:={ s with toks:=s.toks+knd.draws k }) hu hkey ho hd he his hn ?_ ?_)
 .intro hno;exact Kq (hnone (atKey_none_of_get hno))
 .intro j p hj;dsimp only;refine Ko (wpAny_dictEntries (s:={ s with toks:=s.toks+knd.draws k }) ho hd ?_);rw[entry_at he j,hj];dsimp only[Option.map_some];refine Ko (wpAny_updateDictKeys (hz:=hes) (s:={ s with toks:=s.toks+knd.draws k }) ho hd (Kq (hsome p _ (atKey_of_get hn hj) rfl _ ⟨_,_,ep+1,Heap.get?_update_self _ ho (Obj.isFreed_of_dict (Obj.data_mapDictKeys hd _)),
   hc.mapDictKeys _,Obj.data_mapDictKeys hd _,?_,?_,nQ hn k⟩ (Heap.SameBut.update ..))))
  .rw[<-jx hn hj,Array.toList_eraseIdxIfInBounds,he];exact (pO _ xs j).symm
  .intro x hx;exact knd.keeps (his x (List.mem_filter.mp hx).1) ho hd (Heap.SameBut.update ..)
theorem Bb {d a:Addr}(hd:(d == sysModules)=false)(dflt:Kn) :
  MeetsIn prog w (Builtin.«dict.pop» ⟨[.ref d,.ref a,dflt],[]⟩) (λA R s=>knd.room A.in1/\∃k xs,knd.is s.heap k a/\s.heap.DictOfH knd d xs/\xs.length<=sizeLine /\
   (atKey xs k=none->∀tk,R (.ok (.ret dflt)) { s with toks:=tk })/\∀p,atKey xs k=some p->∀h' tk,h'.DictOfH knd d (dr xs k)->Heap.SameBut d s.heap h'->R (.ok (.ret p.2)) { s with heap:=h',toks:=tk }):=
 .of_wp<|by
  rintro A R s ⟨hu,k,xs,hkey,hm,hz,h0,h1⟩;unfold Builtin.«dict.pop»;refine Ko ?_;unfold Builtin.Dict.keyAndDefault;refine Ko (wpAny_notOrdered_dict hm.typeIs ?_);show wpAny _ _ (pure (d,Value.ref a,some dflt)) _ _ s;refine Kq ?_;have hp:(keyPart (Value.ref a)).isSome=false:=rfl;simp only[hp,KL,if_false];have hm':=hm;obtain ⟨o,es,ep,ho,hc,hdd,he,his,hn⟩:=hm';refine Ko (wpAny_dictEntries ho hdd (Ko (Kq ?_)));by_cases hem:es.isEmpty=true
  .rw[if_pos hem];have hx:xs = []:=by
    have:=size_of_entries he;rw[Array.isEmpty_iff_size_eq_zero] at hem;exact length_eq_zero_iff.mp (by lia)
   refine Ko (wpAny_rule (Ko (Kq ?_)));simp only[Option.isNone_none,if_true];refine Ko (wpAny_missedRemoval_other hd ?_);refine Ko (wpAny_rule (Kq ⟨dflt,rfl,?_⟩));exact h0 (by rw[hx];rfl) s.toks
  .rw[if_neg hem];refine Ko (rN hu hkey hm hz (λhno=>?_) λp e hp hv h' hm'' hs'=>?_)
   .simp only[Option.isNone_none,if_true];refine Ko (wpAny_missedRemoval_other hd ?_);exact Ko (wpAny_rule (Kq ⟨dflt,rfl,h0 hno _⟩))
   .simp only[Option.isNone_some,KL,if_false];exact Ko (wpAny_letGo (Kq ⟨e.val,rfl,by rw[hv];exact h1 p hp h' _ hm'' hs'⟩))
noncomputable def iT (yb:List (K×Addr×Kn))(x:K×Addr×Kn):Bool:=
 match atKey yb x.1,x.2.2 with
 | some (_,.int m _),.int n _=>n == m
 | _,_=>false
theorem oq {nm:String}{a b:Addr}{xa yb:List (K×Addr×Kn)}{Q:Bool->Kp->Prop}(hu:knd.room A)(ha:(a == sysModules)=false)(hb:(b == sysModules)=false)
    (da:s.heap.DictOfH knd a xa) (db:s.heap.DictOfH knd b yb) (ia:∀x∈xa,∃n t,x.2.2=Value.int n t) (ib:∀x∈yb,∃n t,x.2.2=Value.int n t) (h:Q (xa.length == yb.length && xa.all (iT yb)) s) :
    wpAny (model prog w) A (Builtin.Dict.samePairs nm a b) Q E s:=by
  obtain ⟨oa,es,ep,hoa,_,hda,hea,hisa,hna⟩:=da;obtain ⟨ob,es',ep',hob,_,hdb,heb,hisb,hnb⟩:=db;have hla:es.size=xa.length:=size_of_entries hea;have hlb:es'.size=yb.length:=size_of_entries heb;rw[<-hla,<-hlb] at h;unfold Builtin.Dict.samePairs Builtin.Dict.showsAll;rw[if_neg (show ¬(a == sysModules)=true by rw[ha];exact KY),if_neg (show ¬(b == sysModules)=true by rw[hb];exact KY)];refine Ko (Kq (Ko (Kq ?_)));refine Ko (wpAny_dictEntries hoa hda ?_);dsimp only;refine Ko (wpAny_dictEntries hob hdb ?_);by_cases hsz:es.size=es'.size
  case neg =>
    rw[if_pos (by simpa using hsz)];have hbf:(es.size == es'.size)=false:=by simpa using hsz
    rw[hbf,Bool.false_and] at h;exact Ko (wpAny_rule (Kq h))
  case pos =>
    have h':Q (xa.all (iT yb)) s:=by simpa [hsz] using h
    rw[if_neg (by rw[hsz];simp)];refine Ko (wpAny_dictEpoch hoa hda ?_);refine Ko ?_;rw[Std.Legacy.Range.forIn_eq_forIn_range'];simp only[Std.Legacy.Range.size,Nat.sub_zero,Nat.add_sub_cancel,Nat.div_one];refine wpAny_forIn_list _
      (λrest q s'=>s'=s/\q=(none,())/\∃i,rest=List.range' i (es.size - i)/\i<=es.size/\(xa.drop i).all (iT yb)=xa.all (iT yb))
      _ ?_ ?_ _ _ ⟨rfl,rfl,0,by simp,Lc _,rfl⟩
    · rintro x rest q s' ⟨rfl,rfl,i,hr,hi,hpre⟩;have hlt:i<es.size:=by
        rcases Nat.lt_or_ge i es.size with h | h
        · exact h
        · rw[Nat.sub_eq_zero_of_le h] at hr;simp at hr
      obtain ⟨rfl,hrest⟩ : x=i/\rest=List.range' (i+1) (es.size - (i+1)):=by
        have e:es.size - i=(es.size - (i+1))+1:=by lia
        rw[e,List.range'_succ] at hr;injection hr with h1 h2
        exact ⟨h1,h2⟩
      refine Ko (wpAny_dictEntries hoa hda ?_);have hlt':x<xa.length:=by rw[<-hla];exact hlt
      obtain ⟨⟨k,c,v⟩,hkv⟩ : ∃y,xa[x]?=some y:=⟨xa[x],Kt hlt'⟩
      have hmem:=KC hkv;obtain ⟨n,t,hv⟩:=ia _ hmem;dsimp only at hv;subst hv;have hdrop:xa.drop x=(k,c,Value.int n t)::xa.drop (x+1):=by
        rw[drop_eq_getElem_cons hlt'];rw[Kt hlt'] at hkv;rw[Option.some.inj hkv]
      rw[hdrop,List.all_cons] at hpre;rw[entry_at hea x,hkv];show wpAny _ _ (holding [Value.ref c,Value.int n t] _ >>= _) _ _ _;refine Ko (wpAny_holding (Ko (wpAny_dictFind_heap hu (hisa _ hmem) hob hdb heb hisb hnb (λhno=>?_) λj p hj=>?_)))
      · have hn0:iT yb (k,c,Value.int n t)=false:=by
          unfold iT;rw[show atKey yb (k,c,Value.int n t).1=none from atKey_none_of_get hno]
        rw[hn0,Bool.false_and] at hpre;dsimp only;refine Kq ?_;rw[if_pos (by decide)];exact Kq (Kq (by rw[hpre];exact h'))
      · dsimp only;refine Ko (wpAny_dictEntries hob hdb ?_);obtain ⟨m,u,hm⟩:=ib _ (KC hj);obtain ⟨pa,pv⟩:=p;dsimp only at hm;subst hm;rw[entry_at heb j,hj];have hs1:iT yb (k,c,Value.int n t)=(n == m):=by
          unfold iT;rw[show atKey yb (k,c,Value.int n t).1=some (pa,Value.int m u) from atKey_of_get hnb hj]
        rw[hs1] at hpre;dsimp only[Option.map_some];refine wpAny_holding (wpAny_eqBool_int ?_);cases e:(n == m) with
        | false =>
          rw[e,Bool.false_and] at hpre;rw[if_pos (by decide)];exact Kq (Kq (by rw[hpre];exact h'))
        | true =>
          rw[e,Bool.true_and] at hpre;rw[if_neg (by decide)];refine Ko (wpAny_dictEpoch hoa hda ?_);rw[if_neg (by simp)];exact Kq ⟨rfl,rfl,x+1,hrest,hlt,hpre⟩
    · rintro q s' ⟨rfl,rfl,i,hr,hi,hpre⟩;have hin:i=es.size:=by
        rcases Nat.lt_or_ge i es.size with h | h
        · have e : es.size - i = (es.size - (i + 1)) + 1 := by lia
          rw[e,List.range'_succ] at hr;exact nomatch hr
        · exact Nat.le_antisymm hi h
      refine Kq ?_;rw[hin,hla,List.drop_length] at hpre;rw[<-hpre] at h';exact h'
theorem C1 {a b:Addr}{xa yb:List (K×Addr×Kn)}{Q:Kn->Kp->Prop}(hr:knd.room A.in1)(hu:A.units<cLine)(ha:(a == sysModules)=false)(hb:(b == sysModules)=false)
  (da:s.heap.DictOfH knd a xa) (db:s.heap.DictOfH knd b yb) (ia:∀x∈xa,∃n t,x.2.2=Value.int n t) (ib:∀x∈yb,∃n t,x.2.2=Value.int n t) (h:Q (.bool (!(xa.length == yb.length && xa.all (iT yb)))) s) :
  wpAny (model prog w) A (compareOp .NotEq (.ref a) (.ref b)) Q E s:=by
 refine wpAny_richCompare_same_room (op:=.NotEq) da.typeIs db.typeIs PySem.F.slot_dict_ne (wpAny_call_entry PySem.F.slot_dict_ne da.typeIs PySem.F.entry_dict_ne ?_ (PySem.F.args_dict_ne_2 _ _)) hu;show wpAny _ _ (Builtin.Dict.dictSlotArgs "__ne__" ⟨[.ref a,.ref b],[]⟩ >>= _) _ _ s;refine Ko ?_;unfold Builtin.Dict.dictSlotArgs;refine Ko (wpAny_notOrdered_dict da.typeIs ?_);show wpAny _ _ (pure (Value.ref a,Value.ref b)) _ _ s;refine Kq ?_;refine Ko (wpAny_isInstance (T:="dict") db.typeIs PySem.F.sub_dict_dict ?_);simp only[Bool.not_true,KL,if_false];refine Ko (Kq (Ko (Kq ?_)));refine Ko (oq hr ha hb da db ia ib ?_);refine Kq ⟨_,rfl,?_,?_⟩
 .exact λx=>nomatch x
 .simpa using h
end
end PySem
namespace L2
open PySem PySem.Spec PyProof.Rows
section
variable {X:Cx} {pins:List (Addr×Obj)} {σ:St} {H:Hp} {s:Kp} {a b:Addr}
theorem KT.drop {kvs:List (List Key×V)}{xs:List (List Key×Addr×Kn)}(r:KT H kvs xs)(k:List Key):KT H (pN kvs k) (dr xs k):=by
  unfold pN dr;induction r with
  | nil=>exact .nil
  | @cons p q ps qs h t ih =>
    obtain ⟨h1,h2⟩:=h;rw[filter_cons,filter_cons];by_cases e:p.1=k
    · have a : ¬ decide (p.1 ≠ k) = true := by simp [e]
      have b:¬decide (q.1≠k)=true:=by simp[h1.symm.trans e]
      rw[if_neg a,if_neg b];exact ih
    · have e':¬q.1=k:=λz=>e (h1.trans z);have a:decide (p.1≠k)=true:=by simp[e]
      have b:decide (q.1≠k)=true:=by simp[e']
      rw[if_pos a,if_pos b];exact .cons ⟨h1,h2⟩ ih
noncomputable def FX (K:Frag)(td ty tx:TE):TE:=λσ H Q=>td σ H λx H1=>∃a,x=.ref a/\II H1 a/\ty σ H1 λy H2=>tx σ H2 λz H3=>∃kvs ks b,Rd H3 a (.dT kvs)/\y=.ref b/\gM K H3 b (ks.map kV)/\Q ((ic kvs ks).getD z) H3
noncomputable def FZ (K:Frag)(td ty tx:TE):TE:=λσ H Q=>td σ H λx H1=>∃a,x=.ref a/\II H1 a/\ty σ H1 λy H2=>tx σ H2 λz H3=>∃kvs ks b,H3 a=some (.dT kvs)/\y=.ref b/\gM K H3 b (ks.map kV) /\
 (∀v,ic kvs ks=some v->Q v (upd H3 a (.dT (pN kvs ks))))/\(ic kvs ks=none->Q z H3)
variable {o e f:Expr} {apos cpos:Pos} {td ty tx:TE}
theorem A2 (hu:X.A.units+1<cLine)(ho:PE X o td)(he:PE X e ty)(hf:PE X f tx)(m:M2 X o "get" apos e f cpos):PE X (.Call (.Attribute o "get" apos) [e,f] [] cpos) (FX X.K td ty tx):=by
 intro pins s σ H Q I h;refine wpAny_Call_method m.base m.GY m.line PySem.F.plainAttrs_dict PySem.F.slot_dict_get PySem.F.type_dict_get (bU (ho pins s σ H _ I h) ?_);rintro u s1 ⟨x,H1,I1,rx,a,ex,d,q1⟩;subst ex;obtain rfl:u=Value.ref a:=rx;obtain ⟨t1,t2,_⟩:=Az I1 d;refine ⟨t1,t2,?_⟩;rw[m.trees];refine Calls.callWith_builtin rfl (Calls.evalArgs_plain (Calls.spliced_cons (bU (he pins s1 σ H1 _ I1 q1) λiv s2 ⟨y,H2,I2,ry,q2⟩ =>
  Calls.spliced_cons (bU (hf pins s2 σ H2 _ I2 q2) λfv s3 ⟨z,H3,I3,rz,kvs,ks,b,ea,ey,hb,q3⟩=>Calls.spliced_nil ?_))))
 subst ey;obtain rfl:iv=Value.ref b:=ry;obtain ⟨zz,hd,xs,rel,dd⟩:=lU I3.bG ea;refine call_meetsIn PySem.F.slot_dict_get dd.typeIs PySem.F.entry_dict_get (PySem.F.args_dict_get_3 _ _ _) (meetsH_dict_get_default (tupleKind (bC X.prog X.w)) a b hd fv) ⟨tupleKind_room_in1 hu,ks,xs,jG I3 hb,dd,⟨_,H3,I3.tok _,?_,q3⟩⟩;exact (rel.val ks).getD rz
theorem A5 (hu:X.A.units+1<cLine)(ho:PE X o td)(he:PE X e ty)(hf:PE X f tx)(m:M2 X o "pop" apos e f cpos):PE X (.Call (.Attribute o "pop" apos) [e,f] [] cpos) (FZ X.K td ty tx):=by
 intro pins s σ H Q I h;refine wpAny_Call_method m.base m.GY m.line PySem.F.plainAttrs_dict PySem.F.slot_dict_pop PySem.F.type_dict_pop (bU (ho pins s σ H _ I h) ?_);rintro u s1 ⟨x,H1,I1,rx,a,ex,d,q1⟩;subst ex;obtain rfl:u=Value.ref a:=rx;obtain ⟨t1,t2,_⟩:=Az I1 d;refine ⟨t1,t2,?_⟩;rw[m.trees];refine Calls.callWith_builtin rfl (Calls.evalArgs_plain (Calls.spliced_cons (bU (he pins s1 σ H1 _ I1 q1) λiv s2 ⟨y,H2,I2,ry,q2⟩ =>
  Calls.spliced_cons (bU (hf pins s2 σ H2 _ I2 q2) λfv s3 ⟨z,H3,I3,rz,kvs,ks,b,ea,ey,hb,q3,q4⟩=>Calls.spliced_nil ?_))))
 subst ey;obtain rfl:iv=Value.ref b:=ry;obtain ⟨zz,hd,xs,rel,dd⟩:=D0 I3.bG ea;have hz:xs.length<=sizeLine:=by rw[<-Paired.length rel];exact zz
 refine call_meetsIn PySem.F.slot_dict_pop dd.typeIs PySem.F.entry_dict_pop (PySem.F.args_dict_pop_3 _ _ _) (Bb (knd:=tupleKind (bC X.prog X.w)) (a:=b) hd fv) ⟨tupleKind_room_in1 hu,ks,xs,jG I3 hb,dd,hz,λhno tk=>?_,λp hp h' tk dd' hs=>?_⟩
 .refine ⟨z,H3,I3.tok tk,rz,q4 ?_⟩;have:=rel.val ks;rw[hno] at this;cases e:ic kvs ks with
  | none=>rfl
  | some v=>rw[e] at this;exact this.elim
 .have hv:=rel.val ks;rw[hp] at hv;cases e:ic kvs ks with
  | none=>rw[e] at hv;exact hv.elim
  | some v =>
   rw[e] at hv;refine ⟨v,_,?_,hv,q3 v e⟩;obtain ⟨o',es,ep,hq,h2,h3,h4,_,h5⟩:=dd';refine wA I3 (by rw[ea];exact True.intro) hs ⟨o',hq⟩ ⟨Nat.le_trans (Ad kvs ks) zz,hd,_,(rel.drop ks).keeps λc ys ec=>by rw[au (xl ec ea λz=>nomatch z)];exact ec,o',es,ep,hq,h2,h3,h4,h5⟩
noncomputable def HM (K:Frag):R2:=λx y H Q=>∃(a b:Addr) (ks ms:List Key),x=V.ref a/\y=V.ref b/\gM K H a (ks.map kV)/\gM K H b (ms.map kV)/\Q (.bl (decide (ks=ms))) H
theorem Fs (hu:X.A.units<cLine):iq X (compareOp .Eq) (HM X.K):=by
 intro pins s σ H x y v u Q I rx ry h;obtain ⟨a,b,ks,ms,rfl,rfl,ha,hb,q⟩:=h;cases rx;cases ry;have hx:IsTupleKey (bC X.prog X.w) s.heap ks a:=jG I ha;have hy:IsTupleKey (bC X.prog X.w) s.heap ms b:=jG I hb;exact wpAny_richCompare_same_room (op:=.Eq) hx.typeIs hy.typeIs PySem.F.slot_tuple_eq
   (wpAny_call_entry PySem.F.slot_tuple_eq hx.typeIs PySem.F.entry_tuple_eq (tuple_eq_tree hx hy ⟨_,rfl,(λe=>nomatch e),⟨.bl _,H,I,rfl,q⟩⟩) (PySem.F.args_tuple_eq_2 _ _)) hu
end
end L2
namespace DL
open PySem L2
noncomputable def uB (ka kb:bY):Bool:=ka.length == kb.length && ka.all λp=>aO kb p.1 == some p.2
noncomputable def j9 (kvs:bY)(k:Int×Int):bY:=kvs.filter λp=>decide (p.1≠k)
theorem yi (kvs:bY)(k:Int×Int):pN (encD kvs) (k2 k)=encD (j9 kvs k):=by
 unfold pN j9 encD;rw[List.filter_map];congr 1;refine List.filter_congr λp _=>?_;show decide (k2 p.1≠k2 k)=decide (p.1≠k);rw[decide_eq_decide];exact not_congr jF
theorem yS {H:Hp}{ka kb:bY}{xa yb:List (List Key×Addr×Kn)}(ra:KT H (encD ka) xa)(rb:KT H (encD kb) yb):xa.all (iT yb)=ka.all λp=>aO kb p.1 == some p.2:=by
 induction ka generalizing xa with
 | nil =>
  have:KT H [] xa:=ra;cases this;rfl
 | cons p ps ih =>
  have:KT H ((k2 p.1,V.int p.2)::encD ps) xa:=ra;cases this with
  | @cons _ q _ qs h t =>
   rw[List.all_cons,List.all_cons,ih t];congr 1;obtain ⟨h1,_,h3⟩:=h;obtain ⟨tk,h3⟩:=h3;have hv:=rb.val q.1;rw[<-h1,gL] at hv;unfold iT;rw[h3,<-h1];cases e:atKey yb (k2 p.1) with
   | none =>
    rw[e] at hv;cases e2:aO kb p.1 with
    | none=>simp
    | some w=>rw[e2] at hv;exact hv.elim
   | some r =>
    rw[e] at hv;cases e2:aO kb p.1 with
    | none=>rw[e2] at hv;exact hv.elim
    | some w =>
     rw[e2] at hv;obtain ⟨t2,h4⟩:=(show ∃t,r.2=Value.int w t from hv)
     obtain ⟨r1,r2⟩:=r;dsimp only at h4;subst h4;show (p.2 == w)=(some w == some p.2)
     rw[Bool.eq_iff_iff,beq_iff_eq,beq_iff_eq];exact ⟨λz=>by rw[z],λz=>(Option.some.inj z).symm⟩
theorem nK {H:Hp}:∀{ka:bY} {xa:List (List Key×Addr×Kn)},KT H (encD ka) xa->∀x∈xa,∃n t,x.2.2=Value.int n t
 | [],_,r=>by
  have r':KT H [] _:=r;cases r';intro x hx;cases hx
 | p::ps,_,r=>by
  have r':KT H ((k2 p.1,V.int p.2)::encD ps) _:=r;cases r' with
  | cons h t =>
   intro x hx;rcases KQ.mp hx with rfl | hx
   .obtain ⟨tk,e⟩:=h.2.2;exact ⟨_,tk,e⟩
   .exact nK t x hx
section
variable {X:Cx} {e f o k:Expr} {te tf td tk:DT} {i j:Nat} {x y:Str} {pos px py apos cpos lp tpos sp:Pos}
theorem Fx (hu:X.A.units+1<cLine):iq X (compareOp .NotEq) (λx y H Q=>∃a b ka kb,x=V.ref a/\y=V.ref b/\Rd H a (.dT (encD ka))/\Rd H b (.dT (encD kb))/\Q (.bl (!uB ka kb)) H):=by
 intro pins s σ H x y v u Q I rx ry h;obtain ⟨a,b,ka,kb,rfl,rfl,ea,eb,q⟩:=h;cases rx;cases ry;obtain ⟨za,hda,xa,ra,da⟩:=lU I.bG ea;obtain ⟨zb,hdb,yb,rb,db⟩:=lU I.bG eb;refine C1 (knd:=tupleKind (bC X.prog X.w)) (tupleKind_room_in1 hu) (Nat.lt_of_succ_lt hu) hda hdb da db (nK ra) (nK rb) ⟨.bl _,H,I,?_,q⟩;have l1:=Paired.length ra;have l2:=Paired.length rb;rw[ki] at l1 l2;rw[yS ra rb,<-l1,<-l2];rfl
noncomputable def mG:D2:=λx y Q=>match x,y with
 | .dct ka,.dct kb=>Q (.p (.bl (!uB ka kb)))
 | _,_=>False
theorem p7 {n:Nat}(hr:cH n X.A):m7 X (compareOp .NotEq) mG:=by
 refine ⟨_,Fx (kC hr),λH G x y dx dy P Q s rx ry h kk=>?_⟩;unfold mG at h;split at h
 .cases rx with
  | dct e =>
   cases ry with
   | dct e'=>exact ⟨_,_,_,_,rfl,rfl,fq s e,fq s e',kk _ _ H G h (Wd.refl s) (.bl _)⟩
 .exact h.elim
noncomputable def zN (td tk tf:DT):DT:=λρ Q=>td ρ λb=>match b.val with
 | .dct kvs=>tk ρ λb1=>match b1.val with
  | .tup [.int z,.int y]=>tf ρ λb2=>match b2.val with
   | .int d=>Q (.p (.int ((aO kvs (z,y)).getD d)))
   | _=>False
  | _=>False
 | _=>False
theorem mK {n:Nat}(hr:cH n X.A)(ho:DE X o td)(hk:DE X k tk)(hf:DE X f tf)(m:M2 X o "get" apos k f cpos):DE X (.Call (.Attribute o "get" apos) [k,f] [] cpos) (zN td tk tf):=
 DE.of (A2 (kC hr) ho.pe hk.pe hf.pe m)<|by
  rintro σ H Q ⟨G,ρ,P,s,re,h,kk⟩;refine ⟨G,ρ,_,s,re,h,λb v H1 G1 p1 w1 r1=>?_⟩;obtain ⟨G1,w1,r1⟩:=r1.give w1;split at p1
  .rename_i kvs ev;rw[ev] at r1;cases r1 with
   | dct ea =>
    refine ⟨_,rfl,.inr ⟨_,fq w1.gh ea⟩,G1,ρ,_,w1.gh,dM.mono w1.gg re,p1,λb2 v2 H2 G2 p2 w2 r2=>?_⟩;obtain ⟨G2,w2,r2⟩:=r2.give w2;split at p2
    .rename_i z y ez;rw[ez] at r2;obtain ⟨c,rfl,hc⟩:=mR r2;refine ⟨G2,ρ,_,w2.gh,dM.mono (w1.trans w2).gg re,p2,λb3 v3 H3 G3 p3 w3 r3=>?_⟩;split at p3
     .rename_i d ed;have hd:=dg w3 r3 ed;subst hd;refine ⟨encD kvs,k2 (z,y),c,fq (w2.hh.trans w3.hh) (fq w1.gh ea),rfl,aq (w2.gh.trans w3.hh) hc,?_⟩;rw[gL];have:((aO kvs (z,y)).map V.int).getD (.int d)=.int ((aO kvs (z,y)).getD d):=by cases aO kvs (z,y)<;>rfl
      rw[this];exact kk _ _ H3 G3 p3 ((w1.trans w2).trans w3) (.int _)
     .exact p3.elim
    .exact p2.elim
  .exact p1.elim
noncomputable def qB (i:Nat)(tk te:DT):fU:=λE ρ=>match aV ρ i with
 | some (.o (.dct kvs))=>te (de ρ) λb=>match b.val with
  | .int v=>tk (de ρ) λb1=>match b1.val with
   | .tup [.int z,.int y]=>kvs.length<sizeLine/\E.nx (dput ρ i (.o (.dct (putD kvs (z,y) v))))
   | _=>False
  | _=>False
 | _=>False
theorem sQ {n:Nat}(hr:cH n X.A)(hN:X.N[i]?=some x)(hv:rV X.env.scope x)(hk:DE X k tk)(he:DE X e te)(hd:autoParam ((x == ("__debug__" : Str))=false) aZb._auto_1)(hcd:autoParam ((x == ("__classdict__" : Str))=false) aZb._auto_1)
    (ha:autoParam (∀v,assign (.Subscript (.Name x px) k tpos) X.env v=(do
      let ov <-holding [v] (eval (.Name x px) X.env)
      let iv <-holding [v,ov] (eval k X.env)
      standAt tpos
      holding [v,ov,iv] (setItem ov iv v)
      release [v,ov,iv] [])) aZc._auto_1)
    (hs:autoParam (swapsWithSole [.Subscript (.Name x px) k tpos] e pos.line X.env=pure false) aZa._auto_1) (hw:autoParam (swappedStores [.Subscript (.Name x px) k tpos] e X.env=pure none) aZa._auto_1)
    (h0:autoParam ((assignEach [.Subscript (.Name x px) k tpos] X.env).map (·.2) = [assign (.Subscript (.Name x px) k tpos) X.env]) aZa._auto_1) :
    DS X (.Assign [.Subscript (.Name x px) k tpos] e pos) (qB i tk te):=DS.mk λH0 G0 =>
  PS.imp (nZ he.pe (rm (cM hN hv hd hcd) hk.pe (set_dict (kC hr)) ha) hs hw h0)<|by
    rintro Dn σ H ⟨E,G,ρ,eo,w,en,h⟩;unfold qB at h;split at h
    · rename_i kvs q;obtain ⟨a,ha1,ha2,ha3,ha4⟩:=en.o i _ q;have ha4:H a=some (.dT (encD kvs)):=ha4;obtain ⟨G1,w1,sg,en1⟩:=en.freeze w;refine ⟨G1,de ρ,_,w1.gh,en1.p,h,λb v H' G' p' w' r'=>?_⟩;split at p'
      · rename_i vv ev;have hvv:=dg w' r' ev;subst hvv;refine ⟨.ref a,ha1,G',de ρ,_,w'.gh,dM.mono w'.gg en1.p,p',λb1 v1 H1 G1' p1 w1' r1=>?_⟩;obtain ⟨G2,w2,r2⟩:=r1.give w1';split at p1
        · rename_i z y ez;rw[ez] at r2;obtain ⟨hl,p1⟩:=p1;obtain ⟨c,rfl,hc⟩:=C9 r2;have s2:ar H H1:=w'.hh.trans w2.hh;have e2:H1 a=some (.dT (encD kvs)):=s2 _ _ ha4;refine ⟨a,c,encD kvs,k2 (z,y),rfl,rfl,e2,.inl (.inl (w2.gh _ _ hc)),.inr (w2.gh _ _ hc),by rw[ki];exact hl,?_⟩;rw[n6];have wb:Wd H0 G0 H1 G:=⟨w.hh.trans s2,w.gg,w.gh.trans s2,w.old⟩
          exact eo.nx σ _ G _ (wb.own ha2 ha3) ((en.back s2).Bp q ha1 ⟨ha3,aE⟩) p1
        · exact p1.elim
      · exact p'.elim
    · exact h.elim
noncomputable def CT (K:Frag)(mg:Str->Option Kn)(x:Str)(i j:Int):Prop:=∃a,mg x=some (.ref a)/\∀H,gM K H a [.int i,.int j]
noncomputable def B9 (z y:Int)(te:DT):DT:=λρ Q=>te ρ λb=>match b.val with
 | .tup [.int z',.int y']=>Q (.p (.bl (decide (z'=z/\y'=y))))
 | _=>False
theorem Cq {K:Frag}{c:Addr}{z y:Int}(hc:∀H,gM K H c [.int z,.int y])(σ:St)(H:Hp)(Q:VK):cE K (B9 z y te) σ H Q->FY (HM K) (cE K te) (tC (.ref c)) σ H Q:=by
 rintro ⟨G,ρ,P,s,re,h,kk⟩;refine ⟨G,ρ,_,s,re,h,λb v H1 G1 p1 w1 r1=>?_⟩;obtain ⟨G2,w2,r2⟩:=r1.give w1;split at p1
 .rename_i z' y' ez;rw[ez] at r2;obtain ⟨d,rfl,hd⟩:=mR r2;refine ⟨d,c,k2 (z',y'),k2 (z,y),rfl,rfl,aq w2.gh hd,hc H1,?_⟩;have e:decide (k2 (z',y')=k2 (z,y))=decide (z'=z/\y'=y):=by
   rw[decide_eq_decide,jF,Prod.mk.injEq]
  rw[e];exact kk _ _ H1 G2 p1 w2 (.bl _)
 .exact p1.elim
theorem Aj {n:Nat}{z y:Int}(hr:cH n X.A)(he:DE X e te)(hB:CT X.K X.mg x z y)(hg:Gl X x)(hdb:autoParam ((x == ("__debug__" : Str))=false) aZb._auto_1):oY X (.Compare e [.Eq] [.Name x px] pos) (oJ (B9 z y te)):=by
 obtain ⟨c,hm,hc⟩:=hB;refine oY.of (xD (Fs (Nat.lt_of_succ_lt (kC hr))) he.pe (mS (v:=.ref c) hg hm rfl hdb) (aA _)) ?_;rintro σ H Q ⟨G,ρ,P,s,re,h,k⟩;refine Cq hc σ H _ ⟨G,ρ,_,s,re,h,λb v H1 G1 p1 w1 r1=>?_⟩;split at p1
 .rename_i c e;exact ⟨c,j3 w1 r1 e,k _ H1 G1 p1 w1⟩
 .exact p1.elim
noncomputable def wq (i j:Nat)(z y d:Int):fU:=λE ρ=>match aV ρ i with
 | some (.o (.dct kvs))=>i≠j/\E.nx (dput (dput ρ i (.o (.dct (j9 kvs (z,y))))) j (.p (.int ((aO kvs (z,y)).getD d))))
 | _=>False
theorem vd {kvs:bY}{k:Int×Int}(h:aO kvs k=none):j9 kvs k=kvs:=by
 unfold j9;rw[List.filter_eq_self];intro p hp;rw[decide_eq_true_eq];intro e;unfold aO at h;rw[Option.map_eq_none_iff,List.find?_eq_none] at h;exact h p hp (by rw[decide_eq_true_eq];exact e)
theorem wJ {n:Nat}{z y' d:Int}{jj:Nat}{b:Str}{pb pc:Pos}(hr:cH n X.A)(hN:X.N.Nodup)(hj:X.N[j]?=some y)(hy:Loc X.env.scope y)(hi:X.N[i]?=some x)(hv:rV X.env.scope x)(hB:CT X.K X.mg b z y')(hg:Gl X b)
  (m:M2 X (.Name x px) "pop" apos (.Name b pb) (.Constant (.int d) jj pc) cpos) (hdb:autoParam ((b == ("__debug__" : Str))=false) aZb._auto_1) (hd:autoParam ((x == ("__debug__" : Str))=false) aZb._auto_1) (hcd:autoParam ((x == ("__classdict__" : Str))=false) aZb._auto_1)
  (hs:autoParam (swapsWith (.Call (.Attribute (.Name x px) "pop" apos) [.Name b pb,.Constant (.int d) jj pc] [] cpos) (some (.Name y py)) pos.line X.env=pure false) aZa._auto_1) (hf:autoParam (X.fn y=true\/X.env.scope.names.lookup y=some .local) aZd._auto_1) :
  DS X (.Assign [.Name y py] (.Call (.Attribute (.Name x px) "pop" apos) [.Name b pb,.Constant (.int d) jj pc] [] cpos) pos) (wq i j z y' d):=by
 obtain ⟨c,hm,hc⟩:=hB;refine DS.mk λH0 G0=>PS.imp (jL hN hj hy (A5 (kC hr) (cM hi hv hd hcd) (mS (v:=.ref c) hg hm rfl hdb) A3 m) hs hf) ?_;rintro Dn σ H ⟨E,G,ρ,eo,w,en,h⟩;unfold wq at h;split at h
 .rename_i kvs q;obtain ⟨hij,h⟩:=h;obtain ⟨a,ha1,ha2,ha3,ha4⟩:=en.o i _ q;have ha4:H a=some (.dT (encD kvs)):=ha4;refine ⟨.ref a,ha1,a,rfl,.inr ⟨_,.inl ha4⟩,encD kvs,k2 (z,y'),c,ha4,rfl,hc H,λv hv=>?_,λhv=>?_⟩
  .rw[gL] at hv;cases ev:aO kvs (z,y') with
   | none=>rw[ev] at hv;cases hv
   | some v' =>
    rw[ev] at hv h;cases hv;rw[yi];exact eo.nx _ _ G _ (w.own ha2 ha3) ((en.Bp q ha1 ⟨ha3,aE⟩).rB j (.int v')) h
  .rw[gL] at hv;cases ev:aO kvs (z,y') with
   | some v'=>rw[ev] at hv;cases hv
   | none =>
    rw[ev] at h;rw[vd ev] at h;have e2:=en.Bp (ob:=.dT (encD kvs)) (d':=.dct kvs) q ha1 ⟨ha3,aE⟩;have eu:upd H a (.dT (encD kvs))=H:=by
     funext c'
     unfold upd;split
     .rename_i ec;rw[ec,ha4]
     .rfl
    rw[eu] at e2;exact eo.nx _ _ G _ w (e2.rB j (.int d)) h
 .exact h.elim
end
end DL
namespace L2
open PySem PySem.Spec PyProof.Rows
section
variable {prog:KP} {w:K7} {A:K1} {E:Kn->Kp->Prop} {s:Kp}
variable {h₀:Heap} {L:Addr} {m:Str->Option Kn} {news:List (Addr×Obj)} {b:Bool}
end
end L2
namespace L2
open PySem PySem.Spec PyProof.Rows PySem.W
noncomputable def TabAt (H:Hp)(P:Addr)(q:Str):Prop:=∃qs t,H P=some (.tbl qs)/\qs[0]?=some (.str q t)
theorem TabAt.un {fs ex:List Addr}{H H':Hp}{h h':Heap}{P:Addr}{q:Str}(u:Un fs ex H H' h h')(x:TabAt H P q):TabAt H' P q:=by
 obtain ⟨qs,t,e,e2⟩:=x;obtain ⟨more,e3⟩:=u.oB P qs e;refine ⟨_,t,e3,?_⟩;have hl:0<qs.size:=by
  rcases Nat.eq_zero_or_pos qs.size with z | z
  .rw[Array.getElem?_eq_none (by lia)] at e2;cases e2
  .exact z
 rw[Array.getElem?_append_left hl];exact e2
theorem md {a b:Int}{t u:Tok}{c:Kn}:∀{l:List Kn},TriplesOk l->TriplesOk (l++[.int a t,.int b u,c])
 | [],_=>trivial
 | .int _ _::.int _ _::_::rest,h=>md (l:=rest) h
theorem o7 {p:Pos}{a b:Int}{t u:Tok}{c cv:Kn}:∀{l:List Kn},TriplesOk l->codeAmong p (l++[.int a t,.int b u,c])=some cv->codeAmong p l=some cv\/cv=c
 | [],_,h=>by
  simp only[List.nil_append,codeAmong] at h;split at h
  .exact .inr (Option.some.inj h).symm
  .cases h
 | .int x _::.int y _::d::rest,ht,h=>by
  simp only[List.cons_append,codeAmong] at h ⊢;split at h
  .rename_i hc;rw[if_pos hc];exact .inl h
  .rename_i hc;rw[if_neg hc];exact o7 (l:=rest) ht h
noncomputable def cc (mg:Str->Option Kn)(h:Heap):Prop:=∃bm ob,mg "__builtins__" = some (.ref bm)/\bm≠builtinsNs/\h.get? bm=some ob/\ob.cls=.type "module"/\ob.dict=some builtinsNs/\ob.data=.plain
section
variable {X:Cx} {pins:List (Addr×Obj)} {σ:St} {H:Hp} {s:Kp} {P c:Addr} {E:Kn->Kp->Prop} {Q:Kn->Kp->Prop}
theorem AG {params:Arguments}{body:Expr}{scope:Scope}{pos:Pos}{clos:List (Str×Addr)}(I:Inv X pins σ H s)(hcode:X.env.code=.ref c)(C:CodeHd X.base c P)(B:cc X.mg X.base)
  (hT:TabAt X.H₀ P (X.env.qual++"<lambda>")) (hcl:closureFor scope X.env=pure clos) (hdef:defaultsOf params X.env=([],[]))
  (h:∀f c' ctv pm h' tk H',Inv X pins σ H' { s with heap:=h',toks:=tk }->(H'=H\/(H c'=none/\H'=upd H c' (.own P)))->h'.get? f=some (kla_obj "<lambda>" (X.env.qual++"<lambda>") params body scope clos pm c' ctv)->H' f=none->s.heap.objs.size<=f ->
   h'.CodeRec (.ref c') (X.env.qual++"<lambda>")->Q (.ref f) { s with heap:=h',toks:=tk }) :
  wpAny (model X.prog X.w) X.A (eval (.Lambda params body scope pos) X.env) Q E s:=by
 obtain ⟨qs,t,hP,hq0⟩:=hT.un I.base;obtain ⟨tb,htb,htr,hcs⟩:=I.bG P _ hP;have hg:=I.mod.glob.keeps I.bk;have hgP:mainGlobals≠P:=λz=>by
  obtain ⟨o,es,ep,e,hd,_⟩:=hg;rw[z,htb] at e;cases e;cases hd
 obtain ⟨bm,ob,b1,b2,b3,b4,b5,b6⟩:=B;have b3':=I.bk _ _ b3;have hbP:bm≠P:=λz=>by rw[z,htb] at b3';cases b3';cases b4
 have hbG:bm≠mainGlobals:=λz=>by
  obtain ⟨o,es,ep,e,hd,_⟩:=hg;rw[z,e] at b3';cases b3';rw[hd] at b6;cases b6
 have hB:s.heap.BuiltinsAt X.mg P:=⟨bm,ob,b1,b2,hbG,hbP,b3',b4,b5,b6⟩
 refine kla_eval hdef ?_;cases hf:codeAmong pos tb.toList with
 | none =>
  refine kla_makeFunction hcl I.ok.glob hg hcode (C.keeps I.bk) htb htr hf hgP hB λc' ctv h' tk hx hge hlt hrec htb'=>?_;have hn:H c'=none:=I.bG.fresh hge;have hPc:P≠c':=bp hP hn;have keep:∀b o,b≠P->s.heap.get? b=some o->(h'.push (kla_obj "<lambda>" (X.env.qual++"<lambda>") params body scope clos ((X.mg "__name__").getD .none) c' ctv)).get? b=some o:=λb o hb e=>Kv _ (hx b o hb e);have neP:∀b,H b=none->b≠P:=λb e z=>by rw[z,hP] at e;cases e
  have hrec':=hrec.push (kla_obj "<lambda>" (X.env.qual++"<lambda>") params body scope clos ((X.mg "__name__").getD .none) c' ctv);have htb2:=Kv (kla_obj "<lambda>" (X.env.qual++"<lambda>") params body scope clos ((X.mg "__name__").getD .none) c' ctv) htb';have hown:upd H c' (.own P) P=some (.tbl qs):=by rw[au hPc];exact hP
  have nc:∀b u,H b=some u->upd H c' (.own P) b=some u:=λb u e=>by rw[au (bp e hn)];exact e
  have bG:jr X.prog X.w (upd H c' (.own P)) (h'.push (kla_obj "<lambda>" (X.env.qual++"<lambda>") params body scope clos ((X.mg "__name__").getD .none) c' ctv)):=λb u e=>by
   by_cases hb:b=c'
   .subst hb;rw[aE] at e;cases e;obtain ⟨c2,o2,vs2,t2,e2,g2,_⟩:=hrec';cases e2;exact ⟨_,g2⟩
   .rw[au hb] at e;by_cases hbP':b=P
    .subst hbP';rw[hP] at e;cases e;have el:(tb++#[rawInt pos.line,rawInt pos.col,Value.ref c']).toList=tb.toList++[rawInt pos.line,rawInt pos.col,Value.ref c']:=by simp
     refine ⟨_,htb2,by rw[el];exact md htr,λp cv z=>?_⟩;rw[el] at z;rcases o7 htr z with z | z
     .obtain ⟨d,q,u,r1,r2,r3,r4⟩:=hcs p cv z;refine ⟨d,q,u,r1,r2,nc _ _ r3,?_⟩;obtain ⟨d2,o2,vs2,t2,e2,g2,r5⟩:=r4;cases e2;exact ⟨d,o2,vs2,t2,rfl,keep _ _ (xl r3 hP (by intro z;cases z)) g2,r5⟩
     .exact ⟨c',_,t,z,hq0,aE,hrec'⟩
    .refine (I.bG b u e).dD (λd v hd g=>keep d v ?_ g) (λd q=>nc _ _ q) λd xs q=>nc _ _ q;rcases hd with rfl | hd
     .exact hbP'
     .exact xl hd hP (by intro z;cases z)
  have hfn:H h'.objs.size=none:=I.bG.fresh (Nat.le_trans hge (Nat.le_of_lt hlt));refine h h'.objs.size c' ctv _ _ tk (upd H c' (.own P)) (I.un (t':=tk) ⟨λb o e n _ _=>keep b o (neP b n) e,λb o e n _ _=>⟨o.slots,keep b o (neP b n) e⟩,λb o e n _=>?_,λb o e _=>?_,λb xs e=>nc _ _ e,λb o u e=>nc _ _ e,λb ps e=>⟨#[],by rw[nc _ _ e];simp⟩⟩ bG) (.inr ⟨hn,rfl⟩)
   (KZ _ rfl) ?_ (Nat.le_trans hge (Nat.le_of_lt hlt)) hrec'
  .rw[au (KR (KW (KG e) hge))];exact n
  .by_cases hb:b=P
   .subst hb;exact ⟨_,htb2⟩
   .exact ⟨_,keep b o hb e⟩
  .rw[au (Nat.ne_of_gt hlt)];exact hfn
 | some cv =>
  obtain ⟨c',q,u,rfl,r2,r3,r4⟩:=hcs pos cv hf;rw[hq0] at r2;cases r2;refine kla_makeFunctionHit hcl I.ok.glob hg hcode (C.keeps I.bk) htb htr hf hB λctv h' tk hk hsz=>?_;have keep:∀b o,s.heap.get? b=some o->(h'.push (kla_obj "<lambda>" (X.env.qual++"<lambda>") params body scope clos ((X.mg "__name__").getD .none) c' ctv)).get? b=some o:=λb o e=>Kv _ (hk b o e);exact h h'.objs.size c' ctv _ _ tk H (I.kept keep) (.inl rfl) (KZ _ rfl) (I.bG.fresh hsz) hsz (r4.keeps keep)
end
end L2
namespace L2
open PySem PySem.Spec PyProof.Rows PySem.W
section
variable {X:Cx} {pins:List (Addr×Obj)} {σ:St} {H:Hp} {s:Kp} {A:K1} {E:Kn->Kp->Prop} {Q:Kn->Kp->Prop}
end
end L2
namespace L2
open PySem PySem.Spec PyProof.Rows PySem.W
end L2
namespace L2
open PySem PySem.Spec PyProof.Rows PySem.W
section
variable {X:Cx} {pins:List (Addr×Obj)} {σ:St} {H:Hp} {s:Kp}
end
section
variable {X:Cx}
end
end L2
namespace L2
open PySem PySem.Spec PyProof.Rows PySem.W
theorem TabAt.same {H H':Hp}{P:Addr}{q:Str}(s:ar H H')(x:TabAt H P q):TabAt H' P q:=by
 obtain ⟨qs,t,e,e2⟩:=x;exact ⟨qs,t,s _ _ e,e2⟩
theorem PE.tab {X:Cx}{e:Expr}{t:TE}{P:Addr}{q:Str}(h:PE X e t)(hT:TabAt X.H₀ P q):PE X e (λσ H Q=>TabAt H P q->t σ H Q):=
 λpins s σ H Q I hw=>h pins s σ H Q I (hw (hT.un I.base))
structure Er (K:Frag)(x qual:Str)(st:Stmt)(f:Addr)(fd:FuncData)(P:Addr):Prop where
 ex:∃(oc:Kn) (od:Option Addr) (kV doc pm:Kn) (an:Option Addr) (c:Addr) (ct:Kn) (osl:Array (Option Kn)),
  fd=fnOf x qual (ba st) (aN st) (aj st) .none kV doc pm an (.ref c) ct/\K.lookup f=some ⟨oc,od,.func fd,osl⟩/\codeIn K (.ref c) qual=true/\codeHdIn K c P=true
theorem Cv {K:Frag}{x qual:Str}{st:Stmt}{f c P:Addr}{oc:Kn}{od an:Option Addr}{osl:Array (Option Kn)}{kV doc pm ct:Kn}(l:K.lookup f=some ⟨oc,od,.func (fnOf x qual (ba st) (aN st) (aj st) .none kV doc pm an (.ref c) ct),osl⟩)
  (h:codeIn K (.ref c) qual=true) (h2:codeHdIn K c P=true):Er K x qual st f (fnOf x qual (ba st) (aN st) (aj st) .none kV doc pm an (.ref c) ct) P:=⟨oc,od,kV,doc,pm,an,c,ct,osl,rfl,l,h,h2⟩
end L2
namespace DL
open PySem L2 PyProof.Rows PySem.W
noncomputable def mC (K:Frag)(P:Addr)(q:Str)(R:DR):Sp:=λvs H Q E=>TabAt H P q/\eP K R vs H Q E
section
variable {X:Cx} {e:Expr} {es:List Expr} {pos:Pos}
theorem u6 {x:Str}{k:Nat}{ps:List Str}{R:DR}{p:Pos}{t:ff}{P:Addr}{q:Str}(hT:TabAt X.H₀ P q)(F:Fn X.prog X.w X.K X.mg X.base x k ps (mC X.K P q R))(hr:cH k X.A)(hg:Gl X x)(ha:DA X (e::es) t)
  (hdb:autoParam ((x == ("__debug__" : Str))=false) aZb._auto_1) (he:autoParam (starEach (e::es) X.env=(false,eval e X.env)::starEach es X.env) aZa._auto_1) (hpl:autoParam ((backTo pos (starEach es X.env)).any (·.1)=false) aZa._auto_1) :
  DE X (.Call (.Name x p) (e::es) [] pos) (su R t):=
 DE.of ((Ea F hr hg ha.pa hdb he hpl).tab hT)<|by
  rintro σ H Q ⟨G,ρ,PP,s,re,h,k⟩ tb;refine ⟨G,ρ,_,s,re,h,λds vs H1 G1 p1 l1 w1 r1=>?_⟩;show mC X.K P q R (vs++[]) H1 Q E0;rw[append_nil];exact ⟨tb.same w1.hh,ds,G1,PP,w1.gh,r1,p1,pS k w1⟩
end
section
variable {P:KP} {w:K7} {K:Frag} {mg:Str->Option Kn} {base:Heap}
theorem Ht {x qual:Str}{st:Stmt}{f Pt:Addr}{q:Str}{fd:FuncData}{N ps:List Str}{k:Nat}{R:DR}(F:lP K x qual st f fd)(S:bj N ps (aj st))(len:∀ds Q,R ds Q->ds.length=ps.length)
  (hbody:∀(cdv:Kn) (A:K1) (outer:List Env) (s:Kp) (H:Hp) (E:XK),cH k (A.deeper (envOfC qual (aj st) s.heap.objs.size f cdv))->TabAt H Pt q ->
   ∃t,rY (qA iu P w K mg base N qual (aj st) f cdv A outer s H E).D9 (aN st) t/\∀ds Q,R ds Q->t { nx:=λ_=>Q (.p .non),rt:=Q } (dB N.length ds)):cL P w K mg base iu (k+1) f fd ps (mC K Pt q R):=by
 refine F.ok S (by rintro vs H Q E ⟨_,ds,G,P,s,r,h,_⟩;rw[Paired.length r];exact len ds P h) ?_;rintro cdv A outer s H vs Q E hr ⟨tb,ds,G,P,sg,r,h,k⟩;obtain ⟨t,h1,h2⟩:=hbody cdv A outer s H E hr tb;obtain ⟨e1,e2,e3⟩:=fz (K:=K) N.length r;refine ⟨_,h1.yN H G,_,G,_,?_,Wd.refl sg,aL.only e2 e1 (gG _ _),h2 ds P h⟩;exact ⟨λσ H' G' ρ w' _ p=>k _ _ H' G' p w' (show Rep K G' V.non D.non from .non),λσ H' G' ρ w' _ p=>p.elim,λσ H' G' ρ w' _ p=>p.elim,λb v H' G' w' r' p=>k b v H' G' p w' r'⟩
theorem Jq {x qual:Str}{st:Stmt}{f Pt:Addr}{q:Str}{fd:FuncData}{N ps:List Str}{k:Nat}{R:DR}(F:Er K x qual st f fd Pt)(S:bj N ps (aj st))(len:∀ds Q,R ds Q->ds.length=ps.length)
  (hbody:∀(c:Addr) (A:K1) (outer:List Env) (s:Kp) (H:Hp) (E:XK),cH k (A.deeper (envOfC qual (aj st) s.heap.objs.size f (.ref c)))->TabAt H Pt q->codeHdIn K c Pt=true ->
   ∃t,rY (qA iu P w K mg base N qual (aj st) f (.ref c) A outer s H E).D9 (aN st) t/\∀ds Q,R ds Q->t { nx:=λ_=>Q (.p .non),rt:=Q } (dB N.length ds)):cL P w K mg base iu (k+1) f fd ps (mC K Pt q R):=by
 obtain ⟨oc,od,kV,doc,pm,an,c,ct,osl,rfl,lk,hcd,hC⟩:=F.ex;refine D3 lk hcd S (by rintro vs H Q E ⟨_,ds,G,P,s,r,h,_⟩;rw[Paired.length r];exact len ds P h) ?_;rintro A outer s H vs Q E hr ⟨tb,ds,G,P,sg,r,h,k⟩;obtain ⟨t,h1,h2⟩:=hbody c A outer s H E hr tb hC;obtain ⟨e1,e2,e3⟩:=fz (K:=K) N.length r;refine ⟨_,(h1.yN H G).D9,_,G,_,?_,Wd.refl sg,aL.only e2 e1 (gG _ _),h2 ds P h⟩;exact ⟨λσ H' G' ρ w' _ p=>k _ _ H' G' p w' (show Rep K G' V.non D.non from .non),λσ H' G' ρ w' _ p=>p.elim,λσ H' G' ρ w' _ p=>p.elim,λb v H' G' w' r' p=>k b v H' G' p w' r'⟩
end
noncomputable def rH (K:Frag)(P:Addr)(q:Str):Sp:=λvs H Q E=>TabAt H P q/\HX K vs H Q E
theorem CK {P:KP}{w:K7}{K:Frag}{mg:Str->Option Kn}{base:Heap}{k:Nat}{f Pt:Addr}{q:Str}{fd:FuncData}{ps:List Str}(h:cL P w K mg base iu k f fd ps (mC K Pt q Bj)):cL P w K mg base iu k f fd ps (rH K Pt q):=
 h.imp λvs H Q E ⟨tb,a,ns,e,hs,hl,q⟩=>⟨tb,[.scr ns],H,λb=>b=.p (.bl true),ar.refl _,by rw[e];exact .cons (.scr hs) .nil,⟨ns,rfl,hl,rfl⟩,λb v H' G' hb w r=>by
  subst hb;have:v=.bl true:=Rep.uT r;rw[this];exact q H'⟩
end DL
namespace DL
open PySem PySem.Spec PyProof.Rows L2
noncomputable def jS (K:Frag)(Pt a:Addr)(qn:Str)(o:Obj)(xs:List V):Hp:=λb=>if b=Pt then some (.tbl #[.str qn 0]) else if b=a/\K.lookup a=none then some (.de o (.lst xs)) else none
theorem rM {K:Frag}{Pt a b:Addr}{qn:Str}{o:Obj}{xs:List V}(h1:b≠Pt)(h2:b≠a):jS K Pt a qn o xs b=none:=by
 unfold jS;rw[if_neg h1,if_neg λz=>h2 z.1]
theorem yx {P:KP}{w:K7}{K:Frag}{mg mb:Str->Option Kn}{k:Nat}{fa a Pt c:Addr}{qn:Str}{fd:FuncData}{x:Str}{s₁:Kp}{vs:List Kn}{ns:List Int}
  (KX:K.In s₁.heap) (hns:s₁.heap.Ns mainGlobals mg) (hb:s₁.heap.Ns builtinsNs mb) (hbb:∀x:Str,x≠"__name__"->mb x=bootBuiltins x) (hlim:s₁.heap.NoLimit) (hg:s₁.gens = #[]) (BM:cc mg s₁.heap)
  (hPt:s₁.heap.get? Pt=some (tabObj #[])) (hK:K.lookup Pt=none) (hC:PySem.W.codeHdIn K c Pt=true)
  (ha:s₁.heap.get? a=some { cls:=.type "list",data:=.seq vs.toArray }) (hi:IntsAre vs ns) (hl:ns.length<=63) (hr:cH k callerA)
  (F:∀base:Heap,K.In base->base.Ns mainGlobals mg->cc mg base->cL P w K mg base iu k fa fd [x] (rH K Pt qn)) (hbind:∀(s:Kp) (u:Kn),BindsTo s fd ⟨[u],[]⟩ [(x,u)]) :
  codeAny (model P w) callerA (.call (.ref fa) ⟨[.ref a],[]⟩) (λr s'=>r=.ok (.ret (.bool true))/\OldK s₁.heap s'.heap/\s'.os=s₁.os/\AllBare s'.gens) s₁:=by
 have rv:=ql hi;have lenV:=hi.length;have haP:a≠Pt:=λz=>by rw[z,hPt] at ha;cases ha
 generalize hH:jS K Pt a qn { cls:=.type "list",data:=.seq vs.toArray } (ns.map V.int)=H;have hHP:H Pt=some (.tbl #[.str qn 0]):=by rw[<-hH];unfold jS;rw[if_pos rfl]
 have hHo:∀b,b≠Pt->b≠a->H b=none:=λb h1 h2=>by rw[<-hH];exact rM h1 h2
 have hHa:H a=none/\(∃o,K.lookup a=some o)\/H a=some (.de { cls:=.type "list",data:=.seq vs.toArray } (.lst (ns.map V.int)))/\K.lookup a=none:=by
  rw[<-hH];unfold jS;rw[if_neg haP];cases q:K.lookup a with
  | none=>exact .inr ⟨by rw[if_pos ⟨rfl,rfl⟩],rfl⟩
  | some o=>exact .inl ⟨by rw[if_neg (λz=>nomatch z.2)],o,rfl⟩
 have small:ns.length<=sizeLine:=by rw[sizeLine_eq];lia
 have bG:jr P w H s₁.heap:=λb u e=>by
  by_cases h1:b=Pt
  .subst h1;rw[hHP] at e;cases e;exact ⟨#[],hPt,trivial,λpos cv z=>nomatch z⟩
  .by_cases h2:b=a
   .subst h2;rcases hHa with ⟨z,_⟩ | ⟨z,_⟩
    .rw[z] at e;cases e
    .rw[z] at e;cases e;exact ⟨ha,by rw[Ks];exact small,vs,_,rv,ha⟩
   .rw[hHo b h1 h2] at e;cases e
 have dictFree:∀{b:Addr} {o:Obj},s₁.heap.get? b=some o->o.cls≠.none->o.cls≠.type "list"->H b=none:=λ{b o} e d1 d2=>hHo b (λz=>by rw[z,hPt] at e;cases e;exact d1 rfl) (λz=>by rw[z,ha] at e;cases e;exact d2 rfl);have nsFree:∀{b:Addr} {m:Str->Option Kn},s₁.heap.Ns b m->(qS s₁.heap H).Ns b m:=λ{b m} ⟨o,es,ep,e,d,r⟩ =>
  ⟨o,es,ep,nI e (hHo b (λz=>by rw[z,hPt] at e;cases e;cases d) (λz=>by rw[z,ha] at e;cases e;cases d)),d,r⟩
 have hKb:K.In (qS s₁.heap H):=λb o e=>nI (KX b o e) (by
  by_cases h1:b=Pt
  .subst h1;rw[hK] at e;cases e
  .by_cases h2:b=a
   .subst h2;rcases hHa with ⟨z,_⟩ | ⟨_,z⟩
    .exact z
    .rw[z] at e;cases e
   .exact hHo b h1 h2)
 have hM:Mod K mg (qS s₁.heap H):=⟨hKb,nsFree hns,⟨mb,nsFree hb,hbb⟩,let ⟨mc,h1,h2⟩:=hlim;⟨mc,nsFree h1,h2⟩⟩
 have hB:cc mg (qS s₁.heap H):=by
  obtain ⟨bm,ob,b1,b2,b3,b4,b5,b6⟩:=BM;exact ⟨bm,ob,b1,b2,nI b3 (dictFree b3 (by rw[b4];intro z;cases z) (by rw[b4];decide)),b4,b5,b6⟩
 have e0:BL P w K mg (qS s₁.heap H) callerA [] s₁ H:=⟨rfl,hM,λb o e=>C4 e,Nat.le_of_eq (yp _ _),trivial,λb hb=>absurd (show b∈([]:List Addr) from hb) (by simp),bG,.of_eq hg⟩
 have hS:dc K H a (ns.map V.int):=by
  rcases hHa with ⟨_,o,z⟩ | ⟨z,_⟩
  .have e:=KX a o z;rw[ha] at e;cases e;exact .inr ⟨_,vs.toArray,_,z,rfl,rfl,rfl,by rw[KN,lenV];exact small,by simpa using rv⟩
  .exact .inl (.inr ⟨_,z⟩)
 refine codeAny_mono ((F _ hKb (nsFree hns) hB).run callerA [] s₁ H ⟨[.ref a],[]⟩ [.ref a] [.ref a] (λv _=>v=.bl true) (λ_ _ _=>False) hr e0 (hbind s₁ (.ref a)) (.cons rfl .nil) ⟨⟨_,0,hHP,rfl⟩,a,ns,rfl,hS,hl,λ_=>rfl⟩) λr s' h=>?_;cases r with
 | error e=>exact False.elim h
 | ok fl =>
  cases fl with
  | next=>exact False.elim h
  | brk=>exact False.elim h
  | cont=>exact False.elim h
  | ret u =>
   obtain ⟨v,H',os,bare,un,hok',r',q⟩:=h;have q':v=.bl true:=q;subst q';obtain rfl:u=Value.bool true:=r';refine ⟨rfl,⟨λb o e=>?_,λb o e=>un.there b o e (by simp)⟩,os,bare⟩;by_cases h1:b=Pt
   .subst h1;rw[hPt] at e;cases e;obtain ⟨more,e2⟩:=un.oB _ _ hHP;obtain ⟨tb,e3,_⟩:=hok' _ _ e2;refine .inr (.inl ⟨((codeHd_of_K KX hC).tab hPt).isCodeTable,rfl,#[],tb,rfl,?_⟩);rw[e3];simp
   .refine .inl ?_;cases q:H b with
    | none=>exact un.keep b o e q (by intro z;exact absurd (show b∈([]:List Addr) from z) (by simp)) (by simp)
    | some u =>
     by_cases h2:b=a
     .subst h2;rcases hHa with ⟨z,_⟩ | ⟨z,_⟩
      .rw[q] at z;cases z
      .obtain ⟨e2,_⟩:=hok' _ _ (un.oM _ _ _ z);rw[ha] at e;cases e;exact e2
     .rw[hHo b h1 h2] at q;cases q
theorem BH {l:PySem.W.OpenLaw}{k:Nat}{q:KP}{loose:List Str}{XP:(Str->Option Kn)->Heap->Prop}{YP:K7->Heap->Prop}{d:DefRec}{K:Params->Frag}{x qn:Str}{Pt:Addr}
  (hn:l.most=some 63) (hdf:d.params.defaults = []) (hr:cH k callerA) (hY:∀(w:K7) (h:Heap),YP w h->(K w.params).In h/\h.get? Pt=some (tabObj #[]))
  (F:∀(w:K7) (mg:Str->Option Kn) (fa:Addr) (h:Heap),(K w.params).In h->h.Ns mainGlobals mg->mg d.name=some (.ref fa) ->
   ∃(fd:FuncData) (c:Addr),(K w.params).lookup Pt=none/\PySem.W.codeHdIn (K w.params) c Pt=true/\(∀(s:Kp) (u:Kn),BindsTo s fd ⟨[u],[]⟩ [(x,u)]) /\
    ∀base:Heap,(K w.params).In base->base.Ns mainGlobals mg->cc mg base->cL l.prog w (K w.params) mg base iu k fa fd [x] (rH (K w.params) Pt qn)) :
  PySem.W.WalkO q loose XP YP l.row.toRowW d [] (λf vs=>PySem.call f vs):=by
 refine Att.rZ hn hdf λw s₀ s₁ mg mb fa o pm cd doc a vs ns G Y ho hd hcd hmg hobj hints hlen hg=>?_;obtain ⟨KX,hPt⟩:=hY w _ Y;obtain ⟨fd,c,hK,hC,hb,hF⟩:=F w mg fa _ KX G.T.g hmg;obtain ⟨bm,ob,b1,b2,b3,b4,b5,b6⟩:=G.T.bmain;exact yx KX G.T.g G.T.b G.T.builtins G.T.nolimit hg ⟨bm,ob,b1,b2,b3,b4,b5,b6⟩ hPt hK hC hobj hints hlen hr hF hb
end DL
namespace Tim
open PySem PyProof.Rows
theorem FK {α:Type}{R:α->α->Prop}:∀{l:List α},l.length=1->l.Pairwise R
 | [_],_=>List.pairwise_singleton _ _
theorem FN {α:Type}{R:α->α->Prop}:∀{l:List α},l.length<2->l.Pairwise R
 | [],_=>.nil
 | [_],_=>List.pairwise_singleton _ _
noncomputable def cK:Bool->Keyed->Array Keyed->Nat->Nat->Nat->StateT KI Sem (Option Nat):=sortPriv% PySem.Builtin.gallop
noncomputable def beyond (left:Bool)(key:Keyed)(arr:Array Keyed)(base:Nat)(i:Nat):StateT KI Sem (Option Bool):=do
  let x <-elem' arr (base+i)
  if left then lt' x key else return (<-lt' key x).map (!·)
noncomputable def qR (left:Bool)(key:Keyed)(arr:Array Keyed)(base n lo0 hi0:Nat):StateT KI Sem (Option Nat):=do
  let mut lo:=lo0
  let mut hi:=hi0
  for _ in [0:n] do
    if lo>=hi then break
    let m:=lo+(hi - lo) / 2
    let some more <-beyond left key arr base m | return none
    if more then lo:=m+1 else hi:=m
  return some hi
theorem vm (left:Bool)(key:Keyed)(arr:Array Keyed)(base n hint:Nat):cK left key arr base n hint=(do
  let mut lastofs:=0
  let mut ofs:=1
  let some right <-beyond left key arr base hint | return none
  if right then
    let maxofs:=n - hint
    for _ in [0:n] do
      if ofs>=maxofs then break
      let some more <-beyond left key arr base (hint+ofs) | return none
      if !more then break
      lastofs:=ofs
      ofs:=2*ofs+1
    qR left key arr base n (hint+lastofs+1) (hint+min ofs maxofs)
  else
    let maxofs:=hint+1
    for _ in [0:n] do
      if ofs>=maxofs then break
      let some found <-beyond left key arr base (hint - ofs) | return none
      if found then break
      lastofs:=ofs
      ofs:=2*ofs+1
    qR left key arr base n (hint+1 - min ofs maxofs) (hint - lastofs)):=rfl
section
variable {prog:KP} {w:K7} {A:K1} {E:Kn->Kp->Prop} {s:Kp}
theorem D6 {left:Bool}{key:Keyed}{arr:Array Keyed}{base n lo0 hi0:Nat}{st:KI}{Q:Option Nat->KI->Prop}(p:Nat->Bool)(mono:∀i j,i<=j->j<n->p j=true->p i=true)
  (hb:∀i,i<n->∀Q':Option Bool->KI->Prop,Q' (some (p i)) st->wpS (model prog w) A E s (beyond left key arr base i) Q' st)
  (h:∀k,k<=n->(∀i,i<k->p i=true)->(∀i,k<=i->i<n->p i=false)->Q (some k) st)
  (h1:lo0<=hi0) (h2:hi0<=n) (h3:∀i,i<lo0->p i=true) (h4:∀i,hi0<=i->i<n->p i=false) :
  wpS (model prog w) A E s (qR left key arr base n lo0 hi0) Q st:=by
 unfold qR;refine Kz (wpS_mono (wpS_forRange (I:=λx c st'=>st'=st/\∃lo hi,c=(none,lo,hi)/\lo<=hi/\hi<=n/\hi - lo<=n - x/\(∀i,i<lo->p i=true)/\∀i,hi<=i->i<n->p i=false)
  (Q:=λc st'=>st'=st/\∃k,c.1=none/\c.2.2=k/\k<=n/\(∀i,i<k->p i=true)/\∀i,k<=i->i<n->p i=false) ?step ?fin ⟨rfl,lo0,hi0,rfl,h1,h2,by lia,h3,h4⟩) ?post)
 case step =>
  rintro x c st' _ hx ⟨rfl,lo,hi,rfl,a1,a2,a3,a4,a5⟩;dsimp only;by_cases c:lo>=hi
  .rw[if_pos c];have:lo=hi:=by lia
   subst this;exact KD ⟨rfl,lo,rfl,rfl,a2,a4,a5⟩
  .rw[if_neg c];refine Kz (hb _ (by lia) _ ?_);dsimp only;cases hp:p (lo+(hi - lo) / 2) with
   | true =>
    simp only[if_true];exact KD ⟨rfl,_,_,rfl,by lia,a2,by lia,λi hi'=>mono i _ (by lia) (by lia) hp,a5⟩
   | false =>
    simp only[KL,if_false];refine KD ⟨rfl,_,_,rfl,by lia,by lia,by lia,a4,λi h5 h6=>?_⟩;cases hq:p i with
    | false=>rfl
    | true =>
     have:=mono _ i h5 h6 hq;rw[hp] at this;cases this
 case fin =>
  rintro c st' ⟨rfl,lo,hi,rfl,a1,a2,a3,a4,a5⟩;have:lo=hi:=by lia
  subst this;exact ⟨rfl,lo,rfl,rfl,a2,a4,a5⟩
 case post =>
  rintro c st' ⟨rfl,k,e1,e2,a2,a4,a5⟩;rw[e1];dsimp only;rw[e2];exact KD (h k a2 a4 a5)
theorem nH {left:Bool}{key:Keyed}{arr:Array Keyed}{base n hint:Nat}{st:KI}{Q:Option Nat->KI->Prop}(p:Nat->Bool)(hh:hint<n)(mono:∀i j,i<=j->j<n->p j=true->p i=true)
  (hb:∀i,i<n->∀Q':Option Bool->KI->Prop,Q' (some (p i)) st->wpS (model prog w) A E s (beyond left key arr base i) Q' st)
  (h:∀k,k<=n->(∀i,i<k->p i=true)->(∀i,k<=i->i<n->p i=false)->Q (some k) st):wpS (model prog w) A E s (cK left key arr base n hint) Q st:=by
 have anti:∀i j,i<=j->j<n->p i=false->p j=false:=λi j h1 h2 h3=>by
  cases hq:p j with
  | false=>rfl
  | true =>
   have:=mono i j h1 h2 hq;rw[h3] at this;cases this
 rw[vm];refine Kz (hb hint hh _ ?_);dsimp only;cases hp:p hint with
 | true =>
  simp only[if_true];refine Kz (wpS_mono (wpS_forRange (I:=λx c st'=>st'=st/\∃last ofs,c=(none,last,ofs)/\last<ofs/\x<ofs/\hint+last<n/\p (hint+last)=true)
   (Q:=λc st'=>st'=st/\∃last ofs,c=(none,last,ofs)/\last<ofs/\hint+last<n/\p (hint+last)=true/\(n - hint<=ofs\/(hint+ofs<n/\p (hint+ofs)=false))) ?step ?fin ⟨rfl,0,1,rfl,by lia,by lia,by lia,by rw[Nat.add_zero];exact hp⟩) ?post)
  case step =>
   rintro x c st' _ hx ⟨rfl,last,ofs,rfl,a1,a2,a3,a4⟩;dsimp only;by_cases c:ofs>=n - hint
   .rw[if_pos c];exact KD ⟨rfl,last,ofs,rfl,a1,a3,a4,.inl c⟩
   .rw[if_neg c];refine Kz (hb _ (by lia) _ ?_);dsimp only;cases hq:p (hint+ofs) with
    | true =>
     simp only[Bool.not_true,KL,if_false];exact KD ⟨rfl,ofs,_,rfl,by lia,by lia,by lia,hq⟩
    | false =>
     simp only[Bool.not_false,if_true];exact KD ⟨rfl,last,ofs,rfl,a1,a3,a4,.inr ⟨by lia,hq⟩⟩
  case fin =>
   rintro c st' ⟨rfl,last,ofs,rfl,a1,a2,a3,a4⟩;exact ⟨rfl,last,ofs,rfl,a1,a3,a4,.inl (by lia)⟩
  case post =>
   rintro c st' ⟨rfl,last,ofs,rfl,a1,a3,a4,a5⟩;dsimp only;refine D6 (lo0:=hint+last+1) (hi0:=hint+min ofs (n - hint)) p mono hb h (by lia) (by lia) (λi hi=>mono i (hint+last) (by lia) a3 a4) λi h5 h6=>?_;rcases a5 with z | ⟨z1,z2⟩
   .lia
   .exact anti (hint+ofs) i (by lia) h6 z2
 | false =>
  simp only[KL,if_false];refine Kz (wpS_mono (wpS_forRange (I:=λx c st'=>st'=st/\∃last ofs,c=(none,last,ofs)/\last<ofs/\x<ofs/\last<=hint/\p (hint - last)=false)
   (Q:=λc st'=>st'=st/\∃last ofs,c=(none,last,ofs)/\last<ofs/\last<=hint/\p (hint - last)=false/\(hint+1<=ofs\/(ofs<=hint/\p (hint - ofs)=true))) ?step ?fin ⟨rfl,0,1,rfl,by lia,by lia,by lia,by rw[Nat.sub_zero];exact hp⟩) ?post)
  case step =>
   rintro x c st' _ hx ⟨rfl,last,ofs,rfl,a1,a2,a3,a4⟩;dsimp only;by_cases c:ofs>=hint+1
   .rw[if_pos c];exact KD ⟨rfl,last,ofs,rfl,a1,a3,a4,.inl c⟩
   .rw[if_neg c];refine Kz (hb _ (by lia) _ ?_);dsimp only;cases hq:p (hint - ofs) with
    | true =>
     simp only[if_true];exact KD ⟨rfl,last,ofs,rfl,a1,a3,a4,.inr ⟨by lia,hq⟩⟩
    | false =>
     simp only[KL,if_false];exact KD ⟨rfl,ofs,_,rfl,by lia,by lia,by lia,hq⟩
  case fin =>
   rintro c st' ⟨rfl,last,ofs,rfl,a1,a2,a3,a4⟩;exact ⟨rfl,last,ofs,rfl,a1,a3,a4,.inl (by lia)⟩
  case post =>
   rintro c st' ⟨rfl,last,ofs,rfl,a1,a3,a4,a5⟩;dsimp only;refine D6 (lo0:=hint+1 - min ofs (hint+1)) (hi0:=hint - last) p mono hb h (by lia) (by lia) (λi hi=>?_) λi h5 h6=>anti (hint - last) i (by lia) h6 a4;rcases a5 with z | ⟨z1,z2⟩
   .lia
   .exact mono i (hint - ofs) (by lia) (by lia) z2
end
end Tim
namespace Tim
open PySem PyProof.Rows
noncomputable def bB:Nat->StateT KI Sem Unit:=sortPriv% PySem.Builtin.setMinGallop
noncomputable def kE:Array Keyed->Array Keyed->StateT KI Sem (Array Keyed):=sortPriv% PySem.Builtin.mergeLo
noncomputable def setG (st:KI)(g:Nat):KI:=SortSt.mk' (kindOf st) (arrOf st) (pendingOf st) g (failedOf st)
theorem cZ (g:Nat):bB g=modify λs=>setG s g:=rfl
noncomputable def dG (a b out:Array Keyed)(ia ib:Nat):Array Keyed:=out++a.extract ia a.size++b.extract ib b.size
noncomputable def iH (a b out:Array Keyed)(ia ib:Nat):Array Keyed:=out++b.extract ib b.size++a.extract ia a.size
theorem qY (a b:Array Keyed):kE a b=(do
  rule "list.sort.merge-lo"
  let total:=a.size+b.size
  let mut out:Array Keyed:=#[<-elem' b 0]
  let mut ia:=0
  let mut ib:=1
  if ib == b.size then return dG a b out ia ib
  if ia+1 == a.size then return iH a b out ia ib
  let mut minGallop:=gallopOf (<-get)
  for _ in [0:total] do
    let mut acount:=0
    let mut bcount:=0
    for _ in [0:total] do
      let some bWins <-lt' (<-elem' b ib) (<-elem' a ia) | return dG a b out ia ib
      if bWins then
        out:=out.push (<-elem' b ib);ib:=ib+1;bcount:=bcount+1;acount:=0
        if ib == b.size then return dG a b out ia ib
        if bcount>=minGallop then break
      else
        out:=out.push (<-elem' a ia);ia:=ia+1;acount:=acount+1;bcount:=0
        if ia+1 == a.size then return iH a b out ia ib
        if acount>=minGallop then break
    rule "list.sort.gallop"
    minGallop:=minGallop+1
    for _ in [0:total] do
      if minGallop>1 then minGallop:=minGallop - 1
      bB minGallop
      let some k <-cK false (<-elem' b ib) a ia (a.size - ia) 0 | return dG a b out ia ib
      acount:=k
      if k>0 then
        out:=out++a.extract ia (ia+k);ia:=ia+k
        if ia+1 == a.size then return iH a b out ia ib
        if ia == a.size then return dG a b out ia ib
      out:=out.push (<-elem' b ib);ib:=ib+1
      if ib == b.size then return dG a b out ia ib
      let some k <-cK true (<-elem' a ia) b ib (b.size - ib) 0 | return dG a b out ia ib
      bcount:=k
      if k>0 then
        out:=out++b.extract ib (ib+k);ib:=ib+k
        if ib == b.size then return dG a b out ia ib
      out:=out.push (<-elem' a ia);ia:=ia+1
      if ia+1 == a.size then return iH a b out ia ib
      if acount<7 && bcount<7 then break
    minGallop:=minGallop+1
    bB minGallop
  unsupported "internal:list.sort.merge-bound"):=rfl
structure Ord (Dm:Keyed->Prop)(R:Keyed->Keyed->Bool):Prop where
 tr:∀x y z,Dm x->Dm y->Dm z->R y x=false->R z y=false->R z x=false
 DM:∀x y,Dm x->Dm y->R x y=true->R y x=false
noncomputable def fA (R:Keyed->Keyed->Bool)(l:List Keyed):Prop:=l.Pairwise λx y=>R y x=false
structure MI (R:Keyed->Keyed->Bool)(la lb:List Keyed)(out:List Keyed)(ia ib:Nat):Prop where
 perm:out.Perm (la.take ia++lb.take ib)
 FV:fA R out
 GK:∀x∈out,∀y∈la.drop ia++lb.drop ib,R y x=false
section
variable {R:Keyed->Keyed->Bool} {la lb out:List Keyed} {ia ib:Nat}
theorem iW (l:List Keyed)(i k:Nat):l.take (i+k)=l.take i++(l.drop i).take k:=by rw[List.take_add]
theorem MI.vK (M:MI R la lb out ia ib)(k:Nat)(hs:fA R la)(hc:∀x∈(la.drop ia).take k,∀y∈lb.drop ib,R y x=false):MI R la lb (out++(la.drop ia).take k) (ia+k) ib:=by
 have hd:fA R (la.drop ia):=List.Pairwise.sublist (List.drop_sublist _ _) hs;have hsplit:(la.drop ia)=(la.drop ia).take k++la.drop (ia+k):=by rw[<-List.drop_drop,take_append_drop]
 refine ⟨?_,?_,?_⟩
 .rw[iW];have:=M.perm.append_right ((la.drop ia).take k);refine this.trans ?_;rw[Lg,Lg];exact List.Perm.append_left _ perm_append_comm
 .refine pairwise_append.mpr ⟨M.FV,List.Pairwise.sublist (List.take_sublist _ _) hd,λx hx y hy=>M.GK x hx y (mem_append_left _ (mem_of_mem_take hy))⟩
 .intro x hx y hy;rcases Lf.mp hx with z | z
  .refine M.GK x z y ?_;rcases Lf.mp hy with u | u
   .rw[<-List.drop_drop] at u;exact mem_append_left _ (mem_of_mem_drop u)
   .exact mem_append_right _ u
  .rcases Lf.mp hy with u | u
   .unfold fA at hd;rw[hsplit] at hd;exact (pairwise_append.mp hd).2.2 x z y u
   .exact hc x z y u
theorem MI.vL (M:MI R la lb out ia ib)(k:Nat)(hs:fA R lb)(hc:∀x∈(lb.drop ib).take k,∀y∈la.drop ia,R y x=false):MI R la lb (out++(lb.drop ib).take k) ia (ib+k):=by
 have hd:fA R (lb.drop ib):=List.Pairwise.sublist (List.drop_sublist _ _) hs;have hsplit:(lb.drop ib)=(lb.drop ib).take k++lb.drop (ib+k):=by rw[<-List.drop_drop,take_append_drop]
 refine ⟨?_,?_,?_⟩
 .rw[iW,<-Lg];exact M.perm.append_right _
 .refine pairwise_append.mpr ⟨M.FV,List.Pairwise.sublist (List.take_sublist _ _) hd,λx hx y hy=>M.GK x hx y (mem_append_right _ (mem_of_mem_take hy))⟩
 .intro x hx y hy;rcases Lf.mp hx with z | z
  .refine M.GK x z y ?_;rcases Lf.mp hy with u | u
   .exact mem_append_left _ u
   .rw[<-List.drop_drop] at u;exact mem_append_right _ (mem_of_mem_drop u)
  .rcases Lf.mp hy with u | u
   .exact hc x z y u
   .unfold fA at hd;rw[hsplit] at hd;exact (pairwise_append.mp hd).2.2 x z y u
theorem MI.fin (M:MI R la lb out ia ib){r:List Keyed}(hp:r.Perm (la.drop ia++lb.drop ib))(hs:fA R r):(out++r).Perm (la++lb)/\fA R (out++r):=by
 constructor
 .refine (M.perm.append hp).trans ?_;have e:la++lb=(la.take ia++la.drop ia)++(lb.take ib++lb.drop ib):=by rw[take_append_drop,take_append_drop]
  rw[e,Lg,Lg];refine List.Perm.append_left _ ?_;rw[<-Lg,<-Lg];exact List.Perm.append_right _ perm_append_comm
 .exact pairwise_append.mpr ⟨M.FV,hs,λx hx y hy=>M.GK x hx y (hp.mem_iff.mp hy)⟩
end
noncomputable def Good (R:Keyed->Keyed->Bool)(a b out:Array Keyed):Prop:=out.toList.Perm (a.toList++b.toList)/\fA R out.toList
section
variable {R:Keyed->Keyed->Bool} {a b out:Array Keyed} {ia ib:Nat}
theorem gm (a:Array Keyed)(i j:Nat):(a.extract i j).toList=(a.toList.drop i).take (j - i):=by rw[Array.toList_extract,List.extract_eq_take_drop]
theorem ja (a:Array Keyed)(i:Nat):(a.extract i a.size).toList=a.toList.drop i:=by
 rw[gm,take_of_length_le];rw[Li,KH];exact Ku _
theorem MI.wI (M:MI R a.toList b.toList out.toList ia ib)(ha:fA R a.toList)(h:b.size<=ib):Good R a b (dG a b out ia ib):=by
 have e:b.toList.drop ib = []:=List.drop_eq_nil_of_le (by rw[KH];exact h);have:=M.fin (r:=a.toList.drop ia) (by rw[e,append_nil]) (List.Pairwise.sublist (List.drop_sublist _ _) ha);unfold Good dG;rw[Array.toList_append,Array.toList_append,ja,ja,e,append_nil];exact this
theorem MI.GV (M:MI R a.toList b.toList out.toList ia ib)(hb:fA R b.toList)(h:a.size<=ia):Good R a b (dG a b out ia ib):=by
 have e:a.toList.drop ia = []:=List.drop_eq_nil_of_le (by rw[KH];exact h);have:=M.fin (r:=b.toList.drop ib) (by rw[e,List.nil_append]) (List.Pairwise.sublist (List.drop_sublist _ _) hb);unfold Good dG;rw[Array.toList_append,Array.toList_append,ja,ja,e,append_nil];exact this
theorem MI.last (M:MI R a.toList b.toList out.toList ia ib)(hb:fA R b.toList)(h:ia+1=a.size)(hz:∀y∈b.toList,∀z∈a.toList.drop (a.size - 1),R z y=false):Good R a b (iH a b out ia ib):=by
 have hia:ia=a.size - 1:=by lia
 have hl:(a.toList.drop ia).length=1:=by rw[Li,KH];lia
 have hs1:fA R (a.toList.drop ia):=FK hl;have:=M.fin (r:=b.toList.drop ib++a.toList.drop ia) perm_append_comm (pairwise_append.mpr ⟨List.Pairwise.sublist (List.drop_sublist _ _) hb,hs1,λx hx y hy=>hz x (mem_of_mem_drop hx) y (by rw[<-hia];exact hy)⟩);unfold Good iH;rw[Array.toList_append,Array.toList_append,ja,ja,Lg];exact this
end
end Tim
namespace Tim
open PySem PyProof.Rows
section
variable {Dm:Keyed->Prop} {R:Keyed->Keyed->Bool}
theorem Ord.Je (o:Ord Dm R){x:Keyed}(d:Dm x):R x x=false:=by
 cases h:R x x with
 | false=>rfl
 | true=>exact h.symm.trans (o.DM x x d d h)
theorem eU {l:List Keyed}{i:Nat}{y:Keyed}(h:y∈l.drop i):∃j,i<=j/\l[j]?=some y:=by
 obtain ⟨n,hn,e⟩:=List.mem_iff_getElem.mp h;refine ⟨i+n,Nat.le_add_right _ _,?_⟩;rw[<-e,List.getElem_drop];rw[Li] at hn;exact Kt (by lia)
theorem bJ {l:List Keyed}{i k:Nat}{y:Keyed}(h:y∈(l.drop i).take k):∃j,j<k/\l[i+j]?=some y:=by
 obtain ⟨n,hn,e⟩:=List.mem_iff_getElem.mp h;rw[KO,Li] at hn;refine ⟨n,by lia,?_⟩;rw[<-e,List.getElem_take,List.getElem_drop];exact Kt (by lia)
theorem fA.le (o:Ord Dm R){l:List Keyed}(hs:fA R l)(d:∀x∈l,Dm x){i j:Nat}{x y:Keyed}(h:i<=j)(ex:l[i]?=some x)(ey:l[j]?=some y):R y x=false:=by
 by_cases e:i=j
 .subst e;rw[ex] at ey;cases ey;exact o.Je (d x (KC ex))
 .obtain ⟨h1,e1⟩:=Kw.mp ex;obtain ⟨h2,e2⟩:=Kw.mp ey;have:=pairwise_iff_getElem.mp hs i j h1 h2 (by lia);rw[e1,e2] at this;exact this
structure Pre (Dm:Keyed->Prop)(R:Keyed->Keyed->Bool)(a b:Array Keyed):Prop where
 o:Ord Dm R
 da:∀x∈a.toList,Dm x
 db:∀x∈b.toList,Dm x
 sa:fA R a.toList
 sb:fA R b.toList
 fst:∀x∈a.toList,∀y,b[0]?=some y->R y x=true
 lst:∀y∈b.toList,∀z,a[a.size - 1]?=some z->R y z=true
 na:0<a.size
 nb:0<b.size
variable {a b out:Array Keyed} {ia ib:Nat} {x y:Keyed}
noncomputable abbrev ML (R:Keyed->Keyed->Bool)(a b out:Array Keyed)(ia ib:Nat):Prop:=MI R a.toList b.toList out.toList ia ib
theorem vQ {a:Array Keyed}{i:Nat}{x:Keyed}(h:a[i]?=some x):a.toList[i]?=some x:=by rw[Kx];exact h
theorem Pre.Be (P:Pre Dm R a b)(M:ML R a b out ia ib)(hy:b[ib]?=some y)(h:∀j x,ia<=j->a[j]?=some x->R y x=true):ML R a b (out.push y) ia (ib+1):=by
 have e:(b.toList.drop ib).take 1 = [y]:=by
  have:=vQ hy;obtain ⟨h1,e1⟩:=Kw.mp this;rw[drop_eq_getElem_cons h1,e1];rfl
 have:=M.vL 1 P.sb λz hz u hu=>by
  rw[e] at hz;cases mem_singleton.mp hz;obtain ⟨j,h1,h2⟩:=eU hu;rw[Kx] at h2;exact P.o.DM _ _ (P.db _ (KC (vQ hy))) (P.da _ (mem_of_mem_drop hu)) (h j u h1 h2)
 rw[e] at this;unfold ML;rw[Array.toList_push];exact this
theorem Pre.Ec (P:Pre Dm R a b)(M:ML R a b out ia ib)(hx:a[ia]?=some x)(h:∀j y,ib<=j->b[j]?=some y->R y x=false):ML R a b (out.push x) (ia+1) ib:=by
 have e:(a.toList.drop ia).take 1 = [x]:=by
  have:=vQ hx;obtain ⟨h1,e1⟩:=Kw.mp this;rw[drop_eq_getElem_cons h1,e1];rfl
 have:=M.vK 1 P.sa λz hz u hu=>by
  rw[e] at hz;cases mem_singleton.mp hz;obtain ⟨j,h1,h2⟩:=eU hu;rw[Kx] at h2;exact h j u h1 h2
 rw[e] at this;unfold ML;rw[Array.toList_push];exact this
theorem Pre.Da (P:Pre Dm R a b){i:Nat}(h:a[i]?=some x):Dm x:=P.da _ (KC (vQ h))
theorem Pre.Db (P:Pre Dm R a b){i:Nat}(h:b[i]?=some x):Dm x:=P.db _ (KC (vQ h))
theorem Pre.J2 (P:Pre Dm R a b){i j:Nat}(h:i<=j)(hx:a[i]?=some x)(hy:a[j]?=some y):R y x=false:=P.sa.le P.o P.da h (vQ hx) (vQ hy)
theorem Pre.leB (P:Pre Dm R a b){i j:Nat}(h:i<=j)(hx:b[i]?=some x)(hy:b[j]?=some y):R y x=false:=P.sb.le P.o P.db h (vQ hx) (vQ hy)
theorem Pre.J7 (P:Pre Dm R a b){i j:Nat}{z:Keyed}(dy:Dm y)(h:i<=j)(hx:a[i]?=some x)(hz:a[j]?=some z)(hl:R y x=true):R y z=true:=by
 cases q:R y z with
 | true=>rfl
 | false =>
  have:=P.o.tr x z y (P.Da hx) (P.Da hz) dy (P.J2 h hx hz) q;rw[hl] at this;cases this
theorem Pre.JQ (P:Pre Dm R a b){i j:Nat}{z:Keyed}(dx:Dm x)(h:i<=j)(hy:b[i]?=some y)(hz:b[j]?=some z)(hl:R y x=false):R z x=false:=
 P.o.tr x y z dx (P.Db hy) (P.Db hz) hl (P.leB h hy hz)
theorem Pre.Ir (P:Pre Dm R a b){i j:Nat}{z:Keyed}(dy:Dm y)(h:i<=j)(hx:a[i]?=some x)(hz:a[j]?=some z)(hl:R y z=false):R y x=false:=
 P.o.tr x z y (P.Da hx) (P.Da hz) dy (P.J2 h hx hz) hl
theorem Pre.J1 (P:Pre Dm R a b){i j:Nat}{z:Keyed}(dx:Dm x)(h:i<=j)(hy:b[i]?=some y)(hz:b[j]?=some z)(hl:R z x=true):R y x=true:=by
 cases q:R y x with
 | true=>rfl
 | false =>
  have:=P.JQ dx h hy hz q;rw[hl] at this;cases this
theorem Pre.cD (P:Pre Dm R a b)(M:ML R a b out ia ib)(hx:a[ia]?=some x)(hy:b[ib]?=some y)(h:R y x=true):ML R a b (out.push y) ia (ib+1):=
 P.Be M hy λj z h1 h2=>P.J7 (P.Db hy) h1 hx h2 h
theorem Pre.HY (P:Pre Dm R a b)(M:ML R a b out ia ib)(hx:a[ia]?=some x)(hy:b[ib]?=some y)(h:R y x=false):ML R a b (out.push x) (ia+1) ib:=
 P.Ec M hx λj z h1 h2=>P.JQ (P.Da hx) h1 hy h2 h
theorem Pre.JB (P:Pre Dm R a b)(M:ML R a b out ia ib)(k:Nat)(hy:b[ib]?=some y)(h:∀i x,i<k->a[ia+i]?=some x->R y x=false):ML R a b (out++a.extract ia (ia+k)) (ia+k) ib:=by
 have:=M.vK k P.sa λz hz u hu=>by
  obtain ⟨j,h1,h2⟩:=eU hu;obtain ⟨i,h3,h4⟩:=bJ hz;rw[Kx] at h2 h4;exact P.JQ (P.Da h4) h1 hy h2 (h i z h3 h4)
 unfold ML;rw[Array.toList_append,gm,show ia+k - ia=k by lia];exact this
theorem Pre.JC (P:Pre Dm R a b)(M:ML R a b out ia ib)(k:Nat)(hx:a[ia]?=some x)(h:∀i y,i<k->b[ib+i]?=some y->R y x=true):ML R a b (out++b.extract ib (ib+k)) ia (ib+k):=by
 have:=M.vL k P.sb λz hz u hu=>by
  obtain ⟨j,h1,h2⟩:=eU hu;obtain ⟨i,h3,h4⟩:=bJ hz;rw[Kx] at h2 h4;exact P.o.DM _ _ (P.Db h4) (P.Da h2) (P.J7 (P.Db h4) h1 hx h2 (h i z h3 h4))
 unfold ML;rw[Array.toList_append,gm,show ib+k - ib=k by lia];exact this
theorem Pre.last (P:Pre Dm R a b)(M:ML R a b out ia ib)(h:ia+1=a.size):Good R a b (iH a b out ia ib):=
 M.last P.sb h λy hy z hz=>by
  obtain ⟨j,h1,h2⟩:=eU hz;rw[Kx] at h2;have h3:j<a.size:=(Array.getElem?_eq_some_iff.mp h2).1;have e:j=a.size - 1:=by lia
  subst e;exact P.o.DM _ _ (P.db _ hy) (P.Da h2) (P.lst y hy z h2)
theorem Pre.start (P:Pre Dm R a b)(hy:b[0]?=some y):ML R a b #[y] 0 1:=by
 have M0:ML R a b #[] 0 0:=⟨List.Perm.nil,List.Pairwise.nil,λx hx=>nomatch hx⟩
 have:=P.Be M0 hy λj x _ hx=>P.fst x (KC (vQ hx)) y hy;exact this
end
section
variable {prog:KP} {w:K7} {A:K1} {E:Kn->Kp->Prop} {s:Kp}
theorem aU {arr:Array Keyed}{i:Nat}{p:Keyed}{st:KI}{Q:Keyed->KI->Prop}(h:arr[i]?=some p)(hq:Q p st):wpS (model prog w) A E s (elem' arr i) Q st:=by
 rw[elem'_eq,h];exact KD hq
noncomputable def ar (st st':KI):Prop:=kindOf st'=kindOf st/\arrOf st'=arrOf st/\pendingOf st'=pendingOf st/\failedOf st'=failedOf st
theorem ar.yP {st:KI}:ar st st:=⟨rfl,rfl,rfl,rfl⟩
theorem ar.setG {st st':KI}(h:ar st st')(g:Nat):ar st (setG st' g):=h
noncomputable def fi (prog:KP)(w:K7)(A:K1)(E:Kn->Kp->Prop)(s:Kp)(Dm:Keyed->Prop)(R:Keyed->Keyed->Bool)(κ:SortKind):Prop:=
 ∀(x y:Keyed) (st:KI) (Q:Option Bool->KI->Prop),Dm x->Dm y->kindOf st=κ->Q (some (R x y)) st->wpS (model prog w) A E s (lt' x y) Q st
variable {Dm:Keyed->Prop} {R:Keyed->Keyed->Bool} {κ:SortKind}
theorem lx (L:fi prog w A E s Dm R κ){key:Keyed}{arr:Array Keyed}{base n hint:Nat}{st:KI}{Q:Option Nat->KI->Prop}(hk:kindOf st=κ)(dk:Dm key)(hh:hint<n)(hn:base+n<=arr.size)
    (da:∀i x,i<n->arr[base+i]?=some x->Dm x) (mono:∀i j x y,i<=j->j<n->arr[base+i]?=some x->arr[base+j]?=some y->R key y=false->R key x=false)
    (h:∀k,k<=n->(∀i x,i<k->arr[base+i]?=some x->R key x=false)->(∀i x,k<=i->i<n->arr[base+i]?=some x->R key x=true)->Q (some k) st):wpS (model prog w) A E s (cK false key arr base n hint) Q st:=by
  have at_:∀i,i<n->∃x,arr[base+i]?=some x:=λi hi=>⟨arr[base+i]'(by lia),Ky (by lia)⟩
  let p:Nat->Bool:=λi=>match arr[base+i]? with | some x=>!R key x | none=>false
  have pe:∀i x,arr[base+i]?=some x->p i = !R key x:=λi x e=>by show (match arr[base+i]? with | some x=>!R key x | none=>false)=_;rw[e]
  refine nH p hh (λi j h1 h2 h3=>?_) (λi hi Q' hq=>?_) λk hk h1 h2=>h k hk (λi x hi hx=>?_) λi x hi hin hx=>?_
  · obtain ⟨x, hx⟩ := at_ i (by lia);obtain ⟨y,hy⟩:=at_ j h2;rw[pe j y hy] at h3;rw[pe i x hx,mono i j x y h1 h2 hx hy (by simpa using h3)];rfl
  · obtain ⟨x,hx⟩:=at_ i hi;rw[pe i x hx] at hq;unfold beyond;refine Kz (aU hx ?_);simp only[KL,if_false];refine Kz (L key x st _ dk (da i x hi hx) hk ?_);exact KD hq
  · have:=h1 i hi;rw[pe i x hx] at this;simpa using this
  · have:=h2 i hi hin;rw[pe i x hx] at this;simpa using this
theorem nG (L:fi prog w A E s Dm R κ){key:Keyed}{arr:Array Keyed}{base n hint:Nat}{st:KI}{Q:Option Nat->KI->Prop}(hk:kindOf st=κ)(dk:Dm key)(hh:hint<n)(hn:base+n<=arr.size)
    (da:∀i x,i<n->arr[base+i]?=some x->Dm x) (mono:∀i j x y,i<=j->j<n->arr[base+i]?=some x->arr[base+j]?=some y->R y key=true->R x key=true)
    (h:∀k,k<=n->(∀i x,i<k->arr[base+i]?=some x->R x key=true)->(∀i x,k<=i->i<n->arr[base+i]?=some x->R x key=false)->Q (some k) st):wpS (model prog w) A E s (cK true key arr base n hint) Q st:=by
  have at_:∀i,i<n->∃x,arr[base+i]?=some x:=λi hi=>⟨arr[base+i]'(by lia),Ky (by lia)⟩
  let p:Nat->Bool:=λi=>match arr[base+i]? with | some x=>R x key | none=>false
  have pe:∀i x,arr[base+i]?=some x->p i=R x key:=λi x e=>by show (match arr[base+i]? with | some x=>R x key | none=>false)=_;rw[e]
  refine nH p hh (λi j h1 h2 h3=>?_) (λi hi Q' hq=>?_) λk hk h1 h2=>h k hk (λi x hi hx=>?_) λi x hi hin hx=>?_
  · obtain ⟨x, hx⟩ := at_ i (by lia);obtain ⟨y,hy⟩:=at_ j h2;rw[pe j y hy] at h3;rw[pe i x hx,mono i j x y h1 h2 hx hy h3]
  · obtain ⟨x,hx⟩:=at_ i hi;rw[pe i x hx] at hq;unfold beyond;refine Kz (aU hx ?_);simp only[if_true];exact L x key st _ (da i x hi hx) dk hk hq
  · have:=h1 i hi;rw[pe i x hx] at this;exact this
  · have:=h2 i hi hin;rw[pe i x hx] at this;exact this
end
end Tim
namespace Tim
open PySem PyProof.Rows
section
variable {prog:KP} {w:K7} {A:K1} {E:Kn->Kp->Prop} {s:Kp}
variable {Dm:Keyed->Prop} {R:Keyed->Keyed->Bool} {κ:SortKind}
noncomputable abbrev xU:=Option (Array Keyed)×Array Keyed×Nat×Nat×Nat×Nat×Nat
noncomputable def CV (a b out:Array Keyed)(ia ib g k k1:Nat):StateT KI Sem (ForInStep xU):=do
  let y <-elem' a ia
  if (ia+1+1 == a.size)=true then pure (.done (some (iH a b (out.push y) (ia+1) ib),out.push y,ia+1,ib,g,k,k1))
  else if (decide (k<7) && decide (k1<7))=true then pure (.done (none,out.push y,ia+1,ib,g,k,k1))
  else pure (.yield (none,out.push y,ia+1,ib,g,k,k1))
noncomputable def CU (a b out:Array Keyed)(ia ib g k bc:Nat):StateT KI Sem (ForInStep xU):=do
  let y <-elem' b ib
  if (ib+1 == b.size)=true then pure (.done (some (dG a b (out.push y) ia (ib+1)),out.push y,ia,ib+1,g,k,bc))
  else do
    let v <-elem' a ia
    let r <-cK true v b (ib+1) (b.size - (ib+1)) 0
    match r with
    | some k1 =>
      if k1>0 then
        if (ib+1+k1 == b.size)=true then pure (.done (some (dG a b (out.push y++b.extract (ib+1) (ib+1+k1)) ia (ib+1+k1)),out.push y++b.extract (ib+1) (ib+1+k1),ia,ib+1+k1,g,k,k1))
        else CV a b (out.push y++b.extract (ib+1) (ib+1+k1)) ia (ib+1+k1) g k k1
      else CV a b (out.push y) ia (ib+1) g k k1
    | _=>pure (.done (some (dG a b (out.push y) ia (ib+1)),out.push y,ia,ib+1,g,k,bc))
noncomputable def AL (a b out:Array Keyed)(ia ib g ac bc:Nat):StateT KI Sem (ForInStep xU):=do
  bB g
  let y <-elem' b ib
  let r <-cK false y a ia (a.size - ia) 0
  match r with
  | some k =>
    if k>0 then
      if (ia+k+1 == a.size)=true then pure (.done (some (iH a b (out++a.extract ia (ia+k)) (ia+k) ib),out++a.extract ia (ia+k),ia+k,ib,g,k,bc))
      else if (ia+k == a.size)=true then pure (.done (some (dG a b (out++a.extract ia (ia+k)) (ia+k) ib),out++a.extract ia (ia+k),ia+k,ib,g,k,bc))
      else CU a b (out++a.extract ia (ia+k)) (ia+k) ib g k bc
    else CU a b out ia ib g k bc
  | _=>pure (.done (some (dG a b out ia ib),out,ia,ib,g,ac,bc))
section
variable {a b out:Array Keyed} {ia ib g k k1 bc ac n0:Nat} {st:KI} {Q:ForInStep xU->KI->Prop}
noncomputable def QD (R:Keyed->Keyed->Bool)(a b:Array Keyed)(Q:ForInStep xU->KI->Prop)(st:KI):Prop:=∀r c,Good R a b r->Q (.done (some r,c)) st
noncomputable def QN (R:Keyed->Keyed->Bool)(a b:Array Keyed)(n0:Nat)(Q:ForInStep xU->KI->Prop)(st:KI):Prop:=∀out ia ib g k k1,ML R a b out ia ib->ib<b.size->ia+1<a.size->n0<ia+ib->Q (.done (none,out,ia,ib,g,k,k1)) st/\Q (.yield (none,out,ia,ib,g,k,k1)) st
theorem tQ (P:Pre Dm R a b)(M:ML R a b out ia ib)(h1:ib<b.size)(h2:ia+1<a.size){v:Keyed}(hv:a[ia]?=some v)(hb:∀j x,ib<=j->b[j]?=some x->R x v=false)(hn:n0<=ia+ib)(qd:QD R a b Q st)(qn:QN R a b n0 Q st):wpS (model prog w) A E s (CV a b out ia ib g k k1) Q st:=by
 unfold CV;refine Kz (aU hv ?_);have M3:=P.Ec M hv hb;split
 case isTrue c=>exact KD (qd _ _ (P.last M3 (beq_iff_eq.mp c)))
 case isFalse c =>
  rw[beq_iff_eq] at c;have z:=qn _ _ _ g k k1 M3 h1 (by lia) (by lia);split
  .exact KD z.1
  .exact KD z.2
theorem tP (L:fi prog w A E s Dm R κ)(P:Pre Dm R a b)(hk:kindOf st=κ)(M:ML R a b out ia ib)(h1:ib<b.size)(h2:ia+1<a.size){u:Keyed}(hu:b[ib]?=some u)(ha:∀j x,ia<=j->a[j]?=some x->R u x=true)(hn:n0<=ia+ib)(qd:QD R a b Q st)(qn:QN R a b n0 Q st):wpS (model prog w) A E s (CU a b out ia ib g k bc) Q st:=by
 unfold CU;refine Kz (aU hu ?_);have M2:=P.Be M hu ha;by_cases c7:(ib+1 == b.size)=true
 .rw[if_pos c7];exact KD (qd _ _ (M2.wI P.sa (by rw[<-beq_iff_eq.mp c7];exact Ku _)))
 rw[if_neg c7];have h1':ib+1<b.size:=by
  have:¬ib+1=b.size:=λe=>c7 (beq_iff_eq.mpr e);lia
 obtain ⟨v,hv⟩ : ∃x,a[ia]?=some x:=⟨a[ia],Ky (by lia)⟩
 refine Kz (aU hv ?_);refine Kz (nG L hk (P.Da hv) (by lia) (by lia) (λi x _ hx=>P.Db hx) (λi j x y hij _ hx hy=>P.J1 (P.Da hv) (by lia) hx hy) λm hm m1 m2=>?_);dsimp only;have m2':∀j x,ib+1+m<=j->b[j]?=some x->R x v=false:=λj x hj hx=>by
  have hjs:j<b.size:=(Array.getElem?_eq_some_iff.mp hx).1;exact m2 (j - (ib+1)) x (by lia) (by lia) (by rw[show ib+1+(j - (ib+1))=j by lia];exact hx)
 by_cases c8:m>0
 .rw[if_pos c8];have Mm:=P.JC M2 m hv m1;by_cases c9:(ib+1+m == b.size)=true
  .rw[if_pos c9];exact KD (qd _ _ (Mm.wI P.sa (by rw[<-beq_iff_eq.mp c9];exact Ku _)))
  rw[if_neg c9];have h1'':ib+1+m<b.size:=by
   have:¬ib+1+m=b.size:=λe=>c9 (beq_iff_eq.mpr e);lia
  exact tQ P Mm h1'' h2 hv m2' (by lia) qd qn
 .rw[if_neg c8];have e0:m=0:=by lia
  subst e0;exact tQ P M2 h1' h2 hv m2' (by lia) qd qn
theorem AM (L:fi prog w A E s Dm R κ)(P:Pre Dm R a b)(hk:kindOf st=κ)(M:ML R a b out ia ib)(h1:ib<b.size)(h2:ia+1<a.size)(hn:n0<=ia+ib)(qd:QD R a b Q (setG st g))(qn:QN R a b n0 Q (setG st g)):wpS (model prog w) A E s (AL a b out ia ib g ac bc) Q st:=by
 unfold AL;rw[cZ];obtain ⟨u,hu⟩ : ∃x,b[ib]?=some x:=⟨b[ib],Ky h1⟩
 refine Kz (wpS_modify (Kz (aU hu ?_)));have hk':kindOf (setG st g)=κ:=hk;refine Kz (lx L hk' (P.Db hu) (by lia) (by lia) (λi x _ hx=>P.Da hx) (λi j x y hij _ hx hy=>P.Ir (P.Db hu) (by lia) hx hy) λk hkn k1 k2=>?_);dsimp only;have k2':∀j x,ia+k<=j->a[j]?=some x->R u x=true:=λj x hj hx=>by
  have hjs:j<a.size:=(Array.getElem?_eq_some_iff.mp hx).1;exact k2 (j - ia) x (by lia) (by lia) (by rw[show ia+(j - ia)=j by lia];exact hx)
 by_cases c4:k>0
 .rw[if_pos c4];have Mk:=P.JB M k hu k1;by_cases c5:(ia+k+1 == a.size)=true
  .rw[if_pos c5];exact KD (qd _ _ (P.last Mk (beq_iff_eq.mp c5)))
  rw[if_neg c5];by_cases c6:(ia+k == a.size)=true
  .rw[if_pos c6];exact KD (qd _ _ (Mk.GV P.sb (by rw[<-beq_iff_eq.mp c6];exact Ku _)))
  rw[if_neg c6];have h2':ia+k+1<a.size:=by
   have:¬ia+k+1=a.size:=λe=>c5 (beq_iff_eq.mpr e);have:¬ia+k=a.size:=λe=>c6 (beq_iff_eq.mpr e);lia
  exact tP L P hk' Mk h1 h2' hu k2' (by lia) qd qn
 .rw[if_neg c4];have e0:k=0:=by lia
  subst e0;exact tP L P hk' M h1 h2 hu k2' hn qd qn
end
noncomputable abbrev DJ:=Option (Array Keyed)×Array Keyed×Nat×Nat×Nat×Nat
noncomputable abbrev BP:=Option (Array Keyed)×Array Keyed×Nat×Nat×Nat
noncomputable def Jm (a b:Array Keyed)(g:Nat)(c:DJ):StateT KI Sem (ForInStep DJ):=do
  let y <-elem' b c.2.2.2.1
  let x <-elem' a c.2.2.1
  let r <-lt' y x
  match r with
  | some bW =>
    if bW=true then do
      let z <-elem' b c.2.2.2.1
      if (c.2.2.2.1+1 == b.size)=true then pure (.done (some (dG a b (c.2.1.push z) c.2.2.1 (c.2.2.2.1+1)),c.2.1.push z,c.2.2.1,c.2.2.2.1+1,0,c.2.2.2.2.2+1))
      else if c.2.2.2.2.2+1>=g then pure (.done (none,c.2.1.push z,c.2.2.1,c.2.2.2.1+1,0,c.2.2.2.2.2+1))
      else pure (.yield (none,c.2.1.push z,c.2.2.1,c.2.2.2.1+1,0,c.2.2.2.2.2+1))
    else do
      let z <-elem' a c.2.2.1
      if (c.2.2.1+1+1 == a.size)=true then pure (.done (some (iH a b (c.2.1.push z) (c.2.2.1+1) c.2.2.2.1),c.2.1.push z,c.2.2.1+1,c.2.2.2.1,c.2.2.2.2.1+1,0))
      else if c.2.2.2.2.1+1>=g then pure (.done (none,c.2.1.push z,c.2.2.1+1,c.2.2.2.1,c.2.2.2.2.1+1,0))
      else pure (.yield (none,c.2.1.push z,c.2.2.1+1,c.2.2.2.1,c.2.2.2.2.1+1,0))
  | _=>pure (.done (some (dG a b c.2.1 c.2.2.1 c.2.2.2.1),c.2.1,c.2.2.1,c.2.2.2.1,c.2.2.2.2.1,c.2.2.2.2.2))
noncomputable def Jk (a b:Array Keyed)(c:xU):StateT KI Sem (ForInStep xU):=if c.2.2.2.2.1>1 then AL a b c.2.1 c.2.2.1 c.2.2.2.1 (c.2.2.2.2.1 - 1) c.2.2.2.2.2.1 c.2.2.2.2.2.2 else AL a b c.2.1 c.2.2.1 c.2.2.2.1 c.2.2.2.2.1 c.2.2.2.2.2.1 c.2.2.2.2.2.2
noncomputable def Jj (a b:Array Keyed)(g:Nat)(c:DJ):StateT KI Sem (ForInStep BP):=do
  liftM (rule "list.sort.gallop")
  let d <-forIn [:a.size+b.size] ((none,c.2.1,c.2.2.1,c.2.2.2.1,g+1,c.2.2.2.2.1,c.2.2.2.2.2):xU) λ_ d=>Jk a b d
  match d.1 with
  | some r=>pure (.done (some r,d.2.1,d.2.2.1,d.2.2.2.1,d.2.2.2.2.1))
  | none=>do
    bB (d.2.2.2.2.1+1)
    pure (.yield (none,d.2.1,d.2.2.1,d.2.2.2.1,d.2.2.2.2.1+1))
noncomputable def Jl (a b:Array Keyed)(c:BP):StateT KI Sem (ForInStep BP):=do
  let d <-forIn [:a.size+b.size] ((none,c.2.1,c.2.2.1,c.2.2.2.1,0,0):DJ) λ_ d=>Jm a b c.2.2.2.2 d
  match d.1 with
  | some r=>pure (.done (some r,d.2.1,d.2.2.1,d.2.2.2.1,c.2.2.2.2))
  | none=>Jj a b c.2.2.2.2 d
theorem bind_eq {α β:Type}{x y:StateT KI Sem α}{f g:α->StateT KI Sem β}(h1:x=y)(h2:∀a,f a=g a):(x >>= f)=(y >>= g):=by rw[h1,funext h2]
theorem qZ (a b:Array Keyed):kE a b=(do
  liftM (rule "list.sort.merge-lo")
  let x <-elem' b 0
  if (1 == b.size)=true then pure (dG a b #[x] 0 1)
  else if (0+1 == a.size)=true then pure (iH a b #[x] 0 1)
  else do
    let s <-get
    let c <-forIn [:a.size+b.size] ((none,#[x],0,1,gallopOf s):BP) λ_ c=>Jl a b c
    match c.1 with
    | some r=>pure r
    | none=>liftM (unsupported "internal:list.sort.merge-bound")):=by
  rw[qY];dsimp only;refine bind_eq rfl λ_=>bind_eq rfl λx=>congrArg _ (congrArg _ (bind_eq rfl λs=>bind_eq (congrArg _ (funext λ_=>funext λc=>bind_eq rfl λd=>?_)) λc=>?_))
  · rcases d with ⟨_ | r,d⟩
    · refine bind_eq rfl λ_=>bind_eq rfl λd=>?_;rcases d with ⟨_ | r,d⟩<;>rfl
    · rfl
  · rcases c with ⟨_ | r,c⟩<;>rfl
section
variable {a b:Array Keyed} {st:KI}
noncomputable def xT (R:Keyed->Keyed->Bool)(a b:Array Keyed)(n:Nat)(out:Array Keyed)(ia ib:Nat):Prop:=ML R a b out ia ib/\ib<b.size/\ia+1<a.size/\n<=ia+ib
theorem CS (L:fi prog w A E s Dm R κ)(P:Pre Dm R a b)(hk:kindOf st=κ){n g ia ib ac bc:Nat}{out:Array Keyed}{Q:ForInStep DJ->KI->Prop}(M0:xT R a b n out ia ib)(qd:∀r c,Good R a b r->Q (.done (some r,c)) st)(qn:∀out ia ib ac bc,xT R a b (n+1) out ia ib->Q (.done (none,out,ia,ib,ac,bc)) st/\Q (.yield (none,out,ia,ib,ac,bc)) st):wpS (model prog w) A E s (Jm a b g (none,out,ia,ib,ac,bc)) Q st:=by
 obtain ⟨M,h1,h2,h3⟩:=M0;unfold Jm;obtain ⟨u,hu⟩ : ∃x,b[ib]?=some x:=⟨b[ib],Ky h1⟩
 obtain ⟨v,hv⟩ : ∃x,a[ia]?=some x:=⟨a[ia],Ky (by lia)⟩
 refine Kz (aU hu (Kz (aU hv (Kz (L u v _ _ (P.Db hu) (P.Da hv) hk ?_)))));cases c3:R u v with
 | true =>
  have M':=P.cD M hv hu c3;refine Kz (aU hu ?_);split
  case isTrue c=>exact KD (qd _ _ (M'.wI P.sa (by rw[<-beq_iff_eq.mp c];exact Ku _)))
  case isFalse c =>
   have c:¬ib+1=b.size:=λz=>c (beq_iff_eq.mpr z);have z:=qn (out.push u) ia (ib+1) 0 (bc+1) ⟨M',by lia,h2,by lia⟩;split
   .exact KD z.1
   .exact KD z.2
 | false =>
  have M':=P.HY M hv hu c3;refine Kz (aU hv ?_);split
  case isTrue c=>exact KD (qd _ _ (P.last M' (beq_iff_eq.mp c)))
  case isFalse c =>
   have c:¬ia+1+1=a.size:=λz=>c (beq_iff_eq.mpr z);have z:=qn (out.push v) (ia+1) ib (ac+1) 0 ⟨M',h1,by lia,by lia⟩;split
   .exact KD z.1
   .exact KD z.2
theorem CP (L:fi prog w A E s Dm R κ)(P:Pre Dm R a b){st0:KI}(hk:kindOf st0=κ)(hS:ar st0 st){n:Nat}{d:xU}(h:d.1=none/\xT R a b n d.2.1 d.2.2.1 d.2.2.2.1){Q:ForInStep xU->KI->Prop}(qd:∀r c st',ar st0 st'->Good R a b r->Q (.done (some r,c)) st')(qn:∀d st',ar st0 st'->d.1=none/\xT R a b (n+1) d.2.1 d.2.2.1 d.2.2.2.1->Q (.done d) st'/\Q (.yield d) st'):wpS (model prog w) A E s (Jk a b d) Q st:=by
 obtain ⟨_,M,h1,h2,h3⟩:=h;have key:∀g,wpS (model prog w) A E s (AL a b d.2.1 d.2.2.1 d.2.2.2.1 g d.2.2.2.2.2.1 d.2.2.2.2.2.2) Q st:=λg =>
  AM (n0:=d.2.2.1+d.2.2.2.1) L P (hS.1.trans hk) M h1 h2 (Ku _) (λr c hG=>qd r c _ (hS.setG _) hG) λout' ia' ib' g2 k k1 M' i1 i2 i3=>qn _ _ (hS.setG _) ⟨rfl,M',i1,i2,by dsimp only;lia⟩
 unfold Jk;split
 .exact key _
 .exact key _
theorem CO (L:fi prog w A E s Dm R κ)(P:Pre Dm R a b){st0:KI}(hk:kindOf st0=κ)(hS:ar st0 st){n g:Nat}{c:DJ}(h:xT R a b n c.2.1 c.2.2.1 c.2.2.2.1){Q:ForInStep BP->KI->Prop}(qd:∀r c st',ar st0 st'->Good R a b r->Q (.done (some r,c)) st')(qn:∀d st',ar st0 st'->d.1=none/\xT R a b n d.2.1 d.2.2.1 d.2.2.2.1->Q (.yield d) st'):wpS (model prog w) A E s (Jj a b g c) Q st:=by
 unfold Jj;refine Kz (wpS_lift (wpAny_rule ⟨rfl,Kz (wpS_mono (wpS_forRange
  (I:=λy (d:xU) st'=>ar st0 st'/\d.1=none/\xT R a b (n+y) d.2.1 d.2.2.1 d.2.2.2.1)
  (Q:=λ(d:xU) st'=>ar st0 st'/\((∃r,d.1=some r/\Good R a b r)\/d.1=none/\xT R a b n d.2.1 d.2.2.1 d.2.2.2.1)) ?_ ?_ ⟨hS,rfl,h⟩) ?_)⟩))
 .rintro y d st' _ hy ⟨hS,z⟩;refine CP L P hk hS z (λr c st' hS hG=>⟨hS,.inl ⟨r,rfl,hG⟩⟩) λd st' hS z=>⟨⟨hS,.inr ⟨z.1,z.2.1,z.2.2.1,z.2.2.2.1,?_⟩⟩,hS,z⟩
  have:=z.2.2.2.2;lia
 .rintro d st' ⟨hS,_,M,h1,h2,h3⟩;lia
 .rintro d st' ⟨hS,⟨r,e,hG⟩ | ⟨e,z⟩⟩
  .rw[e];exact KD (qd _ _ _ hS hG)
  .rw[e];dsimp only;rw[cZ];exact Kz (wpS_modify (KD (qn _ _ (hS.setG _) ⟨rfl,z⟩)))
theorem CQ (L:fi prog w A E s Dm R κ)(P:Pre Dm R a b){st0:KI}(hk:kindOf st0=κ)(hS:ar st0 st){n:Nat}{c:BP}(h:xT R a b n c.2.1 c.2.2.1 c.2.2.2.1){Q:ForInStep BP->KI->Prop}(qd:∀r c st',ar st0 st'->Good R a b r->Q (.done (some r,c)) st')(qn:∀d st',ar st0 st'->d.1=none/\xT R a b (n+1) d.2.1 d.2.2.1 d.2.2.2.1->Q (.yield d) st'):wpS (model prog w) A E s (Jl a b c) Q st:=by
 unfold Jl;refine Kz (wpS_mono (wpS_forRange
  (I:=λy (d:DJ) st'=>st'=st/\d.1=none/\xT R a b (n+y) d.2.1 d.2.2.1 d.2.2.2.1)
  (Q:=λ(d:DJ) st'=>st'=st/\((∃r,d.1=some r/\Good R a b r)\/d.1=none/\xT R a b (n+1) d.2.1 d.2.2.1 d.2.2.2.1)) ?_ ?_ ⟨rfl,rfl,h⟩) ?_)
 .rintro y ⟨x,out,ia,ib,ac,bc⟩ st' _ hy ⟨rfl,e,z⟩;obtain rfl:x=none:=e;refine CS L P (hS.1.trans hk) z (λr c hG=>⟨rfl,.inl ⟨r,rfl,hG⟩⟩) λout ia ib ac bc z=>⟨⟨rfl,.inr ⟨rfl,z.1,z.2.1,z.2.2.1,?_⟩⟩,rfl,rfl,z⟩
  have:=z.2.2.2;dsimp only;lia
 .rintro d st' ⟨rfl,_,M,h1,h2,h3⟩;lia
 .rintro d st' ⟨rfl,⟨r,e,hG⟩ | ⟨e,z⟩⟩
  .rw[e];exact KD (qd _ _ _ hS hG)
  .rw[e];exact CO L P hk hS z qd qn
end
theorem tX (L:fi prog w A E s Dm R κ){a b:Array Keyed}(P:Pre Dm R a b){st:KI}(hk:kindOf st=κ){Q:Array Keyed->KI->Prop}(h:∀r st',ar st st'->Good R a b r->Q r st'):wpS (model prog w) A E s (kE a b) Q st:=by
 have pa:=P.na;have pb:=P.nb;obtain ⟨b0,hb0⟩ : ∃x,b[0]?=some x:=⟨b[0],Ky pb⟩
 have M1:=P.start hb0;rw[qZ];refine Kz (wpS_lift (wpAny_rule ⟨rfl,Kz (aU hb0 ?_)⟩));split
 case isTrue c=>exact KD (h _ _ .yP (M1.wI P.sa (by rw[<-beq_iff_eq.mp c];exact Ku _)))
 case isFalse c1 =>
  split
  case isTrue c=>exact KD (h _ _ .yP (P.last M1 (beq_iff_eq.mp c)))
  case isFalse c2 =>
   rw[beq_iff_eq] at c1 c2;refine Kz (wpS_get (Kz (wpS_mono (wpS_forRange
    (I:=λx (c:BP) st'=>ar st st'/\c.1=none/\xT R a b (1+x) c.2.1 c.2.2.1 c.2.2.2.1)
    (Q:=λ(c:BP) st'=>ar st st'/\∃r,c.1=some r/\Good R a b r) ?_ ?_ ⟨.yP,rfl,M1,?_⟩) ?_)))
   .rintro x c st' _ hx ⟨hS,_,z⟩;exact CQ L P hk hS z (λr c st' hS hG=>⟨hS,r,rfl,hG⟩) λd st' hS z=>⟨hS,z⟩
   .rintro c st' ⟨hS,_,M,h1,h2,h3⟩;lia
   .dsimp only;lia
   .rintro c st' ⟨hS,r,e,hG⟩;rw[e];exact KD (h _ _ hS hG)
end
end Tim
namespace Tim
open PySem PyProof.Rows
noncomputable def kD:Array Keyed->Array Keyed->StateT KI Sem (Array Keyed):=sortPriv% PySem.Builtin.mergeHi
noncomputable def dF (a b out:Array Keyed)(na nb:Nat):Array Keyed:=a.extract 0 na++b.extract 0 nb++out.reverse
noncomputable def oN (a b out:Array Keyed)(na nb:Nat):Array Keyed:=b.extract 0 nb++a.extract 0 na++out.reverse
theorem qW (a b:Array Keyed):kD a b=(do
  rule "list.sort.merge-hi"
  let total:=a.size+b.size
  let mut na:=a.size - 1
  let mut nb:=b.size
  let mut out:Array Keyed:=#[<-elem' a na]
  if na == 0 then return dF a b out na nb
  if nb == 1 then return oN a b out na nb
  let mut minGallop:=gallopOf (<-get)
  for _ in [0:total] do
    let mut acount:=0
    let mut bcount:=0
    for _ in [0:total] do
      let some aWins <-lt' (<-elem' b (nb - 1)) (<-elem' a (na - 1)) | return dF a b out na nb
      if aWins then
        na:=na - 1;out:=out.push (<-elem' a na);acount:=acount+1;bcount:=0
        if na == 0 then return dF a b out na nb
        if acount>=minGallop then break
      else
        nb:=nb - 1;out:=out.push (<-elem' b nb);bcount:=bcount+1;acount:=0
        if nb == 1 then return oN a b out na nb
        if bcount>=minGallop then break
    rule "list.sort.gallop"
    minGallop:=minGallop+1
    for _ in [0:total] do
      if minGallop>1 then minGallop:=minGallop - 1
      bB minGallop
      let some at_ <-cK false (<-elem' b (nb - 1)) a 0 na (na - 1) | return dF a b out na nb
      let k:=na - at_
      acount:=k
      if k>0 then
        out:=out++(a.extract at_ na).reverse;na:=at_
        if na == 0 then return dF a b out na nb
      nb:=nb - 1;out:=out.push (<-elem' b nb)
      if nb == 1 then return oN a b out na nb
      let some at_ <-cK true (<-elem' a (na - 1)) b 0 nb (nb - 1) | return dF a b out na nb
      let k:=nb - at_
      bcount:=k
      if k>0 then
        out:=out++(b.extract at_ nb).reverse;nb:=at_
        if nb == 1 then return oN a b out na nb
        if nb == 0 then return dF a b out na nb
      na:=na - 1;out:=out.push (<-elem' a na)
      if na == 0 then return dF a b out na nb
      if acount<7 && bcount<7 then break
    minGallop:=minGallop+1
    bB minGallop
  unsupported "internal:list.sort.merge-bound"):=rfl
section
variable {Dm:Keyed->Prop} {R:Keyed->Keyed->Bool}
noncomputable abbrev Rf (R:Keyed->Keyed->Bool):Keyed->Keyed->Bool:=λx y=>R y x
theorem fA.rev {l:List Keyed}(h:fA R l):fA (Rf R) l.reverse:=List.pairwise_reverse.mpr h
theorem fA.Il {l:List Keyed}(h:fA (Rf R) l):fA R l.reverse:=List.pairwise_reverse.mpr h
theorem mW (l:List Keyed){n m:Nat}(h1:m<=n)(h2:n<=l.length):(l.reverse.drop (l.length - n)).take (n - m)=((l.drop m).take (n - m)).reverse:=by
 rw[List.drop_reverse,List.take_reverse,<-List.drop_take,KO];congr 2
 .congr 1;lia
 .congr 1;lia
theorem mV (l:List Keyed){n:Nat}(h2:n<=l.length):l.reverse.drop (l.length - n)=(l.take n).reverse:=by
 rw[List.drop_reverse];congr 2;lia
variable {a b out:Array Keyed} {na nb:Nat} {x y:Keyed}
noncomputable abbrev MH (R:Keyed->Keyed->Bool)(a b out:Array Keyed)(na nb:Nat):Prop:=MI (Rf R) a.toList.reverse b.toList.reverse out.toList (a.toList.length - na) (b.toList.length - nb)
theorem iI {l:List Keyed}{i:Nat}{y:Keyed}(h:y∈l.take i):∃j,j<i/\l[j]?=some y:=by
 have:=bJ (i:=0) (by simpa using h);simpa using this
theorem Pre.HV (P:Pre Dm R a b)(M:MH R a b out na nb){m:Nat}(h1:m<=na)(h2:na<=a.size)(h3:nb<=b.size)(h:∀i x,m<=i->i<na->a[i]?=some x->∀j y,j<nb->b[j]?=some y->R x y=false){out':Array Keyed}(eo:out'.toList=out.toList++((a.toList.drop m).take (na - m)).reverse):MH R a b out' m nb:=by
 have hl:na<=a.toList.length:=by rw[KH];exact h2
 have hl':nb<=b.toList.length:=by rw[KH];exact h3
 have:=M.vK (na - m) P.sa.rev λz hz u hu=>by
  rw[mW _ h1 hl,List.mem_reverse] at hz;rw[mV _ hl',List.mem_reverse] at hu;obtain ⟨j,h4,h5⟩:=iI hu;obtain ⟨i,h6,h7⟩:=bJ hz;rw[Kx] at h5 h7;exact h (m+i) z (by lia) (by lia) h7 j u h4 h5
 rw[mW _ h1 hl,<-eo,show a.toList.length - na+(na - m)=a.toList.length - m by lia] at this;exact this
theorem Pre.HW (P:Pre Dm R a b)(M:MH R a b out na nb){m:Nat}(h1:m<=nb)(h2:na<=a.size)(h3:nb<=b.size)(h:∀i x,m<=i->i<nb->b[i]?=some x->∀j y,j<na->a[j]?=some y->R x y=false){out':Array Keyed}(eo:out'.toList=out.toList++((b.toList.drop m).take (nb - m)).reverse):MH R a b out' na m:=by
 have hl:na<=a.toList.length:=by rw[KH];exact h2
 have hl':nb<=b.toList.length:=by rw[KH];exact h3
 have:=M.vL (nb - m) P.sb.rev λz hz u hu=>by
  rw[mW _ h1 hl',List.mem_reverse] at hz;rw[mV _ hl,List.mem_reverse] at hu;obtain ⟨j,h4,h5⟩:=iI hu;obtain ⟨i,h6,h7⟩:=bJ hz;rw[Kx] at h5 h7;exact h (m+i) z (by lia) (by lia) h7 j u h4 h5
 rw[mW _ h1 hl',<-eo,show b.toList.length - nb+(nb - m)=b.toList.length - m by lia] at this;exact this
theorem xp {a:Array Keyed}{n:Nat}{x:Keyed}(h0:0<n)(h:a[n - 1]?=some x):((a.toList.drop (n - 1)).take (n - (n - 1))).reverse = [x]:=by
 have:=vQ h;obtain ⟨h1,e1⟩:=Kw.mp this;rw[drop_eq_getElem_cons h1,e1,show n - (n - 1)=1 by lia];rfl
theorem Pre.E1 (P:Pre Dm R a b)(M:MH R a b out na nb)(h0:0<na)(h2:na<=a.size)(h3:nb<=b.size)(hx:a[na - 1]?=some x)(h:∀j y,j<nb->b[j]?=some y->R x y=false):MH R a b (out.push x) (na - 1) nb:=
 P.HV M (by lia) h2 h3 (λi z h4 h5 h6=>by
  have e:i=na - 1:=by lia
  subst e;rw[hx] at h6;cases h6;exact h) (by rw[xp h0 hx,Array.toList_push])
theorem Pre.GW (P:Pre Dm R a b)(M:MH R a b out na nb)(h0:0<nb)(h2:na<=a.size)(h3:nb<=b.size)(hx:b[nb - 1]?=some x)(h:∀j y,j<na->a[j]?=some y->R x y=false):MH R a b (out.push x) na (nb - 1):=
 P.HW M (by lia) h2 h3 (λi z h4 h5 h6=>by
  have e:i=nb - 1:=by lia
  subst e;rw[hx] at h6;cases h6;exact h) (by rw[xp h0 hx,Array.toList_push])
theorem wM {a out:Array Keyed}{m n:Nat}:(out++(a.extract m n).reverse).toList=out.toList++((a.toList.drop m).take (n - m)).reverse:=by
 rw[Array.toList_append,Array.toList_reverse,gm]
theorem Pre.JX (P:Pre Dm R a b){i j:Nat}{z:Keyed}(dx:Dm x)(h:j<=i)(hy:b[i]?=some y)(hz:b[j]?=some z)(hl:R y x=true):R x z=false:=
 P.o.tr z y x (P.Db hz) (P.Db hy) dx (P.leB h hz hy) (P.o.DM _ _ (P.Db hy) dx hl)
theorem E3 {res:Array Keyed}{r:List Keyed}(M:MH R a b out na nb)(h2:na<=a.size)(h3:nb<=b.size)(hp:r.Perm (a.toList.take na++b.toList.take nb))(hs:fA R r)(e:res.toList=r++out.toList.reverse):Good R a b res:=by
 have hl:na<=a.toList.length:=by rw[KH];exact h2
 have hl':nb<=b.toList.length:=by rw[KH];exact h3
 have:=M.fin (r:=r.reverse) (by
  rw[mV _ hl,mV _ hl'];exact (List.reverse_perm _).trans (hp.trans ((List.reverse_perm _).symm.append (List.reverse_perm _).symm))) hs.rev
 have e':res.toList=(out.toList++r.reverse).reverse:=by rw[e,List.reverse_append,List.reverse_reverse]
 refine ⟨?_,?_⟩
 .rw[e'];refine (List.reverse_perm _).trans (this.1.trans ((List.reverse_perm _).append (List.reverse_perm _)))
 .rw[e'];exact this.2.Il
theorem ym (a:Array Keyed)(n:Nat):(a.extract 0 n).toList=a.toList.take n:=by
 rw[gm];simp
theorem Pre.D8 (P:Pre Dm R a b)(M:MH R a b out 0 nb)(h3:nb<=b.size):Good R a b (dF a b out 0 nb):=
 E3 (r:=b.toList.take nb) M (Lc _) h3 (by simp) (List.Pairwise.sublist (List.take_sublist _ _) P.sb) (by
  unfold dF;rw[Array.toList_append,Array.toList_append,ym,ym,Array.toList_reverse];simp)
theorem Pre.Iz (P:Pre Dm R a b)(M:MH R a b out na 0)(h3:na<=a.size):Good R a b (dF a b out na 0):=
 E3 (r:=a.toList.take na) M h3 (Lc _) (by simp) (List.Pairwise.sublist (List.take_sublist _ _) P.sa) (by
  unfold dF;rw[Array.toList_append,Array.toList_append,ym,ym,Array.toList_reverse];simp)
theorem Pre.C5 (P:Pre Dm R a b)(M:MH R a b out na 1)(h2:na<=a.size)(h3:1<=b.size):Good R a b (oN a b out na 1):=by
 refine E3 (r:=b.toList.take 1++a.toList.take na) M h2 h3 perm_append_comm ?_ (by
  unfold oN;rw[Array.toList_append,Array.toList_append,ym,ym,Array.toList_reverse])
 refine pairwise_append.mpr ⟨List.Pairwise.sublist (List.take_sublist _ _) P.sb,List.Pairwise.sublist (List.take_sublist _ _) P.sa,λx hx y hy=>?_⟩;obtain ⟨j,h4,h5⟩:=iI hx;have e:j=0:=by lia
 subst e;rw[Kx] at h5;exact P.o.DM _ _ (P.Db h5) (P.da _ (mem_of_mem_take hy)) (P.fst y (mem_of_mem_take hy) x h5)
theorem Pre.jS (P:Pre Dm R a b)(hx:a[a.size - 1]?=some x):MH R a b #[x] (a.size - 1) b.size:=by
 have M0:MH R a b #[] a.size b.size:=by
  have e1:a.toList.length - a.size=0:=by rw[KH];lia
  have e2:b.toList.length - b.size=0:=by rw[KH];lia
  unfold MH;rw[e1,e2];exact ⟨List.Perm.nil,List.Pairwise.nil,λx hx=>nomatch hx⟩
 exact P.E1 M0 P.na (Ku _) (Ku _) hx λj y _ hy=>P.o.DM _ _ (P.Db hy) (P.Da hx) (P.lst y (KC (vQ hy)) x hx)
end
end Tim
namespace Tim
open PySem PyProof.Rows
section
variable {prog:KP} {w:K7} {A:K1} {E:Kn->Kp->Prop} {s:Kp}
variable {Dm:Keyed->Prop} {R:Keyed->Keyed->Bool} {κ:SortKind}
noncomputable abbrev xS:=Option (Array Keyed)×Nat×Nat×Array Keyed×Nat×Nat×Nat
noncomputable def CF (a b out:Array Keyed)(na nb g k k1:Nat):StateT KI Sem (ForInStep xS):=do
  let y <-elem' a (na - 1)
  if (na - 1 == 0)=true then pure (.done (some (dF a b (out.push y) (na - 1) nb),na - 1,nb,out.push y,g,k,k1))
  else if (decide (k<7) && decide (k1<7))=true then pure (.done (none,na - 1,nb,out.push y,g,k,k1))
  else pure (.yield (none,na - 1,nb,out.push y,g,k,k1))
noncomputable def CD (a b out:Array Keyed)(na nb g k bc:Nat):StateT KI Sem (ForInStep xS):=do
  let y <-elem' b (nb - 1)
  if (nb - 1 == 1)=true then pure (.done (some (oN a b (out.push y) na (nb - 1)),na,nb - 1,out.push y,g,k,bc))
  else do
    let v <-elem' a (na - 1)
    let r <-cK true v b 0 (nb - 1) (nb - 1 - 1)
    match r with
    | some m =>
      if nb - 1 - m>0 then
        if (m == 1)=true then pure (.done (some (oN a b (out.push y++(b.extract m (nb - 1)).reverse) na m),na,m,out.push y++(b.extract m (nb - 1)).reverse,g,k,nb - 1 - m))
        else if (m == 0)=true then pure (.done (some (dF a b (out.push y++(b.extract m (nb - 1)).reverse) na m),na,m,out.push y++(b.extract m (nb - 1)).reverse,g,k,nb - 1 - m))
        else CF a b (out.push y++(b.extract m (nb - 1)).reverse) na m g k (nb - 1 - m)
      else CF a b (out.push y) na (nb - 1) g k (nb - 1 - m)
    | _=>pure (.done (some (dF a b (out.push y) na (nb - 1)),na,nb - 1,out.push y,g,k,bc))
noncomputable def Av (a b out:Array Keyed)(na nb g ac bc:Nat):StateT KI Sem (ForInStep xS):=do
  bB g
  let y <-elem' b (nb - 1)
  let r <-cK false y a 0 na (na - 1)
  match r with
  | some k =>
    if na - k>0 then
      if (k == 0)=true then pure (.done (some (dF a b (out++(a.extract k na).reverse) k nb),k,nb,out++(a.extract k na).reverse,g,na - k,bc))
      else CD a b (out++(a.extract k na).reverse) k nb g (na - k) bc
    else CD a b out na nb g (na - k) bc
  | _=>pure (.done (some (dF a b out na nb),na,nb,out,g,ac,bc))
section
variable {a b out:Array Keyed} {na nb g k k1 bc ac n0:Nat} {st:KI} {Q:ForInStep xS->KI->Prop}
noncomputable def IM (R:Keyed->Keyed->Bool)(a b:Array Keyed)(Q:ForInStep xS->KI->Prop)(st:KI):Prop:=∀r c,Good R a b r->Q (.done (some r,c)) st
noncomputable def IP (R:Keyed->Keyed->Bool)(a b:Array Keyed)(n0:Nat)(Q:ForInStep xS->KI->Prop)(st:KI):Prop:=∀na nb out g k k1,MH R a b out na nb->1<=na->2<=nb->na<=a.size->nb<=b.size->na+nb<n0->Q (.done (none,na,nb,out,g,k,k1)) st/\Q (.yield (none,na,nb,out,g,k,k1)) st
theorem tD (P:Pre Dm R a b)(M:MH R a b out na nb)(h1:1<=na)(h2:2<=nb)(ha:na<=a.size)(hb:nb<=b.size){v:Keyed}(hv:a[na - 1]?=some v)(hlt:∀j y,j<nb->b[j]?=some y->R y v=true)(hn:na+nb<=n0)(qd:IM R a b Q st)(qn:IP R a b n0 Q st):wpS (model prog w) A E s (CF a b out na nb g k k1) Q st:=by
 unfold CF;refine Kz (aU hv ?_);have M3:=P.E1 M (by lia) ha hb hv λj y hj hy=>P.o.DM _ _ (P.Db hy) (P.Da hv) (hlt j y hj hy);split
 case isTrue c =>
  rw[beq_iff_eq] at c;rw[c] at M3 ⊢;exact KD (qd _ _ (P.D8 M3 hb))
 case isFalse c =>
  rw[beq_iff_eq] at c;have z:=qn _ _ _ g k k1 M3 (by lia) h2 (by lia) hb (by lia);split
  .exact KD z.1
  .exact KD z.2
theorem tw (L:fi prog w A E s Dm R κ)(P:Pre Dm R a b)(hk:kindOf st=κ)(M:MH R a b out na nb)(h1:1<=na)(h2:2<=nb)(ha:na<=a.size)(hb:nb<=b.size){u:Keyed}(hu:b[nb - 1]?=some u)(hle:∀j y,j<na->a[j]?=some y->R u y=false)(hn:na+nb<=n0)(qd:IM R a b Q st)(qn:IP R a b n0 Q st):wpS (model prog w) A E s (CD a b out na nb g k bc) Q st:=by
 unfold CD;have pb:=P.nb;refine Kz (aU hu ?_);have M2:=P.GW M (by lia) ha hb hu λj y hj hy=>hle j y hj hy;by_cases c7:(nb - 1 == 1)=true
 .rw[if_pos c7];rw[beq_iff_eq] at c7;rw[c7] at M2 ⊢;exact KD (qd _ _ (P.C5 M2 ha pb))
 rw[if_neg c7];rw[beq_iff_eq] at c7;obtain ⟨v,hv⟩ : ∃x,a[na - 1]?=some x:=⟨a[na - 1],Ky (by lia)⟩
 refine Kz (aU hv ?_);refine Kz (nG L hk (P.Da hv) (by lia) (by lia) (λi x _ hx=>P.Db hx) (λi j x y hij _ hx hy=>P.J1 (P.Da hv) (by lia) hx hy) λm hm m1 m2=>?_);dsimp only;simp only[Nat.zero_add] at m1 m2;by_cases c8:nb - 1 - m>0
 .rw[if_pos c8];have Mm:=P.HW M2 hm ha (by lia) (λi x h4 h5 hx j y hj hy=>P.Ir (P.Db hx) (by lia) hy hv (m2 i x h4 h5 hx)) (out':=_++(b.extract m (nb - 1)).reverse) wM;by_cases c9:(m == 1)=true
  .rw[if_pos c9];rw[beq_iff_eq] at c9;rw[c9] at Mm ⊢;exact KD (qd _ _ (P.C5 Mm ha pb))
  rw[if_neg c9];by_cases c10:(m == 0)=true
  .rw[if_pos c10];rw[beq_iff_eq] at c10;rw[c10] at Mm ⊢;exact KD (qd _ _ (P.Iz Mm ha))
  rw[if_neg c10];rw[beq_iff_eq] at c9 c10;exact tD P Mm h1 (by lia) ha (by lia) hv m1 (by lia) qd qn
 .rw[if_neg c8];have e0:m=nb - 1:=by lia
  subst e0;exact tD P M2 h1 (by lia) ha (by lia) hv m1 (by lia) qd qn
theorem Aw (L:fi prog w A E s Dm R κ)(P:Pre Dm R a b)(hk:kindOf st=κ)(M:MH R a b out na nb)(h1:1<=na)(h2:2<=nb)(ha:na<=a.size)(hb:nb<=b.size)(hn:na+nb<=n0)(qd:IM R a b Q (setG st g))(qn:IP R a b n0 Q (setG st g)):wpS (model prog w) A E s (Av a b out na nb g ac bc) Q st:=by
 unfold Av;rw[cZ];obtain ⟨u,hu⟩ : ∃x,b[nb - 1]?=some x:=⟨b[nb - 1],Ky (by lia)⟩
 refine Kz (wpS_modify (Kz (aU hu ?_)));have hk':kindOf (setG st g)=κ:=hk;refine Kz (lx L hk' (P.Db hu) (by lia) (by lia) (λi x _ hx=>P.Da hx) (λi j x y hij _ hx hy=>P.Ir (P.Db hu) (by lia) hx hy) λk hkn k1 k2=>?_);dsimp only;simp only[Nat.zero_add] at k1 k2;by_cases c4:na - k>0
 .rw[if_pos c4];have Mk:=P.HV M hkn ha hb (λi x h4 h5 hx j y hj hy=>P.JX (P.Da hx) (by lia) hu hy (k2 i x h4 h5 hx)) (out':=out++(a.extract k na).reverse) wM;by_cases c5:(k == 0)=true
  .rw[if_pos c5];rw[beq_iff_eq] at c5;rw[c5] at Mk ⊢;exact KD (qd _ _ (P.D8 Mk hb))
  rw[if_neg c5];rw[beq_iff_eq] at c5;exact tw L P hk' Mk (by lia) h2 (by lia) hb hu k1 (by lia) qd qn
 .rw[if_neg c4];have e0:k=na:=by lia
  subst e0;exact tw L P hk' M h1 h2 ha hb hu k1 hn qd qn
end
noncomputable abbrev DH:=Option (Array Keyed)×Nat×Nat×Array Keyed×Nat×Nat
noncomputable abbrev BN:=Option (Array Keyed)×Nat×Nat×Array Keyed×Nat
noncomputable def Jc (a b:Array Keyed)(g:Nat)(c:DH):StateT KI Sem (ForInStep DH):=do
  let y <-elem' b (c.2.2.1 - 1)
  let x <-elem' a (c.2.1 - 1)
  let r <-lt' y x
  match r with
  | some aW =>
    if aW=true then do
      let z <-elem' a (c.2.1 - 1)
      if (c.2.1 - 1 == 0)=true then pure (.done (some (dF a b (c.2.2.2.1.push z) (c.2.1 - 1) c.2.2.1),c.2.1 - 1,c.2.2.1,c.2.2.2.1.push z,c.2.2.2.2.1+1,0))
      else if c.2.2.2.2.1+1>=g then pure (.done (none,c.2.1 - 1,c.2.2.1,c.2.2.2.1.push z,c.2.2.2.2.1+1,0))
      else pure (.yield (none,c.2.1 - 1,c.2.2.1,c.2.2.2.1.push z,c.2.2.2.2.1+1,0))
    else do
      let z <-elem' b (c.2.2.1 - 1)
      if (c.2.2.1 - 1 == 1)=true then pure (.done (some (oN a b (c.2.2.2.1.push z) c.2.1 (c.2.2.1 - 1)),c.2.1,c.2.2.1 - 1,c.2.2.2.1.push z,0,c.2.2.2.2.2+1))
      else if c.2.2.2.2.2+1>=g then pure (.done (none,c.2.1,c.2.2.1 - 1,c.2.2.2.1.push z,0,c.2.2.2.2.2+1))
      else pure (.yield (none,c.2.1,c.2.2.1 - 1,c.2.2.2.1.push z,0,c.2.2.2.2.2+1))
  | _=>pure (.done (some (dF a b c.2.2.2.1 c.2.1 c.2.2.1),c.2.1,c.2.2.1,c.2.2.2.1,c.2.2.2.2.1,c.2.2.2.2.2))
noncomputable def Ja (a b:Array Keyed)(c:xS):StateT KI Sem (ForInStep xS):=if c.2.2.2.2.1>1 then Av a b c.2.2.2.1 c.2.1 c.2.2.1 (c.2.2.2.2.1 - 1) c.2.2.2.2.2.1 c.2.2.2.2.2.2 else Av a b c.2.2.2.1 c.2.1 c.2.2.1 c.2.2.2.2.1 c.2.2.2.2.2.1 c.2.2.2.2.2.2
noncomputable def IZ (a b:Array Keyed)(g:Nat)(c:DH):StateT KI Sem (ForInStep BN):=do
  liftM (rule "list.sort.gallop")
  let d <-forIn [:a.size+b.size] ((none,c.2.1,c.2.2.1,c.2.2.2.1,g+1,c.2.2.2.2.1,c.2.2.2.2.2):xS) λ_ d=>Ja a b d
  match d.1 with
  | some r=>pure (.done (some r,d.2.1,d.2.2.1,d.2.2.2.1,d.2.2.2.2.1))
  | none=>do
    bB (d.2.2.2.2.1+1)
    pure (.yield (none,d.2.1,d.2.2.1,d.2.2.2.1,d.2.2.2.2.1+1))
noncomputable def Jb (a b:Array Keyed)(c:BN):StateT KI Sem (ForInStep BN):=do
  let d <-forIn [:a.size+b.size] ((none,c.2.1,c.2.2.1,c.2.2.2.1,0,0):DH) λ_ d=>Jc a b c.2.2.2.2 d
  match d.1 with
  | some r=>pure (.done (some r,d.2.1,d.2.2.1,d.2.2.2.1,c.2.2.2.2))
  | none=>IZ a b c.2.2.2.2 d
theorem qX (a b:Array Keyed):kD a b=(do
  liftM (rule "list.sort.merge-hi")
  let x <-elem' a (a.size - 1)
  if (a.size - 1 == 0)=true then pure (dF a b #[x] (a.size - 1) b.size)
  else if (b.size == 1)=true then pure (oN a b #[x] (a.size - 1) b.size)
  else do
    let s <-get
    let c <-forIn [:a.size+b.size] ((none,a.size - 1,b.size,#[x],gallopOf s):BN) λ_ c=>Jb a b c
    match c.1 with
    | some r=>pure r
    | none=>liftM (unsupported "internal:list.sort.merge-bound")):=by
  rw[qW];dsimp only;refine bind_eq rfl λ_=>bind_eq rfl λx=>congrArg _ (congrArg _ (bind_eq rfl λs=>bind_eq (congrArg _ (funext λ_=>funext λc=>bind_eq rfl λd=>?_)) λc=>?_))
  · rcases d with ⟨_ | r,d⟩
    · refine bind_eq rfl λ_=>bind_eq rfl λd=>?_;rcases d with ⟨_ | r,d⟩<;>rfl
    · rfl
  · rcases c with ⟨_ | r,c⟩<;>rfl
section
variable {a b:Array Keyed} {st:KI}
noncomputable def xR (R:Keyed->Keyed->Bool)(a b:Array Keyed)(n na nb:Nat)(out:Array Keyed):Prop:=MH R a b out na nb/\1<=na/\2<=nb/\na<=a.size/\nb<=b.size/\n+na+nb<=a.size+b.size
theorem CC (L:fi prog w A E s Dm R κ)(P:Pre Dm R a b)(hk:kindOf st=κ){n g na nb ac bc:Nat}{out:Array Keyed}{Q:ForInStep DH->KI->Prop}(M0:xR R a b n na nb out)(qd:∀r c,Good R a b r->Q (.done (some r,c)) st)(qn:∀na nb out ac bc,xR R a b (n+1) na nb out->Q (.done (none,na,nb,out,ac,bc)) st/\Q (.yield (none,na,nb,out,ac,bc)) st):wpS (model prog w) A E s (Jc a b g (none,na,nb,out,ac,bc)) Q st:=by
 obtain ⟨M,h1,h2,ha,hb,h3⟩:=M0;unfold Jc;obtain ⟨u,hu⟩ : ∃x,b[nb - 1]?=some x:=⟨b[nb - 1],Ky (by lia)⟩
 obtain ⟨v,hv⟩ : ∃x,a[na - 1]?=some x:=⟨a[na - 1],Ky (by lia)⟩
 refine Kz (aU hu (Kz (aU hv (Kz (L u v _ _ (P.Db hu) (P.Da hv) hk ?_)))));cases c3:R u v with
 | true =>
  have M':=P.E1 M (by lia) ha hb hv λj y hj hy=>P.JX (P.Da hv) (by lia) hu hy c3;refine Kz (aU hv ?_);split
  case isTrue c =>
   have c:na - 1=0:=beq_iff_eq.mp c;refine KD (qd _ _ ?_);dsimp only;rw[c] at M' ⊢;exact P.D8 M' hb
  case isFalse c =>
   have c:¬na - 1=0:=λz=>c (beq_iff_eq.mpr z);have z:=qn (na - 1) nb (out.push v) (ac+1) 0 ⟨M',by lia,h2,by lia,hb,by lia⟩;split
   .exact KD z.1
   .exact KD z.2
 | false =>
  have M':=P.GW M (by lia) ha hb hu λj y hj hy=>P.Ir (P.Db hu) (by lia) hy hv c3;refine Kz (aU hu ?_);split
  case isTrue c =>
   have c:nb - 1=1:=beq_iff_eq.mp c;refine KD (qd _ _ ?_);dsimp only;rw[c] at M' ⊢;exact P.C5 M' ha P.nb
  case isFalse c =>
   have c:¬nb - 1=1:=λz=>c (beq_iff_eq.mpr z);have z:=qn na (nb - 1) (out.push u) 0 (bc+1) ⟨M',h1,by lia,ha,by lia,by lia⟩;split
   .exact KD z.1
   .exact KD z.2
theorem CA (L:fi prog w A E s Dm R κ)(P:Pre Dm R a b){st0:KI}(hk:kindOf st0=κ)(hS:ar st0 st){n:Nat}{d:xS}(h:d.1=none/\xR R a b n d.2.1 d.2.2.1 d.2.2.2.1){Q:ForInStep xS->KI->Prop}(qd:∀r c st',ar st0 st'->Good R a b r->Q (.done (some r,c)) st')(qn:∀d st',ar st0 st'->d.1=none/\xR R a b (n+1) d.2.1 d.2.2.1 d.2.2.2.1->Q (.done d) st'/\Q (.yield d) st'):wpS (model prog w) A E s (Ja a b d) Q st:=by
 obtain ⟨_,M,h1,h2,ha,hb,h3⟩:=h;have key:∀g,wpS (model prog w) A E s (Av a b d.2.2.2.1 d.2.1 d.2.2.1 g d.2.2.2.2.2.1 d.2.2.2.2.2.2) Q st:=λg =>
  Aw (n0:=d.2.1+d.2.2.1) L P (hS.1.trans hk) M h1 h2 ha hb (Ku _) (λr c hG=>qd r c _ (hS.setG _) hG) λna' nb' out' g2 k k1 M' i1 i2 i3 i4 i5=>qn _ _ (hS.setG _) ⟨rfl,M',i1,i2,i3,i4,by dsimp only;lia⟩
 unfold Ja;split
 .exact key _
 .exact key _
theorem Cz (L:fi prog w A E s Dm R κ)(P:Pre Dm R a b){st0:KI}(hk:kindOf st0=κ)(hS:ar st0 st){n g:Nat}{c:DH}(h:xR R a b n c.2.1 c.2.2.1 c.2.2.2.1){Q:ForInStep BN->KI->Prop}(qd:∀r c st',ar st0 st'->Good R a b r->Q (.done (some r,c)) st')(qn:∀d st',ar st0 st'->d.1=none/\xR R a b n d.2.1 d.2.2.1 d.2.2.2.1->Q (.yield d) st'):wpS (model prog w) A E s (IZ a b g c) Q st:=by
 unfold IZ;refine Kz (wpS_lift (wpAny_rule ⟨rfl,Kz (wpS_mono (wpS_forRange
  (I:=λy (d:xS) st'=>ar st0 st'/\d.1=none/\xR R a b (n+y) d.2.1 d.2.2.1 d.2.2.2.1)
  (Q:=λ(d:xS) st'=>ar st0 st'/\((∃r,d.1=some r/\Good R a b r)\/d.1=none/\xR R a b n d.2.1 d.2.2.1 d.2.2.2.1)) ?_ ?_ ⟨hS,rfl,h⟩) ?_)⟩))
 .rintro y d st' _ hy ⟨hS,z⟩;refine CA L P hk hS z (λr c st' hS hG=>⟨hS,.inl ⟨r,rfl,hG⟩⟩) λd st' hS z=>⟨⟨hS,.inr ⟨z.1,z.2.1,z.2.2.1,z.2.2.2.1,z.2.2.2.2.1,z.2.2.2.2.2.1,?_⟩⟩,hS,z⟩
  have:=z.2.2.2.2.2.2;lia
 .rintro d st' ⟨hS,_,M,h1,h2,h3,h4,h5⟩;lia
 .rintro d st' ⟨hS,⟨r,e,hG⟩ | ⟨e,z⟩⟩
  .rw[e];exact KD (qd _ _ _ hS hG)
  .rw[e];dsimp only;rw[cZ];exact Kz (wpS_modify (KD (qn _ _ (hS.setG _) ⟨rfl,z⟩)))
theorem CB (L:fi prog w A E s Dm R κ)(P:Pre Dm R a b){st0:KI}(hk:kindOf st0=κ)(hS:ar st0 st){n:Nat}{c:BN}(h:xR R a b n c.2.1 c.2.2.1 c.2.2.2.1){Q:ForInStep BN->KI->Prop}(qd:∀r c st',ar st0 st'->Good R a b r->Q (.done (some r,c)) st')(qn:∀d st',ar st0 st'->d.1=none/\xR R a b (n+1) d.2.1 d.2.2.1 d.2.2.2.1->Q (.yield d) st'):wpS (model prog w) A E s (Jb a b c) Q st:=by
 unfold Jb;refine Kz (wpS_mono (wpS_forRange
  (I:=λy (d:DH) st'=>st'=st/\d.1=none/\xR R a b (n+y) d.2.1 d.2.2.1 d.2.2.2.1)
  (Q:=λ(d:DH) st'=>st'=st/\((∃r,d.1=some r/\Good R a b r)\/d.1=none/\xR R a b (n+1) d.2.1 d.2.2.1 d.2.2.2.1)) ?_ ?_ ⟨rfl,rfl,h⟩) ?_)
 .rintro y ⟨x,na,nb,out,ac,bc⟩ st' _ hy ⟨rfl,e,z⟩;obtain rfl:x=none:=e;refine CC L P (hS.1.trans hk) z (λr c hG=>⟨rfl,.inl ⟨r,rfl,hG⟩⟩) λna nb out ac bc z=>⟨⟨rfl,.inr ⟨rfl,z.1,z.2.1,z.2.2.1,z.2.2.2.1,z.2.2.2.2.1,?_⟩⟩,rfl,rfl,z⟩
  have:=z.2.2.2.2.2;dsimp only;lia
 .rintro d st' ⟨rfl,_,M,h1,h2,h3,h4,h5⟩;lia
 .rintro d st' ⟨rfl,⟨r,e,hG⟩ | ⟨e,z⟩⟩
  .rw[e];exact KD (qd _ _ _ hS hG)
  .rw[e];exact Cz L P hk hS z qd qn
end
theorem tW (L:fi prog w A E s Dm R κ){a b:Array Keyed}(P:Pre Dm R a b){st:KI}(hk:kindOf st=κ){Q:Array Keyed->KI->Prop}(h:∀r st',ar st st'->Good R a b r->Q r st'):wpS (model prog w) A E s (kD a b) Q st:=by
 have pa:=P.na;have pb:=P.nb;obtain ⟨a0,ha0⟩ : ∃x,a[a.size - 1]?=some x:=⟨a[a.size - 1],Ky (by lia)⟩
 have M1:=P.jS ha0;rw[qX];refine Kz (wpS_lift (wpAny_rule ⟨rfl,Kz (aU ha0 ?_)⟩));split
 case isTrue c =>
  rw[beq_iff_eq] at c;rw[c] at M1 ⊢;exact KD (h _ _ .yP (P.D8 M1 (Ku _)))
 case isFalse c1 =>
  split
  case isTrue c =>
   rw[beq_iff_eq] at c;rw[c] at M1 ⊢;exact KD (h _ _ .yP (P.C5 M1 (by lia) pb))
  case isFalse c2 =>
   rw[beq_iff_eq] at c1 c2;refine Kz (wpS_get (Kz (wpS_mono (wpS_forRange
    (I:=λx (c:BN) st'=>ar st st'/\c.1=none/\xR R a b (1+x) c.2.1 c.2.2.1 c.2.2.2.1)
    (Q:=λ(c:BN) st'=>ar st st'/\∃r,c.1=some r/\Good R a b r) ?_ ?_ ⟨.yP,rfl,M1,?_⟩) ?_)))
   .rintro x c st' _ hx ⟨hS,_,z⟩;exact CB L P hk hS z (λr c st' hS hG=>⟨hS,r,rfl,hG⟩) λd st' hS z=>⟨hS,z⟩
   .rintro c st' ⟨hS,_,M,h1,h2,h3,h4,h5⟩;lia
   .dsimp only;lia
   .rintro c st' ⟨hS,r,e,hG⟩;rw[e];exact KD (h _ _ hS hG)
end
end Tim
namespace Tim
open PySem PyProof.Rows
noncomputable def putBack (sa:Nat)(merged:Array Keyed)(a:Array Keyed):Array Keyed:=merged.toList.zipIdx.foldl (λa (p,j)=>a.setIfInBounds (sa+j) p) a
theorem tU (i:Nat):mergeAt' i=(do
  let s <-get
  let (some (sa,na,power),some (sb,nb,_)):=((pendingOf s)[i]?,(pendingOf s)[i+1]?) | unsupported "internal:list.sort.pending"
  set (setPending s (((pendingOf s).setIfInBounds i (sa,na+nb,power)).eraseIdxIfInBounds (i+1)))
  let some k <-cK false (<-elem' (arrOf s) sb) (arrOf s) sa na 0 | return false
  let (sa,na):=(sa+k,na - k)
  if na == 0 then return true
  let some nb <-cK true (<-elem' (arrOf s) (sa+na - 1)) (arrOf s) sb nb (nb - 1) | return false
  if nb == 0 then return true
  let x:=(arrOf s).extract sa sb
  let y:=(arrOf s).extract sb (sb+nb)
  let merged <-if na<=nb then kE x y else kD x y
  modify λs=>setArr s (putBack sa merged (arrOf s))
  return (failedOf (<-get)).isNone):=rfl
theorem n4 (sa:Nat):∀(ms:List Keyed) (k:Nat) (arr:Array Keyed),sa+k+ms.length<=arr.size->((ms.zipIdx k).foldl (λ(a:Array Keyed) (pj:Keyed×Nat)=>a.setIfInBounds (sa+pj.2) pj.1) arr).toList=arr.toList.take (sa+k)++ms++arr.toList.drop (sa+k+ms.length)
 | [],k,arr,h=>by simp
 | m::ms,k,arr,h=>by
  rw[List.zipIdx_cons,List.foldl_cons,n4 sa ms (k+1) _ (by rw[Array.size_setIfInBounds];simp at h;lia),Array.toList_setIfInBounds];have hl:sa+k<arr.toList.length:=by rw[KH];simp at h;lia
  dsimp only;rw[show sa+(k+1)=sa+k+1 by lia,List.take_succ_eq_append_getElem (by rw[length_set];exact hl),List.getElem_set_self,List.take_set_of_le (Ku _),List.drop_set_of_lt (by lia)];rw[Lg,Lg,Lg];simp only[List.singleton_append,List.cons_append,List.nil_append,K9];rw[show sa+k+1+ms.length=sa+k+(ms.length+1) by lia]
theorem rq {sa:Nat}{merged arr:Array Keyed}(h:sa+merged.size<=arr.size):(putBack sa merged arr).toList=arr.toList.take sa++merged.toList++arr.toList.drop (sa+merged.size):=by
 have:=n4 sa merged.toList 0 arr (by rw[KH];lia);rw[Nat.add_zero,KH] at this;exact this
section
variable {Dm:Keyed->Prop} {R:Keyed->Keyed->Bool}
noncomputable def seg (l:List Keyed)(s n:Nat):List Keyed:=(l.drop s).take n
theorem seg_at {l:List Keyed}{s n i:Nat}(h:i<n):(seg l s n)[i]?=l[s+i]?:=by
 unfold seg;rw[List.getElem?_take_of_lt h,List.getElem?_drop]
theorem fQ {l:List Keyed}{s n i:Nat}{x:Keyed}(h:(seg l s n)[i]?=some x):i<n/\l[s+i]?=some x:=by
 have:i<n:=by
  have:=(Kw.mp h).1;unfold seg at this;rw[KO] at this;lia
 exact ⟨this,by rw[<-seg_at this];exact h⟩
theorem fR {l:List Keyed}{s n:Nat}{x:Keyed}(h:x∈seg l s n):∃i,i<n/\l[s+i]?=some x:=bJ h
theorem kN (l:List Keyed)(s n m:Nat):seg l s (n+m)=seg l s n++seg l (s+n) m:=by
 unfold seg;rw[List.take_add,List.drop_drop]
theorem lI (l:List Keyed)(s n:Nat):l=l.take s++seg l s n++l.drop (s+n):=by
 unfold seg;rw[Lg,<-List.drop_drop,take_append_drop,take_append_drop]
theorem mY (a:Array Keyed)(i j:Nat):(a.extract i j).toList=seg a.toList i (j - i):=gm a i j
theorem AB (o:Ord Dm R){X0 X1 Y0 Y1 m:List Keyed}(hd:∀x,x∈X0++X1++(Y0++Y1)->Dm x)(sX:fA R (X0++X1))(sY:fA R (Y0++Y1))(hm:m.Perm (X1++Y0))(sm:fA R m)
  (h0:∀x∈X0,∀y∈Y0++Y1,R y x=false) (h1:∀x∈X1,∀y∈Y1,R y x=false):fA R (X0++m++Y1):=by
 have a:=pairwise_append.mp sX;have b:=pairwise_append.mp sY;refine pairwise_append.mpr ⟨pairwise_append.mpr ⟨a.1,sm,λx hx y hy=>?_⟩,b.2.1,λx hx y hy=>?_⟩
 .rcases Lf.mp (hm.mem_iff.mp hy) with z | z
  .exact a.2.2 x hx y z
  .exact h0 x hx y (mem_append_left _ z)
 .rcases Lf.mp hx with z | z
  .exact h0 x z y (mem_append_right _ hy)
  .rcases Lf.mp (hm.mem_iff.mp z) with u | u
   .exact h1 x u y hy
   .exact b.2.2 x u y hy
variable {prog:KP} {w:K7} {A:K1} {E:Kn->Kp->Prop} {s:Kp} {κ:SortKind}
theorem DF {σ:Type}{M:Model}{st st':σ}{Q:PUnit->σ->Prop}(h:Q ⟨⟩ st'):wpS M A E s (set st':StateT σ Sem PUnit) Q st:=by
 unfold wpS;rw[StateT.run_set];exact Kq ⟨rfl,h⟩
noncomputable def Done (R:Keyed->Keyed->Bool)(l l':List Keyed)(s n:Nat):Prop:=∃m,l'=l.take s++m++l.drop (s+n)/\m.Perm (seg l s n)/\fA R m
theorem tV (L:fi prog w A E s Dm R κ)(o:Ord Dm R){st:KI}(hk:kindOf st=κ)(hf:failedOf st=none)(hd:∀x∈(arrOf st).toList,Dm x){i sa na pw sb nb pb:Nat}
    (h1:(pendingOf st)[i]?=some (sa,na,pw)) (h2:(pendingOf st)[i+1]?=some (sb,nb,pb)) (hs:sa+na=sb) (hn:1<=na) (hm:1<=nb) (hz:sb+nb<=(arrOf st).size)
    (sX:fA R (seg (arrOf st).toList sa na)) (sY:fA R (seg (arrOf st).toList sb nb)) {Q:Bool->KI->Prop}
    (h:∀st',kindOf st'=κ->failedOf st'=none->pendingOf st'=((pendingOf st).setIfInBounds i (sa,na+nb,pw)).eraseIdxIfInBounds (i+1)->Done R (arrOf st).toList (arrOf st').toList sa (na+nb)->Q true st'):wpS (model prog w) A E s (mergeAt' i) Q st:=by
  subst hs;generalize hl:(arrOf st).toList=l at *;have hlen:l.length=(arrOf st).size:=by rw[<-hl,KH]
  have at_:∀j,j<sa+na+nb->∃x,(arrOf st)[j]?=some x:=λj hj=>⟨(arrOf st)[j]'(by lia),Ky (by lia)⟩
  have toL':∀{j x},(arrOf st)[j]?=some x->l[j]?=some x:=λ{j x} e=>by rw[<-hl];exact vQ e
  have D:∀{j x},(arrOf st)[j]?=some x->Dm x:=λ{j x} e=>hd x (KC (toL' e));have dX:∀x∈seg l sa na,Dm x:=λx hx=>by obtain ⟨j,_,e⟩:=fR hx;exact hd x (KC e)
  have dY:∀x∈seg l (sa+na) nb,Dm x:=λx hx=>by obtain ⟨j,_,e⟩:=fR hx;exact hd x (KC e)
  have leX:∀{i j x y},i<=j->j<na->(arrOf st)[sa+i]?=some x->(arrOf st)[sa+j]?=some y->R y x=false:=λ{i j x y} hij hj hx hy =>
    sX.le o dX hij (by rw[seg_at (by lia)];exact toL' hx) (by rw[seg_at hj];exact toL' hy)
  have leY:∀{i j x y},i<=j->j<nb->(arrOf st)[sa+na+i]?=some x->(arrOf st)[sa+na+j]?=some y->R y x=false:=λ{i j x y} hij hj hx hy =>
    sY.le o dY hij (by rw[seg_at (by lia)];exact toL' hx) (by rw[seg_at hj];exact toL' hy)
  obtain ⟨y0,hy0⟩:=at_ (sa+na) (by lia);rw[tU];refine Kz (wpS_get ?_);rw[h1,h2];dsimp (config:={ zeta:=false }) only;refine Kz (DF (Kz (aU hy0 ?_)));refine Kz (lx L hk (D hy0) (by lia) (by lia) (λi x _ hx=>D hx) (λi j x y hij hj hx hy hr=>o.tr x y y0 (D hx) (D hy) (D hy0) (leX hij hj hx hy) hr) λk hkn k1 k2=>?_);dsimp (config:={ zeta:=false }) only;have low:∀x∈seg l sa k,∀y∈seg l (sa+na) nb,R y x=false:=λx hx y hy=>by
    obtain ⟨i,h3,h4⟩:=fR hx;obtain ⟨j,h5,h6⟩:=fR hy;rw[<-hl,Kx] at h4 h6;exact o.tr x y0 y (D h4) (D hy0) (D h6) (k1 i x h3 h4) (leY (i:=0) (Lc _) h5 (by rw[Nat.add_zero];exact hy0) h6)
  by_cases c1:(na - k == 0)=true
  · rw[if_pos c1];rw[beq_iff_eq] at c1;have e:k=na:=by lia
    subst e;refine KD (h _ hk hf rfl ⟨seg l sa (k+nb),?_,.refl _,?_⟩)
    · show (arrOf st).toList=_;rw[hl];exact lI _ _ _
    · rw[kN];exact pairwise_append.mpr ⟨sX,sY,low⟩
  rw[if_neg c1];rw[beq_iff_eq] at c1;obtain ⟨z,hz'⟩:=at_ (sa+k+(na - k) - 1) (by lia);refine Kz (aU hz' ?_);rw[show sa+k+(na - k) - 1=sa+(na - 1) by lia] at hz';refine Kz (nG L hk (D hz') (by lia) (by lia) (λi x _ hx=>D hx) (λi j x y hij hj hx hy hr=>by
    cases q:R x z with
    | true=>rfl
    | false =>
      have:=o.tr z x y (D hz') (D hx) (D hy) q (leY hij hj hx hy);rw[hr] at this;cases this) λn hnn n1 n2=>?_)
  dsimp (config:={ zeta:=false }) only;have eX:seg l sa na=seg l sa k++seg l (sa+k) (na - k):=by rw[<-kN];congr 1;lia
  have eY:seg l (sa+na) nb=seg l (sa+na) n++seg l (sa+na+n) (nb - n):=by rw[<-kN];congr 1;lia
  have high:∀x∈seg l (sa+k) (na - k),∀y∈seg l (sa+na+n) (nb - n),R y x=false:=λx hx y hy=>by
    obtain ⟨i,h3,h4⟩:=fR hx;obtain ⟨j,h5,h6⟩:=fR hy;rw[<-hl,Kx] at h4 h6;rw[Nat.add_assoc] at h4;rw[Nat.add_assoc (sa+na)] at h6;exact o.tr x z y (D h4) (D hz') (D h6) (leX (by lia) (by lia) h4 hz') (n2 _ y (by lia) (by lia) h6)
  have fin:∀m:List Keyed,m.Perm (seg l (sa+k) (na - k)++seg l (sa+na) n)->fA R m->(seg l sa k++m++seg l (sa+na+n) (nb - n)).Perm (seg l sa (na+nb))/\fA R (seg l sa k++m++seg l (sa+na+n) (nb - n)):=λm hp hs=>by
    constructor
    · rw[kN,eX,eY,Lg,Lg];refine List.Perm.append_left _ ?_;rw[<-Lg];exact hp.append_right _
    · exact AB o (X1:=seg l (sa+k) (na - k)) (Y0:=seg l (sa+na) n) (λx hx=>by
        rw[<-eX,<-eY] at hx;rcases Lf.mp hx with q | q
        · exact dX x q
        · exact dY x q) (by rw[<-eX];exact sX) (by rw[<-eY];exact sY) hp hs (by rw[<-eY];exact low) high
  by_cases c2:(n == 0)=true
  · rw[if_pos c2];rw[beq_iff_eq] at c2;subst c2;have:=fin (seg l (sa+k) (na - k)) (by unfold seg;simp) (by
      rw[eX] at sX;exact (pairwise_append.mp sX).2.1)
    refine KD (h _ hk hf rfl ⟨_,?_,this.1,this.2⟩);show (arrOf st).toList=_;rw[hl,<-eX];rw[show sa+na+0=sa+na by lia,show nb - 0=nb by lia,<-kN];exact lI _ _ _
  rw[if_neg c2];rw[beq_iff_eq] at c2;have P:Pre Dm R ((arrOf st).extract (sa+k) (sa+na)) ((arrOf st).extract (sa+na) (sa+na+n)):=by
    have e1:((arrOf st).extract (sa+k) (sa+na)).toList=seg l (sa+k) (na - k):=by rw[mY,hl];congr 1;lia
    have e2:((arrOf st).extract (sa+na) (sa+na+n)).toList=seg l (sa+na) n:=by rw[mY,hl];congr 1;lia
    have z1:((arrOf st).extract (sa+k) (sa+na)).size=na - k:=by rw[Array.size_extract];lia
    have z2:((arrOf st).extract (sa+na) (sa+na+n)).size=n:=by rw[Array.size_extract];lia
    refine ⟨o,?_,?_,?_,?_,?_,?_,by lia,by lia⟩
    · rw[e1];exact λx hx=>dX x (by rw[eX];exact mem_append_right _ hx)
    · rw[e2];exact λx hx=>dY x (by rw[eY];exact mem_append_left _ hx)
    · rw[e1];rw[eX] at sX;exact (pairwise_append.mp sX).2.1
    · rw[e2];rw[eY] at sY;exact (pairwise_append.mp sY).1
    · rw[e1];intro x hx y hy;have hy':=vQ hy;rw[e2] at hy';obtain ⟨h3,h4⟩:=fQ hy';rw[<-hl,Kx,Nat.add_zero,hy0] at h4;cases h4;obtain ⟨j,h5,h6⟩:=fR hx;rw[<-hl,Kx,Nat.add_assoc] at h6;exact k2 _ x (by lia) (by lia) h6
    · rw[e2];intro y hy x hx;have hx':=vQ hx;rw[e1,z1] at hx';obtain ⟨h3,h4⟩:=fQ hx';rw[<-hl,Kx,show sa+k+(na - k - 1)=sa+(na - 1) by lia,hz'] at h4;cases h4;obtain ⟨j,h5,h6⟩:=fR hy;rw[<-hl,Kx] at h6;exact n1 j y h5 h6
  have back:∀(r:Array Keyed) (st':KI),ar (setPending st (((pendingOf st).setIfInBounds i (sa,na+nb,pw)).eraseIdxIfInBounds (i+1))) st'->Good R ((arrOf st).extract (sa+k) (sa+na)) ((arrOf st).extract (sa+na) (sa+na+n)) r ->
      Q true (setArr st' (putBack (sa+k) r (arrOf st')))/\failedOf st'=none:=λr st' hS hG=>by
    have hS1:kindOf st'=κ:=hS.1.trans hk;have hS2:arrOf st'=arrOf st:=hS.2.1;have hS4:failedOf st'=none:=hS.2.2.2.trans hf;obtain ⟨hp,hs⟩:=hG;rw[mY,mY,hl,show sa+na - (sa+k)=na - k by lia,show sa+na+n - (sa+na)=n by lia] at hp;have:=fin r.toList hp hs;have hlen2:r.size=na - k+n:=by
      have:=hp.length_eq;rw[KA] at this;unfold seg at this;rw[KO,KO,Li,Li,KH] at this;lia
    refine ⟨h _ hS1 hS4 hS.2.2.1 ⟨_,?_,this.1,this.2⟩,hS4⟩;show (putBack (sa+k) r (arrOf st')).toList=_;rw[hS2,rq (by lia),hl];have t1:l.take (sa+k)=l.take sa++seg l sa k:=by unfold seg;rw[List.take_add]
    have t2:l.drop (sa+k+r.size)=seg l (sa+na+n) (nb - n)++l.drop (sa+(na+nb)):=by
      unfold seg;rw[show sa+k+r.size=sa+na+n by lia,show sa+(na+nb)=sa+na+n+(nb - n) by lia];have:=take_append_drop (nb - n) (l.drop (sa+na+n));rw[List.drop_drop] at this;exact this.symm
    rw[t1,t2];simp only[Lg]
  dsimp only;have post:∀(r:Array Keyed) (st':KI),ar (setPending st (((pendingOf st).setIfInBounds i (sa,na+nb,pw)).eraseIdxIfInBounds (i+1))) st'->Good R ((arrOf st).extract (sa+k) (sa+na)) ((arrOf st).extract (sa+na) (sa+na+n)) r ->
      wpS (model prog w) A E s (do modify λs=>setArr s (putBack (sa+k) r (arrOf s));let t <-get;pure (failedOf t).isNone) Q st':=λr st' hS hG=>by
    obtain ⟨q1,q2⟩:=back r st' hS hG;refine Kz (wpS_modify (Kz (wpS_get (KD ?_))));show Q (failedOf st').isNone _;rw[q2];exact q1
  split
  · exact Kz (tX L P (st:=setPending st (((pendingOf st).setIfInBounds i (sa,na+nb,pw)).eraseIdxIfInBounds (i+1))) hk post)
  · exact Kz (tW L P (st:=setPending st (((pendingOf st).setIfInBounds i (sa,na+nb,pw)).eraseIdxIfInBounds (i+1))) hk post)
end
end Tim
namespace Tim
open PySem PyProof.Rows
section
variable {prog:KP} {w:K7} {A:K1} {E:Kn->Kp->Prop} {s:Kp}
variable {Dm:Keyed->Prop} {rk:Keyed->Int} {κ:SortKind}
noncomputable def dN (rk:Keyed->Int):Keyed->Keyed->Bool:=λx y=>decide (rk x<rk y)
theorem zB:Ord Dm (dN rk):=⟨λx y z _ _ _ h1 h2=>by unfold dN at *;simp only[decide_eq_false_iff_not,Int.not_lt] at *;lia,λx y _ _ h=>by unfold dN at *;simp only[decide_eq_true_eq,decide_eq_false_iff_not] at *;lia⟩
noncomputable def Kr (rk:Keyed->Int)(xs:Array Keyed)(i:Nat):Int:=match xs[i]? with
 | some p=>rk p
 | none=>0
theorem ix {xs ys:Array Keyed}{i j:Nat}(h:xs[i]?=ys[j]?):Kr rk xs i=Kr rk ys j:=by unfold Kr;rw[h]
theorem mD {xs:Array Keyed}{i:Nat}{x:Keyed}(h:xs[i]?=some x):Kr rk xs i=rk x:=by unfold Kr;rw[h]
theorem kY {xs:Array Keyed}{i j:Nat}(hj:j<=xs.size)(k:Nat):Kr rk (mirror xs i j ((j - i) / 2)) k=if i<=k/\k<j then Kr rk xs (i+j - 1 - k) else Kr rk xs k:=by
 have e:=getElem?_mirror_all (i:=i) hj k;split
 .rename_i c;rw[if_pos c] at e;exact ix e
 .rename_i c;rw[if_neg c] at e;exact ix e
theorem qo {xs:Array Keyed}{i j:Nat}(hj:j<=xs.size)(heq:∀k,i<=k->k<j->Kr rk xs k=Kr rk xs (j - 1))(k:Nat):Kr rk (mirror xs i j ((j - i) / 2)) k=Kr rk xs k:=by
 rw[kY hj];split
 .rw[heq _ (by lia) (by lia),heq k (by lia) (by lia)]
 .rfl
structure Bs (κ:SortKind)(xs:Array Keyed)(p:Array (Nat×Nat×Nat))(lo:Nat)(st:KI):Prop where
 perm:(arrOf st).Perm xs
 kind:kindOf st=κ
 failed:failedOf st=none
 pend:pendingOf st=p
 low:∀i,i<lo->(arrOf st)[i]?=xs[i]?
variable {xs:Array Keyed} {p:Array (Nat×Nat×Nat)} {lo:Nat}
theorem Bs.size {st:KI}(B:Bs κ xs p lo st):(arrOf st).size=xs.size:=B.perm.size_eq
theorem Bs.mirror {st:KI}(B:Bs κ xs p lo st){i j:Nat}(h:lo<=i)(hj:j<=xs.size):Bs κ xs p lo (setArr st (mirror (arrOf st) i j ((j - i) / 2))):=
 ⟨(mirror_perm _ _ _ _).trans B.perm,B.kind,B.failed,B.pend,λk hk=>by
  show (PyProof.Rows.mirror (arrOf st) i j ((j - i) / 2))[k]?=_;rw[getElem?_mirror_all (by rw[B.size];exact hj),if_neg (by lia)];exact B.low k hk⟩
theorem Bs.bubble {st:KI}(B:Bs κ xs p lo st){k d:Nat}(hk:k<xs.size)(h:lo+d<=k):Bs κ xs p lo (setArr st (bubble (arrOf st) k d)):=
 ⟨(bubble_perm _ _ _).trans B.perm,B.kind,B.failed,B.pend,λi hi=>by
  show (PyProof.Rows.bubble (arrOf st) k d)[i]?=_;rw[getElem?_bubble (by rw[B.size];exact hk) d (by lia),if_neg (by lia),if_neg (by lia)];exact B.low i hi⟩
theorem Bs.lt (L:fi prog w A E s Dm (dN rk) κ)(D:∀x∈xs.toList,Dm x){st:KI}(B:Bs κ xs p lo st){i j:Nat}(hi:i<xs.size)(hj:j<xs.size){Q:Option Bool->KI->Prop}(h:Q (some (decide (Kr rk (arrOf st) i<Kr rk (arrOf st) j))) st):wpS (model prog w) A E s (ltAt' i j) Q st:=by
 have at_:∀k,k<xs.size->∃x,(arrOf st)[k]?=some x/\Dm x:=λk hk=>by
  have hk':k<(arrOf st).size:=by rw[B.size];exact hk
  exact ⟨(arrOf st)[k],Ky hk',D _ ((Array.perm_iff_toList_perm.mp B.perm).mem_iff.mp (by simp))⟩
 obtain ⟨x,hx,dx⟩:=at_ i hi;obtain ⟨y,hy,dy⟩:=at_ j hj;rw[ltAt'_eq];refine Kz (wpS_get ?_);refine Kz (aU hx (Kz (aU hy (L x y st _ dx dy B.kind ?_))));rw[mD hx,mD hy] at h;exact h
noncomputable def Up (rk:Keyed->Int)(lo:Nat)(xs:Array Keyed)(n:Nat):Prop:=∀i j,i<=j->j<n->Kr rk xs (lo+i)<=Kr rk xs (lo+j)
noncomputable def Dn (rk:Keyed->Int)(lo:Nat)(xs:Array Keyed)(n:Nat):Prop:=∀i j,i<=j->j<n->Kr rk xs (lo+j)<=Kr rk xs (lo+i)
theorem Up.step {ys:Array Keyed}{n:Nat}(h:Up rk lo ys n)(h1:1<=n)(hl:¬Kr rk ys (lo+n)<Kr rk ys (lo+n - 1)):Up rk lo ys (n+1):=λi j hij hj=>by
  by_cases c:j<n
  · exact h i j hij c
  · have e : j = n := by lia
    subst e;by_cases c2:i=j
    · subst c2;exact Int.le_refl _
    · have := h i (j - 1) (by lia) (by lia);rw[show lo+(j - 1)=lo+j - 1 by lia] at this;lia
theorem Dn.step {ys:Array Keyed}{n:Nat}(h:Dn rk lo ys n)(h1:1<=n)(hl:Kr rk ys (lo+n)<=Kr rk ys (lo+n - 1)):Dn rk lo ys (n+1):=λi j hij hj=>by
  by_cases c:j<n
  · exact h i j hij c
  · have e : j = n := by lia
    subst e;by_cases c2:i=j
    · subst c2;exact Int.le_refl _
    · have := h i (j - 1) (by lia) (by lia);rw[show lo+(j - 1)=lo+j - 1 by lia] at this;lia
theorem Dn.congr {ys zs:Array Keyed}{n:Nat}(h:Dn rk lo ys n)(e:∀k,Kr rk zs k=Kr rk ys k):Dn rk lo zs n:=λi j hij hj=>by rw[e,e];exact h i j hij hj
theorem Dn.rev {ys:Array Keyed}{n:Nat}(h:Dn rk lo ys n)(hn:lo+n<=ys.size):Up rk lo (mirror ys lo (lo+n) ((lo+n - lo) / 2)) n:=λi j hij hj=>by
 rw[kY hn,kY hn,if_pos (by lia),if_pos (by lia)];have:=h (n - 1 - j) (n - 1 - i) (by lia) (by lia);rw[show lo+(n - 1 - j)=lo+(lo+n) - 1 - (lo+j) by lia,show lo+(n - 1 - i)=lo+(lo+n) - 1 - (lo+i) by lia] at this;exact this
theorem Up.one {ys:Array Keyed}:Up rk lo ys 1:=λi j hij hj=>by
 have e1:i=0:=by lia
 have e2:j=0:=by lia
 subst e1 e2;exact Int.le_refl _
theorem Dn.one {ys:Array Keyed}:Dn rk lo ys 1:=λi j hij hj=>by
 have e1:i=0:=by lia
 have e2:j=0:=by lia
 subst e1 e2;exact Int.le_refl _
theorem qz (L:fi prog w A E s Dm (dN rk) κ)(D:∀x∈xs.toList,Dm x){st:KI}(B:Bs κ xs p lo st){nrem:Nat}(h1:1<=nrem)(h2:lo+nrem<=xs.size){Q:Option Nat->KI->Prop}
    (h:∀m st',Bs κ xs p lo st'->1<=m->m<=nrem->Up rk lo (arrOf st') m->Q (some m) st'):wpS (model prog w) A E s (countRun' lo nrem) Q st:=by
  rw[countRun'_eq];refine Kz (wpS_mono (wpS_forRange (I:=λx c st'=>st'=st/\c=(none,x)/\Up rk lo (arrOf st) x)
    (Q:=λc st'=>st'=st/\∃n,c=(none,n)/\1<=n/\n<=nrem/\Up rk lo (arrOf st) n/\(n=nrem\/Kr rk (arrOf st) (lo+n)<Kr rk (arrOf st) (lo+n - 1))) ?s1 ?f1 ⟨rfl,rfl,.one⟩) ?post)
  case f1 =>
    rintro c st' ⟨rfl,rfl,hu⟩;rw[show max 1 nrem=nrem by lia] at hu ⊢;exact ⟨rfl,nrem,rfl,h1,Ku _,hu,.inl rfl⟩
  case s1 =>
    rintro x c st' hx1 hx2 ⟨rfl,rfl,hu⟩;dsimp (config:={ zeta:=false }) only;refine Kz (B.lt L D (by lia) (by lia) ?_);dsimp (config:={ zeta:=false }) only;split
    · rename_i c;exact KD ⟨rfl,x,rfl,hx1,by lia,hu,.inr (of_decide_eq_true c)⟩
    · rename_i c;exact KD ⟨rfl,rfl,hu.step hx1 λz=>c (decide_eq_true z)⟩
  case post =>
    rintro c st' ⟨rfl,n,rfl,n1,n2,hu,hor⟩;dsimp only;by_cases c1:(n == nrem)=true
    · rw[if_pos c1];exact KD (h n _ B n1 n2 hu)
    rw[if_neg c1];rw[beq_iff_eq] at c1;have hlt:=hor.resolve_left c1;have hsz:=B.size;refine (λ(tail:∀st1,Bs κ xs p lo st1->Dn rk lo (arrOf st1) (n+1)->wpS (model prog w) A E s ?X Q st1)=>?main) ?tl
    case main =>
     by_cases c2:n>1
     case pos =>
      rw[if_pos c2];refine Kz (B.lt L D (by lia) (by lia) ?_);dsimp only;by_cases c3:Kr rk (arrOf st') lo<Kr rk (arrOf st') (lo+n - 1)
      · rw[if_pos (decide_eq_true c3)];exact KD (h n _ B n1 n2 hu)
      rw[if_neg (λz=>c3 (of_decide_eq_true z))];refine Kz (wpS_reverse ?_);have heq:∀k,lo<=k->k<lo+n->Kr rk (arrOf st') k=Kr rk (arrOf st') (lo+n - 1):=λk k1 k2=>by
        have a1:=hu 0 (k - lo) (by lia) (by lia);have a2:=hu (k - lo) (n - 1) (by lia) (by lia);rw[show lo+(k - lo)=k by lia] at a1 a2;rw[show lo+(n - 1)=lo+n - 1 by lia] at a2;rw[Nat.add_zero] at a1;lia
      have ke:=qo (rk:=rk) (xs:=arrOf st') (i:=lo) (j:=lo+n) (by lia) heq;have B1:=B.mirror (i:=lo) (j:=lo+n) (Ku _) (by lia);have d0:Dn rk lo (arrOf st') n:=λi j hij hj=>by
        rw[heq (lo+i) (by lia) (by lia),heq (lo+j) (by lia) (by lia)];exact Int.le_refl _
      have d1:Dn rk lo (mirror (arrOf st') lo (lo+n) ((lo+n - lo) / 2)) (n+1):=(d0.step n1 (by lia)).congr ke;exact tail _ B1 d1
     case neg =>
      rw[if_neg c2];have e:n=1:=by lia
      have B1:=B;have d1:Dn rk lo (arrOf st') (n+1):=Dn.step (by rw[e];exact .one) n1 (by lia);exact tail _ B1 d1
    case tl =>
      intro st1 B1 d1;refine Kz (wpS_lift (wpAny_rule ⟨rfl,?_⟩));refine Kz (wpS_mono (wpS_forRange (I:=λx c st2=>∃neq,c=(none,x,neq)/\Bs κ xs p lo st2/\Dn rk lo (arrOf st2) x/\neq+1<=x/\∀k,lo+x - (neq+1)<=k->k<lo+x->Kr rk (arrOf st2) k=Kr rk (arrOf st2) (lo+x - 1))
        (Q:=λc st2=>∃m neq,c=(none,m,neq)/\Bs κ xs p lo st2/\n+1<=m/\m<=nrem/\Dn rk lo (arrOf st2) m/\neq+1<=m/\∀k,lo+m - (neq+1)<=k->k<lo+m->Kr rk (arrOf st2) k=Kr rk (arrOf st2) (lo+m - 1)) ?s2 ?f2 ⟨0,rfl,B1,d1,by lia,λk k1 k2=>by congr 1;lia⟩) ?post2)
      case f2 =>
        rintro c st2 ⟨neq,rfl,B2,d2,q1,q2⟩;rw[show max (n+1) nrem=nrem by lia] at d2 q1 q2 ⊢;exact ⟨nrem,neq,rfl,B2,by lia,Ku _,d2,q1,q2⟩
      case s2 =>
        rintro x c st2 hx1 hx2 ⟨neq,rfl,B2,d2,q1,q2⟩;have hs2:=B2.size;dsimp only;refine Kz (B2.lt L D (by lia) (by lia) ?_);dsimp only;by_cases c4:Kr rk (arrOf st2) (lo+x)<Kr rk (arrOf st2) (lo+x - 1)
        · rw[if_pos (decide_eq_true c4)];have d3:=d2.step (by lia) (Int.le_of_lt c4);by_cases c5:neq>0
          · rw[if_pos c5];refine Kz (wpS_reverse (KD ⟨0,rfl,B2.mirror (by lia) (by lia),d3.congr (qo (by lia) q2),by lia,λk k1 k2=>by congr 1;lia⟩))
          · rw[if_neg c5];exact KD ⟨0,rfl,B2,d3,by lia,λk k1 k2=>by congr 1;lia⟩
        · rw[if_neg (λz=>c4 (of_decide_eq_true z))];refine Kz (B2.lt L D (by lia) (by lia) ?_);dsimp only;by_cases c5:Kr rk (arrOf st2) (lo+x - 1)<Kr rk (arrOf st2) (lo+x)
          · rw[if_pos (decide_eq_true c5)];exact KD ⟨x,neq,rfl,B2,by lia,by lia,d2,q1,q2⟩
          · rw[if_neg (λz=>c5 (of_decide_eq_true z))];refine KD ⟨neq+1,rfl,B2,d2.step (by lia) (by lia),by lia,λk k1 k2=>?_⟩;rw[show lo+(x+1) - 1=lo+x by lia];by_cases c6:k=lo+x
            · rw[c6]
            · have := q2 k (by lia) (by lia);lia
      case post2 =>
        rintro c st2 ⟨m,neq,rfl,B2,m1,m2,d2,q1,q2⟩;dsimp only;have hs2:=B2.size;refine (λ(tail:∀st3,Bs κ xs p lo st3->Dn rk lo (arrOf st3) m->wpS (model prog w) A E s ?X2 Q st3)=>?main) ?tl
        case main =>
         by_cases c4:neq>0
         case pos =>
          rw[if_pos c4];refine Kz (wpS_reverse ?_);have B3:=B2.mirror (i:=lo+m - (neq+1)) (j:=lo+m) (by lia) (by lia);have d3:=d2.congr (zs:=mirror (arrOf st2) (lo+m - (neq+1)) (lo+m) ((lo+m - (lo+m - (neq+1))) / 2)) (qo (by lia) q2);exact tail _ B3 d3
         case neg =>
          rw[if_neg c4];have B3:=B2;have d3:=d2;exact tail _ B3 d3
        case tl =>
          intro st3 B3 d3;have hs3:=B3.size;refine Kz (wpS_reverse ?_);have hs3:=B3.size;have B4:=B3.mirror (i:=lo) (j:=lo+m) (Ku _) (by lia);have u4:=d3.rev (by lia);generalize hst4:setArr st3 (mirror (arrOf st3) lo (lo+m) ((lo+m - lo) / 2))=st4 at B4 ⊢;replace u4:Up rk lo (arrOf st4) m:=by rw[<-hst4];exact u4
          refine Kz (wpS_mono (wpS_forRange (I:=λx c st'=>st'=st4/\c=(none,x)/\Up rk lo (arrOf st4) x)
            (Q:=λc st'=>st'=st4/\∃n,c=(none,n)/\1<=n/\n<=nrem/\Up rk lo (arrOf st4) n) ?s3 ?f3 ⟨rfl,rfl,u4⟩) ?post3)
          case f3 =>
            rintro c st' ⟨rfl,rfl,hu⟩;rw[show max m nrem=nrem by lia] at hu ⊢;exact ⟨rfl,nrem,rfl,h1,Ku _,hu⟩
          case s3 =>
            rintro x c st' hx1 hx2 ⟨rfl,rfl,hu⟩;dsimp only;refine Kz (B4.lt L D (by lia) (by lia) ?_);dsimp only;split
            · exact KD ⟨rfl,x,rfl,by lia,by lia,hu⟩
            · rename_i c;exact KD ⟨rfl,rfl,hu.step (by lia) λz=>c (decide_eq_true z)⟩
          case post3 =>
            rintro c st' ⟨rfl,n',rfl,z1,z2,hu⟩;dsimp only;exact KD (h n' _ B4 z1 z2 hu)
theorem oZ {xs:Array Keyed}{src d:Nat}(hs:src<xs.size)(hd:d<=src)(k:Nat):Kr rk (bubble xs src d) k=if k=src - d then Kr rk xs src else if src - d<k/\k<=src then Kr rk xs (k - 1) else Kr rk xs k:=by
 have e:=getElem?_bubble hs d hd k;by_cases h1:k=src - d
 .rw[if_pos h1] at e ⊢;exact ix e
 .rw[if_neg h1] at e ⊢;by_cases h2:src - d<k/\k<=src
  .rw[if_pos h2] at e ⊢;exact ix e
  .rw[if_neg h2] at e ⊢;exact ix e
theorem nj (L:fi prog w A E s Dm (dN rk) κ)(D:∀x∈xs.toList,Dm x){st:KI}(B:Bs κ xs p lo st){n ok:Nat}(h2:lo+n<=xs.size)(hu:Up rk lo (arrOf st) ok)(h1:1<=ok)(bG:ok<=n){Q:Bool->KI->Prop}
    (h:∀st',Bs κ xs p lo st'->Up rk lo (arrOf st') n->Q true st'):wpS (model prog w) A E s (binarySort' lo n ok) Q st:=by
  rw[binarySort'_eq];refine Kz (wpS_mono (wpS_forRange (I:=λk c st'=>c=(none,())/\Bs κ xs p lo st'/\Up rk lo (arrOf st') k)
    (Q:=λc st'=>c=(none,())/\Bs κ xs p lo st'/\Up rk lo (arrOf st') n) ?step ?fin ⟨rfl,B,by rw[show max ok 1=ok by lia];exact hu⟩) ?post)
  case post =>
    rintro c st' ⟨rfl,B',hs'⟩;exact KD (h st' B' hs')
  case fin =>
    rintro c st' ⟨hc,B',hs'⟩;rw[show max (max ok 1) n=n by lia] at hs';exact ⟨hc,B',hs'⟩
  case step =>
    rintro k c st' hk1 hk2 ⟨rfl,B',hs'⟩;have hsz:=B'.size;dsimp only;refine Kz (wpS_mono (wpS_forRange (I:=λx c st2=>st2=st'/\∃l r,c=(none,l,r)/\l<=r/\r<=k/\r - l<=k - x/\(∀i,i<l->Kr rk (arrOf st') (lo+i)<=Kr rk (arrOf st') (lo+k))/\∀i,r<=i->i<k->Kr rk (arrOf st') (lo+k)<Kr rk (arrOf st') (lo+i))
      (Q:=λc st2=>st2=st'/\∃l r,c=(none,l,r)/\l<=k/\(∀i,i<l->Kr rk (arrOf st') (lo+i)<=Kr rk (arrOf st') (lo+k))/\∀i,l<=i->i<k->Kr rk (arrOf st') (lo+k)<Kr rk (arrOf st') (lo+i)) ?istep ?ifin ⟨rfl,0,k,rfl,by lia,by lia,by lia,λi hi=>by lia,λi h1 h2=>by lia⟩) ?ipost)
    case ifin =>
      rintro c st2 ⟨rfl,l,r,rfl,a1,a2,a3,a4,a5⟩;have:l=r:=by lia
      subst this;exact ⟨rfl,l,l,rfl,a2,a4,a5⟩
    case istep =>
      rintro x c st2 _ hx ⟨rfl,l,r,rfl,a1,a2,a3,a4,a5⟩;dsimp only;by_cases c1:l>=r
      · rw[if_pos c1];have:l=r:=by lia
        subst this;exact KD ⟨rfl,l,l,rfl,a2,a4,a5⟩
      rw[if_neg c1];refine Kz (B'.lt L D (by lia) (by lia) ?_);dsimp only;by_cases c2:Kr rk (arrOf st2) (lo+k)<Kr rk (arrOf st2) (lo+(l+r) / 2)
      · rw[if_pos (decide_eq_true c2)];refine KD ⟨rfl,l,_,rfl,by lia,by lia,by lia,a4,λi b1 b2=>?_⟩;have:=hs' ((l+r) / 2) i b1 b2;lia
      · rw[if_neg (λz=>c2 (of_decide_eq_true z))];refine KD ⟨rfl,_,r,rfl,by lia,by lia,by lia,λi b1=>?_,a5⟩;have:=hs' i ((l+r) / 2) (by lia) (by lia);lia
    case ipost =>
      rintro c st2 ⟨rfl,l,r,rfl,a1,a4,a5⟩;dsimp only;rw[moveDown'_eq];refine Kz (wpS_modify (KD ⟨rfl,B'.bubble (by lia) (by lia),?_⟩));intro i j hij hj;show Kr rk (bubble (arrOf st2) (lo+k) (lo+k - (lo+l))) _<=Kr rk (bubble (arrOf st2) (lo+k) (lo+k - (lo+l))) _;rw[oZ (by lia) (by lia),oZ (by lia) (by lia),show lo+k - (lo+k - (lo+l))=lo+l by lia];have back:∀q,lo+l<lo+q->Kr rk (arrOf st2) (lo+q - 1)=Kr rk (arrOf st2) (lo+(q - 1)):=λq hq=>by congr 1;lia
      by_cases i1:lo+i=lo+l
      · rw[if_pos i1];by_cases j1:lo+j=lo+l
        · rw[if_pos j1];exact Int.le_refl _
        rw[if_neg j1,if_pos (by lia),back j (by lia)];exact Int.le_of_lt (a5 _ (by lia) (by lia))
      rw[if_neg i1];by_cases i2:lo+l<lo+i/\lo+i<=lo+k
      · rw [if_pos i2, if_neg (by lia), if_pos (by lia), back i (by lia), back j (by lia)];exact hs' _ _ (by lia) (by lia)
      rw[if_neg i2];by_cases j1:lo+j=lo+l
      · rw[if_pos j1];exact a4 _ (by lia)
      rw[if_neg j1];by_cases j2:lo+l<lo+j/\lo+j<=lo+k
      · rw [if_pos j2, back j (by lia)];exact hs' _ _ (by lia) (by lia)
      · rw[if_neg j2];exact hs' _ _ (by lia) (by lia)
end
end Tim
namespace Tim
open PySem PyProof.Rows
section
variable {R:Keyed->Keyed->Bool}
inductive Runs (R:Keyed->Keyed->Bool)(l:List Keyed):Nat->List (Nat×Nat×Nat)->Nat->Prop where
 | nil (s:Nat):Runs R l s [] s
 | cons {s n pw e:Nat} {rest:List (Nat×Nat×Nat)}:1<=n->fA R (seg l s n)->Runs R l (s+n) rest e->Runs R l s ((s,n,pw)::rest) e
theorem Runs.le {l:List Keyed}{s e:Nat}{p:List (Nat×Nat×Nat)}(h:Runs R l s p e):s+p.length<=e:=by
 induction h with
 | nil s=>exact Ku _
 | cons h1 _ _ ih=>simp;lia
theorem Runs.append {l:List Keyed}{s m e:Nat}{p q:List (Nat×Nat×Nat)}(h:Runs R l s p m)(h':Runs R l m q e):Runs R l s (p++q) e:=by
 induction h with
 | nil s=>exact h'
 | cons h1 h2 _ ih=>exact .cons h1 h2 (ih h')
theorem Runs.split {l:List Keyed}{e:Nat}{q:List (Nat×Nat×Nat)}:∀{p:List (Nat×Nat×Nat)} {s:Nat},Runs R l s (p++q) e->∃m,Runs R l s p m/\Runs R l m q e
 | [],s,h=>⟨s,.nil s,h⟩
 | _::p,s,.cons h1 h2 h3=>by
  obtain ⟨m,a,b⟩:=Runs.split h3;exact ⟨m,.cons h1 h2 a,b⟩
theorem Runs.congr {l l':List Keyed}{s e:Nat}{p:List (Nat×Nat×Nat)}(h:Runs R l s p e)(hc:∀s' n',s<=s'->s'+n'<=e->seg l' s' n'=seg l s' n'):Runs R l' s p e:=by
 induction h with
 | nil s=>exact .nil s
 | cons h1 h2 h3 ih =>
  have:=h3.le;exact .cons h1 (by rw[hc _ _ (Ku _) (by lia)];exact h2) (ih λs' n' a b=>hc s' n' (by lia) b)
theorem hZ {l l':List Keyed}{s n:Nat}(h:∀i,i<n->l'[s+i]?=l[s+i]?):seg l' s n=seg l s n:=by
  refine List.ext_getElem? λi=>?_;by_cases c:i<n
  · rw[seg_at c,seg_at c,h i c]
  · have : ∀ z : List Keyed, (seg z s n)[i]? = none := λz => List.getElem?_eq_none (by unfold seg;rw [KO];lia);rw[this,this]
theorem Done.len {l l':List Keyed}{s n:Nat}(h:Done R l l' s n):l'.Perm l:=by
 obtain ⟨m,e,hp,_⟩:=h;rw[e];conv=>rhs;rw[lI l s n]
 exact (hp.append_left _).append_right _
theorem Done.below {l l':List Keyed}{s n i:Nat}(h:Done R l l' s n)(hz:s+n<=l.length)(hi:i<s):l'[i]?=l[i]?:=by
 obtain ⟨m,e,hp,_⟩:=h;rw[e,Lg,List.getElem?_append_left (by rw[KO];lia),List.getElem?_take_of_lt hi]
theorem Done.Hq {l m:List Keyed}{s n:Nat}(hp:m.Perm (seg l s n))(hz:s+n<=l.length):m.length=n:=by
 rw[hp.length_eq];unfold seg;rw[KO,Li];lia
theorem Done.above {l l':List Keyed}{s n i:Nat}(h:Done R l l' s n)(hz:s+n<=l.length)(hi:s+n<=i):l'[i]?=l[i]?:=by
 obtain ⟨m,e,hp,_⟩:=h;have hm:=Done.Hq hp hz;rw[e,List.getElem?_append_right (by rw[KA,KO,hm];lia),KA,KO,hm,List.getElem?_drop];congr 1;lia
theorem Done.FV {l l':List Keyed}{s n:Nat}(h:Done R l l' s n)(hz:s+n<=l.length):fA R (seg l' s n):=by
 obtain ⟨m,e,hp,hs⟩:=h;have hm:=Done.Hq hp hz;have:seg l' s n=m:=by
  unfold seg;rw[e,Lg,List.drop_append_of_le_length (by rw[KO];lia),List.drop_eq_nil_of_le (by rw[KO];lia),List.nil_append,List.take_append_of_le_length (by lia),take_of_length_le (by lia)]
 rw[this];exact hs
theorem pP (X a b:Nat×Nat×Nat)(post:List (Nat×Nat×Nat)):∀pre:List (Nat×Nat×Nat),((pre++a::b::post).set pre.length X).eraseIdx (pre.length+1)=pre++X::post
 | []=>rfl
 | c::pre=>by
  have:=pP X a b post pre;simp only[List.cons_append,K9,List.set_cons_succ,List.eraseIdx_cons_succ];rw[this]
end
section
variable {prog:KP} {w:K7} {A:K1} {E:Kn->Kp->Prop} {s:Kp}
variable {Dm:Keyed->Prop} {rk:Keyed->Int} {κ:SortKind}
structure uO (κ:SortKind)(rk:Keyed->Int)(xs:Array Keyed)(lo:Nat)(st:KI):Prop where
 perm:(arrOf st).Perm xs
 kind:kindOf st=κ
 failed:failedOf st=none
 runs:Runs (dN rk) (arrOf st).toList 0 (pendingOf st).toList lo
variable {xs:Array Keyed} {lo:Nat}
theorem uO.size {st:KI}(B:uO κ rk xs lo st):(arrOf st).size=xs.size:=B.perm.size_eq
theorem uO.merge (L:fi prog w A E s Dm (dN rk) κ)(D:∀x∈xs.toList,Dm x){st:KI}(B:uO κ rk xs lo st)(hlo:lo<=xs.size){i:Nat}(hi:i+1<(pendingOf st).size){Q:Bool->KI->Prop}
  (h:∀st',uO κ rk xs lo st'->(pendingOf st').size+1=(pendingOf st).size->(∀j,lo<=j->(arrOf st')[j]?=(arrOf st)[j]?)->Q true st'):wpS (model prog w) A E s (mergeAt' i) Q st:=by
 have hl:(pendingOf st).toList.length=(pendingOf st).size:=KH;obtain ⟨⟨sa,na,pw⟩,ha⟩ : ∃x,(pendingOf st)[i]?=some x:=⟨(pendingOf st)[i]'(by lia),Ky (by lia)⟩
 obtain ⟨⟨sb,nb,pb⟩,hb⟩ : ∃x,(pendingOf st)[i+1]?=some x:=⟨(pendingOf st)[i+1]'(by lia),Ky (by lia)⟩
 have e:(pendingOf st).toList=(pendingOf st).toList.take i++(sa,na,pw)::(sb,nb,pb)::(pendingOf st).toList.drop (i+2):=by
  conv=>lhs;rw[<-take_append_drop i (pendingOf st).toList]
  congr 1;rw[drop_eq_getElem_cons (by lia),drop_eq_getElem_cons (by lia)];rw[<-Kx,Kw] at ha hb;rw[ha.2,hb.2]
 have hr:=B.runs;rw[e] at hr;obtain ⟨m,r1,r2⟩:=hr.split;obtain ⟨rfl,na1,sX,r3⟩ : sa=m/\1<=na/\fA (dN rk) (seg (arrOf st).toList sa na)/\Runs (dN rk) (arrOf st).toList (sa+na) ((sb,nb,pb)::(pendingOf st).toList.drop (i+2)) lo:=by
  cases r2 with
  | cons a b c=>exact ⟨rfl,a,b,c⟩
 obtain ⟨rfl,nb1,sY,r4⟩ : sb=sa+na/\1<=nb/\fA (dN rk) (seg (arrOf st).toList sb nb)/\Runs (dN rk) (arrOf st).toList (sb+nb) ((pendingOf st).toList.drop (i+2)) lo:=by
  cases r3 with
  | cons a b c=>exact ⟨rfl,a,b,c⟩
 have hle:=r4.le;have hsz:=B.size;have hpl:((pendingOf st).toList.take i).length=i:=by rw[KO];lia
 refine tV L zB B.kind B.failed (λx hx=>D x ((Array.perm_iff_toList_perm.mp B.perm).mem_iff.mp hx)) ha hb rfl na1 nb1 (by lia) sX sY λst' k' f' p' d'=>?_;have hz:sa+(na+nb)<=(arrOf st).toList.length:=by rw[KH];lia
 have pe:(pendingOf st').toList=(pendingOf st).toList.take i++(sa,na+nb,pw)::(pendingOf st).toList.drop (i+2):=by
  rw[p',Array.toList_eraseIdxIfInBounds,Array.toList_setIfInBounds];conv=>lhs;rw[e]
  have:=pP (sa,na+nb,pw) (sa,na,pw) (sa+na,nb,pb) ((pendingOf st).toList.drop (i+2)) ((pendingOf st).toList.take i);rw[hpl] at this;exact this
 refine h st' ⟨(Array.perm_iff_toList_perm.mpr d'.len).trans B.perm,k',f',?_⟩ ?_ ?_
 .rw[pe];have r1le:=r1.le;refine (r1.congr λs' n' _ h2=>hZ λj hj=>d'.below hz (by lia)).append (.cons (by lia) (d'.FV hz) ?_);rw[<-Nat.add_assoc];exact r4.congr λs' n' h1 _=>hZ λj hj=>d'.above hz (by lia)
 .have:=congrArg List.length pe;rw[KH,KA,K9,hpl,Li] at this;lia
 .intro j hj;have:=d'.above (i:=j) hz (by lia);rw[Kx,Kx] at this;exact this
theorem Up.FV {ys:Array Keyed}{n:Nat}(h:Up rk lo ys n):fA (dN rk) (seg ys.toList lo n):=by
 refine pairwise_iff_getElem.mpr λi j h1 h2 hij=>?_;have e1:=fQ (Kt h1);have e2:=fQ (Kt h2);have:=h i j (Nat.le_of_lt hij) e2.1;rw[mD (by rw[<-Kx];exact e1.2),mD (by rw[<-Kx];exact e2.2)] at this;unfold dN;simp only[decide_eq_false_iff_not,Int.not_lt];exact this
theorem uD:∀(p:List (Nat×Nat×Nat)) (f:Nat×Nat×Nat->Nat×Nat×Nat),(∀t,(f t).1=t.1/\(f t).2.1=t.2.1)->∀{R:Keyed->Keyed->Bool} {l:List Keyed} {s e i:Nat},Runs R l s p e->Runs R l s (p.modify i f) e
 | [],f,hf,_,_,_,_,i,h=>by rw[List.modify_nil];exact h
 | (s1,n,pw)::p,f,hf,_,_,_,_,0,.cons h1 h2 h3=>by
  rw[List.modify_zero_cons];have e:f (s1,n,pw)=(s1,n,(f (s1,n,pw)).2.2):=Prod.ext (hf _).1 (Prod.ext (hf _).2 rfl);rw[e];exact .cons h1 h2 h3
 | (s1,n,pw)::p,f,hf,_,_,_,_,i+1,.cons h1 h2 h3=>by
  rw[List.modify_succ_cons];exact .cons h1 h2 (uD p f hf h3)
theorem kO (L:fi prog w A E s Dm (dN rk) κ)(D:∀x∈xs.toList,Dm x){st:KI}(ha:arrOf st=xs)(hk:kindOf st=κ)(hf:failedOf st=none)(hp:pendingOf st = #[]){Q:Unit->KI->Prop}
    (h:∀st',(arrOf st').Perm xs->failedOf st'=none->fA (dN rk) (arrOf st').toList->Q () st'):wpS (model prog w) A E s sortRuns' Q st:=by
  rw[sortRuns'_eq];refine Kz (wpS_get ?_);dsimp only;rw[ha];generalize hmr:minRun' xs.size xs.size 0=mr;refine Kz (wpS_mono (wpS_forRange (I:=λx c st'=>∃lo,c=(none,lo)/\uO κ rk xs lo st'/\lo<=xs.size/\min x xs.size<=lo) (Q:=λc st'=>c=(none,xs.size)/\uO κ rk xs xs.size st') ?step ?fin ⟨0,rfl,⟨by rw[ha],hk,hf,by rw[hp];exact .nil 0⟩,Lc _,by lia⟩) ?post)
  case fin =>
    rintro c st' ⟨lo,rfl,S,h1,h2⟩;have e:lo=xs.size:=by lia
    subst e;exact ⟨rfl,S⟩
  case step =>
    rintro x c st' _ hx ⟨lo,rfl,S,h1,h2⟩;dsimp only;by_cases c1:lo>=xs.size
    · rw[if_pos c1];have e:lo=xs.size:=by lia
      subst e;exact KD ⟨rfl,S⟩
    rw[if_neg c1];have B0:Bs κ (arrOf st') (pendingOf st') lo st':=⟨.refl _,S.kind,S.failed,rfl,λ_ _=>rfl⟩
    have hsz:=S.size;have D':∀x∈(arrOf st').toList,Dm x:=λx hx=>D x ((Array.perm_iff_toList_perm.mp S.perm).mem_iff.mp hx);refine Kz (qz L D' B0 (by lia) (by lia) λm st2 B1 m1 m2 u1=>?_);dsimp only;have cont:∀(n:Nat) (st3:KI),Bs κ (arrOf st') (pendingOf st') lo st3->1<=n->n<=xs.size - lo->Up rk lo (arrOf st3) n->uO κ rk xs lo st3/\fA (dN rk) (seg (arrOf st3).toList lo n):=λn st3 B3 n1 n2 u3 =>
      ⟨⟨B3.perm.trans S.perm,B3.kind,B3.failed,by
        rw[B3.pend];refine S.runs.congr λs' n' _ h'=>hZ λj hj=>?_;rw[Kx,Kx];exact B3.low _ (by lia)⟩,u3.FV⟩
    refine (λ(tail:∀(n:Nat) (st3:KI),uO κ rk xs lo st3->fA (dN rk) (seg (arrOf st3).toList lo n)->1<=n/\n<=xs.size - lo->wpS (model prog w) A E s ((?X:Nat->StateT KI Sem ?T) n) ?Q st3)=>?main) ?tl
    case main =>
     by_cases c2:m<mr
     case pos =>
      rw[if_pos c2];refine Kz (wpS_lift (wpAny_rule ⟨rfl,?_⟩));refine Kz (nj L D' B1 (by lia) u1 m1 (by lia) λst3 B3 u3=>?_);simp only[Bool.not_true,KL,if_false];obtain ⟨S3,s3⟩:=cont (min (xs.size - lo) mr) st3 B3 (by lia) (by lia) u3;have nb:1<=min (xs.size - lo) mr/\min (xs.size - lo) mr<=xs.size - lo:=by lia
      generalize min (xs.size - lo) mr=n at s3 nb ⊢;exact tail n _ S3 s3 nb
     case neg =>
      rw[if_neg c2];obtain ⟨S3,s3⟩:=cont m st2 B1 m1 m2 u1;exact tail _ _ S3 s3 ⟨m1,m2⟩
    case tl =>
      intro n st3 S3 s3 nb;refine Kz (wpS_get ?_);have pushed:∀st4:KI,uO κ rk xs lo st4->fA (dN rk) (seg (arrOf st4).toList lo n)->uO κ rk xs (lo+n) (setPending st4 ((pendingOf st4).push (lo,n,0))):=λst4 S4 s4 =>
        ⟨S4.perm,S4.kind,S4.failed,by
          show Runs _ (arrOf st4).toList 0 ((pendingOf st4).push (lo,n,0)).toList (lo+n);rw[Array.toList_push];exact S4.runs.append (.cons nb.1 s4 (.nil _))⟩
      split
      · rename_i s1 n1 _ hback;generalize power' _ _ _ _=pw;refine Kz (wpS_mono (wpS_forRange (I:=λ_ c st4=>c=(none,())/\uO κ rk xs lo st4/\fA (dN rk) (seg (arrOf st4).toList lo n)) (Q:=λc st4=>c=(none,())/\uO κ rk xs lo st4/\fA (dN rk) (seg (arrOf st4).toList lo n)) ?ms (λ_ _ z=>z) ⟨rfl,S3,s3⟩) ?mp)
        case ms =>
          rintro y c st4 _ _ ⟨rfl,S4,s4⟩;refine Kz (wpS_get ?_);split
          · rename_i older hq;split
            · exact KD ⟨rfl,S4,s4⟩
            · have hgt:1<(pendingOf st4).size:=by
                by_cases c:(pendingOf st4).size>1
                · exact c
                · rw[if_neg c] at hq;cases hq
              refine Kz (S4.merge L D h1 (by lia) λst5 S5 _ k5=>?_);simp only[Bool.not_true,KL,if_false];refine KD ⟨rfl,S5,?_⟩;rw[hZ (l:=(arrOf st4).toList) λj hj=>by rw[Kx,Kx];exact k5 _ (by lia)];exact s4
          · exact KD ⟨rfl,S4,s4⟩
        case mp =>
          rintro c st4 ⟨rfl,S4,s4⟩;dsimp only;refine Kz (wpS_modify (Kz (wpS_modify (KD ⟨_,rfl,pushed _ ⟨S4.perm,S4.kind,S4.failed,?_⟩ s4,by lia,by lia⟩))));show Runs _ (arrOf st4).toList 0 ((pendingOf st4).modify _ _).toList lo;rw[Array.toList_modify];exact uD _ (λx=>(x.1,x.2.1,pw)) (λt=>⟨rfl,rfl⟩) S4.runs
      · exact Kz (wpS_modify (KD ⟨_,rfl,pushed _ S3 s3,by lia,by lia⟩))
  case post =>
    rintro c st' ⟨rfl,S⟩;dsimp only;refine Kz (wpS_mono (wpS_forRange (I:=λx c st'=>c=(none,())/\uO κ rk xs xs.size st'/\((pendingOf st').size<=1\/(pendingOf st').size+x<=xs.size)) (Q:=λc st'=>c=(none,())/\uO κ rk xs xs.size st'/\(pendingOf st').size<=1) ?s2 ?f2 ⟨rfl,S,.inr (by have:=S.runs.le;rw[KH] at this;lia)⟩) ?post2)
    case f2 =>
      rintro c st' ⟨rfl,S,z⟩;exact ⟨rfl,S,by lia⟩
    case s2 =>
      rintro x c st' _ hx ⟨rfl,S,z⟩;refine Kz (wpS_get ?_);by_cases c1:(pendingOf st').size<=1
      · rw[if_pos c1];exact KD ⟨rfl,S,c1⟩
      rw[if_neg c1];refine Kz (S.merge L D (Ku _) ?_ λst2 S2 e2 _=>?_)
      · (repeat' split)<;>lia
      · simp only[Bool.not_true,KL,if_false];exact KD ⟨rfl,S2,.inr (by lia)⟩
    case post2 =>
      rintro c st' ⟨rfl,S,z⟩;dsimp only;refine KD (h _ S.perm S.failed ?_);have hr:=S.runs;have hl:(pendingOf st').toList.length<=1:=by rw[KH];exact z
      have hsz:=S.size;generalize (pendingOf st').toList=q at hl hr;generalize xs.size=N at hr hsz;cases hr with
      | nil =>
        have:(arrOf st').toList = []:=List.eq_nil_of_length_eq_zero (by rw[KH,hsz]);rw[this];exact List.Pairwise.nil
      | @cons _ n pw _ rest a b c =>
        cases c with
        | nil =>
          unfold seg at b;rw[List.drop_zero,take_of_length_le (by rw[KH];lia)] at b;exact b
        | cons=>simp at hl
end
end Tim
namespace Tim
open PySem PySem.W PySem.Calls PyProof.Rows
section
variable {α:Type}
theorem pB {p q:α->Bool}:∀{l:List α},(∀x∈l,p x=true->q x=true)->(∃x∈l,q x=true/\p x=false)->l.countP p<l.countP q
 | [],_,⟨x,hx,_⟩=>nomatch hx
 | a::l,h,⟨x,hx,h1,h2⟩=>by
  rw[List.countP_cons,List.countP_cons];have hm:l.countP p<=l.countP q:=List.countP_mono_left λx hx=>h x (K8 _ hx);rcases KQ.mp hx with e | hx'
  .subst e;rw[h1,h2];simp;lia
  .have ih:=pB (l:=l) (λx hx=>h x (K8 _ hx)) ⟨x,hx',h1,h2⟩;have:=h a (mem_cons_self ..);cases hp:p a with
   | true=>rw[this hp];simp;lia
   | false=>simp;lia
noncomputable def rank (lt:α->α->Bool)(l:List α)(x:α):Int:=l.countP λz=>lt z x
theorem Dq {lt:α->α->Bool}{l:List α}(Je:∀x,x∈l->lt x x=false)(tr:∀x y z,x∈l->y∈l->z∈l->lt x y=true->lt y z=true->lt x z=true)(ntr:∀x y z,x∈l->y∈l->z∈l->lt x y=false->lt z y=true->lt z x=true)
  {x y:α} (hx:x∈l) (hy:y∈l):decide (rank lt l x<rank lt l y)=lt x y:=by
 cases h:lt x y with
 | true =>
  refine decide_eq_true ?_;have:=pB (p:=λz=>lt z x) (q:=λz=>lt z y) (l:=l) (λz hz h1=>tr z x y hz hx hy h1 h) ⟨x,hx,h,Je x hx⟩;unfold rank;lia
 | false =>
  refine decide_eq_false ?_;have:=List.countP_mono_left (p:=λz=>lt z y) (q:=λz=>lt z x) (l:=l) λz hz h1=>ntr x y z hx hy hz h h1;unfold rank;lia
end
noncomputable abbrev fj:=SoT.AI false
theorem xi:∀a:List Int,fj a a=false
 | []=>rfl
 | x::a=>by
  show (if x=x then fj a a else decide (x<x))=false;rw[if_pos rfl];exact xi a
theorem tM (x y:Int)(a b:List Int):fj (x::a) (y::b)=if x=y then fj a b else decide (x<y):=rfl
theorem AJ:∀{a b c:List Int},a.length=b.length->b.length=c.length->fj a b=true->fj b c=true->fj a c=true
  | [],[],[],_,_,h,_=>h
  | x::a,y::b,z::c,h1,h2,h3,h4=>by
    rw[tM] at h3 h4 ⊢;by_cases e1:x=y
    · rw[if_pos e1] at h3;by_cases e2:y=z
      · rw[if_pos e2] at h4;rw[if_pos (e1.trans e2)];exact AJ (by simpa using h1) (by simpa using h2) h3 h4
      · rw[if_neg e2] at h4;rw[if_neg (by lia)];have:=of_decide_eq_true h4;exact decide_eq_true (by lia)
    · rw[if_neg e1] at h3;have d1:=of_decide_eq_true h3;by_cases e2:y=z
      · rw [if_neg (by lia)];exact decide_eq_true (by lia)
      · rw[if_neg e2] at h4;have d2:=of_decide_eq_true h4;rw[if_neg (by lia)];exact decide_eq_true (by lia)
theorem xj:∀{a b c:List Int},a.length=b.length->b.length=c.length->fj a b=false->fj c b=true->fj c a=true
  | [],[],[],_,_,_,h=>h
  | x::a,y::b,z::c,h1,h2,h3,h4=>by
    rw[tM] at h3 h4 ⊢;by_cases e1:x=y
    · rw[if_pos e1] at h3;by_cases e2:z=y
      · rw[if_pos e2] at h4;rw[if_pos (by lia)];exact xj (by simpa using h1) (by simpa using h2) h3 h4
      · rw[if_neg e2] at h4;have:=of_decide_eq_true h4;rw[if_neg (by lia)];exact decide_eq_true (by lia)
    · rw[if_neg e1] at h3;have d1:=of_decide_eq_false h3;by_cases e2:z=y
      · rw [if_neg (by lia)];exact decide_eq_true (by lia)
      · rw[if_neg e2] at h4;have d2:=of_decide_eq_true h4;rw[if_neg (by lia)];exact decide_eq_true (by lia)
section
variable {prog:KP} {w:K7} {A:K1} {E:Kn->Kp->Prop} {s:Kp}
noncomputable def uP (h:Heap)(vs:List Kn)(f:Kn->List Int)(c:Nat):Prop:=∀v∈vs,SoT.Tp h v (f v)/\(f v).length=c
theorem uP.keep {h h':Heap}{vs:List Kn}{f:Kn->List Int}{c:Nat}(k:∀b o,h.get? b=some o->o.cls=.type "tuple"->h'.get? b=some o)(t:uP h vs f c):uP h' vs f c:=λv hv=>⟨(t v hv).1.keep k,(t v hv).2⟩
theorem uu {vs:List Kn}{f:Kn->List Int}{c:Nat}(hT:∀v∈vs,(f v).length=c){x y:Kn}(hx:x∈vs)(hy:y∈vs):decide (rank (λu v=>fj (f u) (f v)) vs x<rank (λu v=>fj (f u) (f v)) vs y)=fj (f x) (f y):=
 Dq (lt:=λu v=>fj (f u) (f v)) (λu _=>xi _) (λu v z h1 h2 h3=>AJ ((hT u h1).trans (hT v h2).symm) ((hT v h2).trans (hT z h3).symm)) (λu v z h1 h2 h3=>xj ((hT u h1).trans (hT v h2).symm) ((hT v h2).trans (hT z h3).symm)) hx hy
theorem yD {vs:List Kn}{f:Kn->List Int}{c:Nat}(hT:uP s.heap vs f c) :
  fi prog w A E s (λp=>p.1∈vs) (dN λp=>rank (λu v=>fj (f u) (f v)) vs p.1) (tuples' true):=by
 intro x y st Q hx hy hk h;have e:dN (λp:Keyed=>rank (λu v=>fj (f u) (f v)) vs p.1) x y=fj (f x.1) (f y.1):=by
  unfold dN;exact uu (λv hv=>(hT v hv).2) hx hy
 rw[e] at h;rw[lt'_eq];refine Kz (wpS_get ?_);rw[hk];refine Kz (wpS_lift (wpAny_attempt (SoT.Fc (hT _ hx).1 (hT _ hy).1 ⟨rfl,?_⟩)));rw[(hT _ hx).2,(hT _ hy).2,show decide (c<c)=false from decide_eq_false (Nat.lt_irrefl c)];exact KD h
theorem CH {h:Heap}{f:Kn->List Int}{c:Nat}(hc:0<c){vs:List Kn}(hT:uP h vs f c):∃fs,KatTups h vs fs/\fs.length=vs.length/\∀f∈fs,∃n t,f=Value.int n t:=
 SoT.AD (nss:=vs.map f) (by rw[Ks]) λi v ns h1 h2=>by
  rw[KS,h1] at h2;cases h2;have:=hT v (KC h1);exact ⟨by rw[this.2];exact hc,this.1⟩
theorem oP {a:Addr}{vs:List Kn}{n c:Nat}{f:Kn->List Int}{P:PySem.Fin->Kp->Prop}(ho:s.heap.get? a=some (seqObj "list" vs.toArray n))(hT:uP s.heap vs f c)(hc:0<c)(hz:vs.length<=sizeLine)
    (h:∀out:List Kn,out.Perm vs->out.Pairwise (λu v=>fj (f v) (f u)=false)->P (.done (.ret .none)) { s with heap:=sortedHeap s.heap a vs out.toArray }):wpAny (model prog w) A (Builtin.«list.sort» ⟨[.ref a],[]⟩) P E s:=by
  rw[list_sort_plain];have ha:a<s.heap.objs.size:=KG ho;refine Ko (listItems_at ho rfl (Ko (listUpdate_at ho rfl ?_ (by simpa using hz) (by simp))));obtain ⟨e1,ho1⟩ : ∃e1,(s.heap.update a (Ld λ_=>#[])).get? a=some (seqObj "list" #[] e1):=⟨_,get?_update_seq ho (λ_=>#[])⟩
  refine Ko (seqEpoch_at ho1 rfl (Ko (wpAny_newTuple (Ko (wpAny_newList (wpAny_holding ?_))) (by simpa using hz))));have ho6:(((s.heap.update a (Ld λ_=>#[])).push (seqObj "tuple" vs.toArray 0)).push (seqObj "list" #[] 0)).get? a=some (seqObj "list" #[] e1):=by
    rw[Heap.get?_push_ne _ _ _ (show a≠_ by rw[size_push',Heap.size_update];exact KR (Nat.lt_succ_of_lt ha)),Heap.get?_push_ne _ _ _ (show a≠_ by rw[Heap.size_update];exact KR ha)];exact ho1
  have keep:∀b o,s.heap.get? b=some o->o.cls=.type "tuple"->(((s.heap.update a (Ld λ_=>#[])).push (seqObj "tuple" vs.toArray 0)).push (seqObj "list" #[] 0)).get? b=some o:=λb o hb hc=>by
    have hba:a≠b:=by
      rintro rfl;rw[ho] at hb;cases hb;exact absurd hc (show ¬Value.type "list" = Value.type "tuple" by decide)
    exact Kv _ (Kv _ ((Heap.get?_update_other _ _ hba).trans hb))
  have hT':=hT.keep keep;show wpAny (model prog w) A _ P E { s with heap:=((s.heap.update a (Ld λ_=>#[])).push (seqObj "tuple" vs.toArray 0)).push (seqObj "list" #[] 0) };dsimp only;have zl:(vs.toArray.zip vs.toArray).toList=vs.zip vs:=by simp
  have fin:∀xs:Array Keyed,xs.Perm (vs.toArray.zip vs.toArray)->(∀p∈xs.toList,p.1=p.2/\p.1∈vs)/\(xs.map (·.2)).toList.Perm vs:=λxs hp=>by
    have hp':=Array.perm_iff_toList_perm.mp hp;rw[zl] at hp';refine ⟨λp hq=>?_,?_⟩
    · have:=hp'.mem_iff.mp hq;obtain ⟨u,v⟩:=p;exact mem_zip_self this
    · rw[Array.toList_map];have:=hp'.map (λp:Keyed=>p.2);rw[List.map_snd_zip (Ku _)] at this;exact this
  by_cases h2:vs.toArray.size<2
  · rw[if_pos h2,if_pos h2];refine Ko (Kq ?_);rw[StateT.run_pure];refine Ko (Kq ?_);dsimp only;have ef:(arrOf (SortSt.mk' general' (vs.toArray.zip vs.toArray) #[] 7 none)).map (·.2)=vs.toArray:=by
      apply Array.ext';simp[List.map_snd_zip]
    rw[ef];refine Ko (seqEpoch_at ho6 rfl (Ko (listUpdate_at ho6 rfl ?_ (by simp) (by simp;lia))));simp only[bne_self_eq_false,KL,if_false];refine Kq (h vs (.refl _) ?_);have h2':vs.length<2:=by simpa using h2
    exact FN h2'
  · rw[if_neg h2,if_neg h2];obtain ⟨fs,k1,k2,k3⟩:=CH hc hT';have h2':2<=vs.length:=by simpa using h2
    refine Ko (kat_kind (T:=.type "int") k1 (by lia) (λv hv=>?_) (by rfl) ?_)
    · obtain ⟨m,t,rfl⟩:=k3 v hv;exact .now
    · have e0 : (Value.type "int" != Value.type "tuple") = true := by decide
      rw[e0];refine Ko (wpAny_mono (kO (xs:=vs.toArray.zip vs.toArray) (yD hT') (λp hp=>?_) (st:=SortSt.mk' (tuples' true) (vs.toArray.zip vs.toArray) #[] 7 none)
        (Q:=λ_ st'=>(arrOf st').Perm (vs.toArray.zip vs.toArray)/\failedOf st'=none/\fA (dN λp=>rank (λu v=>fj (f u) (f v)) vs p.1) (arrOf st').toList) rfl rfl rfl rfl λst' a1 a2 a3=>⟨a1,a2,a3⟩) ?_ λ_ _ z=>z)
      · rw[zl] at hp;obtain ⟨u,v⟩:=p;exact (List.of_mem_zip hp).1
      · rintro ⟨⟨⟩,st'⟩ s' ⟨rfl,hp',hf',hs'⟩;dsimp only at hp' hf' hs' ⊢;obtain ⟨f1,f2⟩:=fin _ hp';have hsz:((arrOf st').map (·.2)).size<=sizeLine:=by
          have:=f2.length_eq;rw[KH] at this;lia
        refine Ko (seqEpoch_at ho6 rfl (Ko (listUpdate_at ho6 rfl ?_ (by simp) (Nat.le_succ_of_le hsz))));rw[hf'];simp only[bne_self_eq_false,KL,if_false];refine Kq ?_;have:=h ((arrOf st').map (·.2)).toList f2 ?_
        · rw[Array.toArray_toList] at this;exact this
        · rw[Array.toList_map,pairwise_map];refine List.Pairwise.imp_of_mem (λ{p q} hp hq hr=>?_) hs';obtain ⟨p1,p2⟩:=f1 p hp;obtain ⟨q1,q2⟩:=f1 q hq;have e:dN (λp:Keyed=>rank (λu v=>fj (f u) (f v)) vs p.1) q p=fj (f q.1) (f p.1):=by
            unfold dN;exact uu (λv hv=>(hT v hv).2) q2 p2
          rw[e] at hr;rw[<-p1,<-q1];exact hr
theorem vM {l:Addr}{vs:List Kn}{c:Nat}{f:Kn->List Int}{Q:Kn->Kp->Prop}(hl:s.heap.IsList l vs.toArray)(hT:uP s.heap vs f c)(hc:0<c)(hz:vs.length<=sizeLine)
  (h:∀(D:Addr) (h':Heap) (n:Nat) (out:List Kn),s.heap.objs.size<=D->(∀b o,s.heap.get? b=some o->h'.get? b=some o)->h'.get? D=some (seqObj "list" out.toArray n)->out.Perm vs->out.Pairwise (λu v=>fj (f v) (f u)=false)->Q (.ref D) { s with heap:=h' }) :
  wpAny (model prog w) A (call (.builtin "sorted") [.ref l]) Q E s:=by
 refine Calls.call_function_entry kind_sorted plain_sorted entry_sorted (args_sorted1 _) ?_;unfold Builtin.«sorted»;refine Ko (m:=checkCount "sorted" 1 1 _) (Kq ?_);refine Ko (collect_list hl ?_ hz);refine Ko (wpAny_newList ?_ hz);have hsz:((s.heap.push (seqObj "list" #[] 0)).update s.heap.objs.size (Ld (·++vs.toArray))).objs.size=s.heap.objs.size+1:=by
  rw[Heap.size_update,size_push']
 have hoL:(((s.heap.push (seqObj "list" #[] 0)).update s.heap.objs.size (Ld (·++vs.toArray))).push (seqObj "list" vs.toArray 0)).get? (s.heap.objs.size+1)=some (seqObj "list" vs.toArray 0):=by
  rw[<-hsz];exact KZ _ rfl
 have keep:∀b o,s.heap.get? b=some o->(((s.heap.push (seqObj "list" #[] 0)).update s.heap.objs.size (Ld (·++vs.toArray))).push (seqObj "list" vs.toArray 0)).get? b=some o:=λb o q=>by
  have hlt:b<s.heap.objs.size:=KG q;rw[Heap.get?_push_ne _ _ _ (by rw[hsz];exact KR (Nat.lt_succ_of_lt hlt)),Heap.get?_update_ne _ _ _ _ (KR hlt),Heap.get?_push_ne _ _ _ (KR hlt)];exact q
 show wpAny _ _ _ _ _ { s with heap:=((s.heap.push (seqObj "list" #[] 0)).update s.heap.objs.size (Ld (·++vs.toArray))).push (seqObj "list" vs.toArray 0) };rw[hsz];refine Ko (wpAny_holding (wpAny_call_entry slot_list_sort ⟨_,hoL,rfl⟩ entry_list_sort (oP hoL (hT.keep λb o hb _=>keep b o hb) hc hz λout p1 p2=>⟨_,rfl,?_⟩) (args_list_sort _)));obtain ⟨e1,ho1⟩ : ∃e1,(sortedHeap (((s.heap.push (seqObj "list" #[] 0)).update s.heap.objs.size (Ld (·++vs.toArray))).push (seqObj "list" vs.toArray 0)) (s.heap.objs.size+1) vs out.toArray).get? (s.heap.objs.size+1)=some (seqObj "list" out.toArray e1):=by
  unfold sortedHeap;obtain ⟨e2,ho2⟩ : ∃e2,((((s.heap.push (seqObj "list" #[] 0)).update s.heap.objs.size (Ld (·++vs.toArray))).push (seqObj "list" vs.toArray 0)).update (s.heap.objs.size+1) (Ld λ_=>#[])).get? (s.heap.objs.size+1)=some (seqObj "list" #[] e2):=⟨_,get?_update_seq hoL (λ_=>#[])⟩
  exact ⟨_,get?_update_seq (Kv _ (Kv _ ho2)) _⟩
 exact Kq ⟨_,rfl,h _ _ e1 out (Nat.le_succ _) (λb o hb=>SoT.mB (KR (Nat.lt_succ_of_lt (KG hb))) (keep b o hb)) ho1 p1 p2⟩
end
end Tim
set_option maxHeartbeats 4000000
namespace Tim
open PySem PySem.W PySem.Calls PyProof.Rows
section
variable {prog:KP} {w:K7} {A:K1} {E:Kn->Kp->Prop} {s:Kp}
noncomputable def AA (p:Keyed):Prop:=∃n t,p.1=Value.int n t
theorem CZ:fi prog w A E s AA (dN λp=>numOf p.1) oneType':=by
 intro x y st Q hx hy hk h;obtain ⟨x1,x2⟩:=x;obtain ⟨y1,y2⟩:=y;obtain ⟨n,t,hx⟩:=hx;obtain ⟨m,u,hy⟩:=hy;dsimp only at hx hy;subst hx hy;rw[lt'_eq];refine Kz (wpS_get ?_);rw[hk,keyLt'_oneType];refine Kz (wpS_lift (wpAny_attempt (oneLt_int ⟨rfl,?_⟩)));exact KD h
theorem yZ {xs:Array Keyed}(h:fA (dN λp=>numOf p.1) xs.toList):SortedTo xs xs.size:=λi j hij hj=>by
  by_cases e:i=j
  · subst e;exact Int.le_refl _
  · have hi : i < xs.size := by lia
    have:=pairwise_iff_getElem.mp h i j (by rw[KH];exact hi) (by rw[KH];exact hj) (by lia);unfold dN at this;rw[K_eq hi,K_eq hj];simp only[decide_eq_false_iff_not,Int.not_lt,Array.getElem_toList] at this;exact this
variable {a kS:Addr} {b:Bool} {vs:List Kn} {kz:List Int} {keys:Array Kn} {e e1:Nat} {P:PySem.Fin->Kp->Prop}
noncomputable def Rest (h h':Heap)(a kS:Addr):Prop:=∀c o,c≠a->c≠kS->h.get? c=some o->h'.get? c=some o
theorem tS {st:KI}(nk:s.heap.get? kS=some (seqObj "list" keys e))(na:s.heap.get? a=some (seqObj "list" #[] e1))(hka:kS≠a)
  (hk:IntsAre keys.toList kz) (hlen:kz.length=vs.length) (hz:vs.length<=sizeLine) (hp:(arrOf st).Perm (keys.zip vs.toArray)) (hs:SortedTo (arrOf st) (arrOf st).size) (hfl:failedOf st=none)
  (h:∀h' tk out c,Rest s.heap h' a kS->h'.get? a=some (seqObj "list" out c)->KskOut b kz vs out.toList->P (.done (.ret .none)) { s with heap:=h',toks:=tk }) :
  wpAny (model prog w) A (ksk_tail a b e1 (.ref kS) st) P E s:=by
 have hsz:keys.size=vs.length:=by
  have h1:=hk.length;rw[KH] at h1;lia
 have hsz2:(arrOf st).size=vs.length:=by rw[hp.size_eq,Array.size_zip,hsz,KN,Nat.min_self]
 have hout:(if b then ((arrOf st).map (·.2)).reverse else (arrOf st).map (·.2)).size=vs.length:=by
  cases b with
  | false=>rw[if_neg (by decide),Array.size_map];exact hsz2
  | true=>rw[if_pos rfl,Array.size_reverse,Array.size_map];exact hsz2
 have s1:=Heap.SameBut.update s.heap kS (Ld λ_=>(#[]:Array Kn));have na1:(s.heap.update kS (Ld λ_=>(#[]:Array Kn))).get? a=some (seqObj "list" #[] e1):=(s1.2 a hka.symm).trans na;have s2:=Heap.SameBut.update (s.heap.update kS (Ld λ_=>(#[]:Array Kn))) a (Ld λ_=>if b then ((arrOf st).map (·.2)).reverse else (arrOf st).map (·.2));have put:∀out:Array Kn,∃c2,((s.heap.update kS (Ld λ_=>(#[]:Array Kn))).update a (Ld λ_=>out)).get? a=some (seqObj "list" out c2):=λout=>⟨_,get?_update_seq na1 λ_=>out⟩
 obtain ⟨c2,hc2⟩:=put (if b then ((arrOf st).map (·.2)).reverse else (arrOf st).map (·.2));unfold ksk_tail;dsimp only;refine Ko (listUpdate_at nk rfl ?_ (by rw[hsz];exact hz) (Lc _));refine Ko (wpAny_letGo (Ko (seqEpoch_at na1 rfl ?_)));refine Ko (listUpdate_at na1 rfl ?_ (Lc _) (Nat.le_succ_of_le (Nat.le_trans (Nat.le_of_eq hout) hz)));rw[hfl];simp only[bne_self_eq_false,KL,if_false];exact Kq (h _ _ _ c2 (λc o h1 h2 ec=>(s2.2 c h1).trans ((s1.2 c h2).trans ec)) hc2 (ksk_out hk hp hs))
theorem CW (nk:s.heap.get? kS=some (seqObj "list" keys e))(na:s.heap.get? a=some (seqObj "list" #[] e1))(hka:kS≠a)(hk:IntsAre keys.toList kz)(hlen:kz.length=vs.length)(hz:vs.length<=sizeLine)
    (h:∀h' tk out c,Rest s.heap h' a kS->h'.get? a=some (seqObj "list" out c)->KskOut b kz vs out.toList->P (.done (.ret .none)) { s with heap:=h',toks:=tk }) :
    wpAny (model prog w) A (ksk_end a b vs.toArray e1 (.ref kS) keys) P E s:=by
  have hsz:keys.size=vs.length:=by
    have h1:=hk.length;rw[KH] at h1;lia
  have hzs:(keys.zip vs.toArray).size=vs.length:=by rw[Array.size_zip,hsz,KN,Nat.min_self]
  have hstart:(if b=true then (keys.zip vs.toArray).reverse else keys.zip vs.toArray).Perm (keys.zip vs.toArray):=by
    cases b with
    | false=>exact Array.Perm.refl _
    | true=>exact Array.perm_iff_toList_perm.mpr (by rw[if_pos rfl,Array.toList_reverse];exact List.reverse_perm _)
  have main:wpAny (model prog w) A (do
      let kind <-if vs.toArray.size<2 then pure general' else keyKind' keys
      let ((),s) <-(if vs.toArray.size<2 then pure () else sortRuns').run (SortSt.mk' kind (if b then (keys.zip vs.toArray).reverse else keys.zip vs.toArray) #[] 7 none)
      ksk_tail a b e1 (.ref kS) s) P E s:=by
    by_cases h2:vs.toArray.size<2
    · rw[if_pos h2,if_pos h2];refine Ko (Kq ?_);dsimp only;rw[StateT.run_pure];refine Ko (Kq ?_);dsimp only;refine tS (st:=SortSt.mk' general' (if b=true then (keys.zip vs.toArray).reverse else keys.zip vs.toArray) #[] 7 none) nk na hka hk hlen hz hstart ?_ rfl h;intro i j hij hj;have hj2:j<(if b=true then (keys.zip vs.toArray).reverse else keys.zip vs.toArray).size:=hj;rw[hstart.size_eq,hzs] at hj2;rw[KN] at h2;have:i=j:=by lia
      subst this;exact Int.le_refl _
    · rw[if_neg h2,if_neg h2];rw[KN] at h2;rw[ksk_kind hk (by rw[hsz];lia)];refine Ko (Kq ?_);refine Ko (wpAny_mono (kO (xs:=if b=true then (keys.zip vs.toArray).reverse else keys.zip vs.toArray) CZ (λp hp=>?_) (st:=SortSt.mk' oneType' (if b=true then (keys.zip vs.toArray).reverse else keys.zip vs.toArray) #[] 7 none)
        (Q:=λ_ st'=>(arrOf st').Perm (keys.zip vs.toArray)/\failedOf st'=none/\SortedTo (arrOf st') (arrOf st').size) rfl rfl rfl rfl λst' a1 a2 a3=>⟨a1.trans hstart,a2,yZ a3⟩) ?_ λ_ _ z=>z)
      · exact ksk_intKeys hk p ((Array.perm_iff_toList_perm.mp hstart).mem_iff.mp hp)
      · rintro ⟨⟨⟩,st'⟩ s' ⟨rfl,hp,hf,hs⟩;dsimp only at hp hf hs ⊢;exact tS nk na hka hk hlen hz hp hs hf h
  unfold ksk_end;dsimp only;cases b with
  | false=>exact main
  | true=>exact Ko (wpAny_rule main)
noncomputable def Keeps (h h':Heap):Prop:=∀c o,h.get? c=some o->h'.get? c=some o
theorem AN {f:Kn}{h₀:Heap}(K0:Keeps h₀ s.heap)(fa:h₀.get? a=none)(fk:h₀.get? kS=none)(nk:s.heap.get? kS=some (seqObj "list" #[] 0))(na:s.heap.get? a=some (seqObj "list" #[] e1))(hka:kS≠a)(hlen:kz.length=vs.length)(hz:vs.length<=sizeLine)
  (turn:∀(i:Nat) (v:Kn) (k:Int),vs[i]?=some v->kz[i]?=some k->∀(h:Heap) (tk:Nat),Keeps h₀ h->∀Q:Kn->Kp->Prop,(∀h' tk' t',Keeps h h'->Q (.int k t') { s with heap:=h',toks:=tk' }) ->
   wpAny (model prog w) A (call f [v]) Q (λ_ _=>False) { s with heap:=h,toks:=tk })
  (h:∀h' tk out c,Keeps h₀ h'->h'.get? a=some (seqObj "list" out c)->KskOut b kz vs out.toList->P (.done (.ret .none)) { s with heap:=h',toks:=tk }) :
  wpAny (model prog w) A (ksk_rest a f b vs.toArray e1 (.ref kS)) P E s:=by
 unfold ksk_rest;refine Ko (wpAny_rule ?_);rw[List.forIn_toArray];refine Ko (ksk_fold (λi s'=>∃h' tk kA e,s' = { s with heap:=h',toks:=tk }/\Keeps h₀ h'/\h'.get? kS=some (seqObj "list" kA e)/\h'.get? a=some (seqObj "list" #[] e1)/\IntsAre kA.toList (kz.take i)) vs 0 s
  ⟨s.heap,s.toks,#[],0,rfl,K0,nk,na,by simpa using IntsAre.nil⟩ ?step ?done)
 case step =>
  rintro j x s' hx ⟨h',tk,kA,e,rfl,K',nk',na',hk⟩;simp only[Nat.zero_add] at hk ⊢;have hj:j<vs.length:=(Kw.mp hx).1;obtain ⟨k,hkj⟩ : ∃k,kz[j]?=some k:=⟨_,Kt (by lia)⟩
  have hzz:kA.size<=j:=by
   have h1:=hk.length;rw[KH,KO] at h1;lia
  refine Ko (wpAny_attempt (wpAny_mono (turn j x k hx hkj h' tk K' _ λg tk2 t2 kg=>?_) (λv s'' he=>he) λ_ _ hF=>hF.elim));dsimp only;have nk2:=kg _ _ nk';have na2:=kg _ _ na';have s1:=Heap.SameBut.update g kS (Ld (·.push (.int k t2)));obtain ⟨c2,hc2⟩ : ∃c2,(g.update kS (Ld (·.push (.int k t2)))).get? kS=some (seqObj "list" (kA.push (.int k t2)) c2):=⟨_,get?_update_seq nk2 (·.push (.int k t2))⟩
  have ek:kz.take (j+1)=kz.take j++[k]:=by rw[List.take_add_one,hkj];simp
  have ea:(kA.push (Value.int k t2)).toList=kA.toList++[Value.int k t2]:=by simp
  refine Ko (listUpdate_at nk2 rfl ?_ (by lia) (Nat.le_trans (Nat.le_of_eq (Array.size_push ..)) (by lia)));refine Kq ⟨rfl,_,_,kA.push (.int k t2),c2,rfl,λc o ec=>?_,hc2,(s1.2 a hka.symm).trans na2,by rw[ea,ek];exact ksk_snoc hk⟩;have hc:c≠kS:=λz=>by rw[z,fk] at ec;cases ec
  exact (s1.2 c hc).trans (kg _ _ (K' _ _ ec))
 case done =>
  rintro s' ⟨h',tk,kA,e,rfl,K',nk',na',hk⟩;have hk':IntsAre kA.toList kz:=by
   have e3:kz.take (0+vs.length)=kz:=take_of_length_le (by lia);rw[e3] at hk;exact hk
  refine Ko (listItems_at nk' rfl ?_);refine CW (s:={ s with heap:=h',toks:=tk }) nk' na' hka hk' hlen hz λh3 tk3 out c R3 n3 k3=>h h3 tk3 out c (λc o ec=>R3 c o (λz=>by rw[z,fa] at ec;cases ec) (λz=>by rw[z,fk] at ec;cases ec) (K' _ _ ec)) n3 k3
theorem AO {f:Kn}{n:Nat}{h₀:Heap}(K0:Keeps h₀ s.heap)(fa:h₀.get? a=none)(hle:h₀.objs.size<=s.heap.objs.size)(ho:s.heap.get? a=some (seqObj "list" vs.toArray n))(hlen:kz.length=vs.length)(hz:vs.length<=sizeLine)
  (turn:∀(i:Nat) (v:Kn) (k:Int),vs[i]?=some v->kz[i]?=some k->∀(h:Heap) (tk:Nat),Keeps h₀ h->∀Q:Kn->Kp->Prop,(∀h' tk' t',Keeps h h'->Q (.int k t') { s with heap:=h',toks:=tk' }) ->
   wpAny (model prog w) A (call f [v]) Q (λ_ _=>False) { s with heap:=h,toks:=tk })
  (h:∀h' tk out c,Keeps h₀ h'->h'.get? a=some (seqObj "list" out c)->KskOut b kz vs out.toList->P (.done (.ret .none)) { s with heap:=h',toks:=tk }) :
  wpAny (model prog w) A (ksk_tree a f b) P E s:=by
 have ha:a<s.heap.objs.size:=KG ho;have s1:=Heap.SameBut.update s.heap a (Ld λ_=>(#[]:Array Kn));obtain ⟨e1,ho1⟩ : ∃e1,(s.heap.update a (Ld λ_=>(#[]:Array Kn))).get? a=some (seqObj "list" #[] e1):=⟨_,get?_update_seq ho λ_=>#[]⟩
 have hkS:((s.heap.update a (Ld λ_=>(#[]:Array Kn))).push (seqObj "tuple" vs.toArray 0)).objs.size=s.heap.objs.size+1:=by rw[size_push',Heap.size_update]
 unfold ksk_tree;refine Ko (listItems_at ho rfl ?_);refine Ko (listUpdate_at ho rfl ?_ (by rw[KN];exact hz) (Lc _));refine Ko (seqEpoch_at ho1 rfl ?_);refine Ko (wpAny_newTuple ?_ (by simpa using hz));refine Ko (wpAny_newList ?_ (Lc _));refine wpAny_holding ?_;refine AN (s:={ s with heap:=((s.heap.update a (Ld λ_=>(#[]:Array Kn))).push (seqObj "tuple" vs.toArray 0)).push (seqObj "list" #[] 0) }) (kS:=((s.heap.update a (Ld λ_=>(#[]:Array Kn))).push (seqObj "tuple" vs.toArray 0)).objs.size)
  (λc o ec=>Kv _ (Kv _ ((s1.2 c λz=>by rw[z,fa] at ec;cases ec).trans (K0 _ _ ec)))) fa (Heap.get?_none_of_le (by rw[hkS];lia)) (KZ _ rfl) (Kv _ (Kv _ ho1)) (by rw[hkS];exact Nat.ne_of_gt (Nat.lt_succ_of_lt ha)) hlen hz turn h
theorem vy {l:Addr}{f:Kn}{kw:List (Str×Kn)}{Q:Kn->Kp->Prop}(hl:s.heap.IsList l vs.toArray)(hlen:kz.length=vs.length)(hz:vs.length<=sizeLine)
  (ha1:argsOk "sorted" ⟨[.ref l],kw⟩) (ha2:∀x,argsOk "list.sort" ⟨[.ref x],kw⟩) (ht:∀x,Builtin.«list.sort» ⟨[.ref x],kw⟩=ksk_tree x f b)
  (turn:∀(i:Nat) (v:Kn) (k:Int),vs[i]?=some v->kz[i]?=some k->∀(h:Heap) (tk:Nat),Keeps s.heap h->∀Q:Kn->Kp->Prop,(∀h' tk' t',Keeps h h'->Q (.int k t') { s with heap:=h',toks:=tk' }) ->
   wpAny (model prog w) A.in1.in1 (call f [v]) Q (λ_ _=>False) { s with heap:=h,toks:=tk })
  (h:∀D h' tk out c,Keeps s.heap h'->s.heap.objs.size<=D->h'.get? D=some (seqObj "list" out c)->KskOut b kz vs out.toList->Q (.ref D) { s with heap:=h',toks:=tk }) :
  wpAny (model prog w) A (call (.builtin "sorted") [.ref l] kw) Q E s:=by
 refine call_function_entry_kw kind_sorted plain_sorted entry_sorted ha1 ?_;unfold Builtin.«sorted»;refine Ko (m:=checkCount "sorted" 1 1 _) (Kq ?_);refine Ko (collect_list hl ?_ hz);refine Ko (wpAny_newList ?_ hz);have hsz:((s.heap.push (seqObj "list" #[] 0)).update s.heap.objs.size (Ld (·++vs.toArray))).objs.size=s.heap.objs.size+1:=by
  rw[Heap.size_update,size_push']
 have hoL:(((s.heap.push (seqObj "list" #[] 0)).update s.heap.objs.size (Ld (·++vs.toArray))).push (seqObj "list" vs.toArray 0)).get? (s.heap.objs.size+1)=some (seqObj "list" vs.toArray 0):=by
  rw[<-hsz];exact KZ _ rfl
 have keep:Keeps s.heap (((s.heap.push (seqObj "list" #[] 0)).update s.heap.objs.size (Ld (·++vs.toArray))).push (seqObj "list" vs.toArray 0)):=λb o q=>by
  have hlt:b<s.heap.objs.size:=KG q;rw[Heap.get?_push_ne _ _ _ (by rw[hsz];exact KR (Nat.lt_succ_of_lt hlt)),Heap.get?_update_ne _ _ _ _ (KR hlt),Heap.get?_push_ne _ _ _ (KR hlt)];exact q
 show wpAny _ _ _ _ _ { s with heap:=((s.heap.push (seqObj "list" #[] 0)).update s.heap.objs.size (Ld (·++vs.toArray))).push (seqObj "list" vs.toArray 0) };rw[hsz];refine Ko (wpAny_holding (wpAny_call_entry_kw slot_list_sort ⟨_,hoL,rfl⟩ entry_list_sort ?body (ha2 _)))
 case body =>
  have ht':=ht (s.heap.objs.size+1);show wpAny (model prog w) A.in1.in1 (Builtin.«list.sort» ⟨[.ref (s.heap.objs.size+1)],kw⟩) _ _ _;rw[ht'];refine AO (h₀:=s.heap) (s:={ s with heap:=((s.heap.push (seqObj "list" #[] 0)).update s.heap.objs.size (Ld (·++vs.toArray))).push (seqObj "list" vs.toArray 0) })
   keep (Heap.get?_none_of_le (Nat.le_succ _)) (by rw[size_push',hsz];lia) hoL hlen hz turn λh' tk out c K' n' k'=>⟨_,rfl,?_⟩
  exact Kq ⟨_,rfl,h _ h' tk out c K' (Nat.le_succ _) n' k'⟩
end
end Tim
set_option maxHeartbeats 1000000
namespace L2
open PySem PySem.Spec PyProof.Rows PySem.W
section
variable {X:Cx} {pins:List (Addr×Obj)} {σ:St} {H:Hp} {s:Kp} {A:K1} {E:Kn->Kp->Prop} {Q:Kn->Kp->Prop}
theorem yw {f c' ta:Addr}{nm q x:Str}{params:Arguments}{scope:Scope}{pm ctv:Kn}{ys:List V}{j k:Int}{kk:Nat}{p1 p4 p5:Pos}
  (I:Inv X pins σ H s) (ho:s.heap.get? f=some (kla_obj nm q params (.Subscript (.Name x p1) (.Constant (.int j) kk p4) p5) scope [] pm c' ctv)) (hcd:s.heap.CodeRec (.ref c') q)
  (ht:gM X.K H ta ys) (hy:fI ys j=some (.int k))
  (hbind:∀v,bindArgs (kla_fn nm q params (.Subscript (.Name x p1) (.Constant (.int j) kk p4) p5) scope [] pm (.ref c') ctv) ⟨[v],[]⟩=pure [(x,v)])
  (hk:scope.kind=.function) (hco:scope.isCoroutine=false) (hgen:scope.isGenerator=false) (hcell:∀z∈scope.names,z.2≠.cell) (hlx:scope.names.lookup x=some .local)
  (hdx:(x == ("__debug__" : Str))=false) (room:A.depth<recursionLimit)
  (h:∀h' tk t',(∀b o,s.heap.get? b=some o->h'.get? b=some o)->Q (.int k t') { s with heap:=h',toks:=tk }) :
  wpAny (model X.prog X.w) A (call (.ref f) [.ref ta]) Q E s:=by
 obtain ⟨us,r',pt,hz'⟩:=I.tuple ht;obtain ⟨j',g1,g2,g3,g4,g5⟩:=mE hy;obtain ⟨w2,ew2,rw2⟩:=r'.get g2;obtain ⟨t2,rfl⟩:=rw2;have hl':=r'.length;have hn:=jH;refine wpAny_call (kla_callFunE room ho rfl hco hgen rfl hcd ?_);rw[hbind];refine Kq (wpAny_newFunctionEnv hcell (λz hz=>by cases mem_singleton.mp hz;exact hlx) (λh₁ hns hsb=>⟨I.nolimit.fresh _ hsb,?_⟩) hk);have keep:∀b o,s.heap.get? b=some o->h₁.get? b=some o:=λb o e=>hsb.extBut b o (KR (KG e)) (Kv _ e);refine kla_codeExpr ?_;refine Subscript_ (wpAny_Name (wpAny_loadName_local (v:=.ref ta) hk hlx hns (by simp[List.lookup]) ?_) hdx);refine wpAny_Constant_int ?_;have pt1:IsTup h₁ ta us.toArray:=by
  obtain ⟨o,e,d⟩:=pt;exact ⟨o,keep _ _ e,d⟩
 refine subscriptTail_builtinR (x:=.int k t2) pt1.typeIs slot_tuple_getitem.lookup
  (getItem_tuple (j:=j') pt1 (by lia) (by lia) (by rw[KN,<-hl'];exact g1) (by simpa using ew2) ⟨rfl,?_⟩) (by with_unfolding_all rfl)
 exact h _ _ _ keep
end
section
variable {X:Cx}
noncomputable def Bi:List V->Hp->VK->Prop:=λxs H Q=>∃(a:Addr) (ps:List ((Int×Int)×Int)),xs = [.ref a]/\Rd H a (.dT (DL.encD ps)) /\
 ∀(l:Addr) (bs:List Addr),H l=none->Paired (λb p=>H b=some (.tup [.int p.1.1,.int p.1.2])) bs ps->Q (.ref l) (upd H l (.lst (bs.map V.ref)))
theorem jk:∀bs:List Addr,Vals (bs.map V.ref) (bs.map Value.ref)
 | []=>.nil
 | b::bs=>.cons rfl (jk bs)
theorem uU (hc:X.calm=true):fe X (.type "list") Bi:=by
  intro pins s σ H xs us Q I r h;obtain ⟨a,ps,rfl,e,q⟩:=h;obtain ⟨u,rfl,ru⟩:=vals1 r;cases ru;obtain ⟨z,hd,xs,rel,o,es,ep,h1,h2,h3,h4,_⟩:=lU I.bG e;obtain ⟨bs,hb,hk⟩:=nE (P:=X.prog) (w:=X.w) rel;rw[<-h4] at hk;have hl:bs.length=ps.length:=Paired.length hb;have hsz:es.size=ps.length:=by
    have:=congrArg List.length hk;simp at this;lia
  have hz:es.size<=sizeLine:=by
    rw[hsz];have:(DL.encD ps).length=ps.length:=by unfold DL.encD;rw[Ks]
    lia
  refine kdl_call (DIt.src (ep:=ep) hd) (I.ok.hd hc) ⟨o,h1,h2,h3⟩ hz λh' tk acc' c' k' hD hacc=>?_;have ea:acc'.toList=bs.map Value.ref:=by
    rw[<-hk];refine List.ext_getElem? λj=>?_;rw[KS];by_cases hj:j<es.size
    · have h1 : acc'[j]? = some (acc'[j]'(by rw [hacc.1];exact hj)) := Ky _;obtain ⟨en,e1,e2⟩:=hacc.2 j _ h1;rw[Kx,Kx,h1,e1,e2];rfl
    · rw [Kx, Kx, Array.getElem?_eq_none (by rw [hacc.1];lia), Array.getElem?_eq_none (by lia)];rfl
  refine ⟨.ref _,_,I.laid (t':=tk) k' (Ku _) (o:=.lst (bs.map V.ref)) ⟨by rw[Ks];lia,bs.map Value.ref,c',jk bs,?_⟩,rfl,q _ bs (I.bG.fresh (Ku _)) hb⟩;rw[<-ea,Array.toArray_toList];exact hD
theorem iN {α β:Type}{g:α->β}:∀{l1 l2:List β},l1.Perm l2->∀zs:List α,l2=zs.map g->∃zs':List α,zs'.Perm zs/\l1=zs'.map g:=by
 intro l1 l2 h;induction h with
 | nil =>
  intro zs e;exact ⟨[],by rw[List.map_eq_nil_iff.mp e.symm],rfl⟩
 | cons x _ ih =>
  intro zs e;cases zs with
  | nil=>cases e
  | cons z zs =>
   rw[K3] at e;obtain ⟨e1,e2⟩:=List.cons.inj e;obtain ⟨zs',p,r⟩:=ih zs e2;exact ⟨z::zs',p.cons z,by rw[r,e1];rfl⟩
 | swap x y l =>
  intro zs e;match zs,e with
  | z::z'::zs,e =>
   rw[K3,K3] at e;obtain ⟨e1,e2⟩:=List.cons.inj e;obtain ⟨e3,e4⟩:=List.cons.inj e2;exact ⟨z'::z::zs,.swap _ _ _,by rw[e1,e3,e4];rfl⟩
 | trans _ _ ih1 ih2 =>
  intro zs e;obtain ⟨zs2,p2,r2⟩:=ih2 zs e;obtain ⟨zs1,p1,r1⟩:=ih1 zs2 r2;exact ⟨zs1,p1.trans p2,r1⟩
theorem fL {α β:Type}{R R':α->β->Prop}(f:∀a b,R a b->R' a b):∀{xs:List α} {ys:List β},Paired R xs ys->Paired R' xs ys
 | _,_,.nil=>.nil
 | _,_,.cons h t=>.cons (f _ _ h) (fL f t)
theorem g9 {α β:Type}{R:α->β->Prop}:∀{xs:List α} {ys:List β},Paired R xs ys->∀{z:α×β},z∈xs.zip ys->R z.1 z.2
 | _,_,.nil,_,h=>nomatch h
 | _,_,.cons h t,z,hz=>by
  rw[List.zip_cons_cons] at hz;rcases KQ.mp hz with e | e
  .subst e;exact h
  .exact g9 t e
theorem jA {α β:Type}{R:α->β->Prop}:∀{zs:List (α×β)},(∀z∈zs,R z.1 z.2)->Paired R (zs.map Prod.fst) (zs.map Prod.snd)
 | [],_=>.nil
 | z::zs,h=>.cons (h z (mem_cons_self ..)) (jA λy hy=>h y (K8 _ hy))
noncomputable def xQ (ps:List ((Int×Int)×Int)):Prop:=ps.Pairwise λp q=>q.1.2<=p.1.2
noncomputable def J4 (t:TA):TA:=El (IE Bi t) Ig
noncomputable def Ga (t:TA):TE:=λσ H Q=>J4 t σ H λus H2=>∃(l0:Addr) (bs:List Addr) (ps:List ((Int×Int)×Int)),us = [.ref l0]/\H2 l0=some (.lst (bs.map V.ref))/\Paired (λb p=>H2 b=some (.tup [.int p.1.1,.int p.1.2])) bs ps /\
 ∀(l:Addr) (bs':List Addr) (ps':List ((Int×Int)×Int)) (H3:Hp),ar H2 H3->H3 l=none->ps'.Perm ps->xQ ps'->Paired (λb p=>H3 b=some (.tup [.int p.1.1,.int p.1.2])) bs' ps'->Q (.ref l) (upd H3 l (.lst (bs'.map V.ref)))
theorem A6 {P c:Addr}{x:Str}{params:Arguments}{scope:Scope}{e:Expr}{lpos kpos kpos2 cpos p pl posl pos p1 p4 p5:Pos}{kk jc:Nat}{t:TA}
    (hg:Gl X "sorted") (hm:X.mg "sorted" = none) (hgl:Gl X "list") (hml:X.mg "list" = none) (hc:X.calm=true) (room:cH 0 X.A)
    (hcode:X.env.code=.ref c) (C:CodeHd X.base c P) (B:cc X.mg X.base) (hT:TabAt X.H₀ P (X.env.qual++"<lambda>"))
    (hcl:closureFor scope X.env=pure []) (hdef:defaultsOf params X.env=([],[]))
    (hbind:∀q pm c' ctv v,bindArgs (kla_fn "<lambda>" q params (.Subscript (.Name x p1) (.Constant (.int 1) kk p4) p5) scope [] pm (.ref c') ctv) ⟨[v],[]⟩=pure [(x,v)])
    (hk:scope.kind=.function) (hco:scope.isCoroutine=false) (hgen:scope.isGenerator=false) (hcell:∀z∈scope.names,z.2≠.cell) (hlx:scope.names.lookup x=some .local)
    (hdx:(x == ("__debug__" : Str))=false)
    (ha:PA X [e] t) (he0:autoParam (starEach [e] X.env = [(false,eval e X.env)]) aZa._auto_1)
    (he:autoParam (starEach [.Call (.Name "list" pl) [e] [] posl] X.env = [(false,eval (.Call (.Name "list" pl) [e] [] posl) X.env)]) aZa._auto_1) :
    PE X (.Call (.Name "sorted" p) [.Call (.Name "list" pl) [e] [] posl] [⟨some "key",.Lambda params (.Subscript (.Name x p1) (.Constant (.int 1) kk p4) p5) scope lpos,kpos⟩,⟨some "reverse",.Constant (.bool true) jc cpos,kpos2⟩] pos) (Ga t):=by
  intro pins s σ H Q I h;have hpa:PA X [.Call (.Name "list" pl) [e] [] posl] (J4 t):=eQ (p8 (uU hc) hgl hml boot_list ha (he:=by rw[he0];rfl) (hpl:=rfl)) g8 (by rw[he];rfl);refine wpAny_Call_Name_kw (gZ I hg hm (show bootBuiltins "sorted" = some (.builtin "sorted") by first | rfl | decide) ?_ (by decide) (by decide));refine callWith_kw (bU (hpa pos pins s σ H _ I h) ?_) (by rw[he];rfl) (by rw[he];rfl) rfl rfl;rintro us s1 ⟨vs,H1,I1,r1,q1⟩;obtain ⟨l0,bs,ps,rfl,hl0,hbs,fin⟩:=q1;obtain ⟨u,rfl,rx⟩:=vals1 r1;cases rx;show wpAny _ _ (evalAll [(do let v <-eval (.Lambda params (.Subscript (.Name x p1) (.Constant (.int 1) kk p4) p5) scope lpos) X.env;standAt pos;pure v),(do let v <-eval (.Constant (.bool true) jc cpos) X.env;standAt pos;pure v)]) _ _ s1;refine wpAny_evalAll_cons (Ko (AG I1 hcode C B hT hcl hdef λf c' ctv pm h3 tk3 H3 I3 hH3 ho hfn hge hrec=>Ko (wpAny_standAt (Kq (wpAny_evalAll_cons (Ko (wpAny_Constant_bool (Ko (wpAny_standAt (Kq (wpAny_evalAll_nil ?_)))))))))));show wpAny _ _ (call (.builtin "sorted") [.ref l0] [(Str.ofString "key",.ref f),(Str.ofString "reverse",.bool true)]) _ _ _;have s13:ar H1 H3:=by
    rcases hH3 with z | ⟨z,z'⟩
    · rw[z];exact ar.refl _
    · rw[z'];exact d6 z
  have hbs3:Paired (λb p=>H3 b=some (.tup [.int p.1.1,.int p.1.2])) bs ps:=fL (λ_ _ z=>s13 _ _ z) hbs;have hl:bs.length=ps.length:=Paired.length hbs;obtain ⟨hz,its,n0,rv,hit⟩:=(show cw X.prog X.w H3 h3 l0 (.lst (bs.map V.ref)) from I3.bG l0 _ (s13 _ _ hl0))
  have eits:its=bs.map Value.ref:=by
    clear hz hit hbs hbs3 hl hl0 fin;induction bs generalizing its with
    | nil=>cases rv;rfl
    | cons b bs ih =>
      cases rv with
      | cons h1 h2 =>
        cases h1;rw[ih _ h2];rfl
  subst eits;rw[Ks] at hz;refine Tim.vy (b:=true) (kz:=ps.map λp=>p.1.2) (vs:=bs.map Value.ref) ⟨_,hit,rfl,_,rfl⟩ (by rw[Ks,Ks,hl]) (by rw[Ks];exact hz) (ksk_s2 _ _ _) (λx=>ksk_l2 _ _ _) (λx=>ksk_t2 _ x true)
    (λi' v k hv hk' h4 tk4 K4 Q4 q4=>?_) λD h5 dO out c5 K5 hD hDo ko=>?_
  · rw[KS] at hv hk';obtain ⟨p,hp,rfl⟩:=Option.map_eq_some_iff.mp hk';obtain ⟨b,eb,hb'⟩:=DL.bH hbs3 hp;rw[eb] at hv;cases hv;have I4:Inv X pins σ H3 { s1 with heap:=h4,toks:=tk4 }:=I3.kept (t':=tk4) K4;have hrec4:h4.CodeRec (.ref c') (X.env.qual++"<lambda>"):=by
      obtain ⟨c2,o2,vs2,t2,e2,gg,r2,r3⟩:=hrec;cases e2;exact ⟨c',o2,vs2,t2,rfl,K4 _ _ gg,r2,r3⟩
    refine yw (j:=1) (ys:=[.int p.1.1,.int p.1.2]) I4 (K4 f _ ho) hrec4 (.inl (.inl hb')) rfl (hbind _ _ _ _) hk hco hgen hcell hlx hdx ?_ λh' tk t' keep=>q4 h' tk t' keep;have:=room.dp;show X.A.depth<_;lia
  · obtain ⟨qs,hqp,hqo,hqs⟩:=ko;have ezip:(ps.map λp=>p.1.2).zip (bs.map Value.ref)=(bs.zip ps).map λz=>(z.2.1.2,Value.ref z.1):=by
      clear hz hit hbs hbs3 hl0 fin hqp rv;induction bs generalizing ps with
      | nil=>cases ps<;>rfl
      | cons b bs ih =>
        cases ps with
        | nil=>rfl
        | cons p ps =>
          rw[K3,K3,List.zip_cons_cons,List.zip_cons_cons,K3,ih ps (by simpa using hl)]
    rw[ezip] at hqp;obtain ⟨zs,hzp,rfl⟩:=iN hqp _ rfl;have eo:out.toList=(zs.map Prod.fst).map Value.ref:=by rw[hqo,map_map,map_map];rfl
    have zlen:zs.length=bs.length:=by rw[hzp.length_eq,List.length_zip];lia
    refine ⟨.ref D,_,I3.laid (s:={ s1 with heap:=h3,toks:=tk3 }) (t':=dO) K5 hD (o:=.lst ((zs.map Prod.fst).map V.ref)) ⟨by rw[Ks,Ks];lia,(zs.map Prod.fst).map Value.ref,c5,jk _,?_⟩,rfl,fin D (zs.map Prod.fst) (zs.map Prod.snd) H3 s13 (I3.bG.fresh hD) ?_ ?_ ?_⟩
    · rw[<-eo,Array.toArray_toList];exact hDo
    · have:=hzp.map Prod.snd;rw[List.map_snd_zip (by lia)] at this;exact this
    · unfold xQ;rw[pairwise_map] at hqs ⊢;exact hqs.imp λ{p q} z=>z
    · exact jA λz hz=>g9 hbs3 (hzp.mem_iff.mp hz)
end
end L2
set_option maxHeartbeats 1000000
namespace L2
open PySem PySem.Spec PyProof.Rows
section
variable {X:Cx}
noncomputable def m5 (h:Heap):Kn->List Int
 | .ref a=>match h.get? a with
  | some o=>match o.data with
   | .seq xs _=>xs.toList.map numOf
   | _=>[]
  | none=>[]
 | _=>[]
theorem DB {h:Heap}{v:Kn}{ns:List Int}(t:SoT.Tp h v ns):m5 h v=ns:=by
 obtain ⟨a,o,xs,n,rfl,h1,h2,h3,h4⟩:=t;unfold m5;dsimp only;rw[h1];dsimp only;rw[h3];exact h4.nums
noncomputable def FO (K:Frag):List V->Hp->VK->Prop:=λxs H Q=>∃(a:Addr) (bs:List Addr) (nss:List (List Int)) (c:Nat),xs = [.ref a]/\dc K H a (bs.map V.ref)/\Paired (λb ns=>gM K H b (ns.map V.int)) bs nss/\0<c/\(∀ns∈nss,ns.length=c) /\
 ∀(l:Addr) (zs:List (Addr×List Int)),H l=none->zs.Perm (bs.zip nss)->zs.Pairwise (λp q=>Tim.fj q.2 p.2=false)->Q (.ref l) (upd H l (.lst ((zs.map Prod.fst).map V.ref)))
theorem xG:∀{bs:List Addr} {its:List Kn},Vals (bs.map V.ref) its->its=bs.map Value.ref
 | [],_,h=>by cases h;rfl
 | b::bs,_,h=>by
  cases h with
  | cons h1 h2 =>
   cases h1;rw[xG h2];rfl
theorem uV:fe X (.builtin "sorted") (FO X.K):=by
 intro pins s σ H xs us Q I r h;obtain ⟨a,bs,nss,c,rfl,hs,hb,hc,hl,q⟩:=h;obtain ⟨u,rfl,ru⟩:=vals1 r;cases ru;obtain ⟨its,rv,pl,hz⟩:=I.list hs;rw[Ks] at hz;cases xG rv;have hlen:bs.length=nss.length:=Paired.length hb;have tp:∀z∈bs.zip nss,SoT.Tp s.heap (.ref z.1) z.2:=λz hz'=>by
  obtain ⟨us,rr,⟨o,e1,e2,m,e3⟩,_⟩:=I.tuple (g9 hb hz');exact ⟨z.1,o,us.toArray,m,rfl,e1,e2,e3,by simpa using intsAre_of rr⟩
 have tz:∀z∈bs.zip nss,m5 s.heap (.ref z.1)=z.2:=λz hz'=>DB (tp z hz');have ebs:bs.map Value.ref=(bs.zip nss).map λz=>Value.ref z.1:=by
  have:(bs.zip nss).map Prod.fst=bs:=List.map_fst_zip (by lia);conv=>lhs;rw[<-this]
  rw[map_map];rfl
 refine Tim.vM (f:=m5 s.heap) (c:=c) pl.isList (λv hv=>?_) hc (by rw[Ks];exact hz) λD h' n out hD k' hDo hp ho=>?_
 .rw[ebs] at hv;obtain ⟨z,hz',rfl⟩:=KJ.mp hv;have:=tp z hz';rw[tz z hz'];exact ⟨this,hl _ (List.of_mem_zip hz').2⟩
 .rw[ebs] at hp;obtain ⟨zs,hzp,rfl⟩:=iN hp _ rfl;have em:zs.map (λz=>Value.ref z.1)=(zs.map Prod.fst).map Value.ref:=by rw[map_map];rfl
  rw[em] at hDo;have zlen:zs.length=bs.length:=by rw[hzp.length_eq,List.length_zip];lia
  refine ⟨.ref D,_,I.laid (t':=s.toks) k' hD (o:=.lst ((zs.map Prod.fst).map V.ref)) ⟨by rw[Ks,Ks];lia,(zs.map Prod.fst).map Value.ref,n,jk _,hDo⟩,rfl,q D zs (I.bG.fresh hD) hzp ?_⟩;rw[pairwise_map] at ho;refine List.Pairwise.imp_of_mem (λ{p q} h1 h2 z=>?_) ho;rw[tz p (hzp.mem_iff.mp h1),tz q (hzp.mem_iff.mp h2)] at z;exact z
end
end L2
namespace DL
open PySem L2 PyProof.Rows PySem.W
noncomputable def zd (ns:List Int):D:=.tup (ns.map D.int)
noncomputable def zt (mss:List (List Int)):Prop:=mss.Pairwise λa b=>Tim.fj b a=false
noncomputable def qF:DR:=λds P=>match ds with
 | [.lst xs]=>∃(nss:List (List Int)) (c:Nat),xs=nss.map zd/\0<c/\(∀ns∈nss,ns.length=c)/\∀mss:List (List Int),mss.Perm nss->zt mss->P (.o (.lst (mss.map zd)))
 | _=>False
theorem qc {K:Frag}{G:Hp}:∀{us:List V} {nss:List (List Int)},bf K G us (nss.map zd)->∃bs:List Addr,us=bs.map V.ref/\Paired (λb ns=>G b=some (.tup (ns.map V.int))) bs nss
 | _,[],h=>by
  have h:bf K G _ []:=h;cases h;exact ⟨[],rfl,.nil⟩
 | _,ns::nss,h=>by
  have h:bf K G _ (zd ns::nss.map zd):=h;cases h with
  | cons h1 h2 =>
   obtain ⟨bs,rfl,hb⟩:=qc h2;obtain ⟨b,vs,rfl,e,rr⟩:=Rep.rR h1;rw[fx rr] at e;exact ⟨b::bs,rfl,.cons e hb⟩
theorem zE {X:Cx}:CallD X (.builtin "sorted") qF:=by
 refine ⟨_,uV,λH G vs ds P Q s r h k=>?_⟩;unfold qF at h;split at h
 .obtain ⟨nss,c,rfl,hc,hl,h⟩:=h;obtain ⟨v,rfl,rv⟩:=eZ r;obtain ⟨a,us,rfl,e,rr⟩:=rv.lst_inv;obtain ⟨bs,rfl,hb⟩:=qc rr;refine ⟨a,bs,nss,c,rfl,dc.of (s _ _ e),fL (λb ns z=>.inl (.inl (s _ _ z))) hb,hc,hl,λl zs hl' hp ho=>?_⟩;have hlen:bs.length=nss.length:=Paired.length hb;have hp2:(zs.map Prod.snd).Perm nss:=by
   have:=hp.map Prod.snd;rw[List.map_snd_zip (by lia)] at this;exact this
  have hr:bf X.K G ((zs.map Prod.fst).map V.ref) ((zs.map Prod.snd).map zd):=by
   have:∀z∈zs,G z.1=some (.tup (z.2.map V.int)):=λz hz=>g9 hb (hp.mem_iff.mp hz);clear hp ho hp2;induction zs with
   | nil=>exact .nil
   | cons z zs ih=>exact .cons (Rep.rQ (this z (mem_cons_self ..)) (fu z.2)) (ih λy hy=>this y (K8 _ hy))
  obtain ⟨w2,r2⟩:=d4 (Wd.refl s) hl' hr;exact k _ _ _ _ (h _ hp2 (by unfold zt;rw[pairwise_map];exact ho)) w2 r2
 .exact h.elim
section
variable {X:Cx} {e:Expr}
noncomputable def u0 (t:ff):DT:=λρ Q=>t ρ λds=>match ds with
 | [.dct kvs]=>∀ps:bY,ps.Perm kvs->xQ ps->Q (.o (.lst (AE ps)))
 | _=>False
theorem Aa {P c:Addr}{x:Str}{params:Arguments}{scope:Scope}{lpos kpos kpos2 cpos p pl posl pos p1 p4 p5:Pos}{kk jc:Nat}{t:ff}
  (hg:Gl X "sorted") (hm:X.mg "sorted" = none) (hgl:Gl X "list") (hml:X.mg "list" = none) (hc:X.calm=true) (room:cH 0 X.A)
  (hcode:X.env.code=.ref c) (C:PySem.W.codeHdIn X.K c P=true) (Hm:X.K.In X.base) (B:cc X.mg X.base) (hT:TabAt X.H₀ P (X.env.qual++"<lambda>"))
  (hcl:closureFor scope X.env=pure []) (hdef:defaultsOf params X.env=([],[]))
  (hbind:∀q pm c' ctv v,bindArgs (kla_fn "<lambda>" q params (.Subscript (.Name x p1) (.Constant (.int 1) kk p4) p5) scope [] pm (.ref c') ctv) ⟨[v],[]⟩=pure [(x,v)])
  (hk:scope.kind=.function) (hco:scope.isCoroutine=false) (hgen:scope.isGenerator=false) (hcell:∀z∈scope.names,z.2≠.cell) (hlx:scope.names.lookup x=some .local)
  (hdx:(x == ("__debug__" : Str))=false)
  (ha:DA X [e] t) (he0:autoParam (starEach [e] X.env = [(false,eval e X.env)]) aZa._auto_1)
  (he:autoParam (starEach [.Call (.Name "list" pl) [e] [] posl] X.env = [(false,eval (.Call (.Name "list" pl) [e] [] posl) X.env)]) aZa._auto_1) :
  DE X (.Call (.Name "sorted" p) [.Call (.Name "list" pl) [e] [] posl] [⟨some "key",.Lambda params (.Subscript (.Name x p1) (.Constant (.int 1) kk p4) p5) scope lpos,kpos⟩,⟨some "reverse",.Constant (.bool true) jc cpos,kpos2⟩] pos) (u0 t):=
 DE.of (A6 hg hm hgl hml hc room hcode (codeHd_of_K Hm C) B hT hcl hdef hbind hk hco hgen hcell hlx hdx ha.pa he0 he)<|by
  rintro σ H Q ⟨G,ρ,PP,s,re,h,k⟩;refine ⟨G,ρ,_,s,re,h,λds vs H1 G1 p1 l1 w1 r1=>?_⟩;split at p1
  .rename_i kvs;obtain ⟨v,rfl,rv⟩:=eZ r1;cases rv with
   | dct e =>
    refine ⟨_,kvs,rfl,fq w1.gh e,λl bs hl hb=>⟨l,bs,kvs,rfl,aE,?_,λl2 bs' ps' H3 s3 hl2 hp hf hb'=>?_⟩⟩
    .exact fL (λb p z=>by rw[au (bp z hl)];exact z) hb
    .have w3:Wd H G H3 G1:=⟨(w1.hh.trans (d6 hl)).trans s3,w1.gg,(w1.gh.trans (d6 hl)).trans s3,w1.old⟩
     obtain ⟨G',w',r'⟩:=zj (K:=X.K) w3.gh hl2 hb';refine k _ _ _ G' (p1 ps' hp hf) (w3.trans w') ?_;exact r'.ahead w3.hh
  .exact p1.elim
end
section
variable {X:Cx} {e:Expr} {te:DT} {i:Nat} {x:Str} {pos px:Pos}
theorem t4 {K:Frag}{H0 G0 H G G1 H' G':Hp}{σ:L2.St}{ρ:ax}{v:V}{ds:List D}(w:Wd H0 G0 H G)(w1:Wd H0 G0 H G1)(en:aL K H0 G H σ ρ)(w':Wd H G1 H' G')(r':fS K H G' H' v (.o (.lst ds)))(fl:ds.all D.flat=true) :
  ∃(a:Addr) (vs:List V) (G4:Hp),v=.ref a/\H a=none/\H' a=some (.lst vs)/\G4 a=some (.lst vs)/\bf K G4 vs ds/\Wd H0 G0 H' G4/\aL K H0 G4 H' σ ρ:=by
 obtain ⟨a,rfl,ha,ga,vs,hv,rr⟩:=r';obtain ⟨G3,w3,s3,_,k4,o3⟩:=GD (K:=K) w w1 w';have k3:∀c us,G' c=some (.tup us)->G3 c=some (.tup us):=λc us e=>k4 c us (w'.gh _ _ e);have g3:G3 a=none:=by
  rw[o3 a (λus z=>by rw[hv] at z;cases z) (λo us z=>by rw[hv] at z;cases z)];exact w.gh.free ha
 have w4:Wd H0 G0 H' (upd G3 a (.lst vs)):=w3.give (.inl (w.hh.free ha)) g3 hv;have s4:ar G3 (upd G3 a (.lst vs)):=d6 g3;have en4:aL K H0 (upd G3 a (.lst vs)) H' σ ρ:=(en.more (s3.trans s4) λx gx hx=>by
  have xa:x≠a:=by
   rintro rfl;rcases hx with ⟨_,z⟩ | ⟨_,z⟩<;>rw[ha] at z<;>cases z
  rw[au xa,o3 x,gx]
  .intro us z;rcases hx with ⟨_,y⟩ | ⟨_,y⟩<;>have:=w'.hh _ _ y<;>rw[z] at this<;>cases this
  .intro o us z;rcases hx with ⟨_,y⟩ | ⟨_,y⟩<;>have:=w'.hh _ _ y<;>rw[z] at this<;>cases this).back w'.hh
 exact ⟨a,vs,_,rfl,ha,hv,aE,bf.mono s4 (bf.flat k3 rr fl),w4,en4⟩
noncomputable def zV (i:Nat)(te:DT):fU:=λE ρ=>te (de ρ) λb=>match b with
 | .o (.lst ds)=>ds.all D.flat=true/\E.nx (dput ρ i (.p (.lst ds)))
 | _=>False
theorem Cp (hN:X.N.Nodup)(hi:X.N[i]?=some x)(hx:Loc X.env.scope x)(he:DE X e te)(hs:autoParam (swapsWith e (some (.Name x px)) pos.line X.env=pure false) aZa._auto_1)(hf:autoParam (X.fn x=true\/X.env.scope.names.lookup x=some .local) aZd._auto_1) :
  DS X (.Assign [.Name x px] e pos) (zV i te):=DS.mk λH0 G0=>PS.imp (jL hN hi hx he.pe hs hf)<|by
 rintro Dn σ H ⟨E,G,ρ,eo,w,en,h⟩;obtain ⟨G1,w1,sg,e1⟩:=en.freeze w;refine ⟨G1,de ρ,_,w1.gh,e1.p,h,λb v H' G' p' w' r'=>?_⟩;split at p'
 .rename_i ds;obtain ⟨a,vs,G4,rfl,ha,hv,ga,rr,w4,en4⟩:=t4 w w1 en w' r' p'.1;exact eo.nx _ H' G4 _ w4 (en4.rB i (Rep.CY ga rr)) p'.2
 .exact p'.elim
variable {apos cpos spos:Pos}
noncomputable def wd (i:Nat)(te:DT):fU:=λE ρ=>match aV ρ i with
 | some (.o (.lst ds))=>te (de ρ) λb=>match b with
  | .o (.lst es)=>es.all D.flat=true/\ds.length+es.length<=sizeLine/\E.nx (dput ρ i (.o (.lst (ds++es))))
  | _=>False
 | _=>False
theorem Cn (hN:X.N[i]?=some x)(hv:rV X.env.scope x)(he:DE X e te)(hd:autoParam ((x == ("__debug__" : Str))=false) aZb._auto_1)(hcd:autoParam ((x == ("__classdict__" : Str))=false) aZb._auto_1)
  (hbase:autoParam (attributeBase (.Name x px) "extend" X.env (eval (.Name x px) X.env)=eval (.Name x px) X.env) aZa._auto_1)
  (hfew:autoParam (((backTo cpos (starEach (e::[]) X.env)).all (λx=>!x.1) && (backToKw cpos (keywordEach [] X.env)).all (λx=>x.1.isSome)
   && decide ((e::[]).length+([]:List Keyword).length+(if ([]:List Keyword).isEmpty then 0 else 1)<30))=true) aZa._auto_1)
  (hline:autoParam ((apos.endLine == cpos.line)=true) aZa._auto_1) (hs:autoParam (starEach (e::[]) X.env=(false,eval e X.env)::starEach [] X.env) aZa._auto_1) (hplain:autoParam ((backTo cpos (starEach [] X.env)).any (·.1)=false) aZa._auto_1)
  (hsw:autoParam (swapsWith (.Call (.Attribute (.Name x px) "extend" apos) [e] [] cpos) none spos.line X.env=pure false) aZa._auto_1) :
  DS X (.Expr (.Call (.Attribute (.Name x px) "extend" apos) [e] [] cpos) spos) (wd i te):=DS.mk λH0 G0 =>
 PS.imp (mT (xq PySem.F.plainAttrs_list PySem.F.slot_list_extend PySem.F.type_list_extend yF (cM hN hv hd hcd) (eQ he.pe g8 hs) hbase hfew hline hs hplain) hsw)<|by
  rintro Dn σ H ⟨E,G,ρ,eo,w,en,h⟩;unfold wd at h;split at h
  .rename_i ds q;obtain ⟨a,h1,h2,h3,vs,h4,h5⟩:=en.o i _ q;obtain ⟨G1,w1,sg,e1⟩:=en.freeze w;refine ⟨_,h1,.inl ⟨rfl,_,dc.of h4⟩,G1,de ρ,_,w1.gh,e1.p,h,λb v H' G' p' w' r'=>?_⟩;split at p'
   .rename_i es;obtain ⟨b,us,G4,rfl,hb,hb',gb,rr,w4,en4⟩:=t4 w w1 en w' r' p'.1;have hl:H' a=some (.lst vs):=w'.hh _ _ h4;obtain ⟨a',k1,k2,k3⟩:=en4.o i _ q;rw[h1] at k1;cases k1;obtain ⟨k3b,vs',k5,k6⟩:=k3;rw[hl] at k5;cases k5;exact ⟨a,b,vs,us,rfl,rfl,hl,hb',by rw[Paired.length k6,Paired.length rr];exact p'.2.1,eo.nx σ _ G4 _ (w4.own k2 k3b) (en4.Du q h1 (bA k6 rr)) p'.2.2⟩
   .exact p'.elim
  .exact h.elim
end
section
variable {X:Cx} {e:Expr} {te:DT} {x:Str} {pos px:Pos}
noncomputable def zG (z y:Int)(te:DT):DT:=λρ Q=>te ρ λb=>match b.val with
 | .tup ds=>ds≠[]/\ds.length+2<=sizeLine/\Q (.p (.tup ([.int z,.int y]++ds)))
 | _=>False
noncomputable def v7 (z y:Int)(te:DT):DT:=λρ Q=>te ρ λb=>match b.val with
 | .tup ds=>ds≠[]/\ds.length+2<=sizeLine/\Q (.p (.tup (ds++[.int z,.int y])))
 | _=>False
theorem Ci {z y:Int}(he:DE X e te)(hB:CT X.K X.mg x z y)(hg:Gl X x)(hdb:autoParam ((x == ("__debug__" : Str))=false) aZb._auto_1):DE X (.BinOp e .Add (.Name x px) pos) (v7 z y te):=by
 obtain ⟨c,hm,hc⟩:=hB;refine DE.of (xt mQ he.pe (mS (v:=.ref c) hg hm rfl hdb)) ?_;rintro σ H Q ⟨G,ρ,P,s,re,h,k⟩;refine ⟨G,ρ,_,s,re,h,λb v H1 G1 p1 w1 r1=>?_⟩;obtain ⟨G2,w2,r2⟩:=r1.give w1;split at p1
 .rename_i ds ee;rw[ee] at r2;obtain ⟨a,us,rfl,e',rr⟩:=r2.cB;refine ⟨a,c,us,[.int z,.int y],rfl,rfl,aq w2.gh e',hc _,λz=>?_,by rw[Paired.length rr];exact p1.2.1,λz=>(nomatch z),λ_ p hp=>?_⟩
  .subst z;cases rr;exact p1.1 rfl
  .obtain ⟨w3,r3⟩:=jo w2 hp (bA rr (.cons (.int z) (.cons (.int y) .nil)));exact k _ _ _ _ p1.2.2 w3 r3
 .exact p1.elim
theorem Cg {z y:Int}(he:DE X e te)(hB:CT X.K X.mg x z y)(hg:Gl X x)(hdb:autoParam ((x == ("__debug__" : Str))=false) aZb._auto_1):DE X (.BinOp (.Name x px) .Add e pos) (zG z y te):=by
 obtain ⟨c,hm,hc⟩:=hB;refine DE.of (xt mQ (mS (v:=.ref c) hg hm rfl hdb) he.pe) ?_;rintro σ H Q ⟨G,ρ,P,s,re,h,k⟩;refine ⟨G,ρ,_,s,re,h,λb v H1 G1 p1 w1 r1=>?_⟩;obtain ⟨G2,w2,r2⟩:=r1.give w1;split at p1
 .rename_i ds ee;rw[ee] at r2;obtain ⟨a,us,rfl,e',rr⟩:=r2.cB;refine ⟨c,a,[.int z,.int y],us,rfl,rfl,hc _,aq w2.gh e',(λz=>nomatch z),by rw[Paired.length rr,Nat.add_comm];exact p1.2.1,λz=>?_,λ_ p hp=>?_⟩
  .subst z;cases rr;exact (p1.1 rfl).elim
  .obtain ⟨w3,r3⟩:=jo w2 hp (bA (.cons (.int z) (.cons (.int y) .nil)) rr);exact k _ _ _ _ p1.2.2 w3 r3
 .exact p1.elim
end
end DL
namespace WS
open PySem PySem.SetTable
noncomputable def zk (x:Nat):Nat:=5*x+1
noncomputable def ip:Nat->Nat->Nat
 | 0,x=>x
 | n+1,x=>ip n (zk x)
theorem sU (a b x:Nat):ip (a+b) x=ip b (ip a x):=by
 induction a generalizing x with
 | zero=>rw[Nat.zero_add];rfl
 | succ a ih=>rw[Nat.succ_add];exact ih (zk x)
theorem wN:∀k:Nat,∃u v:Nat,v % 2=1/\∀x,ip (2 ^ k) x=(1+2 ^ (k+2)*u)*x+2 ^ k*v
  | 0=>⟨1,1,rfl,λx=>by show 5*x+1=_;lia⟩
  | k+1=>by
    obtain ⟨u,v,hv,h⟩:=wN k;refine ⟨u+2 ^ (k+1)*u*u,v*(1+2 ^ (k+1)*u),?_,λx=>?_⟩
    · have e : 2 ^ (k + 1) * u = 2 * (2 ^ k * u) := by rw [Nat.pow_succ];ac_rfl
      rw[Nat.mul_mod,e,Nat.add_mod,Nat.mul_mod_right,hv]
    · rw [show 2 ^ (k + 1) = 2 ^ k + 2 ^ k by rw [Nat.pow_succ];lia, sU, h, h];have p1:2 ^ (k+2)=4*2 ^ k:=by rw[Nat.pow_add];lia
      have p3:2 ^ (k+1+2)=8*2 ^ k:=by rw[Nat.pow_add,Nat.pow_add];lia
      rw[p1,p3];generalize 2 ^ k=q
      grind
theorem iE (m:Nat):∀(n x:Nat),ip n (x % m) % m=ip n x % m
 | 0,x=>Nat.mod_mod _ _
 | n+1,x=>by
  show ip n (zk (x % m)) % m=ip n (zk x) % m;rw[<-iE m n (zk (x % m)),<-iE m n (zk x)];have e:zk (x % m) % m=zk x % m:=by
   unfold zk;rw[Nat.add_mod,Nat.mul_mod,Nat.mod_mod,<-Nat.mul_mod,<-Nat.add_mod]
  rw[e]
theorem tu {q y:Nat}(hq:0<q)(hy:y<2*q):(y<q/\y % q=y)\/(q<=y/\y % q=y - q):=by
  by_cases h:y<q
  · exact .inl ⟨h,Nat.mod_eq_of_lt h⟩
  · refine .inr ⟨by lia, ?_⟩;rw[Nat.mod_eq_sub_mod (by lia),Nat.mod_eq_of_lt (by lia)]
theorem DD {q y j:Nat}(hq:0<q)(hy:y<2*q)(hj:j<2*q)(e:y % q=j % q)(hne:¬y=j):(y+q) % (2*q)=j:=by
 rcases tu hq hy with ⟨a1,a2⟩ | ⟨a1,a2⟩<;>rcases tu hq hj with ⟨b1,b2⟩ | ⟨b1,b2⟩
 .lia
 .rw[Nat.mod_eq_of_lt (by lia)];lia
 .rw[show y+q=(y - q)+2*q by lia,Nat.add_mod_right,Nat.mod_eq_of_lt (by lia)];lia
 .lia
theorem qO:∀(k x j:Nat),j<2 ^ k->∃n,n<2 ^ k/\ip n x % 2 ^ k=j
  | 0, x, j, hj => ⟨0, by decide, by have : j = 0 := by lia
                                     subst this;exact Nat.mod_one _⟩
  | k+1,x,j,hj=>by
    have p1:2 ^ (k+1)=2*2 ^ k:=by rw[Nat.pow_succ];lia
    have q0:0<2 ^ k:=Nat.two_pow_pos k;obtain ⟨n,hn,e⟩:=qO k x (j % 2 ^ k) (Nat.mod_lt _ q0);obtain ⟨u,v,hv,h⟩:=wN k;have d1:=Nat.div_add_mod (ip n x) (2 ^ (k+1));have l1:=Nat.mod_lt (ip n x) (show 0<2 ^ (k+1) by lia);have e2:ip n x % 2 ^ (k+1) % 2 ^ k=j % 2 ^ k:=by rw[p1,Nat.mod_mul_left_mod];exact e
    by_cases hh:ip n x % 2 ^ (k+1)=j
    · exact ⟨n,by lia,hh⟩
    · refine ⟨n + 2 ^ k, by lia, ?_⟩;rw[sU,<-iE,h];generalize ip n x % 2 ^ (k+1)=y at *;have hy:(1+2 ^ (k+2)*u)*y+2 ^ k*v=(y+2 ^ k)+2 ^ (k+1)*(2*u*y+v / 2):=by
        have hv2:v=2*(v / 2)+1:=by lia
        have p2:2 ^ (k+2)=4*2 ^ k:=by rw[Nat.pow_add];lia
        rw[p1,p2];generalize v / 2=t at hv2 ⊢;subst hv2;generalize 2 ^ k=q
        grind
      rw[hy,Nat.add_mul_mod_self_left];rw[p1] at l1 ⊢;exact DD q0 l1 (by lia) e2 hh
noncomputable def pZ (mask:Nat):Nat->Nat×Nat->Nat×Nat
 | 0,s=>s
 | n+1,s=>pZ mask n (leap mask s.1 s.2)
theorem mO (mask a b:Nat)(s:Nat×Nat):pZ mask (a+b) s=pZ mask b (pZ mask a s):=by
 induction a generalizing s with
 | zero=>rw[Nat.zero_add];rfl
 | succ a ih=>rw[Nat.succ_add];exact ih _
theorem qV (mask:Nat):∀(n:Nat) (s:Nat×Nat),(pZ mask n s).2=s.2 / 32 ^ n
 | 0,s=>by rw[Nat.pow_zero,Nat.div_one];rfl
 | n+1,s=>by
  show (pZ mask n (leap mask s.1 s.2)).2=_;rw[qV mask n];show s.2 / 32 / 32 ^ n=_;rw[Nat.div_div_eq_div_mul,Nat.pow_succ,Nat.mul_comm]
theorem nO (mask:Nat):∀(n x:Nat),(pZ mask n (x % (mask+1),0)).1=ip n x % (mask+1)
 | 0,x=>rfl
 | n+1,x=>by
  show (pZ mask n ((x % (mask+1)*5+1+0 / 32) % (mask+1),0 / 32)).1=_;rw[Nat.zero_div,Nat.add_zero,nO mask n (x % (mask+1)*5+1)];show ip n (x % (mask+1)*5+1) % (mask+1)=ip n (zk x) % (mask+1);rw[<-iE,<-iE (mask+1) n (zk x)];congr 2;unfold zk;rw[Nat.add_mod,Nat.mul_comm,Nat.mul_mod,Nat.mod_mod,<-Nat.mul_mod,<-Nat.add_mod]
theorem tK {mask k i p j:Nat}(hm:mask+1=2 ^ k)(hp:p<2 ^ 64)(hj:j<=mask):∃n,n<13+2 ^ k/\(pZ mask n (i,p)).1=j:=by
 have h2:=qV mask 13 (i,p);have z:p / 32 ^ 13=0:=Nat.div_eq_of_lt (KW hp (by decide));rw[z] at h2;generalize hs:pZ mask 13 (i,p)=s at h2;obtain ⟨x,y⟩:=s;have hy:y=0:=h2;subst hy;have hx:x=x % (mask+1):=by
  have e:pZ mask 13 (i,p)=pZ mask 1 (pZ mask 12 (i,p)):=mO mask 12 1 _;rw[hs] at e;have e1:x=(leap mask (pZ mask 12 (i,p)).1 (pZ mask 12 (i,p)).2).1:=congrArg Prod.fst e;rw[e1];show _ % (mask+1)=_ % (mask+1) % (mask+1);rw[Nat.mod_mod]
 obtain ⟨n,hn,e⟩:=qO k x j (by lia);refine ⟨13+n,by lia,?_⟩;rw[mO,hs,hx,nO,hm];exact e
theorem oo (mask i:Nat):runEnd mask i - i<=9:=by
 unfold runEnd;split<;>lia
section
variable {t:SetTable} {hashAt:Nat->Int} {h:Int}
theorem wV (fuel:Nat)(p:Probe)(H:∀d,probe.go t hashAt h fuel (t.advance { p with dummy:=d })≠none):probe.go t hashAt h (fuel+1) p≠none:=by
 unfold probe.go;split
 .exact λz=>nomatch z
 .exact H _
 .split
  .exact λz=>nomatch z
  .exact H p.dummy
theorem vn:∀(m fuel:Nat) (p:Probe),p.more=m->(∀d,probe.go t hashAt h fuel (t.advance { p with more:=0,dummy:=d })≠none)->probe.go t hashAt h (fuel+m+1) p≠none
 | 0,fuel,p,e,H=>wV fuel p λd=>by
  have:=H d;rw[show ({ p with dummy:=d }:Probe) = { p with more:=0,dummy:=d } by rw[<-e]];exact this
 | m+1,fuel,p,e,H=>wV (fuel+(m+1)) p λd=>by
  have ea:t.advance { p with dummy:=d } = { p with j:=p.j+1,more:=p.more - 1,dummy:=d }:=by
   unfold advance;rw[if_pos (show ({ p with dummy:=d }:Probe).more>0 by show p.more>0;lia)]
  rw[ea];exact vn m fuel _ (by show p.more - 1=m;lia) H
theorem tj:∀(n fuel:Nat) (p:Probe) (j0:Nat),p.j=p.i->p.more=runEnd t.mask p.i - p.i->(pZ t.mask n (p.i,p.perturb)).1=j0->t.slot j0=.empty->10*n<fuel->probe.go t hashAt h fuel p≠none
 | 0,fuel,p,j0,hj,_,e,hs,hf=>by
  obtain ⟨f,rfl⟩ : ∃f,fuel=f+1:=⟨fuel - 1,by lia⟩
  have:t.slot p.j=.empty:=by rw[hj];rw[<-hs,<-e];rfl
  unfold probe.go;rw[this];exact λz=>nomatch z
 | n+1,fuel,p,j0,hj,hm,e,hs,hf=>by
  have hr:=oo t.mask p.i;obtain ⟨f,rfl⟩ : ∃f,fuel=f+p.more+1:=⟨fuel - p.more - 1,by lia⟩
  refine vn p.more f p rfl λd=>?_;have ea:t.advance { p with more:=0,dummy:=d } = { p with j:=(leap t.mask p.i p.perturb).1,more:=runEnd t.mask (leap t.mask p.i p.perturb).1 - (leap t.mask p.i p.perturb).1,i:=(leap t.mask p.i p.perturb).1,perturb:=(leap t.mask p.i p.perturb).2,dummy:=d }:=rfl;rw[ea];exact tj n f _ j0 rfl rfl e hs (by lia)
end
end WS
namespace WS
open PySem PySem.SetTable
noncomputable def BR (xs:Array Nat):Prop:=∀a b,a<b->b<xs.size->xs.getD a 0<xs.getD b 0
theorem Ar {xs:Array Nat}{i:Nat}(h:i<xs.size)(d:Nat):xs.getD i d=xs.getD i 0:=by
 rw[Array.getD_eq_getD_getElem?,Array.getD_eq_getD_getElem?,Ky h];rfl
theorem ni {xs:Array Nat}{j:Nat}(R:BR xs):∀(fuel lo hi:Nat),hi<=xs.size->lo<=hi->hi - lo<=fuel->(∀i,i<lo->xs.getD i 0<j)->(∀i,hi<=i->i<xs.size->j<=xs.getD i 0) ->
    below.go xs j fuel lo hi<=xs.size/\(∀i,i<below.go xs j fuel lo hi->xs.getD i 0<j)/\∀i,below.go xs j fuel lo hi<=i->i<xs.size->j<=xs.getD i 0
  | 0,lo,hi,h1,h2,h3,hl,hh=>by
    have:lo=hi:=by lia
    subst this;exact ⟨h1,hl,hh⟩
  | fuel+1,lo,hi,h1,h2,h3,hl,hh=>by
    unfold below.go;by_cases h:lo<hi
    · rw[if_pos h];have hm:(lo+hi) / 2<xs.size:=by lia
      dsimp only;rw[Ar hm];by_cases c:xs.getD ((lo+hi) / 2) 0<j
      · rw[if_pos c];refine ni R fuel _ hi h1 (by lia) (by lia) (λi hi'=>?_) hh;by_cases e:i=(lo+hi) / 2
        · rw[e];exact c
        · exact Nat.lt_trans (R i _ (by lia) hm) c
      · rw[if_neg c];refine ni R fuel lo _ (by lia) (by lia) (by lia) hl λi hi' hs=>?_;by_cases e:i=(lo+hi) / 2
        · rw[e];lia
        · have := R _ i (show (lo + hi) / 2 < i by lia) hs;lia
    · rw[if_neg h];have:lo=hi:=by lia
      subst this;exact ⟨h1,hl,hh⟩
theorem jZ {xs:Array Nat}(R:BR xs)(j:Nat):below xs j<=xs.size/\(∀i,i<below xs j->xs.getD i 0<j)/\∀i,below xs j<=i->i<xs.size->j<=xs.getD i 0:=
 ni R xs.size 0 xs.size (Ku _) (Lc _) (by lia) (λi h=>absurd h (Nat.not_lt_zero _)) λi h1 h2=>absurd h2 (by lia)
theorem below_at {xs:Array Nat}(R:BR xs){i j:Nat}(hi:i<xs.size)(e:xs.getD i 0=j):below xs j=i:=by
 obtain ⟨h1,h2,h3⟩:=jZ R j;by_cases c:i<below xs j
 .have:=h2 i c;lia
 .by_cases c2:below xs j<i
  .have:=R _ i c2 hi;have:=h3 (below xs j) (Ku _) (by lia);lia
  .lia
theorem get_some {xs:Array Nat}{i j:Nat}:(xs[i]?=some j)↔(i<xs.size/\xs.getD i 0=j):=by
 rw[Array.getD_eq_getD_getElem?];constructor
 .intro h;obtain ⟨h1,h2⟩:=Array.getElem?_eq_some_iff.mp h;exact ⟨h1,by rw[h];rfl⟩
 .rintro ⟨h1,h2⟩;rw[Ky h1] at h2 ⊢;exact congrArg some h2
structure rT (t:SetTable):Prop where
 rise:BR t.place
 eV:t.dummies = #[]
section
variable {t:SetTable}
theorem eO (P:rT t){i j:Nat}(h:t.place[i]?=some j):t.slot j=.live i:=by
 obtain ⟨h1,h2⟩:=get_some.mp h;unfold slot;dsimp only;rw[below_at P.rise h1 h2,h];simp
theorem ow (P:rT t){j:Nat}(h:∀i:Nat,t.place[i]?≠some j):t.slot j=.empty:=by
 unfold slot;dsimp only;have e:(t.place[below t.place j]? == some j)=false:=by
  rw[beq_eq_false_iff_ne];exact h _
 rw[e,P.eV];simp[has]
theorem h8 (P:rT t)(j:Nat):(∃i:Nat,t.place[i]?=some j/\t.slot j=.live i)\/((∀i:Nat,t.place[i]?≠some j)/\t.slot j=.empty):=by
 by_cases h:∃i:Nat,t.place[i]?=some j
 .obtain ⟨i,h⟩:=h;exact .inl ⟨i,h,eO P h⟩
 .have h':∀i:Nat,t.place[i]?≠some j:=λi z=>h ⟨i,z⟩;exact .inr ⟨h',ow P h'⟩
end
theorem gW {α:Type}(xs:Array α)(p:Nat)(x:α)(hp:p<=xs.size)(i:Nat):(insertAt xs p x)[i]?=if i<p then xs[i]? else if i=p then some x else xs[i - 1]?:=by
  rw[<-Kx,toList_insertAt];have lp:(xs.toList.take p).length=p:=by rw[KO,KH];lia
  by_cases h1:i<p
  · rw[if_pos h1,List.getElem?_append_left (by lia),List.getElem?_take_of_lt h1,Kx]
  · rw [if_neg h1, List.getElem?_append_right (by lia), lp];by_cases h2:i=p
    · rw[if_pos h2,h2,Nat.sub_self];rfl
    · rw[if_neg h2];obtain ⟨d,hd⟩ : ∃d,i - p=d+1:=⟨i - p - 1,by lia⟩
      rw[hd,List.getElem?_cons_succ,List.getElem?_drop,Kx];congr 1;lia
theorem nJ {α:Type}(xs:Array α)(p:Nat)(x:α)(hp:p<=xs.size):(insertAt xs p x).size=xs.size+1:=by
 rw[<-KH,toList_insertAt,KA,K9,KO,Li,KH];lia
theorem tE (xs:Array Nat)(p x:Nat)(hp:p<=xs.size)(i:Nat)(hi:i<xs.size+1):(insertAt xs p x).getD i 0=if i<p then xs.getD i 0 else if i=p then x else xs.getD (i - 1) 0:=by
 rw[Array.getD_eq_getD_getElem?,gW xs p x hp,Array.getD_eq_getD_getElem?,Array.getD_eq_getD_getElem?];split
 .rfl
 .split
  .rfl
  .rfl
section
variable {t:SetTable}
theorem oi (P:rT t)(j:Nat):t.put j=({ t with place:=insertAt t.place (below t.place j) j,dummies:=#[] },below t.place j):=by
 unfold put;dsimp only;rw[P.eV];simp[has]
theorem rC (P:rT t){j:Nat}(h:∀i:Nat,t.place[i]?≠some j):rT (t.put j).1:=by
  rw[oi P];obtain ⟨h1,h2,h3⟩:=jZ P.rise j;refine ⟨λa b hab hb=>?_,rfl⟩;dsimp only at hb ⊢;rw[nJ _ _ _ h1] at hb;rw[tE _ _ _ h1 _ (by lia),tE _ _ _ h1 _ hb];have gt:∀i,below t.place j<=i->i<t.place.size->j<t.place.getD i 0:=λi a1 a2=>by
    have:=h3 i a1 a2;have ne:t.place.getD i 0≠j:=λz=>h i (get_some.mpr ⟨a2,z⟩);lia
  by_cases c1:a<below t.place j
  · rw[if_pos c1];by_cases c2:b<below t.place j
    · rw[if_pos c2];exact P.rise a b hab (by lia)
    · rw[if_neg c2];by_cases c3:b=below t.place j
      · rw[if_pos c3];exact h2 a c1
      · rw[if_neg c3];exact Nat.lt_trans (h2 a c1) (gt (b - 1) (by lia) (by lia))
  · rw [if_neg c1, if_neg (show ¬ b < below t.place j by lia), if_neg (show ¬ b = below t.place j by lia)];by_cases c4:a=below t.place j
    · rw[if_pos c4];exact gt (b - 1) (by lia) (by lia)
    · rw[if_neg c4];exact P.rise (a - 1) (b - 1) (by lia) (by lia)
theorem Bf (P:rT t){j:Nat}(h:∀i:Nat,t.place[i]?≠some j):(t.put j).1.slot j=.live (below t.place j)/\∀(i j':Nat),t.place[i]?=some j'->(t.put j).1.place[if i<below t.place j then i else i+1]?=some j':=by
 have P':=rC P h;obtain ⟨h1,h2,h3⟩:=jZ P.rise j;have e:(t.put j).1.place=insertAt t.place (below t.place j) j:=by rw[oi P]
 refine ⟨eO P' ?_,λi j' hi=>?_⟩
 .rw[e,gW _ _ _ h1,if_neg (Nat.lt_irrefl _),if_pos rfl]
 .rw[e,gW _ _ _ h1];by_cases c:i<below t.place j
  .rw[if_pos c,if_pos c];exact hi
  .rw[if_neg c,if_neg (show ¬i+1<below t.place j by lia),if_neg (show ¬i+1=below t.place j by lia),Nat.add_sub_cancel];exact hi
theorem oU (P:rT t){j j':Nat}(h:∀i:Nat,t.place[i]?≠some j)(hs:t.slot j'≠.empty):(t.put j).1.slot j'≠.empty:=by
 rcases h8 P j' with ⟨i,hi,_⟩ | ⟨_,hz⟩
 .rw[eO (rC P h) ((Bf P h).2 i j' hi)];exact λz=>nomatch z
 .exact absurd hz hs
end
end WS
namespace WS
open PySem PySem.SetTable
noncomputable def stN (t:SetTable)(h:Int):Nat->Probe
 | 0=>t.probeStart h
 | n+1=>t.advance (stN t h n)
theorem qt (h:Int):bits h<2 ^ 64:=by
 unfold bits;have:=Int.emod_lt_of_pos h (show (0:Int)<2 ^ 64 by decide);have:=Int.emod_nonneg h (show (2 ^ 64:Int)≠0 by decide);lia
theorem xW {t:SetTable}{p:Probe}(h1:p.dummy=none)(h2:p.more<=9)(h3:p.perturb<2 ^ 64)(h4:p.j+p.more<=t.mask):(t.advance p).dummy=none/\(t.advance p).more<=9/\(t.advance p).perturb<2 ^ 64/\(t.advance p).j+(t.advance p).more<=t.mask:=by
 unfold advance;by_cases c:p.more>0
 .rw[if_pos c];exact ⟨h1,by show p.more - 1<=9;lia,h3,by show p.j+1+(p.more - 1)<=t.mask;lia⟩
 .rw[if_neg c];refine ⟨h1,oo _ _,?_,?_⟩
  .show p.perturb / 32<2 ^ 64;lia
  .show (leap t.mask p.i p.perturb).1+(runEnd t.mask (leap t.mask p.i p.perturb).1 - (leap t.mask p.i p.perturb).1)<=t.mask;have hl:(leap t.mask p.i p.perturb).1<t.mask+1:=Nat.mod_lt _ (by lia);generalize (leap t.mask p.i p.perturb).1=y at *;unfold runEnd;split<;>lia
theorem e7 (t:SetTable)(h:Int):∀n,(stN t h n).dummy=none/\(stN t h n).more<=9/\(stN t h n).perturb<2 ^ 64/\(stN t h n).j+(stN t h n).more<=t.mask
 | 0=>by
  refine ⟨rfl,oo _ _,qt h,?_⟩;show bits h % (t.mask+1)+(runEnd t.mask (bits h % (t.mask+1)) - bits h % (t.mask+1))<=t.mask;have hl:bits h % (t.mask+1)<t.mask+1:=Nat.mod_lt _ (by lia);generalize bits h % (t.mask+1)=y at *;unfold runEnd;split<;>lia
 | n+1=>by
  obtain ⟨a,b,c,d⟩:=e7 t h n;exact xW a b c d
theorem jm {t t':SetTable}(e:t.mask=t'.mask)(h:Int):∀n,stN t h n=stN t' h n
 | 0=>by
  show t.probeStart h=t'.probeStart h;unfold probeStart;rw[e]
 | n+1=>by
  show t.advance (stN t h n)=t'.advance (stN t' h n);rw[jm e h n];unfold advance;rw[e]
theorem As {t:SetTable}{hashAt:Nat->Int}{h:Int}{k j0:Nat}(hm:t.mask+1=2 ^ k)(hj:j0<=t.mask)(hs:t.slot j0=.empty){p:Probe}(h2:p.more<=9)(h3:p.perturb<2 ^ 64):probe.go t hashAt h (10*turns t.mask) p≠none:=by
 obtain ⟨n,hn,e⟩:=tK (i:=(leap t.mask p.i p.perturb).1) (p:=(leap t.mask p.i p.perturb).2) hm (show p.perturb / 32<2 ^ 64 by lia) hj;obtain ⟨f,hf⟩ : ∃f,10*turns t.mask=f+p.more+1:=⟨10*turns t.mask - p.more - 1,by unfold turns;lia⟩
 have hf2:10*n<f:=by unfold turns at hf;lia
 rw[hf];refine vn p.more f p rfl λd=>?_;have ea:t.advance { p with more:=0,dummy:=d } = { p with j:=(leap t.mask p.i p.perturb).1,more:=runEnd t.mask (leap t.mask p.i p.perturb).1 - (leap t.mask p.i p.perturb).1,i:=(leap t.mask p.i p.perturb).1,perturb:=(leap t.mask p.i p.perturb).2,dummy:=d }:=rfl;rw[ea];exact tj n f _ j0 rfl rfl e hs hf2
section
variable {t:SetTable} {hashAt:Nat->Int} {h:Int}
theorem qP (P:rT t):∀(fuel n:Nat) (r:Met),probe.go t hashAt h fuel (stN t h n)=some r->∃m,n<=m/\m<n+fuel/\(∀q,n<=q->q<m->∃i,t.slot (stN t h q).j=.live i/\hashAt i≠h) /\
    ((r=.empty (stN t h m).j none/\t.slot (stN t h m).j=.empty)\/∃i,t.slot (stN t h m).j=.live i/\hashAt i=h/\r=.candidate (stN t h m).j i (stN t h (m+1)))
  | 0,n,r,e=>by
    unfold probe.go at e;cases e
  | fuel+1,n,r,e=>by
    have hd:=(e7 t h n).1;rcases h8 P (stN t h n).j with ⟨i,_,hs⟩ | ⟨_,hs⟩
    · unfold probe.go at e;rw[hs] at e;dsimp only at e;by_cases c:hashAt i=h
      · rw [if_pos (by rw [beq_iff_eq];exact c)] at e;exact ⟨n,Ku _,by lia,λq a b=>absurd a (by lia),.inr ⟨i,hs,c,(Option.some.inj e).symm⟩⟩
      · rw [if_neg (by rw [beq_iff_eq];exact c)] at e;obtain ⟨m,h1,h2,h3,h4⟩:=qP P fuel (n+1) r e;refine ⟨m,by lia,by lia,λq a b=>?_,h4⟩;by_cases z:q=n
        · subst z;exact ⟨i,hs,c⟩
        · exact h3 q (by lia) b
    · unfold probe.go at e;rw[hs,hd] at e;exact ⟨n,Ku _,by lia,λq a b=>absurd a (by lia),.inl ⟨(Option.some.inj e).symm,hs⟩⟩
theorem sS (P:rT t){k j0:Nat}(hm:t.mask+1=2 ^ k)(hj:j0<=t.mask)(hs:t.slot j0=.empty)(h:Int):∃K,K<10*turns t.mask/\t.slot (stN t h K).j=.empty/\∀q,q<K->t.slot (stN t h q).j≠.empty:=by
  have hp:=As (hashAt:=λ_=>h+1) (h:=h) hm hj hs (p:=stN t h 0) (e7 t h 0).2.1 (e7 t h 0).2.2.1;cases e:probe.go t (λ_=>h+1) h (10*turns t.mask) (stN t h 0) with
  | none=>exact absurd e hp
  | some r =>
    obtain ⟨m,h1,h2,h3,h4⟩:=qP P _ 0 r e;rcases h4 with ⟨_,h5⟩ | ⟨i,_,h5,_⟩
    · refine ⟨m, by lia, h5, λq hq => ?_⟩;obtain ⟨i,hi,_⟩:=h3 q (Lc _) hq;rw[hi];exact λz=>nomatch z
    · lia
noncomputable def dP (t:SetTable)(h:Int)(j:Nat):Prop:=∃n,(stN t h n).j=j/\∀q,q<n->t.slot (stN t h q).j≠.empty
theorem dP.put (P:rT t){j j':Nat}(hj:∀i:Nat,t.place[i]?≠some j)(hp:dP t h j'):dP (t.put j).1 h j':=by
 obtain ⟨n,e,hn⟩:=hp;have em:t.mask=(t.put j).1.mask:=by rw[oi P]
 refine ⟨n,by rw[<-jm em];exact e,λq hq=>?_⟩;rw[<-jm em];exact oU P hj (hn q hq)
theorem dP.new (P:rT t){K:Nat}(he:t.slot (stN t h K).j=.empty)(hb:∀q,q<K->t.slot (stN t h q).j≠.empty):dP (t.put (stN t h K).j).1 h (stN t h K).j:=by
 have hj:∀i:Nat,t.place[i]?≠some (stN t h K).j:=λi z=>by rw[eO P z] at he;cases he
 exact dP.put P hj ⟨K,rfl,hb⟩
end
end WS
namespace WS
open PySem PySem.SetTable
theorem fw:∀{l l':List Nat},l.Nodup->(∀x∈l,x∈l')->l.length<=l'.length
 | [],_,_,_=>Lc _
 | x::l,l',hn,hs=>by
  obtain ⟨h1,h2⟩:=nodup_cons.mp hn;have hx:x∈l':=hs x (.head _);have ih:=fw (l:=l) (l':=l'.erase x) h2 λy hy=>(List.mem_erase_of_ne (λz=>h1 (by rw[<-z];exact hy))).mpr (hs y (.tail _ hy));rw[List.length_erase_of_mem hx] at ih;have:0<l'.length:=List.length_pos_of_mem hx;rw[K9];lia
theorem p0 {f:Nat->Nat}{m:Nat}(h:∀a b,a<b->b<m->f a≠f b):((K6 m).map f).Nodup:=by
 show ((K6 m).map f).Pairwise (·≠·);rw[pairwise_map,pairwise_iff_getElem];intro i j hi hj hij;rw[List.getElem_range,List.getElem_range];rw[length_range] at hj;exact h i j hij hj
theorem vo {f:Nat->Nat}{N:Nat}(h:∀j,j<N->∃n,n<N/\f n=j):∀a b,a<b->b<N->f a≠f b:=λa b hab hb e=>by
  have:=fw (l:=K6 N) (l':=((K6 N).erase b).map f) nodup_range λj hj=>by
    obtain ⟨n,hn,e2⟩:=h j (mem_range.mp hj);by_cases c:n=b
    · refine KJ.mpr ⟨a, (List.mem_erase_of_ne (by lia)).mpr (mem_range.mpr (by lia)), ?_⟩;rw[e,<-c];exact e2
    · exact KJ.mpr ⟨n,(List.mem_erase_of_ne c).mpr (mem_range.mpr hn),e2⟩
  rw[length_range,Ks,List.length_erase_of_mem (mem_range.mpr hb),length_range] at this;lia
section
variable {t:SetTable} {h:Int}
noncomputable def sN (t:SetTable)(h:Int)(n:Nat):Nat×Nat:=pZ t.mask n (bits h % (t.mask+1),bits h)
noncomputable def kT (t:SetTable)(h:Int):Nat->Nat
 | 0=>0
 | n+1=>kT t h n+(runEnd t.mask (sN t h n).1 - (sN t h n).1)+1
theorem xJ (n:Nat):sN t h (n+1)=leap t.mask (sN t h n).1 (sN t h n).2:=mO t.mask n 1 _
theorem Bw {n c:Nat}(h0:(stN t h n).more=c):∀q,q<=c->(stN t h (n+q)).j=(stN t h n).j+q/\(stN t h (n+q)).more=c - q/\(stN t h (n+q)).i=(stN t h n).i/\(stN t h (n+q)).perturb=(stN t h n).perturb
 | 0,_=>⟨rfl,h0,rfl,rfl⟩
 | q+1,hq=>by
  obtain ⟨a1,a2,a3,a4⟩:=Bw h0 q (by lia);have e:stN t h (n+(q+1))=t.advance (stN t h (n+q)):=rfl;rw[e];unfold advance;rw[if_pos (by lia)];exact ⟨by show (stN t h (n+q)).j+1=_;lia,by show (stN t h (n+q)).more - 1=_;lia,a3,a4⟩
theorem vN:∀n,(stN t h (kT t h n)).j=(sN t h n).1/\(stN t h (kT t h n)).more=runEnd t.mask (sN t h n).1 - (sN t h n).1/\(stN t h (kT t h n)).i=(sN t h n).1/\(stN t h (kT t h n)).perturb=(sN t h n).2
 | 0=>⟨rfl,rfl,rfl,rfl⟩
 | n+1=>by
  obtain ⟨a1,a2,a3,a4⟩:=vN n;obtain ⟨b1,b2,b3,b4⟩:=Bw a2 _ (Ku _);have e:stN t h (kT t h (n+1))=t.advance (stN t h (kT t h n+(runEnd t.mask (sN t h n).1 - (sN t h n).1))):=rfl;rw[e];unfold advance;rw[if_neg (by lia),xJ,b3,b4,a3,a4];exact ⟨rfl,rfl,rfl,rfl⟩
theorem Ei (n:Nat):(sN t h n).1<=t.mask:=by
 cases n with
 | zero =>
  have:bits h % (t.mask+1)<t.mask+1:=Nat.mod_lt _ (by lia);show bits h % (t.mask+1)<=t.mask;lia
 | succ n =>
  rw[xJ];have:(leap t.mask (sN t h n).1 (sN t h n).2).1<t.mask+1:=Nat.mod_lt _ (by lia);lia
theorem FR {k:Nat}(hm:t.mask+1=2 ^ k):∀a b,a<b->b<2 ^ k->(sN t h (13+a)).1≠(sN t h (13+b)).1:=by
 refine vo (f:=λn=>(sN t h (13+n)).1) λj hj=>?_;have z:(sN t h 13).2=0:=by
  unfold sN;rw[qV];exact Nat.div_eq_of_lt (KW (qt h) (by decide))
 have hx:(sN t h 13).1=(sN t h 13).1 % (t.mask+1):=(Nat.mod_eq_of_lt (by have:=Ei (t:=t) (h:=h) 13;lia)).symm;obtain ⟨n,hn,e⟩:=qO k (sN t h 13).1 j hj;refine ⟨n,hn,?_⟩;show (pZ t.mask (13+n) _).1=j;rw[mO];show (pZ t.mask n (sN t h 13)).1=j;rw[show sN t h 13=((sN t h 13).1 % (t.mask+1),0) from Prod.ext hx z,nO,hm];exact e
theorem qe (mask i:Nat):(i+9<=mask/\runEnd mask i - i=9)\/(¬i+9<=mask/\runEnd mask i - i=0):=by
 unfold runEnd;by_cases c:i+9<=mask
 .rw[if_pos c];exact .inl ⟨c,by lia⟩
 .rw[if_neg c];exact .inr ⟨c,by lia⟩
theorem Bz (n:Nat):kT t h n<=10*n:=by
 induction n with
 | zero=>exact Ku _
 | succ n ih =>
  have:=oo t.mask (sN t h n).1;show kT t h n+(runEnd t.mask (sN t h n).1 - (sN t h n).1)+1<=_;lia
theorem BA:∀{a b:Nat},a<b->kT t h a<kT t h b
 | a,0,hab=>absurd hab (Nat.not_lt_zero _)
 | a,b+1,hab=>by
  show kT t h a<kT t h b+(runEnd t.mask (sN t h b).1 - (sN t h b).1)+1;by_cases c:a<b
  .have:=BA c;lia
  .rw[show a=b by lia];lia
theorem AR:∀{l:List Nat},l≠[]->∃m∈l,∀x∈l,x<=m
 | [],h=>absurd rfl h
 | [a],_=>⟨a,.head _,λx hx=>by rw[mem_singleton.mp hx];exact Ku _⟩
 | a::b::l,_=>by
  obtain ⟨m,hm,h⟩:=AR (l:=b::l) (by simp);by_cases c:a<=m
  .exact ⟨m,.tail _ hm,λx hx=>by
    rcases KQ.mp hx with rfl | hx
    .exact c
    .exact h x hx⟩
  .exact ⟨a,.head _,λx hx=>by
    rcases KQ.mp hx with rfl | hx
    .exact Ku _
    .have:=h x hx;lia⟩
noncomputable def lV (t:SetTable)(h:Int)(m:Nat):List Nat:=((K6 m).map λa=>(sN t h (13+a)).1).filter λj=>decide (j+9<=t.mask)
noncomputable def nr (t:SetTable)(h:Int)(m:Nat):List Nat:=((K6 m).map λa=>(sN t h (13+a)).1).filter λj=>decide (¬j+9<=t.mask)
theorem lM:∀m,kT t h (13+m)<=130+10*(lV t h m).length+(nr t h m).length/\(lV t h m).length+(nr t h m).length=m
  | 0=>by
    have:=Bz (t:=t) (h:=h) 13;exact ⟨by show kT t h 13<=130+10*0+0;lia,rfl⟩
  | m+1=>by
    obtain ⟨ih1,ih2⟩:=lM m;have e:kT t h (13+(m+1))=kT t h (13+m)+(runEnd t.mask (sN t h (13+m)).1 - (sN t h (13+m)).1)+1:=rfl;unfold lV nr at ih1 ih2 ⊢;rw[List.range_succ,KU,filter_append,filter_append,KA,KA];rcases qe t.mask (sN t h (13+m)).1 with ⟨c,r⟩ | ⟨c,r⟩
    · have e1 : (List.filter (λj => decide (j + 9 <= t.mask)) ([m].map λa => (sN t h (13 + a)).1)).length = 1 := by simp [c]
      have e2:(List.filter (λj=>decide (¬j+9<=t.mask)) ([m].map λa=>(sN t h (13+a)).1)).length=0:=by simp[c]
      rw[e1,e2];lia
    · have e1 : (List.filter (λj => decide (j + 9 <= t.mask)) ([m].map λa => (sN t h (13 + a)).1)).length = 0 := by simp [c]
      have e2:(List.filter (λj=>decide (¬j+9<=t.mask)) ([m].map λa=>(sN t h (13+a)).1)).length=1:=by rw[K3,List.map_nil,filter_cons,if_pos (by simpa using c)];rfl
      rw[e1,e2];lia
theorem h9 {k:Nat}(hm:t.mask+1=2 ^ k){m:Nat}(h1:m<=2 ^ k):((K6 m).map λa=>(sN t h (13+a)).1).Nodup:=p0 λa b hab hb=>FR hm a b hab (by lia)
theorem pq {k:Nat}(hm:t.mask+1=2 ^ k){m:Nat}(h1:m<=2 ^ k):(nr t h m).length<=9:=by
 have:=fw (l:=nr t h m) (l':=(K6 9).map λi=>t.mask - i) ((h9 hm h1).sublist filter_sublist) λx hx=>by
  obtain ⟨h2,h3⟩:=List.mem_filter.mp hx;obtain ⟨a,_,rfl⟩:=KJ.mp h2;rw[decide_eq_true_eq] at h3;have:=Ei (t:=t) (h:=h) (13+a);exact KJ.mpr ⟨t.mask - (sN t h (13+a)).1,mem_range.mpr (by lia),by lia⟩
 rw[Ks,length_range] at this;exact this
theorem tN (P:rT t){j:Nat}(hs:t.slot j≠.empty):j∈t.place.toList:=by
 rcases h8 P j with ⟨i,hi,_⟩ | ⟨_,z⟩
 .exact KC (i:=i) (by rw[Kx];exact hi)
 .exact absurd z hs
theorem Aq (P:rT t){k:Nat}(hm:t.mask+1=2 ^ k){m:Nat}(h1:m<=2 ^ k)(hl:∀q,q<kT t h (13+m)->t.slot (stN t h q).j≠.empty):(lV t h m).length+9<=t.place.size\/lV t h m = []:=by
 by_cases c:lV t h m = []
 .exact .inr c
 refine .inl ?_;obtain ⟨j,hj,hmax⟩:=AR c;have mono:∀a b,a<=b->kT t h a<=kT t h b:=λa b hab=>by
  induction b with
  | zero=>rw[Nat.le_zero.mp hab];exact Ku _
  | succ b ih =>
   by_cases z:a<=b
   .have:=ih z;show kT t h a<=kT t h b+_+1;lia
   .rw[show a=b+1 by lia];exact Ku _
 have win:∀x∈lV t h m,∀q,q<=9->x+q∈t.place.toList:=λx hx q hq=>by
  obtain ⟨h2,h3⟩:=List.mem_filter.mp hx;obtain ⟨a,ha,rfl⟩:=KJ.mp h2;have ha:=mem_range.mp ha;rw[decide_eq_true_eq] at h3;rcases qe t.mask (sN t h (13+a)).1 with ⟨_,r⟩ | ⟨z,_⟩
  .obtain ⟨a1,a2,_,_⟩:=vN (t:=t) (h:=h) (13+a);obtain ⟨b1,_,_,_⟩:=Bw a2 q (by lia);rw[a1] at b1;rw[<-b1];refine tN P (hl _ ?_);have e:kT t h (13+a+1)=kT t h (13+a)+(runEnd t.mask (sN t h (13+a)).1 - (sN t h (13+a)).1)+1:=rfl;have:=mono (13+a+1) (13+m) (by lia);lia
  .exact absurd h3 z
 have:=fw (l:=lV t h m++(K6 9).map λi=>j+1+i) (l':=t.place.toList) (by
  rw[nodup_append];refine ⟨(h9 hm h1).sublist filter_sublist,p0 λa b hab _=>by lia,λx hx y hy e=>?_⟩;obtain ⟨i,_,rfl⟩:=KJ.mp hy;have:=hmax x hx;lia) λx hx=>by
  rcases Lf.mp hx with hx | hx
  .exact win x hx 0 (by lia)
  .obtain ⟨i,hi,rfl⟩:=KJ.mp hx;have:=win j hj (i+1) (by have:=mem_range.mp hi;lia);rw[show j+(i+1)=j+1+i by lia] at this;exact this
 rw[KA,Ks,length_range,KH] at this;exact this
theorem vk (P:rT t){k j0:Nat}(hm:t.mask+1=2 ^ k)(hj:j0<=t.mask)(hs:t.slot j0=.empty)(hn:t.place.size<=9994)(hr:t.place.size+1<=2 ^ k)(h:Int):∃K,K<100000/\t.slot (stN t h K).j=.empty/\∀q,q<K->t.slot (stN t h q).j≠.empty:=by
 obtain ⟨K,_,h1,h2⟩:=sS P hm hj hs h;refine ⟨K,?_,h1,h2⟩;refine Classical.byContradiction λc=>?_;have key:∀m,m<=t.place.size+1->kT t h (13+m)<=99999:=λm=>by
  induction m with
  | zero=>intro _;have:=Bz (t:=t) (h:=h) 13;show kT t h 13<=_;lia
  | succ m ih =>
   intro hm1;have ih:=ih (by lia);obtain ⟨s1,s2⟩:=lM (t:=t) (h:=h) m;have c9:=pq (t:=t) (h:=h) hm (m:=m) (by lia);have e:kT t h (13+(m+1))=kT t h (13+m)+(runEnd t.mask (sN t h (13+m)).1 - (sN t h (13+m)).1)+1:=rfl;have r9:=oo t.mask (sN t h (13+m)).1;rcases Aq P hm (h:=h) (m:=m) (by lia) (λq hq=>h2 q (by lia)) with z | z
   .lia
   .rw[z] at s1;have:([]:List Nat).length=0:=rfl;lia
 obtain ⟨s1,s2⟩:=lM (t:=t) (h:=h) (t.place.size+1);have c9:=pq (t:=t) (h:=h) hm (m:=t.place.size+1) hr;have k1:=key _ (Ku _);have:=fw (l:=(K6 (t.place.size+1)).map λa=>(sN t h (13+a)).1) (l':=t.place.toList) (h9 hm hr) λx hx=>by
  obtain ⟨a,ha,rfl⟩:=KJ.mp hx;have ha:=mem_range.mp ha;rw[<-(vN (t:=t) (h:=h) (13+a)).1];exact tN P (h2 _ (by have:=BA (t:=t) (h:=h) (show 13+a<13+(t.place.size+1) by lia);lia))
 rw[Ks,length_range,KH] at this;lia
end
end WS
namespace WS
open PySem PySem.SetTable
section
variable {t:SetTable} {h:Int}
noncomputable def o6 (t:SetTable)(h:Int)(n:Nat):Prop:=(stN t h n).j=(stN t h n).i/\(stN t h n).more=runEnd t.mask (stN t h n).i - (stN t h n).i
theorem JA:o6 t h 0:=⟨rfl,rfl⟩
theorem om {n:Nat}(R:o6 t h n):∀k,k<=(stN t h n).more->(stN t h (n+k)).j=(stN t h n).i+k/\(stN t h (n+k)).i=(stN t h n).i/\(stN t h (n+k)).perturb=(stN t h n).perturb/\(stN t h (n+k)).more=(stN t h n).more - k
 | 0,_=>⟨R.1,rfl,rfl,rfl⟩
 | k+1,hk=>by
  obtain ⟨a,b,c,d⟩:=om R k (by lia);have e:stN t h (n+(k+1))=t.advance (stN t h (n+k)):=rfl;rw[e];unfold advance;rw[if_pos (show (stN t h (n+k)).more>0 by lia)];refine ⟨?_,b,c,?_⟩
  .show (stN t h (n+k)).j+1=_;lia
  .show (stN t h (n+k)).more - 1=_;lia
theorem Bn {n:Nat}(R:o6 t h n):o6 t h (n+(stN t h n).more+1)/\(stN t h (n+(stN t h n).more+1)).i=(leap t.mask (stN t h n).i (stN t h n).perturb).1/\(stN t h (n+(stN t h n).more+1)).perturb=(leap t.mask (stN t h n).i (stN t h n).perturb).2:=by
 obtain ⟨a,b,c,d⟩:=om R (stN t h n).more (Ku _);have e:stN t h (n+(stN t h n).more+1)=t.advance (stN t h (n+(stN t h n).more)):=rfl;have e2:t.advance (stN t h (n+(stN t h n).more)) = { stN t h (n+(stN t h n).more) with j:=(leap t.mask (stN t h n).i (stN t h n).perturb).1,more:=runEnd t.mask (leap t.mask (stN t h n).i (stN t h n).perturb).1 - (leap t.mask (stN t h n).i (stN t h n).perturb).1,i:=(leap t.mask (stN t h n).i (stN t h n).perturb).1,perturb:=(leap t.mask (stN t h n).i (stN t h n).perturb).2 }:=by
  unfold advance;rw[if_neg (show ¬(stN t h (n+(stN t h n).more)).more>0 by lia),b,c]
 unfold o6;rw[e,e2];exact ⟨⟨rfl,rfl⟩,rfl,rfl⟩
noncomputable def kX (owner:Array (Option Nat))(j:Nat):Prop:=(owner.getD j (some 0)).isNone=true
theorem pQ {owner:Array (Option Nat)}:∀(fuel n j:Nat),o6 t h n->layClean.free t.mask owner fuel (stN t h n).i (stN t h n).perturb=some j->∃m,n<=m/\(stN t h m).j=j/\kX owner j/\∀q,n<=q->q<m->¬kX owner (stN t h q).j
  | 0,n,j,R,e=>by
    unfold layClean.free at e;cases e
  | fuel+1,n,j,R,e=>by
    unfold layClean.free at e;have hlen:runEnd t.mask (stN t h n).i+1 - (stN t h n).i=(stN t h n).more+1:=by
      have:(stN t h n).i<=runEnd t.mask (stN t h n).i:=by unfold runEnd;split<;>lia
      rw[R.2];lia
    rw[hlen] at e;cases hf:(K6 ((stN t h n).more+1)).find? λk=>(owner.getD ((stN t h n).i+k) (some 0)).isNone with
    | some k =>
      rw[hf] at e;have ej:(stN t h n).i+k=j:=Option.some.inj e;have h1:=List.find?_some hf;have h2:=mem_range.mp (List.mem_of_find?_eq_some hf);have rk:=om R k (by lia);refine ⟨n+k,by lia,by rw[rk.1];exact ej,by rw[<-ej];exact h1,λq a b=>?_⟩;obtain ⟨d,rfl⟩ : ∃d,q=n+d:=⟨q - n,by lia⟩
      have rd:=om R d (by lia);rw[rd.1];have hb:=List.find?_eq_some_iff_getElem.mp hf;obtain ⟨_,i,hi,ei,hall⟩:=hb;rw[List.getElem_range] at ei;have:=hall d (by lia);rw[List.getElem_range] at this;intro z;unfold kX at z;rw[z] at this;cases this
    | none =>
      rw[hf] at e;dsimp only at e;obtain ⟨R',e1,e2⟩:=Bn R;rw[<-e1,<-e2] at e;obtain ⟨m,m1,m2,m3,m4⟩:=pQ fuel _ j R' e;refine ⟨m,by lia,m2,m3,λq a b=>?_⟩;by_cases c:n+(stN t h n).more+1<=q
      · exact m4 q c b
      · obtain ⟨d, rfl⟩ : ∃ d, q = n + d := ⟨q - n, by lia⟩
        have rd:=om R d (by lia);rw[rd.1];have:=List.find?_eq_none.mp hf d (mem_range.mpr (by lia));exact this
theorem pR {owner:Array (Option Nat)}{j0:Nat}(hs:kX owner j0){mask:Nat}:∀(n fuel i p:Nat),(pZ mask n (i,p)).1=j0->n<fuel->layClean.free mask owner fuel i p≠none
 | 0,fuel,i,p,e,hf=>by
  obtain ⟨f,rfl⟩ : ∃f,fuel=f+1:=⟨fuel - 1,by lia⟩
  unfold layClean.free;have e':i=j0:=e;subst e';have hm:(K6 (runEnd mask i+1 - i)).find? (λk=>(owner.getD (i+k) (some 0)).isNone)≠none:=λz=>by
   have:=List.find?_eq_none.mp z 0 (mem_range.mpr (by unfold runEnd;split<;>lia));exact this hs
  cases hf:(K6 (runEnd mask i+1 - i)).find? λk=>(owner.getD (i+k) (some 0)).isNone with
  | none=>exact absurd hf hm
  | some k=>exact λz=>nomatch z
 | n+1,fuel,i,p,e,hf=>by
  obtain ⟨f,rfl⟩ : ∃f,fuel=f+1:=⟨fuel - 1,by lia⟩
  unfold layClean.free;cases hf2:(K6 (runEnd mask i+1 - i)).find? λk=>(owner.getD (i+k) (some 0)).isNone with
  | some k=>exact λz=>nomatch z
  | none=>exact pR hs n f _ _ e (by lia)
end
end WS
namespace WS
open PySem PySem.SetTable
theorem iF {owner:Array (Option Nat)}{j:Nat}:kX owner j↔owner[j]?=some none:=by
 unfold kX;rw[Array.getD_eq_getD_getElem?];cases e:owner[j]? with
 | none=>exact ⟨λz=>(nomatch z),λz=>(nomatch z)⟩
 | some v =>
  cases v with
  | none=>exact ⟨λ_=>rfl,λ_=>rfl⟩
  | some k=>exact ⟨λz=>(nomatch z),λz=>(nomatch z)⟩
structure Laid (t:SetTable)(hs:List Int)(owner:Array (Option Nat)):Prop where
 size:owner.size=t.mask+1
 has:∀(k:Nat) (h:Int),hs[k]?=some h->∃j n,owner[j]?=some (some k)/\(stN t h n).j=j/\∀q,q<n->¬kX owner (stN t h q).j
 own:∀(j v:Nat),owner[j]?=some (some v)->v<hs.length
 inj:∀(j j' v:Nat),owner[j]?=some (some v)->owner[j']?=some (some v)->j=j'
 cnt:owner.toList.countP Option.isNone+hs.length=t.mask+1
theorem Laid.nil (t:SetTable):Laid t [] (Array.replicate (t.mask+1) none) where
 size:=Array.size_replicate
 has:=λk h e=>by rw[List.getElem?_nil] at e;cases e
 own:=λj v e=>by rw[Array.getElem?_replicate] at e;split at e<;>cases e
 inj:=λj j' v e=>by rw[Array.getElem?_replicate] at e;split at e<;>cases e
 cnt:=by rw[Array.toList_replicate,List.countP_replicate];rfl
theorem Laid.room {t:SetTable}{hs:List Int}{owner:Array (Option Nat)}(L:Laid t hs owner)(h:hs.length<=t.mask):∃j,j<=t.mask/\kX owner j:=by
 have c:=L.cnt;have:0<owner.toList.countP Option.isNone:=by lia
 obtain ⟨v,hv,hn⟩:=List.countP_pos_iff.mp this;obtain ⟨j,hj,e⟩:=List.mem_iff_getElem.mp hv;have s:=L.size;rw[KH] at hj;refine ⟨j,by lia,iF.mpr ?_⟩;cases v with
 | none =>
  rw[Ky hj];rw[Array.getElem_toList] at e;exact congrArg some e
 | some k=>cases hn
theorem bg {owner:Array (Option Nat)}{j k:Nat}(hj:j<owner.size)(j':Nat):(owner.setIfInBounds j (some k))[j']?=if j=j' then some (some k) else owner[j']?:=by
 rw[Array.getElem?_setIfInBounds];by_cases e:j=j'
 .subst e;rw[if_pos rfl,if_pos rfl,if_pos hj]
 .rw[if_neg e,if_neg e]
theorem Laid.step {t:SetTable}{hs:List Int}{owner:Array (Option Nat)}(L:Laid t hs owner){h:Int}{n:Nat}(hf:kX owner (stN t h n).j)(hq:∀q,q<n->¬kX owner (stN t h q).j):Laid t (hs++[h]) (owner.setIfInBounds (stN t h n).j (some hs.length)):=by
  have hg:=iF.mp hf;obtain ⟨hj,hv⟩:=Array.getElem?_eq_some_iff.mp hg;generalize hJ:(stN t h n).j=J at *;have keep:∀x,¬kX owner x->¬kX (owner.setIfInBounds J (some hs.length)) x:=λx hx z=>by
    rw[iF,bg hj] at z;split at z
    · cases z
    · exact hx (iF.mpr z)
  refine ⟨by rw[Array.size_setIfInBounds];exact L.size,λk h' e=>?_,λj v e=>?_,λj j' v e e'=>?_,?_⟩
  · by_cases hk:k<hs.length
    · rw[List.getElem?_append_left hk] at e;obtain ⟨j,m,a,b,c⟩:=L.has k h' e;refine ⟨j,m,?_,b,λq hq'=>keep _ (c q hq')⟩;rw[bg hj,if_neg (λz=>by rw[<-z,hg] at a;cases a)];exact a
    · have hk2:k=hs.length:=by
        have:=(Kw.mp e).1;rw[KA,Lh] at this;lia
      subst hk2;rw[List.getElem?_append_right (Ku _),Nat.sub_self] at e;have e':h=h':=Option.some.inj e;subst e';exact ⟨J,n,by rw[bg hj,if_pos rfl],hJ,λq hq'=>keep _ (hq q hq')⟩
  · rw[bg hj] at e;rw[KA,Lh];split at e
    · have : v = hs.length := by injection e with e;injection e with e;exact e.symm
      lia
    · have:=L.own j v e;lia
  · rw[bg hj] at e e';split at e
    · have hv' : v = hs.length := by injection e with e;injection e with e;exact e.symm
      split at e'
      · lia
      · have:=L.own j' v e';lia
    · split at e'
      · have hv' : v = hs.length := by injection e' with e';injection e' with e';exact e'.symm
        have:=L.own j v e;lia
      · exact L.inj j j' v e e'
  · have c:=L.cnt;rw[Array.toList_setIfInBounds,List.countP_set (by rw[KH];exact hj),KA,Lh];have e1:owner.toList[J]'(by rw[KH];exact hj)=none:=by rw[Array.getElem_toList];exact hv
    rw[e1];have pos:0<owner.toList.countP Option.isNone:=List.countP_pos_iff.mpr ⟨none,by rw[<-e1];exact List.getElem_mem _,rfl⟩;show owner.toList.countP Option.isNone - 1+0+(hs.length+1)=_;lia
theorem nt {t:SetTable}{k:Nat}(hm:t.mask+1=2 ^ k):∀(rest hs:List Int) (owner:Array (Option Nat)),Laid t hs owner->hs.length+rest.length<=t.mask+1 ->
    ∃owner',rest.foldl (λacc h=>do let (owner,k) <-acc;let j <-layClean.free t.mask owner (turns t.mask) (bits h % (t.mask+1)) (bits h);pure (owner.setIfInBounds j (some k),k+1)) (some (owner,hs.length))=some (owner',hs.length+rest.length)/\Laid t (hs++rest) owner'
  | [],hs,owner,L,_=>⟨owner,rfl,by rw[append_nil];exact L⟩
  | h::rest,hs,owner,L,hl=>by
    rw[K9] at hl;obtain ⟨j0,hj0,hfree⟩:=L.room (by lia);obtain ⟨n0,hn0,e0⟩:=tK (i:=bits h % (t.mask+1)) hm (qt h) hj0;have hs':=pR hfree n0 (turns t.mask) (bits h % (t.mask+1)) (bits h) e0 (by unfold turns;lia);cases e:layClean.free t.mask owner (turns t.mask) (bits h % (t.mask+1)) (bits h) with
    | none=>exact absurd e hs'
    | some j =>
      obtain ⟨m,_,m2,m3,m4⟩:=pQ (t:=t) (h:=h) (turns t.mask) 0 j JA e;have L':=L.step (h:=h) (n:=m) (by rw[m2];exact m3) λq hq=>m4 q (Lc _) hq;rw[m2] at L';obtain ⟨o',e1,e2⟩:=nt hm rest (hs++[h]) _ L' (by rw[KA,Lh];lia);refine ⟨o',?_,by rw[Lg] at e2;exact e2⟩;rw[List.foldl_cons];rw[KA,Lh] at e1;rw[show (do let (owner,k) <-(some (owner,hs.length):Option (Array (Option Nat)×Nat));let j <-layClean.free t.mask owner (turns t.mask) (bits h % (t.mask+1)) (bits h);pure (owner.setIfInBounds j (some k),k+1))=some (owner.setIfInBounds j (some hs.length),hs.length+1) by
        show (layClean.free t.mask owner (turns t.mask) (bits h % (t.mask+1)) (bits h)).bind (λj=>some (owner.setIfInBounds j (some hs.length),hs.length+1))=_;rw[e];rfl]
      rw[e1,K9];congr 2;lia
end WS
namespace WS
open PySem PySem.SetTable
theorem zF {t:SetTable}{k:Nat}(hm:t.mask+1=2 ^ k)(hashes:Array Int)(hl:hashes.size<=t.mask+1):∃owner,layClean t.mask hashes=some owner/\Laid t hashes.toList owner:=by
 obtain ⟨o,e,L⟩:=nt hm hashes.toList [] _ (Laid.nil t) (by rw[List.length_nil,KH];lia);refine ⟨o,?_,L⟩;unfold layClean;rw[<-Array.foldl_toList];rw[List.length_nil] at e;rw[e];rfl
noncomputable def eT (owner:Array (Option Nat))(mask:Nat):List (Nat×Nat):=(K6 (mask+1)).filterMap λj=>(owner.getD j none).map (j,·)
theorem qU {owner:Array (Option Nat)}{j:Nat}{x:Nat×Nat}:(owner.getD j none).map (j,·)=some x↔x.1=j/\owner[j]?=some (some x.2):=by
 rw[Array.getD_eq_getD_getElem?];cases e:owner[j]? with
 | none=>exact ⟨λz=>(nomatch z),λz=>(nomatch z.2)⟩
 | some v =>
  cases v with
  | none=>exact ⟨λz=>(nomatch z),λz=>(nomatch z.2)⟩
  | some w =>
   constructor
   .intro z;have:(j,w)=x:=Option.some.inj z;subst this;exact ⟨rfl,rfl⟩
   .rintro ⟨h1,h2⟩;have h3:w=x.2:=by injection h2 with h2;injection h2
    show some (j,w)=some x;rw[h3,<-h1]
theorem AS {t:SetTable}{hs:List Int}{owner:Array (Option Nat)}(L:Laid t hs owner){x:Nat×Nat}:x∈eT owner t.mask↔owner[x.1]?=some (some x.2):=by
 unfold eT;rw[List.mem_filterMap];constructor
 .rintro ⟨j,_,hj⟩;obtain ⟨a,b⟩:=qU.mp hj;rw[a];exact b
 .intro h;have hs:=(Array.getElem?_eq_some_iff.mp h).1;have s:=L.size;exact ⟨x.1,mem_range.mpr (by lia),qU.mpr ⟨rfl,h⟩⟩
theorem yz (owner:Array (Option Nat))(mask:Nat):(eT owner mask).Pairwise λx y=>x.1<y.1:=by
 unfold eT;rw[List.pairwise_filterMap];refine List.Pairwise.imp (λ{a b} hab x hx y hy=>?_) List.pairwise_lt_range;rw[(qU.mp hx).1,(qU.mp hy).1];exact hab
theorem CJ {mask k:Nat}(hm:mask+1=2 ^ k)(finger moves:Nat)(led plain:Bool)(hashes:Array Int)(hl:hashes.size<=mask+1) :
    ∃t order,laid mask finger moves led plain hashes=some (t,order)/\t.mask=mask/\t.moves=moves/\t.led=led/\t.plain=plain/\rT t/\t.place.size=hashes.size/\order.toList.Perm (K6 hashes.size) /\
      (∀j∈t.place.toList,j<=mask)/\∀(i j:Nat),t.place[i]?=some j->∃(kk:Nat) (hh:Int),order[i]?=some kk/\hashes[kk]?=some hh/\dP t hh j:=by
  obtain ⟨owner,e,L⟩:=zF (t:=⟨mask,#[],#[],finger,led,moves,plain⟩) hm hashes hl;have rise:=yz owner mask;have mem:∀{x:Nat×Nat},x∈eT owner mask↔owner[x.1]?=some (some x.2):=AS L;have perm:((eT owner mask).map (·.2)).Perm (K6 hashes.size):=by
    refine (List.perm_ext_iff_of_nodup ?_ nodup_range).mpr λv=>?_
    · show ((eT owner mask).map (·.2)).Pairwise (·≠·);rw[pairwise_map];refine List.Pairwise.imp_of_mem (λ{a b} ha hb hab z=>?_) rise;have h1:=mem.mp ha;have h2:=mem.mp hb;rw[<-z] at h2;have:=L.inj _ _ _ h1 h2;lia
    · rw[KJ,mem_range];constructor
      · rintro ⟨x,hx,rfl⟩;have:=L.own _ _ (mem.mp hx);rw[KH] at this;exact this
      · intro hv;obtain ⟨j,n,a,_⟩:=L.has v hashes[v] (by rw[Kx];exact Ky hv);exact ⟨(j,v),mem.mpr a,rfl⟩
  have len:(eT owner mask).length=hashes.size:=by have:=perm.length_eq;rw[Ks,length_range] at this;exact this
  generalize hT:(⟨mask,((eT owner mask).map (·.1)).toArray,#[],finger,led,moves,plain⟩ : SetTable)=T;have ep:T.place=((eT owner mask).map (·.1)).toArray:=by rw[<-hT]
  have em:T.mask=mask:=by rw[<-hT]
  have getp:∀(i j:Nat),T.place[i]?=some j↔∃v,(eT owner mask)[i]?=some (j,v):=λi j=>by
    rw[ep,List.getElem?_toArray,KS];cases (eT owner mask)[i]? with
    | none=>exact ⟨λz=>(nomatch z),by rintro ⟨v,z⟩;exact (nomatch z)⟩
    | some x =>
      constructor
      · intro z;have:x.1=j:=Option.some.inj z;exact ⟨x.2,by rw[<-this]⟩
      · rintro ⟨v,z⟩;rw[Option.some.inj z];rfl
  have P:rT T:=by
    refine ⟨λa b hab hb=>?_,by rw[<-hT]⟩;have hb':b<(eT owner mask).length:=by rw[ep,KN,Ks] at hb;exact hb
    have ga:T.place[a]?=some ((eT owner mask)[a]'(by lia)).1:=(getp a _).mpr ⟨_,Kt (by lia)⟩;have gb:T.place[b]?=some ((eT owner mask)[b]).1:=(getp b _).mpr ⟨_,Kt hb'⟩;rw[(get_some.mp ga).2,(get_some.mp gb).2];exact pairwise_iff_getElem.mp rise a b (by lia) hb' hab
  have occ:∀j,j<=mask->¬kX owner j->T.slot j≠.empty:=λj hj hf=>by
    have s:owner.size=mask+1:=L.size;have hlt:j<owner.size:=by lia
    cases ev:owner[j] with
    | none=>exact absurd (iF.mpr (by rw[Ky hlt,ev])) hf
    | some v =>
      have hx:(j,v)∈eT owner mask:=mem.mpr (by rw[Ky hlt,ev]);obtain ⟨i,hi,ei⟩:=List.mem_iff_getElem.mp hx;rw[eO P ((getp i j).mpr ⟨v,by rw[Kt hi,ei]⟩)];exact λz=>nomatch z
  refine ⟨T,((eT owner mask).map (·.2)).toArray,?_,em,by rw[<-hT],by rw[<-hT],by rw[<-hT],P,by rw[ep,KN,Ks];exact len,perm,λj hj=>?_,λi j hij=>?_⟩
  · unfold laid;rw[show layClean mask hashes=some owner from e,<-hT];rfl
  · rw[ep] at hj;obtain ⟨x,hx,rfl⟩:=KJ.mp hj;have:=(Array.getElem?_eq_some_iff.mp (mem.mp hx)).1;have s:owner.size=mask+1:=L.size;lia
  · obtain ⟨v,hv⟩:=(getp i j).mp hij;have hmem:=KC hv;have ho:=mem.mp hmem;have hvn:=L.own _ _ ho;rw[KH] at hvn;refine ⟨v,hashes[v],by rw[List.getElem?_toArray,KS,hv];rfl,Ky hvn,?_⟩;obtain ⟨j2,n,a,b,c⟩:=L.has v hashes[v] (by rw[Kx];exact Ky hvn);have ej:j2=j:=L.inj _ _ _ a ho;subst ej;have es:=jm (t:=⟨mask,#[],#[],finger,led,moves,plain⟩) (t':=T) em.symm hashes[v];refine ⟨n,by rw[<-es];exact b,λq hq=>?_⟩;rw[<-es];refine occ _ ?_ (c q hq);have:=(e7 ⟨mask,#[],#[],finger,led,moves,plain⟩ hashes[v] q).2.2.2;dsimp only at this;lia
end WS
namespace WS
open PySem PySem.SetTable
theorem len_sub {α:Type}[DecidableEq α]:∀(xs ys:List α),xs.Nodup->(∀x∈xs,x∈ys)->xs.length<=ys.length
 | [],_,_,_=>Lc _
 | x::xs,ys,hn,hs=>by
  rw[nodup_cons] at hn;have h1:=len_sub xs (ys.erase x) hn.2 λy hy=>(List.mem_erase_of_ne (λe:y=x=>hn.1 (e ▸ hy))).mpr (hs y (.tail _ hy));have h2:=hs x (.head _);have h3:=List.length_erase_of_mem h2;have h4:=List.length_pos_of_mem h2;rw[K9];lia
section
variable {prog:KP} {w:K7} {K:Type} [DecidableEq K]
structure Tab (knd:KeyKind prog w K)(h:Heap)(es:Array (Int×Kn))(t:SetTable)(ks:List (List K)):Prop where
 nY:rT t
 uE:t.place.size=es.size
 zo:t.mask∈[7,31,127,511,2047,8191,32767]
 le:∀(i j:Nat),t.place[i]?=some j->j<=t.mask
 num:ks.length=es.size
 eV:ks.Nodup
 ent:∀(i:Nat) e,es[i]?=some e->∃k∈ks,∃b,e=(tupleKeyHash knd k,.ref b)/\IsTupleKey knd h k b
 has:∀k∈ks,∃(i:Nat) (b:Addr),es[i]?=some (tupleKeyHash knd k,.ref b)/\IsTupleKey knd h k b
 path:∀(i j:Nat) e,t.place[i]?=some j->es[i]?=some e->dP t e.1 j
structure gc (knd:KeyKind prog w K)(h:Heap)(a:Addr)(o:Obj)(es:Array (Int×Kn))(ep:Nat)(t:SetTable)(ks:List (List K)):Prop extends Tab knd h es t ks where
 obj:h.get? a=some o
 dat:o.data=.set es ep t
 D1:o.ExactSet
 room:t.place.size*5<t.mask*3
variable {knd:KeyKind prog w K} {h:Heap} {a:Addr} {o:Obj} {es:Array (Int×Kn)} {ep:Nat} {t:SetTable} {ks:List (List K)}
theorem Tab.pow (T:Tab knd h es t ks):∃k,3<=k/\t.mask+1=2 ^ k:=by
 have hm:=T.zo;simp only[KQ,List.not_mem_nil,or_false] at hm;rcases hm with e | e | e | e | e | e | e<;>rw[e]
 .exact ⟨3,by decide,by decide⟩
 .exact ⟨5,by decide,by decide⟩
 .exact ⟨7,by decide,by decide⟩
 .exact ⟨9,by decide,by decide⟩
 .exact ⟨11,by decide,by decide⟩
 .exact ⟨13,by decide,by decide⟩
 .exact ⟨15,by decide,by decide⟩
theorem gc.odd (T:gc knd h a o es ep t ks):t.mask % 2=1:=by
 obtain ⟨k,h3,e⟩:=T.pow;obtain ⟨m,rfl⟩ : ∃m,k=m+1:=⟨k - 1,by lia⟩
 rw[Nat.pow_succ] at e;lia
theorem gc.fits (T:gc knd h a o es ep t ks):t.fits es.size=true:=by
 unfold SetTable.fits SetTable.fill;rw[T.nY.eV];have:=T.room;have:=T.uE;rw[La,beq_iff_eq,decide_eq_true_eq];refine ⟨T.uE,?_⟩;show t.place.size+0<=t.mask;lia
theorem gc.nD (T:gc knd h a o es ep t ks):∃j,j<=t.mask/\t.slot j=.empty:=by
 by_cases c:∃j,j<=t.mask/\∀i:Nat,t.place[i]?≠some j
 .obtain ⟨j,hj,hn⟩:=c;exact ⟨j,hj,ow T.nY hn⟩
 .exfalso;have hr:=T.room;have all:∀j,j<=t.mask->j∈t.place.toList:=λj hj=>by
   refine Classical.byContradiction λhc=>c ⟨j,hj,λi z=>hc ?_⟩;rw[<-Kx] at z;exact KC z
  have hl:(K6 (t.mask+1)).length<=t.place.toList.length:=len_sub _ _ nodup_range λj hj=>all j (by rw[mem_range] at hj;lia);rw[length_range,KH] at hl;lia
variable {A:K1} {E:Kn->Kp->Prop} {s:Kp}
theorem oQ (n:Nat){v:Kn}(hv:carriedByValue v=true):ofAClassStatement n v=pure false:=by
 cases v with
 | ref a=>simp[carriedByValue] at hv
 | _=>cases n<;>rfl
theorem jz {k:List K}{b:Addr}{Q:Bool->Kp->Prop}(hk:IsTupleKey knd s.heap k b)(q:Q false s):wpAny (model prog w) A (ofAClassStatement 8 (.ref b)) Q E s:=by
 have hT:=hk.typeIs;obtain ⟨o,items,n,ho,_,hd,hi⟩:=hk;unfold ofAClassStatement;refine Ko (wpAny_typeOf hT ?_);dsimp only;rw[if_pos (by decide)];refine Ko (Kq ?_);simp only[Bool.not_true,KL,if_false];refine Ko (wpAny_seqItems ho hd ?_);dsimp only;refine Ko ?_;rw[<-Array.forIn_toList];refine wpAny_forIn_list _ (λrest r s'=>r.1=none/\s'=s/\∀v∈rest,carriedByValue v=true) _ ?_ ?_ _ _ ⟨rfl,rfl,hi.byValue⟩
 .rintro v rest r s' ⟨hr,rfl,hall⟩;rw[oQ _ (hall v mem_cons_self)];refine Ko (Kq ?_);simp only[KL,if_false];exact Kq ⟨rfl,rfl,λu hu'=>hall u (K8 _ hu')⟩
 .rintro ⟨r1,r2⟩ s' ⟨hr,rfl,_⟩;simp only at hr;subst hr;exact Kq q
theorem Dt {k:List K}{b:Addr}{Q:Bool->Kp->Prop}(hk:IsTupleKey knd s.heap k b)(ys:List Kn)(hy:∀y∈ys,∃k' b',y=.ref b'/\IsTupleKey knd s.heap k' b')(q:Q false s):wpAny (model prog w) A (searchCouldBeSeen (.ref b) ys) Q E s:=by
 unfold searchCouldBeSeen;refine Ko ?_;refine wpAny_forIn_list _ (λrest r s'=>r.1=none/\s'=s/\∀y∈rest,∃k' b',y=.ref b'/\IsTupleKey knd s.heap k' b') _ ?_ ?_ _ _ ⟨rfl,rfl,hy⟩
 .rintro v rest r s' ⟨hr,rfl,hall⟩;obtain ⟨k',b',rfl,hk'⟩:=hall v mem_cons_self;dsimp only;split
  .exact Kq ⟨rfl,rfl,λu hu'=>hall u (K8 _ hu')⟩
  .refine Ko (wpAny_eqIsQuiet_tuple hk ?_);simp only[Bool.not_true,KL,if_false];refine Ko (wpAny_eqIsQuiet_tuple hk' ?_);simp only[Bool.not_true,KL,if_false];refine Ko (jz hk ?_);simp only[KL,if_false];refine Ko (jz hk' ?_);simp only[KL,if_false];exact Kq ⟨rfl,rfl,λu hu'=>hall u (K8 _ hu')⟩
 .rintro ⟨r1,r2⟩ s' ⟨hr,rfl,_⟩;simp only at hr;subst hr;exact Kq q
noncomputable def Other (knd:KeyKind prog w K)(hp:Heap)(es:Array (Int×Kn))(t:SetTable)(kk:List K)(q:Nat):Prop:=
 ∃i:Nat,t.slot (stN t (tupleKeyHash knd kk) q).j=.live i/\∀b,es[i]?=some (tupleKeyHash knd kk,.ref b)->¬IsTupleKey knd hp kk b
theorem lZ (T:gc knd s.heap a o es ep t ks){kk:List K}{b:Addr}(hu:A.units<cLine)(hb:IsTupleKey knd s.heap kk b){KK:Nat}
    (hK:t.slot (stN t (tupleKeyHash knd kk) KK).j=.empty) (hK':∀q,q<KK->t.slot (stN t (tupleKeyHash knd kk) q).j≠.empty) {Q:SetFound->Kp->Prop}
    (q1:kk∈ks->Q (.there none) s) (q2:kk∉ks->Q (.free (stN t (tupleKeyHash knd kk) KK).j false) s) :
    ∀(fuel n:Nat) (st:Option Probe),st.getD (t.probeStart (tupleKeyHash knd kk))=stN t (tupleKeyHash knd kk) n->n<=KK->KK<n+fuel->(∀q,q<n->Other knd s.heap es t kk q) ->
      wpAny (model prog w) A (setSearchFrom a (.ref b) (tupleKeyHash knd kk) true fuel st) Q E s
  | 0,n,st,e,h1,h2,h3=>absurd h2 (by lia)
  | fuel+1,n,st,e,h1,h2,h3=>by
    unfold setSearchFrom;refine Ko (wpAny_setState_of T.obj T.dat T.fits ?_);dsimp only;have hg:t.gaveWay=false:=by
      unfold SetTable.gaveWay;rw[T.odd];rfl
    rw[hg,e];simp only[KL,if_false];obtain ⟨k,_,hm⟩:=T.pow;obtain ⟨j0,hj0,hs0⟩:=T.nD;have hsome:t.probe (λi=>(es[i]?.map (·.1)).getD 0) (tupleKeyHash knd kk) (stN t (tupleKeyHash knd kk) n)≠none:=As hm hj0 hs0 (e7 t _ n).2.1 (e7 t _ n).2.2.1;have hpath:=qP (t:=t) (hashAt:=λi=>(es[i]?.map (·.1)).getD 0) (h:=tupleKeyHash knd kk) T.nY (10*turns t.mask) n;have hch:∀q,q<n->t.slot (stN t (tupleKeyHash knd kk) q).j≠.empty:=λq hq=>by
      obtain ⟨i,hi,_⟩:=h3 q hq;rw[hi];exact λz=>nomatch z
    generalize er0:t.probe _ _ _=r0;have er:probe.go t (λi=>(es[i]?.map (·.1)).getD 0) (tupleKeyHash knd kk) (10*turns t.mask) (stN t (tupleKeyHash knd kk) n)=r0:=er0;unfold SetTable.probe at hsome;cases r0 with
    | none=>exact absurd er hsome
    | some r =>
      obtain ⟨m,m1,m2,m3,m4⟩:=hpath r er;have hoth:∀q,q<m->Other knd s.heap es t kk q:=λq hq=>by
        by_cases c:q<n
        · exact h3 q c
        · obtain ⟨i, hi, hne⟩ := m3 q (by lia) hq;refine ⟨i,hi,λb' z=>?_⟩;rw[z] at hne;exact absurd rfl hne
      have hne:∀q,q<m->t.slot (stN t (tupleKeyHash knd kk) q).j≠.empty:=λq hq z=>by
        obtain ⟨i,hi,_⟩:=hoth q hq;rw[hi] at z;cases z
      rcases m4 with ⟨rfl,hs⟩ | ⟨i,hi,hh,rfl⟩
      · have em:m=KK:=by
          by_cases c:m<KK
          · exact absurd hs (hK' m c)
          · by_cases c':KK<m
            · exact absurd hK (hne KK c')
            · lia
        subst em;dsimp only;refine Kq (q2 λhmem=>?_);obtain ⟨i,b',he,hb'⟩:=T.has kk hmem;have hilt:i<t.place.size:=by rw[T.uE];exact (Array.getElem?_eq_some_iff.mp he).1
        obtain ⟨n',e',hn'⟩:=T.path i _ _ (Ky hilt) he;have hlive:=eO T.nY (Ky hilt);by_cases c:n'<m
        · obtain ⟨i2,hi2,hno⟩:=hoth n' c;dsimp only at e';rw[e',hlive] at hi2;injection hi2 with hi2
          subst hi2;exact hno b' he hb'
        · by_cases c':m<n'
          · exact hn' m c' hs
          · have : n' = m := by lia
            subst this;dsimp only at e';rw[e',hlive] at hs;cases hs
      · dsimp only;have hmK:m<=KK:=by
          refine Classical.byContradiction λc=>?_;exact hne KK (by lia) hK
        have hmK':m≠KK:=λz=>by
          subst z;rw[hi] at hK;cases hK
        have hes:∃e,es[i]?=some e:=by
          rcases h8 T.nY (stN t (tupleKeyHash knd kk) m).j with ⟨i',hp,hl⟩ | ⟨_,hl⟩
          · rw[hl] at hi;injection hi with hi
            subst hi;have:i'<es.size:=by rw[<-T.uE];exact (Array.getElem?_eq_some_iff.mp hp).1
            exact ⟨_,Ky this⟩
          · rw[hl] at hi;cases hi
        obtain ⟨e0,he0⟩:=hes;obtain ⟨k',hk',b',rfl,hb'⟩:=T.ent i e0 he0;have hseen:∀y∈(es.filter (·.1 == tupleKeyHash knd kk)).toList.map (·.2),∃k' b',y=.ref b'/\IsTupleKey knd s.heap k' b':=λy hy=>by
          rw[KJ] at hy;obtain ⟨e,he,rfl⟩:=hy;rw[Array.mem_toList_iff,Array.mem_filter] at he;obtain ⟨i2,hi2⟩:=Array.mem_iff_getElem?.mp he.1;obtain ⟨k2,_,b2,rfl,hb2⟩:=T.ent i2 e hi2;exact ⟨k2,b2,rfl,hb2⟩
        split
        case' isTrue =>
          refine Ko (Dt hb _ hseen ?_);simp only[KL,if_false]
        all_goals
          rw[he0];dsimp only;refine Ko (wpAny_holding (wpAny_eqBool_tuple hu hb' hb ?_));refine Ko (wpAny_setState_of T.obj T.dat T.fits ?_);dsimp only;by_cases ek:k'=kk
          · rw[decide_eq_true ek];subst ek;simp only[Bool.and_self,if_true];exact Kq (q1 hk')
          · rw[decide_eq_false ek];simp only[Bool.and_false,KL,if_false];have hsm:t.sameMemory t.moves t.mask=some true:=by
              unfold SetTable.sameMemory;rw[if_pos (by rw[beq_iff_eq])]
            rw[hsm];dsimp only;rw[if_pos rfl,hi];dsimp only;rw[he0];dsimp only;refine Ko (wpAny_isSame_ref_self ?_);refine Ko (Kq ?_);rw[if_pos rfl];dsimp only;refine lZ T hu hb hK hK' q1 q2 fuel (m+1) _ rfl (by lia) (by lia) λq hq=>?_;by_cases c:q<m
            · exact hoth q c
            · have : q = m := by lia
              subst this;refine ⟨i,hi,λb2 z hb2=>ek ?_⟩;rw[he0] at z;injection z with z
              injection z with _ z
              injection z with z
              subst z;exact hb'.inj hb2
end
end WS
namespace WS
open PySem PySem.SetTable
section
variable {prog:KP} {w:K7} {K:Type} [DecidableEq K] {knd:KeyKind prog w K} {h h':Heap} {a:Addr} {o:Obj} {es:Array (Int×Kn)} {ep:Nat} {t t':SetTable} {ks:List (List K)}
theorem yU (e1:t'.place=t.place)(e2:t'.dummies=t.dummies)(j:Nat):t'.slot j=t.slot j:=by
 unfold SetTable.slot;rw[e1,e2]
theorem yT (e0:t'.mask=t.mask)(e1:t'.place=t.place)(e2:t'.dummies=t.dummies){x:Int}{j:Nat}(hp:dP t x j):dP t' x j:=by
 obtain ⟨n,h1,h2⟩:=hp;refine ⟨n,by rw[jm e0];exact h1,λq hq=>?_⟩;rw[jm e0,yU e1 e2];exact h2 q hq
theorem Tab.same (T:Tab knd h es t ks)(e0:t'.mask=t.mask)(e1:t'.place=t.place)(e2:t'.dummies=t.dummies):Tab knd h es t' ks where
 nY:=⟨by rw[e1];exact T.nY.rise,by rw[e2];exact T.nY.eV⟩
 uE:=by rw[e1];exact T.uE
 zo:=by rw[e0];exact T.zo
 le:=λi j=>by rw[e1,e0];exact T.le i j
 num:=T.num
 eV:=T.eV
 ent:=T.ent
 has:=T.has
 path:=λi j e h1 h2=>yT e0 e1 e2 (T.path i j e (by rw[<-e1];exact h1) h2)
theorem Tab.heap (T:Tab knd h es t ks)(hk:∀k b,IsTupleKey knd h k b->IsTupleKey knd h' k b):Tab knd h' es t ks where
 nY:=T.nY
 uE:=T.uE
 zo:=T.zo
 le:=T.le
 num:=T.num
 eV:=T.eV
 ent:=λi e he=>let ⟨k,h1,b,h2,h3⟩:=T.ent i e he;⟨k,h1,b,h2,hk k b h3⟩
 has:=λk hm=>let ⟨i,b,h1,h2⟩:=T.has k hm;⟨i,b,h1,hk k b h2⟩
 path:=T.path
theorem Tab.put (T:Tab knd h es t ks){kk:List K}{b:Addr}(hb:IsTupleKey knd h kk b)(hn:kk∉ks){KK:Nat}
    (hK:t.slot (stN t (tupleKeyHash knd kk) KK).j=.empty) (hK':∀q,q<KK->t.slot (stN t (tupleKeyHash knd kk) q).j≠.empty) :
    Tab knd h (insertAt es (t.put (stN t (tupleKeyHash knd kk) KK).j).2 (tupleKeyHash knd kk,.ref b)) (t.put (stN t (tupleKeyHash knd kk) KK).j).1 (kk::ks):=by
  generalize hh:tupleKeyHash knd kk=x at *;generalize hj:(stN t x KK).j=j at *;have hfree:∀i:Nat,t.place[i]?≠some j:=λi z=>by rw[eO T.nY z] at hK;cases hK
  have ep:t.put j=({ t with place:=insertAt t.place (below t.place j) j,dummies:=#[] },below t.place j):=oi T.nY j;have hle:below t.place j<=t.place.size:=(jZ T.nY.rise j).1;have hle':below t.place j<=es.size:=by rw[<-T.uE];exact hle
  have e2:(t.put j).2=below t.place j:=by rw[ep]
  have em:(t.put j).1.mask=t.mask:=by rw[ep]
  have epl:(t.put j).1.place=insertAt t.place (below t.place j) j:=by rw[ep]
  have gp:∀i:Nat,(t.put j).1.place[i]?=if i<below t.place j then t.place[i]? else if i=below t.place j then some j else t.place[i - 1]?:=λi=>by rw[epl,gW _ _ _ hle]
  have ge:∀i:Nat,(insertAt es (t.put j).2 (x,Value.ref b))[i]?=if i<below t.place j then es[i]? else if i=below t.place j then some (x,Value.ref b) else es[i - 1]?:=λi=>by rw[e2,gW _ _ _ hle']
  have sz:(insertAt es (t.put j).2 (x,Value.ref b)).size=es.size+1:=by rw[e2,nJ _ _ _ hle']
  refine { nY:=rC T.nY hfree,uE:=?_,zo:=by rw[em];exact T.zo,le:=?_,num:=?_,eV:=?_,ent:=?_,has:=?_,path:=?_ }
  · rw[sz,epl,nJ _ _ _ hle,T.uE]
  · intro i j' hij;rw[gp] at hij;rw[em];split at hij
    · exact T.le _ _ hij
    · split at hij
      · injection hij with hij
        subst hij;rw[<-hj];have:=(e7 t x KK).2.2.2;lia
      · exact T.le _ _ hij
  · rw[sz,K9,T.num]
  · exact nodup_cons.mpr ⟨hn,T.eV⟩
  · intro i e he;rw[ge] at he;split at he
    · obtain ⟨k,h1,b',h2,h3⟩:=T.ent _ _ he;exact ⟨k,.tail _ h1,b',h2,h3⟩
    · split at he
      · injection he with he
        exact ⟨kk,.head _,b,by rw[<-he,hh],hb⟩
      · obtain ⟨k,h1,b',h2,h3⟩:=T.ent _ _ he;exact ⟨k,.tail _ h1,b',h2,h3⟩
  · intro k hk;rcases KQ.mp hk with rfl | hk
    · refine ⟨below t.place j,b,?_,hb⟩;rw[ge,if_neg (Nat.lt_irrefl _),if_pos rfl,hh]
    · obtain ⟨i,b',h1,h2⟩:=T.has k hk;by_cases c:i<below t.place j
      · exact ⟨i,b',by rw[ge,if_pos c];exact h1,h2⟩
      · exact ⟨i+1,b',by rw[ge,if_neg (by lia),if_neg (by lia)];exact h1,h2⟩
  · intro i j' e hp he;rw[gp] at hp;rw[ge] at he;split at hp
    · rw [if_pos (by assumption)] at he;exact dP.put T.nY hfree (T.path _ _ _ hp he)
    · rw [if_neg (by assumption)] at he;split at hp
      · rw [if_pos (by assumption)] at he;injection hp with hp
        injection he with he
        subst hp;subst he;show dP _ x j;have:=dP.new (t:=t) (h:=x) T.nY (K:=KK) (by rw[hj];exact hK) hK';rw[hj] at this;exact this
      · rw [if_neg (by assumption)] at he;exact dP.put T.nY hfree (T.path _ _ _ hp he)
theorem An {α:Type}{es:Array α}:∀(ord:List Nat),(∀i∈ord,i<es.size)->∀i:Nat,(ord.filterMap (es[·]?))[i]?=(ord[i]?).bind (es[·]?)
 | [],_,i=>by simp
 | x::ord,hx,i=>by
  have h1:=hx x (.head _);rw[filterMap_cons,Ky h1];dsimp only;cases i with
  | zero=>rw[List.getElem?_cons_zero,List.getElem?_cons_zero];exact (Ky h1).symm
  | succ i=>rw[List.getElem?_cons_succ,List.getElem?_cons_succ];exact An ord (λi hi=>hx i (.tail _ hi)) i
theorem Ao {α:Type}{es:Array α}:∀(ord:List Nat),(∀i∈ord,i<es.size)->(ord.filterMap (es[·]?)).length=ord.length
 | [],_=>rfl
 | x::ord,hx=>by
  rw[filterMap_cons,Ky (hx x (.head _))];dsimp only;rw[K9,K9,Ao ord λi hi=>hx i (.tail _ hi)]
theorem Tab.HR (T:Tab knd h es t ks){wanted m:Nat}(hw:sizeAbove wanted=m+1)(hm:m∈[7,31,127,511,2047,8191,32767])(hl:es.size<=m+1) :
  ∃t' order,t.relaid (es.map (·.1)) wanted=some (t',order)/\(order.filterMap (es[·]?)).size=es.size/\Tab knd h (order.filterMap (es[·]?)) t' ks/\t'.mask=m:=by
 have hp:∃k,m+1=2 ^ k:=by
  simp only[KQ,List.not_mem_nil,or_false] at hm;rcases hm with e | e | e | e | e | e | e<;>rw[e]
  .exact ⟨3,by decide⟩
  .exact ⟨5,by decide⟩
  .exact ⟨7,by decide⟩
  .exact ⟨9,by decide⟩
  .exact ⟨11,by decide⟩
  .exact ⟨13,by decide⟩
  .exact ⟨15,by decide⟩
 obtain ⟨k,hp⟩:=hp;obtain ⟨t',order,e,em,_,_,_,P,sz,perm,le,pth⟩:=CJ hp t.finger (t.movedTo (sizeAbove wanted - 1)) t.led t.plain (es.map (·.1)) (by rw[Array.size_map];exact hl);rw[Array.size_map] at sz perm;have hlt:∀i∈order.toList,i<es.size:=λi hi=>mem_range.mp (perm.mem_iff.mp hi);have el:(order.filterMap (es[·]?)).toList=order.toList.filterMap (es[·]?):=Array.toList_filterMap;have olen:order.toList.length=es.size:=by rw[perm.length_eq,length_range]
 have ge:∀i:Nat,(order.filterMap (es[·]?))[i]?=(order[i]?).bind (es[·]?):=λi=>by rw[<-Kx,el,An _ hlt,Kx]
 have sz':(order.filterMap (es[·]?)).size=es.size:=by rw[<-KH,el,Ao _ hlt,olen]
 refine ⟨t',order,?_,sz',?_,em⟩
 .unfold SetTable.relaid;rw[<-e,hw];rfl
 refine { nY:=P,uE:=by rw[sz,sz'],zo:=by rw[em];exact hm,le:=?_,num:=by rw[sz'];exact T.num,eV:=T.eV,ent:=?_,has:=?_,path:=?_ }
 .intro i j hij;rw[em];refine le j ?_;rw[<-Kx] at hij;exact KC hij
 .intro i e he;rw[ge,Option.bind_eq_some_iff] at he;obtain ⟨i',_,h2⟩:=he;exact T.ent _ _ h2
 .intro k hk;obtain ⟨i,b,h1,h2⟩:=T.has k hk;have hi:i<es.size:=(Array.getElem?_eq_some_iff.mp h1).1;have hmem:i∈order.toList:=perm.mem_iff.mpr (mem_range.mpr hi);obtain ⟨p,hp'⟩:=mem_iff_getElem?.mp hmem;refine ⟨p,b,?_,h2⟩;rw[Kx] at hp';rw[ge,hp'];exact h1
 .intro i j e hp he;obtain ⟨kk,hh,h1,h2,h3⟩:=pth i j hp;rw[ge,h1] at he;have he':es[kk]?=some e:=he;rw[Array.getElem?_map,he'] at h2;injection h2 with h2
  rw[show e.1=hh from h2];exact h3
end
end WS
namespace WS
open PySem PySem.SetTable
section
variable {prog:KP} {w:K7} {K:Type} [DecidableEq K] {knd:KeyKind prog w K} {h h':Heap} {a:Addr} {o:Obj} {es:Array (Int×Kn)} {ep:Nat} {t t':SetTable} {ks:List (List K)}
variable {A:K1} {E:Kn->Kp->Prop} {s:Kp}
theorem pY {k:List K}{b:Addr}(x:IsTupleKey knd h k b)(ho:h.get? a=some o)(hd:o.data=.set es ep t)(hs:Heap.SameBut a h h'):IsTupleKey knd h' k b:=by
 obtain ⟨o',items,n,ho',hc,hd',hi⟩:=x;have hne:b≠a:=by
  rintro rfl;obtain rfl:o'=o:=Option.some.inj (ho'.symm.trans ho);rw[hd] at hd';exact nomatch hd'
 exact ⟨o',items,n,(hs.2 b hne).trans ho',hc,hd',hi⟩
theorem yn (n:Nat){v:Kn}(hv:carriedByValue v=true):∃bb,hashByValue n v=pure bb:=by
 cases v with
 | ref a=>simp[carriedByValue] at hv
 | _=>cases n<;>exact ⟨_,rfl⟩
theorem yo {k:List K}{b:Addr}{Q:Bool->Kp->Prop}(hk:IsTupleKey knd s.heap k b)(q:∀bb,Q bb s):wpAny (model prog w) A (hashByValue 8 (.ref b)) Q E s:=by
 have hT:=hk.typeIs;obtain ⟨o,items,n,ho,_,hd,hi⟩:=hk;unfold hashByValue;refine Ko (wpAny_specialOf hT F.slot_tuple_hash.lookup ?_);dsimp only;refine Ko (wpAny_seqItems ho hd ?_);refine Ko ?_;rw[<-Array.forIn_toList];refine wpAny_forIn_list _ (λrest r s'=>r.1=none/\s'=s/\∀v∈rest,carriedByValue v=true) _ ?_ ?_ _ _ ⟨rfl,rfl,hi.byValue⟩
 .rintro v rest r s' ⟨hr,rfl,hall⟩;obtain ⟨bb,e⟩:=yn 7 (hall v mem_cons_self);rw[e];refine Ko (Kq ?_);cases bb
  .simp only[Bool.not_false,if_true];exact Kq (Kq (q _))
  .simp only[Bool.not_true,KL,if_false];exact Kq ⟨rfl,rfl,λu hu'=>hall u (K8 _ hu')⟩
 .rintro ⟨r1,r2⟩ s' ⟨hr,rfl,_⟩;simp only at hr;subst hr;exact Kq (q _)
theorem og (ho:h.get? a=some o)(hd:o.data=.set es ep t)(es':Array (Int×Kn))(t':SetTable):(h.update a (Obj.putSet es' t')).get? a=some { o with data:=.set es' (ep+1) t' }:=by
 have:=Heap.get?_update_self (Obj.putSet es' t') ho (by rw[putSet_of es' t' hd];rfl);rw[putSet_of es' t' hd] at this;exact this
theorem Bl (T:Tab knd s.heap es t ks)(ho:s.heap.get? a=some o)(hd:o.data=.set es ep t)(hx:o.ExactSet)(hf:t.fits es.size=true){wanted m:Nat}(hw:sizeAbove wanted=m+1)(hm:m∈[7,31,127,511,2047,8191,32767])(hl:es.size*5<m*3)
    {Q:Unit->Kp->Prop} (q:∀h' o' es' ep' t',Heap.SameBut a s.heap h'->gc knd h' a o' es' ep' t' ks->Q () { s with heap:=h' }):wpAny (model prog w) A (setRelay a wanted) Q E s:=by
  obtain ⟨t',order,e1,e2,T',em⟩:=T.HR hw hm (by lia);have hm8:m<=32767:=by
    simp only[KQ,List.not_mem_nil,or_false] at hm;lia
  have hsl:(32768:Nat)<=sizeLine:=by rw[sizeLine_eq];decide
  unfold setRelay;refine Ko (wpAny_setState_of ho hd hf ?_);dsimp only;rw[if_neg (by rw[hw];lia),e1];refine Ko ?_;show wpAny _ _ (do
    if (order.filterMap (es[·]?)).size != es.size then unsupported "internal:set-table-lost-an-element"
    pure (order.filterMap (es[·]?),t')) _ _ _
  rw[if_neg (by rw[e2];simp)];refine Kq ?_;dsimp only;refine wpAny_storeSet_of ho hd ?_ (by rw[e2];lia);have hsb:=Heap.SameBut.update s.heap a (Obj.putSet (order.filterMap (es[·]?)) t');refine q _ { o with data:=.set (order.filterMap (es[·]?)) (ep+1) t' } (order.filterMap (es[·]?)) (ep+1) t' hsb ?_;exact { toTab:=T'.heap λk b hb=>pY hb ho hd hsb,obj:=og ho hd _ _,dat:=rfl,D1:=hx,room:=by rw[T'.uE,e2,em];exact hl }
theorem yE {n m:Nat}(hm:m∈[7,31,127,511,2047,8191,32767])(h1:n*5<m*3)(h2:(n+1)*5>=m*3)(h3:n<9995):∃m',sizeAbove (grown (n+1))=m'+1/\m'∈[7,31,127,511,2047,8191,32767]/\(n+1)*5<m'*3:=by
  simp only[KQ,List.not_mem_nil,or_false] at hm;rcases hm with e | e | e | e | e | e | e<;>subst e
  · obtain rfl : n = 4 := by lia
    exact ⟨31,by decide,by decide,by decide⟩
  · obtain rfl : n = 18 := by lia
    exact ⟨127,by decide,by decide,by decide⟩
  · obtain rfl : n = 76 := by lia
    exact ⟨511,by decide,by decide,by decide⟩
  · obtain rfl : n = 306 := by lia
    exact ⟨2047,by decide,by decide,by decide⟩
  · obtain rfl : n = 1228 := by lia
    exact ⟨8191,by decide,by decide,by decide⟩
  · obtain rfl : n = 4914 := by lia
    exact ⟨32767,by decide,by decide,by decide⟩
  · lia
theorem uQ (T:gc knd s.heap a o es ep t ks){kk:List K}{b:Addr}(hu:A.units<cLine)(hb:IsTupleKey knd s.heap kk b)(hn:ks.length<9995){Q:Bool->Kp->Prop}
    (q:∀h' o' es' ep' t' r,Heap.SameBut a s.heap h'->gc knd h' a o' es' ep' t' (if kk∈ks then ks else kk::ks)->Q r { s with heap:=h' }) :
    wpAny (model prog w) A (setAddHashed a (.ref b) (tupleKeyHash knd kk)) Q E s:=by
  have hsl:(32768:Nat)<=sizeLine:=by rw[sizeLine_eq];decide
  obtain ⟨k,_,hm⟩:=T.pow;obtain ⟨j0,hj0,hs0⟩:=T.nD;obtain ⟨KK,hK0,hK,hK'⟩:=vk T.nY hm hj0 hs0 (by rw[T.uE,<-T.num];lia) (by have:=T.room;lia) (tupleKeyHash knd kk);have hm8:t.mask<=32767:=by
    have:=T.zo;simp only[KQ,List.not_mem_nil,or_false] at this;lia
  unfold setAddHashed setAddHashedIn;refine wpAny_holding (Ko (wpAny_setState_of T.obj T.dat T.fits ?_));dsimp only;rw[if_neg (by simp[byScan,Value.scannable])];refine Ko ?_;unfold setSearch;refine lZ T hu hb hK hK' (λhmem=>?_) (λhmem=>?_) 100000 0 none rfl (Lc _) (by lia) (λq hq=>absurd hq (Nat.not_lt_zero _))
  · dsimp only;have:=q s.heap o es ep t false (Heap.SameBut.refl a s.heap) (by rw[if_pos hmem];exact T);exact Kq this
  · dsimp only;refine Ko (wpAny_setState_of T.obj T.dat T.fits ?_);dsimp only;rw[if_neg hmem] at q;have T1:=T.toTab.put hb hmem hK hK';generalize hj:(stN t (tupleKeyHash knd kk) KK).j=j at *;generalize hput:t.put j=pt at *;obtain ⟨t1,p⟩:=pt;dsimp only at T1 ⊢;have hmask:t1.mask=t.mask:=by
      have:=congrArg (λz=>z.1.mask) hput;rw[oi T.nY] at this;exact this.symm
    have hsz:=T1.num;rw[K9,T.num] at hsz;have main:∀bb:Bool,wpAny (model prog w) A (do
        storeSet a (insertAt es p (tupleKeyHash knd kk,Value.ref b)) (if bb=true then t1 else { t1 with plain:=false })
        if (!false && (if bb=true then t1 else { t1 with plain:=false }).tooFull)=true then do
          setRelay a (grown (es.size+1))
          pure true
        else pure true) Q E s:=λbb=>by
      have T2:Tab knd s.heap (insertAt es p (tupleKeyHash knd kk,Value.ref b)) (if bb=true then t1 else { t1 with plain:=false }) (kk::ks):=by
        cases bb
        · exact T1.same rfl rfl rfl
        · exact T1
      have em2:(if bb=true then t1 else { t1 with plain:=false }).mask=t.mask:=by
        rw[<-hmask];cases bb<;>rfl
      generalize (if bb=true then t1 else { t1 with plain:=false })=t2 at *;have hr:=T.room;have hsi:=T.uE;have hnum:=T.num;have s2:=T2.uE;refine Ko (wpAny_storeSet_of T.obj T.dat ?_ (by rw[<-hsz];lia));have hsb:=Heap.SameBut.update s.heap a (Obj.putSet (insertAt es p (tupleKeyHash knd kk,Value.ref b)) t2);have T3:=T2.heap (h':=s.heap.update a (Obj.putSet (insertAt es p (tupleKeyHash knd kk,Value.ref b)) t2)) λk b' hb'=>pY hb' T.obj T.dat hsb;have hget:=og T.obj T.dat (insertAt es p (tupleKeyHash knd kk,Value.ref b)) t2;have hfill:t2.fill=es.size+1:=by
        unfold SetTable.fill;rw[T2.nY.eV,s2,<-hsz];rfl
      by_cases hfull:t2.tooFull=true
      · rw [hfull, if_pos (by decide)];have hge:(es.size+1)*5>=t.mask*3:=by
          unfold SetTable.tooFull at hfull;rw[hfill,em2,decide_eq_true_eq] at hfull;exact hfull
        obtain ⟨m',w1,w2,w3⟩:=yE T.zo (by rw[<-hsi];exact hr) hge (by lia);refine Ko (Bl (s:={ s with heap:=s.heap.update a (Obj.putSet (insertAt es p (tupleKeyHash knd kk,Value.ref b)) t2) }) T3 hget rfl T.D1 ?_ w1 w2 (by rw[<-hsz];exact w3) λh' o' es' ep' t' sb' T'=>?_)
        · unfold SetTable.fits;rw[La,beq_iff_eq,decide_eq_true_eq];refine ⟨s2,?_⟩;rw[hfill,em2];have:=T.zo;simp only[KQ,List.not_mem_nil,or_false] at this;lia
        · exact Kq (q h' o' es' ep' t' true (hsb.trans sb') T')
      · rw [if_neg (by simpa using hfull)];refine Kq (q _ _ _ _ t2 true hsb { toTab:=T3,obj:=hget,dat:=rfl,D1:=T.D1,room:=?_ });unfold SetTable.tooFull at hfull;rw[decide_eq_true_eq,hfill,em2] at hfull;rw[s2,<-hsz,em2];lia
    split
    · exact Ko (yo hb λbb=>main bb)
    · exact Ko (Kq (main true))
theorem add_tuple (T:gc knd s.heap a o es ep t ks){kk:List K}{b:Addr}(hu:A.units<cLine)(hb:IsTupleKey knd s.heap kk b)(hn:ks.length<9995){Q:Bool->Kp->Prop}
  (q:∀h' o' es' ep' t' r,Heap.SameBut a s.heap h'->gc knd h' a o' es' ep' t' (if kk∈ks then ks else kk::ks)->Q r { s with heap:=h',toks:=s.toks+(kk.length+1) }) :
  wpAny (model prog w) A (setAdd a (.ref b)) Q E s:=by
 unfold setAdd;refine wpAny_holding (Ko (wpAny_pyHash_tuple hu hb ?_));exact uQ (s:={ s with toks:=s.toks+(kk.length+1) }) T hu hb hn λh' o' es' ep' t' r sb T'=>q h' o' es' ep' t' r sb T'
end
end WS
namespace WS
open PySem PySem.SetTable
noncomputable def bD {α:Type}[DecidableEq α](val:Nat->α):Nat->List α
 | 0=>[]
 | i+1=>if val i∈bD val i then bD val i else val i::bD val i
theorem iU {α:Type}[DecidableEq α](val:Nat->α):∀i,(bD val i).length<=i
 | 0=>Ku _
 | i+1=>by
  have:=iU val i;unfold bD;split
  .lia
  .rw[K9];lia
section
variable {prog:KP} {w:K7} {K:Type} [DecidableEq K] {knd:KeyKind prog w K} {A:K1} {R:Result->Kp->Prop} {I:Addr} {fp wr:List Addr} {G:Array GenState->Array GenState->Prop} {n:Nat} {P:Nat->Kn->Prop} {St:Nat->Kp->Prop}
noncomputable def jv (knd:KeyKind prog w K)(h:Heap)(a:Addr)(ks:List (List K)):Prop:=∃o es ep t,gc knd h a o es ep t ks
theorem jv.keep {h h':Heap}{a:Addr}{ks:List (List K)}(x:jv knd h a ks)(hs:∀o,h.get? a=some o->h'.get? a=some o)(hk:∀k b,IsTupleKey knd h k b->IsTupleKey knd h' k b):jv knd h' a ks:=by
 obtain ⟨o,es,ep,t,T⟩:=x;exact ⟨o,es,ep,t,{ toTab:=T.toTab.heap hk,obj:=hs _ T.obj,dat:=T.dat,D1:=T.D1,room:=T.room }⟩
theorem nN {h h':Heap}{k:List K}{b:Addr}(x:IsTupleKey knd h k b)(hs:∀o,h.get? b=some o->h'.get? b=some o):IsTupleKey knd h' k b:=by
 obtain ⟨o,items,m,ho,r⟩:=x;exact ⟨o,items,m,hs o ho,r⟩
theorem Br (W:WalksS prog w A.in1 I fp wr G n P St)(S:Addr)(hSf:S∉fp)(hu:A.units+1<cLine)
    (val:Nat->List K) (hb:n<=9995) (hno:∀s' i',i'<=n->St i' s'->∀kk b,IsTupleKey knd s'.heap kk b->b∉wr) :
    ∀(k i:Nat) (s:Kp),n - i=k->i<=n->St i s->jv knd s.heap S (bD val i) ->
      (∀j v,i<=j->j<n->P j v->∃b,v=.ref b/\b∉wr/\b≠S/\IsTupleKey knd s.heap (val j) b) ->
      (∀s',Moved (S::wr) G s s'->jv knd s'.heap S (bD val n)->R (.ok (.ret .none)) s') ->
      codeAny (model prog w) A (.builtin "set.update.loop" ⟨[.ref S,.ref I],[]⟩) R s:=by
  have hSw:S∉wr:=λh=>hSf (W.sub _ h);have hsub:∀b∈wr,b∈S::wr:=λb hb=>K8 _ hb;intro k;induction k with
  | zero =>
    intro i s hk hi hst hS hkeys hR;have hin:i=n:=by lia
    subst hin;refine codeAny_builtin PyProof.Rows.F.entry_set_update_loop ?_;rw[Around.under_plainId PyProof.Rows.F.plain_set_update_loop _];show wpAny _ A.in1 (pyNext (.ref I) >>= _) _ _ s;refine Ko (W.done s _ _ hst λs' hm=>?_);show wpAny _ A.in1 (ret Value.none) _ _ s';exact Kq (hR s' (hm.mono hsub) (hS.keep (λo ho=>hm.heap S o hSw ho) λkk b x=>nN x λo ho=>hm.heap b o (hno s i hi hst kk b x) ho))
  | succ k ih =>
    intro i s hk hi hst hS hkeys hR;have hlt:i<n:=by lia
    refine codeAny_builtin PyProof.Rows.F.entry_set_update_loop ?_;rw[Around.under_plainId PyProof.Rows.F.plain_set_update_loop _];show wpAny _ A.in1 (pyNext (.ref I) >>= _) _ _ s;refine Ko (W.item i s _ _ hlt hst λv s' hP hst' hm=>?_);obtain ⟨b,rfl,hbw,hbS,hkey⟩:=hkeys i v (Ku _) hlt hP;have hS':=hS.keep (h':=s'.heap) (λo ho=>hm.heap S o hSw ho) λkk b x=>nN x λo ho=>hm.heap b o (hno s i hi hst kk b x) ho;obtain ⟨o,es,ep,t,T⟩:=hS';have hkey':IsTupleKey knd s'.heap (val i) b:=nN hkey λo ho=>hm.heap b o hbw ho;show wpAny _ A.in1 (holding [Value.ref b] (setAdd S (.ref b)) >>= _) _ _ s';refine Ko (wpAny_holding ?_);refine add_tuple T hu hkey' (by have:=iU val i;lia) λh' o' es' ep' t' r hsb T'=>?_;have hset:jv knd h' S (bD val (i+1)):=⟨o',es',ep',t',by
      rw[bD];by_cases c:val i∈bD val i
      · rw[if_pos c] at T' ⊢;exact T'
      · rw[if_neg c] at T' ⊢;exact T'⟩
    refine Kq ⟨plainId_quiet PyProof.Rows.F.plain_set_update_loop _,ih (i+1) _ (by lia) hlt (W.frame _ s' _ _ hst' (by lia) λb hb o e=>?_) hset (λj v hj1 hj2 hPj=>?_) λs'' hm'' hS''=>?_⟩
    · rw[hsb.2 b (λh:b=S=>hSf (by rw[<-h];exact hb))];exact e
    · obtain ⟨b2, rfl, hbw2, hbS2, hkey2⟩ := hkeys j v (by lia) hj2 hPj;exact ⟨b2,rfl,hbw2,hbS2,nN hkey2 λo ho=>(hsb.2 b2 hbS2).trans (hm.heap b2 o hbw2 ho)⟩
    · refine hR s'' (Moved.trans W.gtrans ((hm.mono hsub).then_heap (by lia) λb o hb e => ?_) hm'') hS'';rw[hsb.2 b (λh:b=S=>hb (by rw[h];exact mem_cons_self))];exact e
theorem yW (h:Heap)(a:Addr)(led:Bool)(ho:h.get? a=some { cls:=.type "set",dict:=none,data:=.set #[] 0 (.fresh 0 0 led) }):jv knd h a []:=by
 refine ⟨_,#[],0,.fresh 0 0 led,{ obj:=ho,dat:=rfl,D1:=⟨rfl,rfl,rfl⟩,room:=by show 0*5<7*3;decide,nY:=⟨λa b _ hb=>absurd hb (Nat.not_lt_zero _),rfl⟩,uE:=rfl,zo:=.head _,le:=λi j z=>?_,num:=rfl,eV:=.nil,ent:=λi e z=>?_,has:=λk hk=>(nomatch hk),path:=λi j e z=>?_ }⟩
 .exact absurd z (by show ¬(#[]:Array Nat)[i]?=some j;simp)
 .exact absurd z (by simp)
 .exact absurd z (by show ¬(#[]:Array Nat)[i]?=some j;simp)
end
section
variable {prog:KP} {w:K7} {K:Type} [DecidableEq K] {knd:KeyKind prog w K} {A:K1} {E:Kn->Kp->Prop} {s:Kp}
set_option maxHeartbeats 3200000 in
theorem ml {l:Addr}{items:Array Kn}(val:Nat->List K){Q:Kn->Kp->Prop}
  (hh:A.handled=none) (hu:A.units+8<cLine) (hl:s.heap.IsList l items) (hi:∀j v,items[j]?=some v->∃b,v=.ref b/\IsTupleKey knd s.heap (val j) b) (hb:items.size<=9995)
  (h:∀(h':Heap) (tk:Nat),jv knd h' s.heap.objs.size (bD val items.size)->(∀b o,b<s.heap.objs.size->s.heap.get? b=some o->h'.get? b=some o)->Q (.ref s.heap.objs.size) { s with heap:=h',toks:=tk }) :
  wpAny (model prog w) A (call (.type "set") [.ref l]) Q E s:=by
 obtain ⟨c,tl,hmro⟩:=F.called_set.mro;have hmade:=F.called_set.made;have hsub:=F.called_set.sub;refine wpAny_call (codeAny_of_tree ?_);show wpAny _ _ (callAny (.type "set") _) _ _ _;refine Kq ⟨Code.quiet_builtin _ (by decide +kernel),codeAny_builtin F.entry_type_call ?_⟩;rw[Around.under_plain (weight_type_call_type "set" [.ref l] []) rfl];have h1:=F.called_set.notType;have h2:=F.called_set.canCreate;have hct:=F.typeCall_set_1 (.ref l);repeat (any_goals (first | assumption | wp_step))
 refine codeAny_mono (code_set_new_1 (.ref l) (E:=E) (Q₁:=λobj s₁=>∃led:Bool,obj=.ref s.heap.objs.size/\s₁ = { s with heap:=s.heap.push { cls:=.type "set",dict:=none,data:=.set #[] 0 (.fresh 0 0 led) } }) λled=>⟨led,rfl,rfl⟩) λr s₁ hr=>?_;cases r with
 | error e=>exact hr
 | ok fl =>
  cases fl with
  | ret obj =>
   obtain ⟨led,rfl,rfl⟩:=hr;have hS:(s.heap.push { cls:=.type "set",dict:=none,data:=.set #[] 0 (.fresh 0 0 led) }).get? s.heap.objs.size=some { cls:=.type "set",dict:=none,data:=.set #[] 0 (.fresh 0 0 led) }:=KZ _ rfl;have hT:Shared.TypeIs { s with heap:=s.heap.push { cls:=.type "set",dict:=none,data:=.set #[] 0 (.fresh 0 0 led) } } (.ref s.heap.objs.size) "set":=⟨_,hS,rfl⟩
   have hli:=F.called_set.init.lookup;have hbi:=F.called_set.init.bind (.ref s.heap.objs.size);repeat (any_goals (first | assumption | wp_step))
   refine codeAny_mono (codeAny_call_builtin (R:=wants (λr s₂=>r=.none/\∃h' tk,s₂ = { s with heap:=h',toks:=tk }/\jv knd h' s.heap.objs.size (bD val items.size) /\
     (∀b o,b<s.heap.objs.size->s.heap.get? b=some o->h'.get? b=some o)) E) F.called_set.init.plain F.entry_set_init (check_set_init_1 hT ?_)) λr₂ s₂ hr₂=>?_
   .obtain ⟨ol,hol,hcl,nl,hdl⟩:=hl;obtain ⟨ocls,odict,odata,oslots⟩:=ol;simp only at hcl hdl;subst hcl;subst hdl;have hol':(s.heap.push { cls:=.type "set",dict:=none,data:=.set #[] 0 (.fresh 0 0 led) }).get? l=some { cls:=.type "list",dict:=odict,data:=.seq items nl,slots:=oslots }:=Kv _ hol;have hsls:=F.sub_list_set;have hslf:=F.sub_list_frozenset;have hne:(Value.type "list" == Value.type "dict")=false:=by decide
    have hl1:(s.heap.push { cls:=.type "set",dict:=none,data:=.set #[] 0 (.fresh 0 0 led) }).IsList l items:=⟨_,hol',rfl,nl,rfl⟩
    unfold Builtin.«set.__init__» noKeywords Builtin.Frozenset.updateFrom;generalize hPI:pyIter=PI
    wp_walk
    subst hPI;refine wpAny_pyIter_list hl1 ?_;refine Ko (wpAny_runValue ?_);have hlS:l<s.heap.objs.size:=KG hol;have hh3:A.in1.in1.in1.handled=none:=by simp[hh]
    have hneI:l≠(s.heap.push { cls:=.type "set",dict:=none,data:=.set #[] 0 (.fresh 0 0 led) }).objs.size:=by
     rw[Heap.size_push];exact KR (Nat.lt_succ_of_lt hlS)
    have hSf:s.heap.objs.size∉[(s.heap.push { cls:=.type "set",dict:=none,data:=.set #[] 0 (.fresh 0 0 led) }).objs.size,l]:=by
     rw[Heap.size_push];simp only[KQ,mem_singleton,List.not_mem_nil,or_false,not_or];exact ⟨KR (Nat.lt_succ_self _),Nat.ne_of_gt hlS⟩
    refine Br (knd:=knd) ((Walks.list hh3 _ l hneI items).toS) s.heap.objs.size hSf ?hU val hb ?hNo (items.size - 0) 0 _ (by lia) (Lc _)
     ⟨⟨_,KZ _ rfl,rfl,rfl⟩,(hl1.push _)⟩ (yW _ _ led (Kv _ hS)) ?hK ?hR
    case hU=>show A.units+1+1+1<cLine;lia
    case hNo =>
     intro s' i' _ hst kk b x hm;obtain ⟨o,its,m,ho,hc,hd,_⟩:=x;rw[mem_singleton] at hm;subst hm;obtain ⟨⟨o2,e1,e2,e3⟩,_⟩:=hst;rw[ho] at e1;cases e1;rw[hc] at e2;exact absurd e2 (by decide)
    case hK =>
     intro j v _ _ hv;obtain ⟨b,rfl,hb'⟩:=hi j v hv;have hlt:b<s.heap.objs.size:=by obtain ⟨o,_,_,ho,_⟩:=hb';exact KG ho
     refine ⟨b,rfl,?_,KR hlt,nN hb' λo ho=>Kv _ (Kv _ ho)⟩;rw[mem_singleton,Heap.size_push];exact KR (Nat.lt_succ_of_lt hlt)
    case hR =>
     intro s' hm hS';obtain ⟨h',g',d',tk',os'⟩:=s';have eg:g'=s.gens:=hm.gens;have ed:d'=s.drawn:=hm.drawn;have eo:os'=s.os:=hm.os;subst eg;subst ed;subst eo;show wpAny _ _ _ _ _ _;refine Kq ?_;show wpAny _ _ (ret Value.none) _ _ _;refine Kq ⟨rfl,h',tk',rfl,hS',λb o hb e=>?_⟩;have hb1:b≠s.heap.objs.size:=KR hb;have hb2:b≠(s.heap.push { cls:=.type "set",dict:=none,data:=.set #[] 0 (.fresh 0 0 led) }).objs.size:=by
      rw[Heap.size_push];exact KR (Nat.lt_succ_of_lt hb)
     exact hm.heap b o (by simp only[KQ,mem_singleton,List.not_mem_nil,or_false,not_or];exact ⟨hb1,hb2⟩) (Kv _ (Kv _ e))
   .cases r₂ with
    | error e=>exact hr₂
    | ok fl₂ =>
     cases fl₂ with
     | ret r =>
      obtain ⟨rfl,h',tk,rfl,hS',hk'⟩:=hr₂;repeat (any_goals (first | assumption | wp_step))
      exact h _ _ hS' hk'
     | _=>exact hr₂.elim
  | _=>exact hr.elim
theorem vx {a:Addr}{ks:List (List K)}{Q:Kn->Kp->Prop}(x:jv knd s.heap a ks)(hz:ks.length<=9995)(h:∀t tk,Q (.int ks.length t) { s with toks:=tk }):wpAny (model prog w) A (call (.builtin "len") [.ref a]) Q E s:=by
 obtain ⟨o,es,ep,t,T⟩:=x;have e:=T.num;refine call_len_set T.obj T.D1 T.dat T.fits ?_ ?_
 .rw[<-e];have:(2:Int) ^ 63=9223372036854775808:=by decide
  lia
 .rw[<-e];exact h _ _
end
end WS
namespace WS
theorem qg {α β:Type}[DecidableEq α][DecidableEq β](f:α->β)(hf:∀x y,f x=f y->x=y)(val:Nat->α):∀i,bD (λj=>f (val j)) i=(bD val i).map f
 | 0=>rfl
 | i+1=>by
  have e:(f (val i)∈(bD val i).map f)↔val i∈bD val i:=by
   rw[KJ];exact ⟨λ⟨y,h1,h2⟩=>hf _ _ h2 ▸ h1,λh=>⟨_,h,rfl⟩⟩
  rw[bD,bD,qg f hf val i];by_cases c:val i∈bD val i
  .rw[if_pos c,if_pos (e.mpr c)]
  .rw[if_neg c,if_neg (λz=>c (e.mp z)),K3]
theorem ma {α:Type}[DecidableEq α]{f g:Nat->α}:∀n,(∀i,i<n->f i=g i)->bD f n=bD g n
 | 0,_=>rfl
 | n+1,h=>by
  rw[bD,bD,ma n λi hi=>h i (by lia),h n (by lia)]
noncomputable def dist {α:Type}[DecidableEq α][Inhabited α](xs:List α):Nat:=(bD (λi=>xs.getD i default) xs.length).length
end WS
namespace L2
open PySem PySem.Spec PyProof.Rows
section
variable {X:Cx} {l:Expr} {p pos p2 pos2:Pos} {ta:TA}
noncomputable def Dw (K:Frag)(t:TA):TE:=λσ H Q=>t σ H λvs H1=>∃a xs kss,vs = [.ref a]/\H1 a=some (.lst xs)/\Paired (λv ks=>∃b,v=V.ref b/\gM K H1 b (ks.map kV)) xs kss/\xs.length<=9995/\Q (.int (WS.bD (λi=>kss.getD i []) kss.length).length) H1
theorem yI {n:Nat}(hr:cH n X.A)(hc:X.calm=true)(hg:Gl X "len")(hm:X.mg "len" = none)(hgl:Gl X "set")(hml:X.mg "set" = none)(ha:PA X [l] ta)(hs:autoParam (starEach [l] X.env = [(false,eval l X.env)]) aZa._auto_1)
  (he:autoParam (starEach [.Call (.Name "set" p2) [l] [] pos2] X.env = [(false,eval (.Call (.Name "set" p2) [l] [] pos2) X.env)]) aZa._auto_1) :
  PE X (.Call (.Name "len" p) [.Call (.Name "set" p2) [l] [] pos2] [] pos) (Dw X.K ta):=by
 intro pins s σ H Q I h;refine wpAny_Call_Name_kw (gZ I hg hm PySem.boot_len ?_ (by decide) (by decide));refine PyProof.Rows.callWith_builtin1 ?_ he rfl;rw[he];show wpAny _ _ (spliced [(false,eval (.Call (.Name "set" p2) [l] [] pos2) X.env)]) _ _ s;refine Calls.spliced_cons ?_;refine Call_ (gZ I hgl hml boot_set (PyProof.Rows.callWith_type1 (bU (ha pos2 pins s σ H _ I h) ?_) hs rfl));rintro us s1 ⟨vs,H1,I1,r1,q1⟩;obtain ⟨a,xs,kss,rfl,hx,pr,hz,q⟩:=q1;obtain ⟨u,rfl,ru⟩:=vals1 r1;cases ru;obtain ⟨zx,its,m,rv,hl⟩:=I1.bG a _ hx;have hlen:=rv.length;have hlk:=Paired.length pr;refine WS.ml (knd:=bC X.prog X.w) (items:=its.toArray) (λi=>kss.getD i []) (I1.ok.hd hc) (by have:=hr.units;lia) ⟨_,hl,rfl,m,rfl⟩ (λj v hv=>?_) (by rw[KN];lia) λh' tk hS hk=>?_
 .rw[List.getElem?_toArray] at hv;have hjt:j<its.length:=(Kw.mp hv).1;have e1:=Kt (l:=xs) (i:=j) (by lia);have e2:=Kt (l:=kss) (i:=j) (by lia);obtain ⟨b,eb,hb⟩:=DL.gC pr j _ _ e1 e2;have rb:=DL.gC rv j _ _ e1 hv;rw[eb] at rb;cases rb;refine ⟨b,rfl,?_⟩;have:=jG I1 hb;rw[show kss.getD j []=kss[j]'(by lia) by rw[getD_eq_getElem?_getD,e2];rfl];exact this
 .refine Calls.spliced_nil ?_;rw[show its.toArray.size=kss.length by rw[KN];lia] at hS;have hle:=WS.iU (λi=>kss.getD i []) kss.length;refine WS.vx (s:={ s1 with heap:=h',toks:=tk }) hS (by lia) λt tk'=>?_;exact ⟨.int _,H1,I1.kept (t':=tk') λb o e=>hk b o (KG e) e,⟨t,rfl⟩,q⟩
end
end L2
namespace DL
open PySem L2
section
variable {X:Cx} {l:Expr} {p pos p2 pos2:Pos} {t:ff}
noncomputable def tupI (ns:List Int):D:=.tup (ns.map D.int)
noncomputable def qC (t:ff):DT:=λρ Q=>t ρ λds=>match ds with
 | [.lst xs]=>∃nss:List (List Int),xs=nss.map tupI/\nss.length<=9995/\Q (.p (.int (WS.dist nss)))
 | _=>False
theorem AF (ns:List Int):(ns.map (Sum.inl:Int->Key)).map kV=ns.map V.int:=by
 rw[map_map];rfl
theorem uI {K:Frag}{G:Hp}:∀{nss:List (List Int)} {us:List V},bf K G us (nss.map tupI)->Paired (λv ks=>∃b,v=V.ref b/\gM K G b (ks.map kV)) us (nss.map λns=>ns.map (Sum.inl:Int->Key))
 | [],_,h=>by cases h;exact .nil
 | ns::nss,_,h=>by
  cases h with
  | cons h t =>
   refine .cons ?_ (uI t);obtain ⟨b,vs,rfl,e,rr⟩:=Rep.cB (show Rep K G _ (.tup (ns.map D.int)) from h);rw[fx rr] at e;exact ⟨b,rfl,by rw[AF];exact e⟩
theorem pI {n:Nat}(hr:cH n X.A)(hc:X.calm=true)(hg:Gl X "len")(hm:X.mg "len" = none)(hgl:Gl X "set")(hml:X.mg "set" = none)(ha:DA X [l] t)(hs:autoParam (starEach [l] X.env = [(false,eval l X.env)]) aZa._auto_1)
  (he:autoParam (starEach [.Call (.Name "set" p2) [l] [] pos2] X.env = [(false,eval (.Call (.Name "set" p2) [l] [] pos2) X.env)]) aZa._auto_1) :
  DE X (.Call (.Name "len" p) [.Call (.Name "set" p2) [l] [] pos2] [] pos) (qC t):=
 DE.of (yI hr hc hg hm hgl hml ha.pa hs he)<|by
  rintro σ H Q ⟨G,ρ,P,s,re,h,k⟩;refine ⟨G,ρ,_,s,re,h,λds vs H1 G1 p1 l1 w1 r1=>?_⟩;split at p1
  .obtain ⟨nss,rfl,hz,p1⟩:=p1;obtain ⟨v,rfl,rv⟩:=eZ r1;obtain ⟨a,us,rfl,e,rr⟩:=rv.lst_inv;have hl:=Paired.length rr;rw[Ks] at hl;refine ⟨a,us,nss.map λns=>ns.map (Sum.inl:Int->Key),rfl,w1.gh _ _ e,?_,by lia,?_⟩
   .exact Paired.imp' (by rintro v ks ⟨b,e1,e2⟩;exact ⟨b,e1,aq w1.gh e2⟩) (uI rr)
   .have en:(WS.bD (λi=>(nss.map λns=>ns.map (Sum.inl:Int->Key)).getD i []) (nss.map λns=>ns.map (Sum.inl:Int->Key)).length).length=WS.dist nss:=by
     unfold WS.dist;have hm:=WS.qg (λns:List Int=>ns.map (Sum.inl:Int->Key)) (λx y h=>(List.map_inj_right λa b h=>Sum.inl.inj h).mp h) (λi=>nss.getD i default) nss.length;have hm2:=congrArg List.length hm;rw[Ks] at hm2;rw[<-hm2,Ks];congr 1;refine WS.ma _ λi hi=>?_;rw[getD_eq_getElem?_getD,KS,Kt hi,getD_eq_getElem?_getD,Kt hi];rfl
    rw[en];exact k _ _ H1 G1 p1 w1 (.int _)
  .exact p1.elim
end
end DL
namespace DL
open PySem L2
noncomputable def zX:DR:=λds P=>match ds with
 | [.lst xs]=>P (.p (.tup xs))
 | _=>False
end DL
namespace PySem
open PyProof.Rows
section
variable {prog:KP} {w:K7} {A:K1} {E:Kn->Kp->Prop} {s:Kp} {l:Addr} {xs:Array (Int×Tok)}
theorem pV {Q:Kn->Kp->Prop}(hl:s.heap.IsTuple l (intItems xs))(h:∀s₂,s₂ = { s with heap:=s.heap.push { cls:=.type "tuple_iterator",data:=.fields #[.ref l,.int 0 0] } }->s₂.heap.IsTupleIter s.heap.objs.size l 0/\s₂.heap.IsTuple l (intItems xs)->(∀b∈[s.heap.objs.size,l],b<s₂.heap.objs.size)->l≠s.heap.objs.size->Q (.ref s.heap.objs.size) s₂):wpAny (model prog w) A (pyIter (.ref l)) Q E s:=by
 have hlt:l<s.heap.objs.size:=by obtain ⟨o,e,_⟩:=hl;exact KG e
 refine wpAny_pyIter_tuple hl (h _ rfl ⟨⟨_,KZ _ rfl,rfl,rfl⟩,hl.push _⟩ (λb hb=>?_) (KR hlt));show b<(s.heap.push _).objs.size;rw[Heap.size_push];rcases KQ.mp hb with rfl | hb
 .exact Nat.lt_succ_self _
 .rw[mem_singleton.mp hb];exact Nat.lt_succ_of_lt hlt
theorem ue {h':Heap}{o':Obj}(hk:∀b o,b∉[s.heap.objs.size]->(s.heap.push o').get? b=some o->h'.get? b=some o):∀b o,s.heap.get? b=some o->h'.get? b=some o:=λb o e =>
 hk b o (λhm=>KR (KG e) (mem_singleton.mp hm)) (Kv _ e)
theorem vA {Q:Kn->Kp->Prop}(hh:A.handled=none)(hl:s.heap.IsTuple l (intItems xs))(hne:0<xs.size)
  (h:∀v h' tk,(intItems xs)[argBest (λi j=>decide (numAt xs i>numAt xs j)) (xs.size - 1)]?=some v->(∀b o,s.heap.get? b=some o->h'.get? b=some o)->Q v { s with heap:=h',toks:=tk }) :
  wpAny (model prog w) A (call (.builtin "max") [.ref l]) Q E s:=by
 refine call_max_walk (pV hl λs₂ e st hfp hlI=>?_);subst e;refine ⟨_,_,_,_,_,_,_,rfl,Walks.tuple (A:=A.in1) hh _ l hlI (intItems xs),st,hfp,by simpa [intItems] using hne,CmpOf.ints_gt (numAt xs) (λ_ _=>intItems_at),λv h' tk hP hk=>?_⟩;exact h v h' tk (by simpa [intItems] using hP) (ue hk)
theorem vB {Q:Kn->Kp->Prop}(hh:A.handled=none)(hl:s.heap.IsTuple l (intItems xs))(hne:0<xs.size)
  (h:∀v h' tk,(intItems xs)[argBest (λi j=>decide (numAt xs i<numAt xs j)) (xs.size - 1)]?=some v->(∀b o,s.heap.get? b=some o->h'.get? b=some o)->Q v { s with heap:=h',toks:=tk }) :
  wpAny (model prog w) A (call (.builtin "min") [.ref l]) Q E s:=by
 refine call_min_walk (pV hl λs₂ e st hfp hlI=>?_);subst e;refine ⟨_,_,_,_,_,_,_,rfl,Walks.tuple (A:=A.in1) hh _ l hlI (intItems xs),st,hfp,by simpa [intItems] using hne,CmpOf.ints_lt (numAt xs) (λ_ _=>intItems_at),λv h' tk hP hk=>?_⟩;exact h v h' tk (by simpa [intItems] using hP) (ue hk)
end
end PySem
namespace L2
open PySem PySem.Spec PyProof.Rows
section
variable {X:Cx}
theorem x8 (hc:X.calm=true):fe X (.builtin "max") (λxs H Q=>∃(p:Addr) (ns:List Int),xs = [.ref p]/\gM X.K H p (ns.map V.int)/\ns≠[]/\∀m:Int,m∈ns->(∀n∈ns,n<=m)->Q (.int m) H):=by
 intro pins s σ H xs us Q I r h;obtain ⟨p,ns,rfl,hp,hne,q⟩:=h;obtain ⟨u,rfl,ru⟩:=vals1 r;cases ru;obtain ⟨its,rv,pl,hz⟩:=I.tuple hp;have hi:IntsAre its ns:=intsAre_of rv;obtain ⟨zs,e⟩:=hi.allInts.items;have e3:zs.toList.map (·.1)=ns:=by rw[<-nums_intItems,<-e];exact hi.numsOf
 have hsz:0<zs.size:=by
  have:ns.length=zs.size:=by rw[<-e3];simp
  have:ns.length≠0:=λz=>hne (length_eq_zero_iff.mp z);lia
 refine vA (I.ok.hd hc) (xs:=zs) (e ▸ pl) hsz λv h' tk hv hk=>?_;obtain ⟨⟨t,rfl⟩,hm⟩:=vV hv;refine ⟨.int _,H,I.kept hk,⟨t,rfl⟩,q _ (e3 ▸ hm) λn hn=>?_⟩;obtain ⟨j,hj,ej⟩:=nR (e3 ▸ hn);rw[<-ej];exact (argBest_gt (numAt zs) (zs.size - 1)).2 j hj
theorem ya (hc:X.calm=true):fe X (.builtin "min") (λxs H Q=>∃(p:Addr) (ns:List Int),xs = [.ref p]/\gM X.K H p (ns.map V.int)/\ns≠[]/\∀m:Int,m∈ns->(∀n∈ns,m<=n)->Q (.int m) H):=by
 intro pins s σ H xs us Q I r h;obtain ⟨p,ns,rfl,hp,hne,q⟩:=h;obtain ⟨u,rfl,ru⟩:=vals1 r;cases ru;obtain ⟨its,rv,pl,hz⟩:=I.tuple hp;have hi:IntsAre its ns:=intsAre_of rv;obtain ⟨zs,e⟩:=hi.allInts.items;have e3:zs.toList.map (·.1)=ns:=by rw[<-nums_intItems,<-e];exact hi.numsOf
 have hsz:0<zs.size:=by
  have:ns.length=zs.size:=by rw[<-e3];simp
  have:ns.length≠0:=λz=>hne (length_eq_zero_iff.mp z);lia
 refine vB (I.ok.hd hc) (xs:=zs) (e ▸ pl) hsz λv h' tk hv hk=>?_;obtain ⟨⟨t,rfl⟩,hm⟩:=vV hv;refine ⟨.int _,H,I.kept hk,⟨t,rfl⟩,q _ (e3 ▸ hm) λn hn=>?_⟩;obtain ⟨j,hj,ej⟩:=nR (e3 ▸ hn);rw[<-ej];exact (argBest_lt (numAt zs) (zs.size - 1)).2 j hj
end
end L2
namespace DL
open PySem L2
noncomputable def DV:DR:=λds P=>match ds with
 | [.tup xs]=>∃ns:List Int,xs=ns.map D.int/\ns≠[]/\∀m,m∈ns->(∀n∈ns,n<=m)->P (.p (.int m))
 | _=>False
noncomputable def DX:DR:=λds P=>match ds with
 | [.tup xs]=>∃ns:List Int,xs=ns.map D.int/\ns≠[]/\∀m,m∈ns->(∀n∈ns,m<=n)->P (.p (.int m))
 | _=>False
theorem vY {X:Cx}(hc:X.calm=true):CallD X (.builtin "max") DV:=by
 refine ⟨_,x8 hc,λH G vs ds P Q s r h k=>?_⟩;unfold DV at h;split at h
 .obtain ⟨ns,rfl,hn,h⟩:=h;obtain ⟨v,rfl,rv⟩:=eZ r;obtain ⟨a,us,rfl,e,rr⟩:=rv.cB;rw[fx rr] at e;exact ⟨a,ns,rfl,aq s e,hn,λm h1 h2=>k _ _ H G (h m h1 h2) (Wd.refl s) (.int _)⟩
 .exact h.elim
theorem vZ {X:Cx}(hc:X.calm=true):CallD X (.builtin "min") DX:=by
 refine ⟨_,ya hc,λH G vs ds P Q s r h k=>?_⟩;unfold DX at h;split at h
 .obtain ⟨ns,rfl,hn,h⟩:=h;obtain ⟨v,rfl,rv⟩:=eZ r;obtain ⟨a,us,rfl,e,rr⟩:=rv.cB;rw[fx rr] at e;exact ⟨a,ns,rfl,aq s e,hn,λm h1 h2=>k _ _ H G (h m h1 h2) (Wd.refl s) (.int _)⟩
 .exact h.elim
end DL
namespace L2
open PySem PySem.Spec PyProof.Rows
section
variable {X:Cx} {tg:Expr}
end
end L2
namespace DL
open PySem L2
section
variable {X:Cx} {tg:Expr} {pos:Pos}
end
end DL
namespace WS
open DL
noncomputable abbrev K2:=Int×Int
noncomputable abbrev P5:=Int×Int×Int×Int×Int
noncomputable def Bt:K2:=(-1,-1)
noncomputable def gk (p:P5):K2:=(p.1,p.2.1)
noncomputable def dO (p:P5):K2:=(p.2.2.1,p.2.2.2.1)
noncomputable def ht (p:P5):Int:=p.2.2.2.2
noncomputable def k4 (p:P5):List Int:=[p.1,p.2.1,p.2.2.1,p.2.2.2.1]
noncomputable def d5 (p:P5):D:=.tup [.int p.1,.int p.2.1,.int p.2.2.1,.int p.2.2.2.1,.int p.2.2.2.2]
noncomputable def Keyed (kvs:bY):Prop:=(kvs.map (·.1)).Nodup
theorem kQ (k:K2):aO [] k=none:=rfl
theorem bQ (p:K2×Int)(r:bY)(k:K2):aO (p::r) k=if p.1=k then some p.2 else aO r k:=by
 unfold aO;rw[List.find?_cons];by_cases h:p.1=k
 .rw[if_pos h,decide_eq_true h];rfl
 .rw[if_neg h,decide_eq_false h]
theorem mf (a b:bY)(k:K2):aO (a++b) k=(aO a k).or (aO b k):=by
 induction a with
 | nil=>rfl
 | cons p r ih =>
  rw[List.cons_append,bQ,bQ,ih];split<;>rfl
theorem cq {kvs:bY}{k:K2}:aO kvs k=none↔k∉kvs.map (·.1):=by
 induction kvs with
 | nil=>simp[kQ]
 | cons p r ih =>
  rw[bQ,K3,KQ];by_cases h:p.1=k
  .rw[if_pos h];simp[h]
  .rw[if_neg h,ih];have:¬k=p.1:=λz=>h z.symm;simp[this]
theorem gJ {kvs:bY}(hk:Keyed kvs){k:K2}{v:Int}:aO kvs k=some v↔(k,v)∈kvs:=by
 induction kvs with
 | nil=>simp[kQ]
 | cons p r ih =>
  unfold Keyed at hk ih;rw[K3,nodup_cons] at hk;rw[bQ,KQ];by_cases h:p.1=k
  .rw[if_pos h];constructor
   .intro z;left;rw[<-h,<-Option.some.inj z]
   .rintro (z | z)
    .rw[<-z]
    .exact absurd (KJ.mpr ⟨_,z,rfl⟩) (by rw[<-h];exact hk.1)
  .rw[if_neg h,ih hk.2];constructor
   .exact .inr
   .rintro (z | z)
    .exact absurd (by rw[<-z]) h
    .exact z
theorem i7 {kvs:bY}{k:K2}:(kvs.any λp=>decide (p.1=k))=true↔k∈kvs.map (·.1):=by
 rw[List.any_eq_true,KJ];constructor
 .rintro ⟨p,h1,h2⟩;exact ⟨p,h1,by simpa using h2⟩
 .rintro ⟨p,h1,h2⟩;exact ⟨p,h1,by simpa using h2⟩
theorem AQ (kvs:bY)(k:K2)(v:Int):(kvs.map λp=>if p.1=k then (p.1,v) else p).map (·.1)=kvs.map (·.1):=by
 rw[map_map];refine map_congr_left λp _=>?_;show (if p.1=k then (p.1,v) else p).1=p.1;split<;>rfl
theorem gK (kvs:bY)(k k':K2)(v:Int):aO (putD kvs k v) k'=if k=k' then some v else aO kvs k':=by
  unfold putD;split
  · rename_i h;have hm:=i7.mp h;clear h;induction kvs with
    | nil=>cases hm
    | cons p r ih =>
      rw[K3,bQ,bQ];by_cases e:p.1=k
      · rw[if_pos e];show (if p.1=k' then some v else _)=_;rw[e];by_cases e':k=k'
        · rw[if_pos e',if_pos e']
        · rw[if_neg e',if_neg e',if_neg e'];by_cases hr:k∈r.map (·.1)
          · rw[ih hr,if_neg e']
          · congr 1;conv=>rhs;rw[<-List.map_id r]
            refine map_congr_left λq hq=>?_;rw[if_neg (λz=>hr (KJ.mpr ⟨q,hq,z⟩))];rfl
      · rw[if_neg e];have hm':k∈r.map (·.1):=by
          rw[K3,KQ] at hm;exact hm.resolve_left λz=>e z.symm
        rw[ih hm'];by_cases e':k=k'
        · rw[if_pos e',if_pos e',if_neg (λz=>e (z.trans e'.symm))]
        · rw[if_neg e',if_neg e']
  · rename_i h;have hm:k∉kvs.map (·.1):=λz=>h (i7.mpr z);rw[mf,bQ];by_cases e:k=k'
    · rw [if_pos e, if_pos e, cq.mpr (by rw [<- e];exact hm)];rfl
    · rw[if_neg e,if_neg e,kQ];cases aO kvs k'<;>rfl
theorem qb {kvs:bY}(h:Keyed kvs)(k:K2)(v:Int):Keyed (putD kvs k v):=by
 unfold putD;split
 .unfold Keyed;rw[AQ];exact h
 .rename_i hn;unfold Keyed;rw[KU,nodup_append];refine ⟨h,by simp,λa ha b hb=>?_⟩;simp only[K3,List.map_nil,mem_singleton] at hb;rw[hb];rintro rfl;exact hn (i7.mpr ha)
theorem xE (kvs:bY)(k:K2)(v:Int):(putD kvs k v).length<=kvs.length+1:=by
 unfold putD;split
 .rw[Ks];lia
 .rw[KA];exact Ku _
theorem ve {kvs:bY}(h:Keyed kvs)(k:K2):Keyed (j9 kvs k):=List.Nodup.sublist (List.Sublist.map _ filter_sublist) h
theorem qk (kvs:bY)(k k':K2):aO (j9 kvs k) k'=if k=k' then none else aO kvs k':=by
  unfold j9;induction kvs with
  | nil=>rw[List.filter_nil,kQ];split<;>rfl
  | cons p r ih =>
    rw[filter_cons];by_cases e:p.1=k
    · rw [if_neg (by simp [e]), ih, bQ];by_cases e':k=k'
      · rw[if_pos e',if_pos e']
      · rw[if_neg e',if_neg e',if_neg (λz=>e' (e.symm.trans z))]
    · rw [if_pos (by simp [e]), bQ, bQ, ih];by_cases e':k=k'
      · rw[if_pos e',if_pos e',if_neg (λz=>e (z.trans e'.symm))]
      · rw[if_neg e',if_neg e']
theorem same_iff {ka kb:bY}(ha:Keyed ka)(hb:Keyed kb):uB ka kb=true↔∀k,aO ka k=aO kb k:=by
 unfold uB;rw[La,beq_iff_eq,List.all_eq_true];constructor
 .rintro ⟨hl,h⟩ k;have sub:∀x∈ka.map (·.1),x∈kb.map (·.1):=λx hx=>by
   obtain ⟨p,hp,rfl⟩:=KJ.mp hx;have:=h p hp;rw[beq_iff_eq] at this;exact KJ.mpr ⟨_,(gJ hb).mp this,rfl⟩
  cases e:aO ka k with
  | some v =>
   have:=h _ ((gJ ha).mp e);rw[beq_iff_eq] at this;exact this.symm
  | none =>
   symm;rw[cq] at e ⊢;intro hk;have h2:=len_sub (k::ka.map (·.1)) (kb.map (·.1)) (nodup_cons.mpr ⟨e,show (ka.map (·.1)).Nodup from ha⟩) (λx hx=>by
    rcases KQ.mp hx with rfl | hx
    .exact hk
    .exact sub x hx)
   rw[K9,Ks,Ks] at h2;lia
 .intro h;have sub:∀{a b:bY},(∀k,aO a k=aO b k)->∀x∈a.map (·.1),x∈b.map (·.1):=λ{a b} h x hx=>by
   refine Classical.byContradiction λhn=>?_;have:=cq.mpr hn;rw[<-h x] at this;exact cq.mp this hx
  have l1:=len_sub _ _ ha (sub h);have l2:=len_sub _ _ hb (sub λk=>(h k).symm);rw[Ks,Ks] at l1 l2;refine ⟨by lia,λp hp=>?_⟩;rw[beq_iff_eq,<-h];exact (gJ ha).mpr hp
noncomputable abbrev Q2:=K2×Int
noncomputable def aX (k:K2)(qs:List Q2):Int:=((qs.filter λq=>decide (q.1=k)).map (·.2)).sum
noncomputable def gH (k:K2)(qs:List Q2):Option Int:=if k∈qs.map (·.1) then some (aX k qs) else none
theorem bu (k:K2)(a b:List Q2):aX k (a++b)=aX k a+aX k b:=by
 unfold aX;rw[filter_append,KU,sum_append]
theorem iX {k:K2}{qs:List Q2}(h:k∉qs.map (·.1)):aX k qs=0:=by
 unfold aX;rw[List.filter_eq_nil_iff.mpr λq hq=>by
  rw[decide_eq_true_eq];exact λe=>h (KJ.mpr ⟨q,hq,e⟩)]
 rfl
theorem jn (k:K2)(qs:List Q2):(gH k qs).getD 0=aX k qs:=by
 unfold gH;split
 .rfl
 .rename_i h;rw[iX h];rfl
noncomputable def ij (qs:List Q2):bY:=qs.foldl (λkv q=>putD kv q.1 ((aO kv q.1).getD 0+q.2)) []
theorem kZ (qs:List Q2)(q:Q2):ij (qs++[q])=putD (ij qs) q.1 ((aO (ij qs) q.1).getD 0+q.2):=by
 unfold ij;rw[List.foldl_append];rfl
theorem gI (k:K2)(q:Q2):aX k [q]=if q.1=k then q.2 else 0:=by
  unfold aX;by_cases h:q.1=k
  · rw [if_pos h, filter_cons, if_pos (by simpa using h)];simp
  · rw [if_neg h, filter_cons, if_neg (by simpa using h)];rfl
theorem i6:∀qs:List Q2,Keyed (ij qs)/\(ij qs).length<=qs.length/\∀k,aO (ij qs) k=gH k qs:=by
 intro qs;generalize hn:qs.length=n;induction n generalizing qs with
 | zero =>
  obtain rfl:=length_eq_zero_iff.mp hn;exact ⟨.nil,Ku _,λk=>rfl⟩
 | succ n ih =>
  obtain ⟨ini,q,rfl⟩ : ∃ini q,qs=ini++[q]:=by
   rcases eq_nil_or_concat qs with h | ⟨l,b,h⟩
   .rw[h] at hn;cases hn
   .exact ⟨l,b,by rw[h,concat_eq_append]⟩
  have hl:ini.length=n:=by rw[KA] at hn;simp at hn;exact hn
  obtain ⟨h1,h2,h3⟩:=ih ini hl;rw[kZ];refine ⟨qb h1 _ _,by have:=xE (ij ini) q.1 ((aO (ij ini) q.1).getD 0+q.2);lia,λk=>?_⟩;rw[gK,h3,jn,h3];unfold gH;rw[KU];by_cases e:q.1=k
  .rw[if_pos e,if_pos (by rw[<-e];simp),bu,gI,if_pos e,e]
  .rw[if_neg e,bu,gI,if_neg e];have:(k∈ini.map (·.1)++[q].map (·.1))↔k∈ini.map (·.1):=by
    rw[Lf];exact ⟨λz=>z.resolve_right (by simp;exact λz=>e z.symm),.inl⟩
   by_cases hk:k∈ini.map (·.1)
   .rw[if_pos hk,if_pos (this.mpr hk)];congr 1;lia
   .rw[if_neg hk,if_neg (λz=>hk (this.mp z))]
noncomputable def cu (s:S3):Int:=min s.1 s.2.1
noncomputable def eA (s:S3):Int:=max s.1 s.2.1
noncomputable def strAt (ss:List S3)(n:Int):Option S3:=if 0<=n then ss[n.toNat]? else none
noncomputable def av (ss:List S3)(k:K2):Option Int:=match strAt ss k.1 with
 | some s=>if 0<s.2.2/\cu s<=k.2/\k.2<eA s then some s.2.2 else none
 | none=>none
theorem lF (ss:List S3):av ss Bt=none:=rfl
theorem fy {α:Type}[DecidableEq α](val:Nat->α):∀n x,x∈bD val n↔∃i,i<n/\val i=x
 | 0,x=>⟨λz=>(nomatch z),by rintro ⟨_,z,_⟩;exact absurd z (Nat.not_lt_zero _)⟩
 | n+1,x=>by
  rw[bD];constructor
  .intro h;by_cases c:val n∈bD val n
   .rw[if_pos c] at h;obtain ⟨i,hi,e⟩:=(fy val n x).mp h;exact ⟨i,by lia,e⟩
   .rw[if_neg c,KQ] at h;rcases h with rfl | h
    .exact ⟨n,by lia,rfl⟩
    .obtain ⟨i,hi,e⟩:=(fy val n x).mp h;exact ⟨i,by lia,e⟩
  .rintro ⟨i,hi,rfl⟩;by_cases c:val n∈bD val n
   .rw[if_pos c];by_cases e:i=n
    .subst e;exact c
    .exact (fy val n _).mpr ⟨i,by lia,rfl⟩
   .rw[if_neg c,KQ];by_cases e:i=n
    .subst e;exact .inl rfl
    .exact .inr ((fy val n _).mpr ⟨i,by lia,rfl⟩)
theorem Cj {α:Type}[DecidableEq α][Inhabited α](xs:List α):dist xs<=xs.length:=iU _ _
theorem jR {α:Type}[DecidableEq α](val:Nat->α):∀n,(bD val n).length=n↔∀i j,i<j->j<n->val i≠val j
 | 0=>⟨λ_ i j _ h=>absurd h (Nat.not_lt_zero _),λ_=>rfl⟩
 | n+1=>by
  have hle:=iU val n;rw[bD];constructor
  .intro h i j hij hj e;by_cases c:val n∈bD val n
   .rw[if_pos c] at h;lia
   .rw[if_neg c,K9] at h;by_cases ej:j=n
    .subst ej;exact c ((fy val j _).mpr ⟨i,hij,e⟩)
    .exact (jR val n).mp (by lia) i j hij (by lia) e
  .intro h;have c:val n∉bD val n:=λz=>by
    obtain ⟨i,hi,e⟩:=(fy val n _).mp z;exact h i n hi (by lia) e
   rw[if_neg c,K9,(jR val n).mpr λi j hij hj=>h i j hij (by lia)]
theorem pL {α:Type}[DecidableEq α][Inhabited α](xs:List α):dist xs=xs.length↔xs.Nodup:=by
 unfold dist;rw[jR];show _↔xs.Pairwise (·≠·);rw[pairwise_iff_getElem];constructor
 .intro h i j hi hj hij;have:=h i j hij hj;rw[getD_eq_getElem?_getD,getD_eq_getElem?_getD,Kt hi,Kt hj] at this;exact this
 .intro h i j hij hj;have hi:i<xs.length:=by lia
  rw[getD_eq_getElem?_getD,getD_eq_getElem?_getD,Kt hi,Kt hj];exact h i j hi hj hij
noncomputable def jt (g:Int)(p:P5):Bool:=decide (1<=ht p) && (if gk p=Bt\/dO p=Bt then decide (gk p≠dO p) else decide (p.2.1>=p.2.2.2.1+g))
noncomputable def gq (ps:List P5):List Q2:=ps.map λp=>(gk p,ht p)
noncomputable def tq (ps:List P5):List Q2:=ps.map λp=>(dO p,ht p)
structure Looks (g:Int)(hs cs:List S3)(ps:List P5):Prop where
 may:∀p∈ps,jt g p=true
 eV:(ps.map k4).Nodup
 oG:∀k,k≠Bt->gH k (gq ps)=av hs k
 oA:∀k,k≠Bt->gH k (tq ps)=av cs k
theorem gY {α:Type}{xs:List α}{e:α->D}(he:∀x y,e x=e y->x=y){g:Tg}{te:DT}{ρ:ax}{Q:B->Prop}(f:α->D)(hz:xs.length<=1000000)(h:∀x∈xs,g.d (e x) ρ λρ'=>te ρ' λb=>some b.val=some (f x))(q:Q (.o (.lst (xs.map f)))):Fg (xs.map e) g gd te ρ Q:=by
 classical
 refine CM (λd=>if h:∃x,e x=d then f h.choose else .non) f (λx _=>?_) hz h q;have hx:∃y,e y=e x:=⟨x,rfl⟩
 show (if h:∃y,e y=e x then f h.choose else .non)=f x;rw[dif_pos hx,he _ _ hx.choose_spec]
theorem jd {α:Type}{xs:List α}{e:α->D}(he:∀x y,e x=e y->x=y){g:Tg}{tc:ig}{te:DT}{ρ:ax}{Q:B->Prop}(f:α->Option D)(hz:xs.length<=1000000)(h:∀x∈xs,g.d (e x) ρ λρ'=>tc ρ' λc=>(c=true->te ρ' λb=>some b.val=f x)/\(c=false->none=f x))(q:Q (.o (.lst (xs.filterMap f)))) :
  Fg (xs.map e) g tc te ρ Q:=by
 classical
 refine CL (λd=>if h:∃x,e x=d then f h.choose else none) f (λx _=>?_) hz h q;have hx:∃y,e y=e x:=⟨x,rfl⟩
 show (if h:∃y,e y=e x then f h.choose else none)=f x;rw[dif_pos hx,he _ _ hx.choose_spec]
theorem fV (p q:P5)(h:d5 p=d5 q):p=q:=by
 obtain ⟨a,b,c,d,e⟩:=p;obtain ⟨a',b',c',d',e'⟩:=q;unfold d5 at h;simp only[D.tup.injEq,List.cons.injEq,D.int.injEq,and_true] at h;obtain ⟨rfl,rfl,rfl,rfl,rfl⟩:=h;rfl
theorem uh (a b c d:Int):bI (.tup [.int a,.int b]) (.tup [.int c,.int d])=decide (a=c/\b=d):=by
 simp only[bI,jK];rw[Bool.and_true,Bool.eq_iff_iff,La];simp
theorem q8 {a b c d:Int}{Q:B->Prop}(h:Q (.p (.bl (!decide (a=c/\b=d))))):Gp (.tup [.int a,.int b]) (.tup [.int c,.int d]) Q:=by
 refine ⟨⟨by simp only[kF,eF,dm,jg,Bool.and_true],by simp only[kF,eF,dm,jg,Bool.and_true],by simp only[qH,gf,iB,mM];decide⟩,?_⟩;rw[uh];exact h
theorem wL {a b c d:Int}{Q:B->Prop}(h:Q (.p (.bl (decide (a=c/\b=d))))):IW (.tup [.int a,.int b]) (.tup [.int c,.int d]) Q:=by
 refine ⟨⟨by simp only[kF,eF,dm,jg,Bool.and_true],by simp only[kF,eF,dm,jg,Bool.and_true],by simp only[qH,gf,iB,mM];decide⟩,?_⟩;rw[uh];exact h
theorem vP (ss:List S3)(s:S3)(n:Int):strAt (ss++[s]) n=if n=(ss.length:Int) then some s else strAt ss n:=by
 unfold strAt;by_cases h:0<=n
 .rw[if_pos h,if_pos h];by_cases e:n=(ss.length:Int)
  .rw[if_pos e,e,Int.toNat_natCast,List.getElem?_append_right (Ku _)];simp
  .rw[if_neg e];by_cases h2:n.toNat<ss.length
   .rw[List.getElem?_append_left h2]
   .rw[List.getElem?_append_right (by lia),List.getElem?_eq_none (by simp;lia),List.getElem?_eq_none (by lia)]
 .rw[if_neg h,if_neg h,if_neg (by lia)]
theorem iS (ss:List S3)(s:S3)(k:K2):av (ss++[s]) k=if k.1=(ss.length:Int) then (if 0<s.2.2/\cu s<=k.2/\k.2<eA s then some s.2.2 else none) else av ss k:=by
 unfold av;rw[vP];by_cases e:k.1=(ss.length:Int)
 .rw[if_pos e,if_pos e]
 .rw[if_neg e,if_neg e]
theorem jP {ss:List S3}{k:K2}(h:k.1=(ss.length:Int)):av ss k=none:=by
 unfold av strAt;rw[if_pos (by lia),List.getElem?_eq_none (by lia)]
end WS
namespace WS
open DL
noncomputable def cD (ss:List S3)(k:K2):Bool:=match strAt ss k.1 with
 | some s=>decide (cu s<=k.2/\k.2<eA s)
 | none=>false
noncomputable def lW (g:Int)(hs cs:List S3)(p:P5):Bool:=
 decide (1<=ht p) && (if gk p=Bt then cD cs (dO p) else (cD hs (gk p) && (decide (dO p=Bt) || (cD cs (dO p) && decide (p.2.1 - p.2.2.2.1>=g)))))
noncomputable def qq (ss:List S3)(qs:List Q2):Prop:=∀(i:Nat) s,ss[i]?=some s->∀d,cu s<=d->d<eA s->aX ((i:Int),d) qs=s.2.2
noncomputable def Pos (ss:List S3):Prop:=∀s∈ss,0<s.2.2
theorem cz {ss:List S3}{n:Int}{s:S3}(h:strAt ss n=some s):0<=n/\ss[n.toNat]?=some s/\s∈ss:=by
 unfold strAt at h;split at h
 .exact ⟨by assumption,h,KC h⟩
 .cases h
theorem lL {ss:List S3}(hp:Pos ss){k:K2}:cD ss k=true↔(av ss k).isSome=true:=by
 unfold cD av;cases e:strAt ss k.1 with
 | none=>simp
 | some s =>
  have:=hp s (cz e).2.2;dsimp only;rw[decide_eq_true_eq];constructor
  .intro h;rw[if_pos ⟨this,h⟩];rfl
  .intro h;split at h
   .rename_i z;exact z.2
   .cases h
theorem cU {ss:List S3}{k:K2}{r:Int}(h:av ss k=some r):∃s,strAt ss k.1=some s/\0<s.2.2/\cu s<=k.2/\k.2<eA s/\r=s.2.2:=by
 unfold av at h;cases e:strAt ss k.1 with
 | none=>rw[e] at h;cases h
 | some s =>
  rw[e] at h;dsimp only at h;split at h
  .rename_i z;exact ⟨s,rfl,z.1,z.2.1,z.2.2,(Option.some.inj h).symm⟩
  .cases h
theorem Dr {ss:List S3}(hp:Pos ss){i:Nat}{s:S3}{d:Int}(e:ss[i]?=some s)(h1:cu s<=d)(h2:d<eA s):av ss ((i:Int),d)=some s.2.2:=by
 unfold av strAt;rw[if_pos (by lia)];dsimp only;rw[Int.toNat_natCast,e];dsimp only;rw[if_pos ⟨hp s (KC e),h1,h2⟩]
theorem uH {ss:List S3}{k:K2}(h:k.1<0):cD ss k=false:=by
 unfold cD strAt;rw[if_neg (by lia)]
theorem bt (k:K2)(q:Q2)(qs:List Q2):aX k (q::qs)=(if q.1=k then q.2 else 0)+aX k qs:=by
 rw[<-List.singleton_append,bu,gI]
theorem zc {k:K2}{a b:List Q2}(h:a.Perm b):aX k a=aX k b:=by
 induction h with
 | nil=>rfl
 | cons x _ ih=>rw[bt,bt,ih]
 | swap x y l=>rw[bt,bt,bt,bt];lia
 | trans _ _ h1 h2=>rw[h1,h2]
theorem qj {k:K2}{a b:List Q2}(h:a.Perm b):gH k a=gH k b:=by
 unfold gH;rw[zc h];by_cases c:k∈b.map (·.1)
 .rw[if_pos c,if_pos ((h.map _).mem_iff.mpr c)]
 .rw[if_neg c,if_neg (λz=>c ((h.map _).mem_iff.mp z))]
theorem Looks.perm {g:Int}{hs cs:List S3}{a b:List P5}(L:Looks g hs cs a)(h:b.Perm a):Looks g hs cs b where
 may:=λp hp=>L.may p (h.mem_iff.mp hp)
 eV:=((h.map k4).nodup_iff).mpr L.eV
 oG:=λk hk=>by rw[<-L.oG k hk];exact qj (h.map _)
 oA:=λk hk=>by rw[<-L.oA k hk];exact qj (h.map _)
theorem oC (f:P5->K2){k:K2}{ps:List P5}{t:P5->Bool}(h:∀p∈ps,f p=k->t p=true):aX k ((ps.filter t).map λp=>(f p,ht p))=aX k (ps.map λp=>(f p,ht p)):=by
 induction ps with
 | nil=>rfl
 | cons p ps ih =>
  have ih:=ih λp hp=>h p (.tail _ hp);rw[filter_cons];by_cases c:t p=true
  .rw[if_pos c,K3,K3,bt,bt,ih]
  .rw[if_neg c,K3,bt,if_neg (λz=>c (h p (.head _) z)),ih];lia
theorem qT {f:P5->K2}{p:P5}{ps:List P5}(h:p∈ps):f p∈(ps.map λp=>(f p,ht p)).map (·.1):=KJ.mpr ⟨_,KJ.mpr ⟨p,h,rfl⟩,rfl⟩
theorem yB {g:Int}{hs cs:List S3}(hh:Pos hs)(hc:Pos cs)(ps:List P5) :
  Looks g hs cs ps↔((∀p∈ps,lW g hs cs p=true)/\(ps.map k4).Nodup/\qq cs (tq (ps.filter λp=>decide (p.2.2.1 ≠ -1)))/\qq hs (gq (ps.filter λp=>decide (p.1 ≠ -1)))):=by
 have fT:∀(i:Nat) (d:Int),aX ((i:Int),d) (tq (ps.filter λp=>decide (p.2.2.1 ≠ -1)))=aX ((i:Int),d) (tq ps):=λi d=>oC dO λp _ e=>by
  have:=congrArg Prod.fst e;rw[decide_eq_true_eq];show (dO p).1 ≠ -1;rw[this];show (i:Int) ≠ -1;lia
 have fG:∀(i:Nat) (d:Int),aX ((i:Int),d) (gq (ps.filter λp=>decide (p.1 ≠ -1)))=aX ((i:Int),d) (gq ps):=λi d=>oC gk λp _ e=>by
  have:=congrArg Prod.fst e;rw[decide_eq_true_eq];show (gk p).1 ≠ -1;rw[this];show (i:Int) ≠ -1;lia
 constructor
 .intro L;have stG:∀p∈ps,gk p≠Bt->cD hs (gk p)=true:=λp hp hne=>by
   rw[lL hh,<-L.oG _ hne];unfold gH gq;rw[if_pos (qT hp)];rfl
  have stT:∀p∈ps,dO p≠Bt->cD cs (dO p)=true:=λp hp hne=>by
   rw[lL hc,<-L.oA _ hne];unfold gH tq;rw[if_pos (qT hp)];rfl
  have sm:∀{ss:List S3} {qs:List Q2},Pos ss->(∀k,k≠Bt->gH k qs=av ss k)->∀(i:Nat) s,ss[i]?=some s->∀d,cu s<=d->d<eA s->aX ((i:Int),d) qs=s.2.2:=λ{ss qs} hp h i s e d h1 h2=>by
   have h3:=h ((i:Int),d) (λz=>by have:=congrArg Prod.fst z;have:(i:Int) = -1:=this;lia);rw[Dr hp e h1 h2] at h3;unfold gH at h3;split at h3
   .exact Option.some.inj h3
   .cases h3
  refine ⟨λp hp=>?_,L.eV,λi s e d h1 h2=>?_,λi s e d h1 h2=>?_⟩
  .have hm:=L.may p hp;unfold jt at hm;rw[La,decide_eq_true_eq] at hm;obtain ⟨m1,m2⟩:=hm;unfold lW;rw[decide_eq_true m1,Bool.true_and];by_cases c:gk p=Bt
   .rw[if_pos c];rw[if_pos (.inl c),decide_eq_true_eq] at m2;exact stT p hp λz=>m2 (c.trans z.symm)
   .rw[if_neg c,stG p hp c,Bool.true_and];by_cases c2:dO p=Bt
    .rw[decide_eq_true c2,Bool.true_or]
    .rw[if_neg (λz=>z.elim c c2),decide_eq_true_eq] at m2;rw[stT p hp c2,decide_eq_false c2,Bool.false_or,Bool.true_and,decide_eq_true_eq];lia
  .rw[fT];exact sm hc L.oA i s e d h1 h2
  .rw[fG];exact sm hh L.oG i s e d h1 h2
 .rintro ⟨go,eV,sT,sG⟩;have rd:∀(f:P5->K2) {ss:List S3},Pos ss->(∀p∈ps,f p≠Bt->cD ss (f p)=true)->(∀(i:Nat) s,ss[i]?=some s->∀d,cu s<=d->d<eA s->aX ((i:Int),d) (ps.map λp=>(f p,ht p))=s.2.2)->∀k,k≠Bt->gH k (ps.map λp=>(f p,ht p))=av ss k:=λf ss hp st sm k hk=>by
   unfold gH;split
   .rename_i hm;obtain ⟨q,hq,eq⟩:=KJ.mp hm;obtain ⟨p,hpp,rfl⟩:=KJ.mp hq;dsimp only at eq;have h1:=(lL hp).mp (st p hpp (by rw[eq];exact hk));rw[eq] at h1;obtain ⟨r,hr⟩:=Option.isSome_iff_exists.mp h1;obtain ⟨s,e1,_,e2,e3,e4⟩:=cU hr;obtain ⟨z0,z1,_⟩:=cz e1;rw[hr,e4];have:=sm k.1.toNat s z1 k.2 e2 e3;rw[Int.toNat_of_nonneg z0] at this;rw[show k=(k.1,k.2) from rfl,this]
   .rename_i hm;cases hr:av ss k with
    | none=>rfl
    | some r =>
     obtain ⟨s,e1,e0,e2,e3,e4⟩:=cU hr;obtain ⟨z0,z1,_⟩:=cz e1;have:=sm k.1.toNat s z1 k.2 e2 e3;rw[Int.toNat_of_nonneg z0,iX hm] at this;lia
  have gp:∀p∈ps,1<=ht p/\(gk p=Bt->cD cs (dO p)=true)/\(gk p≠Bt->cD hs (gk p)=true/\(dO p≠Bt->cD cs (dO p)=true/\p.2.1 - p.2.2.2.1>=g)):=λp hp=>by
   have h:=go p hp;unfold lW at h;rw[La,decide_eq_true_eq] at h;refine ⟨h.1,λc=>?_,λc=>?_⟩
   .have h2:=h.2;rw[if_pos c] at h2;exact h2
   .have h2:=h.2;rw[if_neg c,La] at h2;refine ⟨h2.1,λc2=>?_⟩;have h3:=h2.2;rw[decide_eq_false c2,Bool.false_or,La,decide_eq_true_eq] at h3;exact h3
  refine ⟨λp hp=>?_,eV,rd gk hh (λp hp hne=>((gp p hp).2.2 hne).1) λi s e d h1 h2=>by have:=sG i s e d h1 h2;rw[fG] at this;exact this,rd dO hc (λp hp hne=>?_) λi s e d h1 h2=>by have:=sT i s e d h1 h2;rw[fT] at this;exact this⟩
  .obtain ⟨h1,h2,h3⟩:=gp p hp;have nb:∀{ss:List S3} {k:K2},cD ss k=true->k≠Bt:=λ{ss k} h z=>by
    rw[z,uH (by decide)] at h;cases h
   unfold jt;rw[decide_eq_true h1,Bool.true_and];by_cases c:gk p=Bt
   .rw[if_pos (.inl c),decide_eq_true_eq,c];exact λz=>nb (h2 c) z.symm
   .obtain ⟨h4,h5⟩:=h3 c;by_cases c2:dO p=Bt
    .rw[if_pos (.inr c2),decide_eq_true_eq,c2];exact c
    .rw[if_neg (λz=>z.elim c c2),decide_eq_true_eq];have:=(h5 c2).2;lia
  .by_cases c:gk p=Bt
   .exact (gp p hp).2.1 c
   .exact (((gp p hp).2.2 c).2 hne).1
theorem BD (f:P5->K2){ps:List P5}(h:∀p∈ps,(f p).1 = -1->f p=Bt):((ps.filter λp=>decide ((f p).1 = -1)).map ht).sum=aX Bt (ps.map λp=>(f p,ht p)):=by
  induction ps with
  | nil=>rfl
  | cons p ps ih =>
    have ih:=ih λp hp=>h p (.tail _ hp);rw[filter_cons,K3,bt];by_cases c:(f p).1 = -1
    · rw[if_pos (by simpa using c),if_pos (h p (.head _) c),K3,sum_cons,ih]
    · rw [if_neg (by simpa using c), if_neg (λz : f p = Bt => c (by rw [z];rfl)), ih];lia
theorem Looks.gB {g:Int}{hs cs:List S3}{ps:List P5}(L:Looks g hs cs ps):∀p∈ps,(gk p).1 = -1->gk p=Bt:=λp hp e=>by
 refine Classical.byContradiction λc=>?_;have:=L.oG _ c;unfold gH gq at this;rw[if_pos (qT hp)] at this;obtain ⟨s,e1,_⟩:=cU this.symm;have:=(cz e1).1;lia
theorem Looks.tB {g:Int}{hs cs:List S3}{ps:List P5}(L:Looks g hs cs ps):∀p∈ps,(dO p).1 = -1->dO p=Bt:=λp hp e=>by
 refine Classical.byContradiction λc=>?_;have:=L.oA _ c;unfold gH tq at this;rw[if_pos (qT hp)] at this;obtain ⟨s,e1,_⟩:=cU this.symm;have:=(cz e1).1;lia
end WS
namespace WS
open DL
theorem fo {α β γ:Type}(f:α->β)(g:α->γ)(h:∀x y,f x=f y->g x=g y):∀xs:List α,(xs.map g).Nodup->(xs.map f).Nodup
 | [],_=>.nil
 | x::xs,hn=>by
  rw[K3,nodup_cons] at hn ⊢;refine ⟨λhm=>hn.1 ?_,fo f g h xs hn.2⟩;obtain ⟨y,hy,e⟩:=KJ.mp hm;exact KJ.mpr ⟨y,hy,h _ _ e⟩
theorem pW {p q:P5}(h:k4 p=k4 q):gk p=gk q:=by
 unfold k4 at h;simp only[List.cons.injEq,and_true] at h;unfold gk;rw[h.1,h.2.1]
theorem tJ {p q:P5}(h:k4 p=k4 q):dO p=dO q:=by
 unfold k4 at h;simp only[List.cons.injEq,and_true] at h;unfold dO;rw[h.2.2.1,h.2.2.2]
theorem my {α:Type}(f:Nat->α)(hf:∀i j,f i=f j->i=j)(n:Nat):((K6 n).map f).Nodup:=by
 show ((K6 n).map f).Pairwise (·≠·);rw[pairwise_map];exact List.Pairwise.imp (λ{i j} h e=>by have:=hf _ _ e;lia) List.pairwise_lt_range
end WS
namespace WS
open DL
theorem tR {g:Int}{hs cs:List S3}{ps:List P5}(may:∀p∈ps,jt g p=true)(eV:(ps.map k4).Nodup)
  (gB:∀p∈ps,gk p=Bt\/(av hs (gk p)).isSome=true) (gT:∀k r,av hs k=some r->aX k (gq ps)=r)
  (tB:∀p∈ps,dO p=Bt\/(av cs (dO p)).isSome=true) (tT:∀k r,av cs k=some r->aX k (tq ps)=r):Looks g hs cs ps:=by
 have key:∀(f:P5->K2) {ss:List S3},(∀p∈ps,f p=Bt\/(av ss (f p)).isSome=true)->(∀k r,av ss k=some r->aX k (ps.map λp=>(f p,ht p))=r)->∀k,k≠Bt->gH k (ps.map λp=>(f p,ht p))=av ss k:=λf ss hB hT k hk=>by
  unfold gH;split
  .rename_i hm;obtain ⟨q,hq,rfl⟩:=KJ.mp hm;obtain ⟨p,hp,rfl⟩:=KJ.mp hq;rcases hB p hp with z | z
   .exact absurd z hk
   .obtain ⟨r,hr⟩:=Option.isSome_iff_exists.mp z;rw[hr,hT _ r hr]
  .rename_i hm;cases hr:av ss k with
   | none=>rfl
   | some r =>
    have:=hT k r hr;rw[iX hm] at this;obtain ⟨s,_,h0,_,_,e⟩:=cU hr;lia
 exact ⟨may,eV,key gk gB gT,key dO tB tT⟩
theorem bZ {ss:List S3}{k:K2}(h:(av ss k).isSome=true):k≠Bt:=λz=>by rw[z,lF] at h;cases h
theorem fO {ss:List S3}{k:K2}(h:(av ss k).isSome=true):0<=k.1:=by
 obtain ⟨r,hr⟩:=Option.isSome_iff_exists.mp h;obtain ⟨s,e,_⟩:=cU hr;exact (cz e).1
theorem lN {k:K2}:∀{kvs:bY},Keyed kvs->aX k kvs=(aO kvs k).getD 0
  | [],_=>rfl
  | p::r,h=>by
    unfold Keyed at h;rw[K3,nodup_cons] at h;have ih:=lN (k:=k) (kvs:=r) h.2;rw[bt,bQ,ih];by_cases c:p.1=k
    · rw [if_pos c, if_pos c, cq.mpr (by rw [<- c];exact h.1)];show p.2+0=p.2;lia
    · rw[if_neg c,if_neg c];lia
noncomputable def kK (kvs:bY):bY:=kvs.filter λp=>decide (0<p.2)
theorem rO {k:K2}:∀{kvs:bY},(∀p∈kvs,0<=p.2)->aX k (kK kvs)=aX k kvs
  | [],_=>rfl
  | p::r,h=>by
    have ih:=rO (k:=k) (kvs:=r) λp hp=>h p (.tail _ hp);have h0:=h p (.head _);unfold kK at ih ⊢;rw[filter_cons];by_cases c:0<p.2
    · rw[if_pos (decide_eq_true c),bt,bt,ih]
    · rw [if_neg (by simpa using c), bt, ih];split<;>lia
noncomputable def kB (kvs:bY):List P5:=(kK kvs).map λp=>(p.1.1,p.1.2,-1,-1,p.2)
noncomputable def fg (kvs:bY):List P5:=(kK kvs).map λp=>(-1,-1,p.1.1,p.1.2,p.2)
theorem Cw (kvs:bY):gq (kB kvs)=kK kvs:=by
 unfold gq kB;rw[map_map];conv=>rhs;rw[<-List.map_id (kK kvs)]
 rfl
theorem BE (kvs:bY):tq (fg kvs)=kK kvs:=by
 unfold tq fg;rw[map_map];conv=>rhs;rw[<-List.map_id (kK kvs)]
 rfl
theorem gy {kvs:bY}{p:P5}(h:p∈kB kvs):gk p∈kvs.map (·.1)/\dO p=Bt/\1<=ht p:=by
 obtain ⟨q,hq,rfl⟩:=KJ.mp h;unfold kK at hq;obtain ⟨h1,h2⟩:=List.mem_filter.mp hq;rw[decide_eq_true_eq] at h2;exact ⟨KJ.mpr ⟨q,h1,rfl⟩,rfl,h2⟩
theorem ft {kvs:bY}{p:P5}(h:p∈fg kvs):dO p∈kvs.map (·.1)/\gk p=Bt/\1<=ht p:=by
 obtain ⟨q,hq,rfl⟩:=KJ.mp h;unfold kK at hq;obtain ⟨h1,h2⟩:=List.mem_filter.mp hq;rw[decide_eq_true_eq] at h2;exact ⟨KJ.mpr ⟨q,h1,rfl⟩,rfl,h2⟩
theorem p9 {kvs:bY}(h:Keyed kvs):Keyed (kK kvs):=List.Nodup.sublist (List.Sublist.map _ filter_sublist) h
theorem qQ (a b:List P5):gq (a++b)=gq a++gq b:=KU
theorem rP (a b:List P5):tq (a++b)=tq a++tq b:=KU
theorem jT {f:P5->K2}{k:K2}(hk:k≠Bt):∀{ps:List P5},(∀p∈ps,f p=Bt)->aX k (ps.map λp=>(f p,ht p))=0
 | [],_=>rfl
 | p::ps,h=>by
  rw[K3,bt,if_neg (show ¬f p=k from λz=>hk (by rw[<-z];exact h p (.head _))),jT hk λp hp=>h p (.tail _ hp)];rfl
structure DG (g:Int)(hs cs:List S3)(ps:List P5)(hk ck:bY):Prop where
 may:∀p∈ps,1<=ht p/\(av hs (gk p)).isSome=true/\(av cs (dO p)).isSome=true/\p.2.1>=p.2.2.2.1+g
 eV:(ps.map k4).Nodup
 oG:∀k v,aO hk k=some v->∀r,av hs k=some r->aX k (gq ps)+v=r
 oA:∀k v,aO ck k=some v->∀r,av cs k=some r->aX k (tq ps)+v=r
theorem DG.pass {g:Int}{hs cs:List S3}{ps:List P5}{hk ck:bY}(D:DG g hs cs ps hk ck){a b:K2}{x y m:Int}(ha:aO hk a=some x)(hb:aO ck b=some y)(ra:(av hs a).isSome=true)(rb:(av cs b).isSome=true)(m1:1<=m)(h:b.2+g<=a.2)
  (new:∀p∈ps,¬(gk p=a/\dO p=b)):DG g hs cs (ps++[(a.1,a.2,b.1,b.2,m)]) (putD hk a (x - m)) (putD ck b (y - m)) where
 may:=λp hp=>by
  rcases Lf.mp hp with z | z
  .exact D.may p z
  .rw[mem_singleton.mp z];exact ⟨m1,ra,rb,h⟩
 eV:=by
  rw[KU,nodup_append];refine ⟨D.eV,by simp,λu hu w hw=>?_⟩;obtain ⟨p,hp,rfl⟩:=KJ.mp hu;rw[K3,List.map_nil,mem_singleton] at hw;rw[hw];intro e;exact new p hp ⟨pW e,tJ e⟩
 oG:=λk v hv r hr=>by
  rw[gK] at hv;rw[qQ,bu];show aX k (gq ps)+aX k [(a,m)]+v=r;rw[gI];by_cases c:a=k
  .rw[if_pos c] at hv;rw[if_pos c];have:=D.oG k x (by rw[<-c];exact ha) r hr;have:=Option.some.inj hv;lia
  .rw[if_neg c] at hv;rw[if_neg c];have:=D.oG k v hv r hr;lia
 oA:=λk v hv r hr=>by
  rw[gK] at hv;rw[rP,bu];show aX k (tq ps)+aX k [(b,m)]+v=r;rw[gI];by_cases c:b=k
  .rw[if_pos c] at hv;rw[if_pos c];have:=D.oA k y (by rw[<-c];exact hb) r hr;have:=Option.some.inj hv;lia
  .rw[if_neg c] at hv;rw[if_neg c];have:=D.oA k v hv r hr;lia
theorem DG.Hn {g:Int}{hs cs:List S3}{ps:List P5}{hk ck:bY}(D:DG g hs cs ps hk ck)(kh:Keyed hk)(kc:Keyed ck)(h0:∀p∈hk,0<=p.2)(c0:∀p∈ck,0<=p.2)
    (eh:∀k,k∈hk.map (·.1)↔(av hs k).isSome=true) (ec:∀k,k∈ck.map (·.1)↔(av cs k).isSome=true):Looks g hs cs (ps++kB hk++fg ck):=by
  have inA:∀p∈ps++kB hk++fg ck,p∈ps\/p∈kB hk\/p∈fg ck:=λp hp=>by
    rcases Lf.mp hp with z | z
    · rcases Lf.mp z with z | z
      · exact .inl z
      · exact .inr (.inl z)
    · exact .inr (.inr z)
  refine tR (λp hp=>?_) ?_ (λp hp=>?_) (λk r hr=>?_) (λp hp=>?_) λk r hr=>?_
  · unfold jt;rcases inA p hp with z | z | z
    · obtain ⟨m1,m2,m3,m4⟩:=D.may p z;rw[decide_eq_true m1,Bool.true_and,if_neg (λy=>y.elim (bZ m2) (bZ m3)),decide_eq_true m4]
    · obtain ⟨m1,m2,m3⟩:=gy z;rw[decide_eq_true m3,Bool.true_and,if_pos (.inr m2),decide_eq_true_eq,m2];exact bZ ((eh _).mp m1)
    · obtain ⟨m1,m2,m3⟩:=ft z;rw[decide_eq_true m3,Bool.true_and,if_pos (.inl m2),decide_eq_true_eq,m2];exact λy=>bZ ((ec _).mp m1) y.symm
  · rw[KU,nodup_append,KU,nodup_append];refine ⟨⟨D.eV,fo k4 gk (λ_ _=>pW) _ ?_,λu hu w hw e=>?_⟩,fo k4 dO (λ_ _=>tJ) _ ?_,λu hu w hw e=>?_⟩
    · have:=p9 kh;unfold Keyed at this;unfold kB;rw[map_map];exact this
    · obtain ⟨p,hp,rfl⟩:=KJ.mp hu;obtain ⟨q,hq,rfl⟩:=KJ.mp hw;have h1:=tJ e;rw[(gy hq).2.1] at h1;exact bZ (D.may p hp).2.2.1 h1
    · have:=p9 kc;unfold Keyed at this;unfold fg;rw[map_map];exact this
    · obtain ⟨q,hq,rfl⟩:=KJ.mp hw;rcases Lf.mp hu with z | z
      · obtain ⟨p,hp,rfl⟩:=KJ.mp z;have h1:=pW e;rw[(ft hq).2.1] at h1;exact bZ (D.may p hp).2.1 h1
      · obtain ⟨p,hp,rfl⟩:=KJ.mp z;have h1:=pW e;rw[(ft hq).2.1] at h1;exact bZ ((eh _).mp (gy hp).1) h1
  · rcases inA p hp with z | z | z
    · exact .inr (D.may p z).2.1
    · exact .inr ((eh _).mp (gy z).1)
    · exact .inl (ft z).2.1
  · have hk1 : (av hs k).isSome = true := by rw [hr];rfl
    have nb:=bZ hk1;rw[qQ,qQ,bu,bu,Cw,rO h0,lN kh,show aX k (gq (fg ck))=0 from jT nb λp hp=>(ft hp).2.1];cases e:aO hk k with
    | none=>exact absurd ((eh k).mpr hk1) (cq.mp e)
    | some v =>
      have:=D.oG k v e r hr;show aX k (gq ps)+v+0=r;lia
  · rcases inA p hp with z | z | z
    · exact .inr (D.may p z).2.2.1
    · exact .inl (gy z).2.1
    · exact .inr ((ec _).mp (ft z).1)
  · have hk1 : (av cs k).isSome = true := by rw [hr];rfl
    have nb:=bZ hk1;rw[rP,rP,bu,bu,BE,rO c0,lN kc,show aX k (tq (kB hk))=0 from jT nb λp hp=>(gy hp).2.1];cases e:aO ck k with
    | none=>exact absurd ((ec k).mpr hk1) (cq.mp e)
    | some v =>
      have:=D.oA k v e r hr;show aX k (tq ps)+0+v=r;lia
end WS
namespace WS
open DL
noncomputable def lj (g L:Int)(p:P5):Bool:=decide (p.1 ≠ -1/\L<=p.2.1/\(p.2.2.1 = -1\/p.2.2.2.1+g<L)\/p.1 = -1/\p.2.2.2.1+g<L)
end WS
namespace WS
open DL
open L2 (xQ)
theorem uq {kvs:bY}{k:K2}{v w:Int}(h:aO kvs k=some v):(putD kvs k w).length=kvs.length:=by
 have hk:k∈kvs.map (·.1):=Classical.byContradiction λz=>by rw[cq.mpr z] at h;cases h
 unfold putD;rw[if_pos (i7.mpr hk),Ks]
theorem eW {α:Type}{l:List α}(h:l.Nodup){i j:Nat}{x:α}(hi:l[i]?=some x)(hj:l[j]?=some x):i=j:=by
 obtain ⟨a,ea⟩:=Kw.mp hi;obtain ⟨b,eb⟩:=Kw.mp hj;rcases Nat.lt_trichotomy i j with c | c | c
 .exact absurd (ea.trans eb.symm) (pairwise_iff_getElem.mp h i j a b c)
 .exact c
 .exact absurd (eb.trans ea.symm) (pairwise_iff_getElem.mp h j i b a c)
structure zu (ss:List S3)(ks:List K2):Prop where
 eV:ks.Nodup
 dn:∀(i j:Nat) (a b:K2),i<=j->ks[i]?=some a->ks[j]?=some b->b.2<=a.2
 is:∀k,k∈ks↔(av ss k).isSome=true
 len:ks.length<=2400
structure Gr (g:Int)(hs cs:List S3)(gs ts:List K2)(t:Nat)(lk:bY)(ps:List P5):Prop where
 tl:t<=gs.length
 ln:lk.length<=2400
 may:∀p∈ps,1<=ht p/\(gk p=Bt\/(gk p∈gs/\p.2.2.2.1+g<=p.2.1))
 eV:(ps.map k4).Nodup
 oG:∀(j:Nat) (k:K2),gs[j]?=some k->∃v,aO lk k=some v/\some (aX k (gq ps)+v)=av hs k/\(j<t->v=0)/\(t<=j->0<v)
 J3:(∀p∈ps,gk p≠Bt)\/∃L:Nat,L<251/\(∀p∈ps,lj g L p=false)/\∀(j:Nat) (k:K2),t<=j->gs[j]?=some k->k.2<L
structure Gi (g:Int)(hs cs:List S3)(gs ts:List K2)(i t:Nat)(lk:bY)(ps:List P5):Prop where
 gr:Gr g hs cs gs ts t lk ps
 tk:∀p∈ps,∃j,j<i/\ts[j]?=some (dO p)
 oA:∀(j:Nat) (k:K2),j<i->ts[j]?=some k->some (aX k (tq ps))=av cs k
 n:ps.length<=t+i
structure Gw (g:Int)(hs cs:List S3)(gs ts:List K2)(i:Nat)(k:K2)(t:Nat)(n:Int)(lk:bY)(ps:List P5):Prop where
 gr:Gr g hs cs gs ts t lk ps
 tk:∀p∈ps,∃j,j<=i/\ts[j]?=some (dO p)
 oA:∀(j:Nat) (k:K2),j<i->ts[j]?=some k->some (aX k (tq ps))=av cs k
 n0:0<=n
 nd:some (aX k (tq ps)+n)=av cs k
 new:n=0\/(ps.length<=t+i/\∀p∈ps,dO p=k->∃j,j<t/\gs[j]?=some (gk p))
 n1:ps.length<=t+i+1
section
variable {g:Int} {hs cs:List S3} {gs ts:List K2}
theorem Gi.start (sg:zu hs gs){kvs:bY}(hl:kvs.length<=2400)(hv:∀k,aO kvs k=av hs k):Gi g hs cs gs ts 0 0 kvs [] where
 gr:=⟨Lc _,hl,λp h=>(nomatch h),.nil,λj k hk=>by
  obtain ⟨r,hr⟩:=Option.isSome_iff_exists.mp ((sg.is k).mp (KC hk));refine ⟨r,by rw[hv,hr],by rw[hr];show some (0+r)=some r;rw[Int.zero_add],λz=>absurd z (Nat.not_lt_zero _),λ_=>?_⟩;obtain ⟨s,_,h0,_,_,e⟩:=cU hr;lia,.inl λp h=>(nomatch h)⟩
 tk:=λp h=>(nomatch h)
 oA:=λj k h=>absurd h (Nat.not_lt_zero _)
 n:=Lc _
theorem Gi.take {i t:Nat}{lk:bY}{ps:List P5}(h:Gi g hs cs gs ts i t lk ps)(st:zu cs ts){k:K2}(hk:ts[i]?=some k){r:Int}(hr:av cs k=some r):Gw g hs cs gs ts i k t r lk ps where
 gr:=h.gr
 tk:=λp hp=>by
  obtain ⟨j,hj,e⟩:=h.tk p hp;exact ⟨j,by lia,e⟩
 oA:=h.oA
 n0:=by obtain ⟨s,_,h0,_,_,e⟩:=cU hr;lia
 nd:=by
  have no:∀p∈ps,dO p≠k:=λp hp z=>by
   obtain ⟨j,hj,e⟩:=h.tk p hp;rw[z] at e;have:=eW st.eV e hk;lia
  have e:aX k (tq ps)=0:=iX λhm=>by
   obtain ⟨q,hq,e⟩:=KJ.mp hm;obtain ⟨p,hp,rfl⟩:=KJ.mp hq;exact no p hp e
  rw[e,Int.zero_add,hr]
 new:=.inr ⟨h.n,λp hp z=>by
  obtain ⟨j,hj,e⟩:=h.tk p hp;rw[z] at e;have:=eW st.eV e hk;lia⟩
 n1:=by have:=h.n;lia
theorem pC {L:Int}{p:P5}(h1:p.1 ≠ -1)(h2:p.2.1<L):lj g L p=false:=by
 unfold lj;rw[decide_eq_false_iff_not];lia
theorem dZ {α:Type}{P:α->Prop}{l:List α}{x:α}(h:∀y∈l,P y)(hx:P x):∀y∈l++[x],P y:=λy hy=>by
 rcases Lf.mp hy with z | z
 .exact h y z
 .rw[mem_singleton.mp z];exact hx
theorem xc {ps:List P5}{p:P5}(h:(ps.map k4).Nodup)(new:∀q∈ps,¬(gk q=gk p/\dO q=dO p)):((ps++[p]).map k4).Nodup:=by
 rw[KU,nodup_append];refine ⟨h,by simp,λu hu w hw=>?_⟩;obtain ⟨q,hq,rfl⟩:=KJ.mp hu;rw[K3,List.map_nil,mem_singleton] at hw;rw[hw];intro e;exact new q hq ⟨pW e,tJ e⟩
theorem iY (f:P5->K2)(k:K2)(ps:List P5)(p:P5):aX k ((ps++[p]).map λp=>(f p,ht p))=aX k (ps.map λp=>(f p,ht p))+if f p=k then ht p else 0:=by
 rw[KU,bu];show _+aX k [(f p,ht p)]=_;rw[gI]
theorem Gw.pass {i t:Nat}{k a:K2}{n v:Int}{lk:bY}{ps:List P5}(h:Gw g hs cs gs ts i k t n lk ps)(sg:zu hs gs)(st:zu cs ts)(hk:ts[i]?=some k)(n1:0<n)(ha:gs[t]?=some a)(hw:k.2+g<=a.2)(hv:aO lk a=some v){m:Int}(hm:m=if v<n then v else n){t':Nat}(ht':t'=if v - m=0 then t+1 else t) :
    Gw g hs cs gs ts i k t' (n - m) (putD lk a (v - m)) (ps++[(a.1,a.2,k.1,k.2,m)]):=by
  obtain ⟨v',e1,e2,_,e4⟩:=h.gr.oG t a ha;rw[hv] at e1;cases e1;have v0:=e4 (Ku _);have hlt:t<gs.length:=(Kw.mp ha).1;have m1:1<=m:=by rw[hm];split<;>lia
  have mv:m<=v:=by rw[hm];split<;>lia
  have mn:m<=n:=by rw[hm];split<;>lia
  have mor:m=v\/m=n:=by rw[hm];split<;>lia
  have ng:n≠0:=by lia
  obtain ⟨hl,hnew⟩:=h.new.resolve_left ng;have ra:(av hs a).isSome=true:=(sg.is a).mp (KC ha);have a0:0<=a.1:=fO ra;have gka:gk (a.1,a.2,k.1,k.2,m)=a:=rfl;have tka:dO (a.1,a.2,k.1,k.2,m)=k:=rfl;have t2:t<=t'/\t'<=t+1:=by rw[ht'];split<;>lia
  refine ⟨⟨?_,?_,dZ h.gr.may ⟨m1,.inr ⟨KC ha,hw⟩⟩,xc h.gr.eV λq hq z=>?_,λj b hb=>?_,?_⟩,dZ h.tk ⟨i,Ku _,hk⟩,λj b hj hb=>?_,by lia,?_,?_,?_⟩
  · lia
  · rw[uq hv];exact h.gr.ln
  · obtain ⟨j,hj,e⟩:=hnew q hq z.2;rw[z.1] at e;have:=eW sg.eV e ha;lia
  · obtain ⟨w,w1,w2,w3,w4⟩:=h.gr.oG j b hb;have et:aX b (gq (ps++[(a.1,a.2,k.1,k.2,m)]))=aX b (gq ps)+if a=b then m else 0:=iY gk b ps _
    rw[et,gK];by_cases c:a=b
    · subst c;have:=eW sg.eV hb ha;subst this;rw[hv] at w1;cases w1;refine ⟨v - m,by rw[if_pos rfl],by rw[if_pos rfl,<-w2];congr 1;lia,λz=>?_,λz=>?_⟩
      · rw[ht'] at z;split at z
        · assumption
        · lia
      · rw[ht'] at z;split at z
        · lia
        · lia
    · have hj : j ≠ t := λz => c (by rw [z, ha] at hb;exact Option.some.inj hb);rw[if_neg c,if_neg c];exact ⟨w,w1,by rw[Int.add_zero];exact w2,λz=>w3 (by lia),λz=>w4 (by lia)⟩
  · rcases h.gr.J3 with z | ⟨L,z1,z2,z3⟩
    · exact .inl (dZ z (bZ ra))
    · refine .inr ⟨L,z1,dZ z2 (pC (by show a.1 ≠ -1;lia) (z3 t a (Ku _) ha)),λj b hj hb=>z3 j b (by lia) hb⟩
  · have et:aX b (tq (ps++[(a.1,a.2,k.1,k.2,m)]))=aX b (tq ps)+if k=b then m else 0:=iY dO b ps _
    have:k≠b:=λz=>by
      rw[<-z] at hb;have:=eW st.eV hb hk;lia
    rw[et,if_neg this,Int.add_zero];exact h.oA j b hj hb
  · have et:aX k (tq (ps++[(a.1,a.2,k.1,k.2,m)]))=aX k (tq ps)+if k=k then m else 0:=iY dO k ps _
    rw[et,if_pos rfl,<-h.nd];congr 1;lia
  · by_cases z:n - m=0
    · exact .inl z
    · have : v - m = 0 := by lia
      rw[if_pos this] at ht';refine .inr ⟨by rw[KA];show ps.length+1<=_;lia,dZ (λq hq e=>?_) λ_=>⟨t,by lia,ha⟩⟩;obtain ⟨j,hj,e⟩:=hnew q hq e;exact ⟨j,by lia,e⟩
  · rw[KA];show ps.length+1<=_;lia
theorem Gw.done {i t:Nat}{k:K2}{lk:bY}{ps:List P5}(h:Gw g hs cs gs ts i k t 0 lk ps)(hk:ts[i]?=some k):Gi g hs cs gs ts (i+1) t lk ps where
 gr:=h.gr
 tk:=λp hp=>by
  obtain ⟨j,hj,e⟩:=h.tk p hp;exact ⟨j,by lia,e⟩
 oA:=λj b hj hb=>by
  rcases Nat.lt_or_eq_of_le (Nat.le_of_lt_succ hj) with z | z
  .exact h.oA j b z hb
  .subst z;rw[hk] at hb;cases hb;rw[<-h.nd,Int.add_zero]
 n:=by have:=h.n1;lia
theorem Gw.Ka {i t:Nat}{k:K2}{n:Int}{lk:bY}{ps:List P5}(h:Gw g hs cs gs ts i k t n lk ps)(sg:zu hs gs)(st:zu cs ts)(hk:ts[i]?=some k)(n1:0<n)(kl:0<=k.2+g)(kh:k.2+g<=250)(hw:∀a,gs[t]?=some a->a.2<k.2+g) :
  Gi g hs cs gs ts (i+1) t lk (ps++[(-1,-1,k.1,k.2,n)]):=by
 have ng:n≠0:=by lia
 obtain ⟨hl,hnew⟩:=h.new.resolve_left ng;have Iz:∀q∈gs,q≠Bt:=λq hq=>bZ ((sg.is q).mp hq);have rk:(av cs k).isSome=true:=(st.is k).mp (KC hk);have k0:0<=k.1:=fO rk;refine ⟨⟨h.gr.tl,h.gr.ln,dZ h.gr.may ⟨by show 1<=n;lia,.inl rfl⟩,xc h.gr.eV λq hq z=>?_,λj b hb=>?_,.inr ⟨(k.2+g).toNat,by lia,dZ (λp hp=>?_) ?_,λj b hj hb=>?_⟩⟩,dZ (λp hp=>?_) ⟨i,by lia,hk⟩,λj b hj hb=>?_,?_⟩
 .obtain ⟨j,hj,e⟩:=hnew q hq z.2;rw[z.1] at e;exact Iz _ (KC e) rfl
 .obtain ⟨w,w1,w2,w3⟩:=h.gr.oG j b hb;have et:aX b (gq (ps++[(-1,-1,k.1,k.2,n)]))=aX b (gq ps)+if Bt=b then n else 0:=iY gk b ps _
  rw[et,if_neg (λz=>Iz b (KC hb) z.symm),Int.add_zero];exact ⟨w,w1,w2,w3⟩
 .obtain ⟨j,hj,e⟩:=h.tk p hp;have:=st.dn j i _ _ hj e hk;have e2:(dO p).2=p.2.2.2.1:=rfl;have e3:(dO p).1=p.2.2.1:=rfl;have:=fO ((st.is _).mp (KC e));unfold lj;rw[decide_eq_false_iff_not,Int.toNat_of_nonneg kl];lia
 .unfold lj;rw[decide_eq_false_iff_not,Int.toNat_of_nonneg kl];dsimp only;lia
 .rw[Int.toNat_of_nonneg kl];obtain ⟨hlt,_⟩:=Kw.mp hb;have ht:gs[t]?=some gs[t]:=Kt (by lia);have a1:=hw _ ht;have a2:=sg.dn t j _ _ hj ht hb;lia
 .obtain ⟨j,hj,e⟩:=h.tk p hp;exact ⟨j,by lia,e⟩
 .have et:aX b (tq (ps++[(-1,-1,k.1,k.2,n)]))=aX b (tq ps)+if k=b then n else 0:=iY dO b ps _
  rw[et];rcases Nat.lt_or_eq_of_le (Nat.le_of_lt_succ hj) with z | z
  .have:k≠b:=λy=>by
    rw[<-y] at hb;have:=eW st.eV hb hk;lia
   rw[if_neg this,Int.add_zero];exact h.oA j b z hb
  .subst z;rw[hk] at hb;cases hb;rw[if_pos rfl];exact h.nd
 .rw[KA];show ps.length+1<=_;lia
noncomputable def fP (gs:List K2)(t:Nat)(lk:bY):List P5:=(gs.drop t).map λk=>(k.1,k.2,-1,-1,(aO lk k).getD 0)
noncomputable def Tight (g:Int)(ps:List P5):Prop:=(∀p∈ps,gk p≠Bt)\/∃L:Nat,L<251/\∀p∈ps,lj g L p=false
theorem uz {t:Nat}{lk:bY}{p:P5}(h:p∈fP gs t lk):∃j k,t<=j/\gs[j]?=some k/\p=(k.1,k.2,-1,-1,(aO lk k).getD 0):=by
 obtain ⟨k,hk,rfl⟩:=KJ.mp h;obtain ⟨j,hj⟩:=mem_iff_getElem?.mp hk;rw[List.getElem?_drop] at hj;exact ⟨t+j,k,by lia,hj,rfl⟩
theorem Bm {t:Nat}{lk:bY}(nd:gs.Nodup){k:K2}:aX k (gq (fP gs t lk))=if k∈gs.drop t then (aO lk k).getD 0 else 0:=by
 have lem:∀l:List K2,l.Nodup->aX k (gq (l.map λk=>(k.1,k.2,-1,-1,(aO lk k).getD 0)))=if k∈l then (aO lk k).getD 0 else 0:=λl=>by
  induction l with
  | nil=>intro _;rfl
  | cons a l ih =>
   intro hn;rw[nodup_cons] at hn;have e:gq ((a::l).map λk=>(k.1,k.2,-1,-1,(aO lk k).getD 0))=(a,(aO lk a).getD 0)::gq (l.map λk=>(k.1,k.2,-1,-1,(aO lk k).getD 0)):=rfl;rw[e,bt,ih hn.2];dsimp only;by_cases c:a=k
   .subst c;rw[if_pos rfl,if_neg hn.1,if_pos (.head _)];lia
   .rw[if_neg c];by_cases c2:k∈l
    .rw[if_pos c2,if_pos (.tail _ c2)];lia
    .rw[if_neg c2,if_neg (λz=>(KQ.mp z).elim (λy=>c y.symm) c2)];rfl
 exact lem _ (nd.sublist (List.drop_sublist _ _))
theorem Gi.finish {t:Nat}{lk:bY}{ps:List P5}(h:Gi g hs cs gs ts ts.length t lk ps)(sg:zu hs gs)(st:zu cs ts):Looks g hs cs (ps++fP gs t lk)/\Tight g (ps++fP gs t lk)/\(ps++fP gs t lk).length<=gs.length+ts.length:=by
  have rv:∀p∈fP gs t lk,∃k,k∈gs.drop t/\gk p=k/\dO p=Bt/\1<=ht p/\(av hs k).isSome=true:=λp hp=>by
    obtain ⟨j,k,hj,hk,rfl⟩:=uz hp;obtain ⟨v,e1,_,_,e4⟩:=h.gr.oG j k hk;refine ⟨k,?_,rfl,rfl,?_,(sg.is k).mp (KC hk)⟩
    · refine mem_iff_getElem?.mpr ⟨j - t,?_⟩;rw[List.getElem?_drop,show t+(j - t)=j by lia];exact hk
    · have:=e4 hj;show 1<=(aO lk k).getD 0;rw[e1];show 1<=v;lia
  have gB:∀p∈ps++fP gs t lk,gk p=Bt\/(av hs (gk p)).isSome=true:=λp hp=>by
    rcases Lf.mp hp with z | z
    · exact (h.gr.may p z).2.imp id λy=>(sg.is _).mp y.1
    · obtain ⟨k,_,e,_,_,r⟩:=rv p z;rw[e];exact .inr r
  have tB:∀p∈ps,(av cs (dO p)).isSome=true:=λp hp=>by
    obtain ⟨j,_,e⟩:=h.tk p hp;exact (st.is _).mp (KC e)
  refine ⟨tR (λp hp=>?_) ?_ gB (λk r hr=>?_) (λp hp=>?_) λk r hr=>?_,?_,?_⟩
  · unfold jt;rcases Lf.mp hp with z | z
    · obtain ⟨m1,m2⟩:=h.gr.may p z;have nb:=bZ (tB p z);rw[decide_eq_true m1,Bool.true_and];rcases m2 with y | y
      · rw[if_pos (.inl y),decide_eq_true_eq,y];exact λx=>nb x.symm
      · rw[if_neg (λx=>x.elim (bZ ((sg.is _).mp y.1)) nb),decide_eq_true_eq];exact y.2
    · obtain ⟨k,_,e,e2,m1,r⟩:=rv p z;rw[decide_eq_true m1,Bool.true_and,if_pos (.inr e2),decide_eq_true_eq,e,e2];exact bZ r
  · rw[KU,nodup_append];refine ⟨h.gr.eV,fo k4 gk (λ_ _=>pW) _ ?_,λu hu w hw e=>?_⟩
    · unfold fP;rw[map_map];refine (List.Nodup.sublist (List.drop_sublist t gs) sg.eV:(gs.drop t).Nodup) |> λz=>?_
      rw[show ((gk∘λk:K2=>(k.1,k.2,-1,-1,(aO lk k).getD 0)):K2->K2)=id from rfl,List.map_id];exact z
    · obtain ⟨p,hp,rfl⟩:=KJ.mp hu;obtain ⟨q,hq,rfl⟩:=KJ.mp hw;have h1:=tJ e;obtain ⟨k,_,_,e2,_⟩:=rv q hq;rw[e2] at h1;exact bZ (tB p hp) h1
  · have hk : k ∈ gs := (sg.is k).mpr (by rw [hr];rfl);obtain ⟨j,hj⟩:=mem_iff_getElem?.mp hk;obtain ⟨v,e1,e2,e3,_⟩:=h.gr.oG j k hj;rw[qQ,bu,Bm sg.eV];rw[hr] at e2;have e2:=Option.some.inj e2;rw[e1];show aX k (gq ps)+(if k∈gs.drop t then v else 0)=r;by_cases c:k∈gs.drop t
    · rw[if_pos c];exact e2
    · rw[if_neg c];have:j<t:=Classical.byContradiction λz=>c (mem_iff_getElem?.mpr ⟨j - t,by rw[List.getElem?_drop,show t+(j - t)=j by lia];exact hj⟩);have:=e3 this;lia
  · rcases Lf.mp hp with z | z
    · exact .inr (tB p z)
    · obtain ⟨k,_,_,e2,_⟩:=rv p z;exact .inl e2
  · have hk : k ∈ ts := (st.is k).mpr (by rw [hr];rfl);obtain ⟨j,hj⟩:=mem_iff_getElem?.mp hk;have e:=h.oA j k (Kw.mp hj).1 hj;rw[hr] at e;rw[rP,bu,iX (qs:=tq (fP gs t lk))]
    · have:=Option.some.inj e;lia
    · intro hm;obtain ⟨q,hq,e⟩:=KJ.mp hm;obtain ⟨p,hp,rfl⟩:=KJ.mp hq;obtain ⟨k',_,_,e2,_⟩:=rv p hp;have hb:k=Bt:=e.symm.trans e2;rw[hb,lF] at hr;cases hr
  · rcases h.gr.J3 with z | ⟨L,z1,z2,z3⟩
    · refine .inl λp hp=>?_;rcases Lf.mp hp with y | y
      · exact z p y
      · obtain ⟨k,_,e,_,_,r⟩:=rv p y;rw[e];exact bZ r
    · refine .inr ⟨L,z1,λp hp=>?_⟩;rcases Lf.mp hp with y | y
      · exact z2 p y
      · obtain ⟨j,k,hj,hk,rfl⟩:=uz y;have:=fO ((sg.is k).mp (KC hk));exact pC (by show k.1 ≠ -1;lia) (z3 j k hj hk)
  · have:=h.n;have:=h.gr.tl;unfold fP;rw[KA,Ks,Li];lia
end
theorem By {ss:List S3}{kvs ps:bY}(hk:Keyed kvs)(hl:kvs.length<=2400)(hv:∀k,aO kvs k=av ss k)(hp:ps.Perm kvs)(hf:xQ ps):zu ss (ps.map (·.1)) where
 eV:=(hp.map _).nodup_iff.mpr hk
 dn:=λi j a b hij ha hb=>by
  rw[KS] at ha hb;obtain ⟨p,hp1,rfl⟩:=Option.map_eq_some_iff.mp ha;obtain ⟨q,hq1,rfl⟩:=Option.map_eq_some_iff.mp hb;obtain ⟨l1,e1⟩:=Kw.mp hp1;obtain ⟨l2,e2⟩:=Kw.mp hq1;rcases Nat.lt_or_eq_of_le hij with z | z
  .have:=pairwise_iff_getElem.mp hf i j l1 l2 z;rw[e1,e2] at this;exact this
  .subst z;rw[<-e1,<-e2];exact Int.le_refl _
 is:=λk=>by
  rw[(hp.map _).mem_iff,<-hv];constructor
  .intro h;cases e:aO kvs k with
   | none=>exact absurd h (cq.mp e)
   | some v=>rfl
  .intro h;refine Classical.byContradiction λz=>?_;rw[cq.mpr z] at h;cases h
 len:=by rw[Ks,hp.length_eq];exact hl
end WS
namespace WS
open DL
structure Lst (g:Int)(hs cs:List S3)(m:Int):Prop where
 z:0<=m
 ub:∀L:Int,xf g hs cs L<=m
 at':m=0\/∃L:Nat,L<251/\m=xf g hs cs (L:Nat)
end WS
namespace WS
open DL
noncomputable abbrev R3:=Int×Int×Int
noncomputable def bM (r:R3):K2:=(r.1,r.2.1)
noncomputable def iG (r:R3):K2×Int:=(bM r,r.2.2)
noncomputable def jQ (n:Nat)(s:S3)(m:Nat):List R3:=(K6 m).map λj:Nat=>((n:Int),cu s+(j:Int),s.2.2)
noncomputable def ju:Nat->List S3->List R3
 | _,[]=>[]
 | n,s::r=>jQ n s (eA s - cu s).toNat++ju (n+1) r
theorem yQ (n:Nat)(s:S3)(m:Nat):jQ n s (m+1)=jQ n s m++[((n:Int),cu s+(m:Int),s.2.2)]:=by unfold jQ;rw[List.range_succ,KU];rfl
theorem ox:∀(ss:List S3) (n:Nat) (s:S3),ju n (ss++[s])=ju n ss++jQ (n+ss.length) s (eA s - cu s).toNat
 | [],n,s=>by simp[ju]
 | a::ss,n,s=>by
  rw[List.cons_append];unfold ju;rw[ox ss (n+1) s,Lg,K9,show n+1+ss.length=n+(ss.length+1) by lia]
theorem jl:∀{ss:List S3} {n:Nat},(∀s∈ss,0<=cu s/\cu s<=eA s/\eA s<=200)->(ju n ss).length<=200*ss.length
 | [],_,_=>Lc _
 | s::ss,n,h=>by
  have ih:=jl (ss:=ss) (n:=n+1) λs hs=>h s (.tail _ hs);have:=h s (.head _);unfold ju jQ;rw[KA,Ks,length_range,K9];lia
theorem rK:∀{ss:List S3} {n:Nat} {r:R3},r∈ju n ss->(n:Int)<=r.1/\r.1<(n:Int)+ss.length
 | [],_,_,h=>by cases h
 | s::ss,n,r,h=>by
  unfold ju at h;rw[K9];rcases Lf.mp h with h | h
  .obtain ⟨j,_,rfl⟩:=KJ.mp h;dsimp only;lia
  .have:=rK h;lia
theorem lK:∀(ss:List S3) (n:Nat),((ju n ss).map bM).Nodup
 | [],_=>.nil
 | s::ss,n=>by
  unfold ju;rw[KU,nodup_append];refine ⟨?_,lK ss (n+1),λa ha b hb e=>?_⟩
  .unfold jQ;rw[map_map];refine my _ (λi j e=>?_) _;have:cu s+(i:Int)=cu s+(j:Int):=congrArg Prod.snd e;lia
  .obtain ⟨r,hr,rfl⟩:=KJ.mp ha;obtain ⟨r',hr',rfl⟩:=KJ.mp hb;obtain ⟨j,_,rfl⟩:=KJ.mp hr;have h1:=(rK hr').1;have:(n:Int)=r'.1:=congrArg Prod.fst e;lia
theorem Bv {ss:List S3}(ok:∀s∈ss,0<s.2.2/\cu s<=eA s)(k:K2)(v:Int):(k,v)∈(ju 0 ss).map iG↔av ss k=some v:=by
 generalize hn:ss.length=n;induction n generalizing ss with
 | zero =>
  obtain rfl:=length_eq_zero_iff.mp hn;constructor
  .intro h;cases h
  .intro h;obtain ⟨s,hs,_⟩:=cU h;have:=(cz hs).2.2;cases this
 | succ n ih =>
  obtain ⟨ini,s,rfl⟩ : ∃ini q,ss=ini++[q]:=by
   rcases eq_nil_or_concat ss with h | ⟨l,b,h⟩
   .rw[h] at hn;cases hn
   .exact ⟨l,b,by rw[h,concat_eq_append]⟩
  have hl:ini.length=n:=by rw[KA] at hn;simp at hn;exact hn
  have h1:=ih (ss:=ini) (λs hs=>ok s (mem_append_left _ hs)) hl;obtain ⟨o1,o2⟩:=ok s (by simp);rw[ox,KU,Lf,h1,iS,Nat.zero_add];have row:(k,v)∈(jQ ini.length s (eA s - cu s).toNat).map iG↔(k.1=(ini.length:Int)/\(cu s<=k.2/\k.2<eA s)/\s.2.2=v):=by
   constructor
   .intro h;obtain ⟨r,hr,e⟩:=KJ.mp h;obtain ⟨j,hj,rfl⟩:=KJ.mp hr;have hj:=mem_range.mp hj;obtain ⟨e1,e2⟩:=Prod.mk.inj e;refine ⟨by rw[<-e1];rfl,?_,e2⟩;rw[<-e1];show cu s<=cu s+(j:Int)/\cu s+(j:Int)<eA s;lia
   .rintro ⟨a,b,rfl⟩;refine KJ.mpr ⟨((ini.length:Int),k.2,s.2.2),KJ.mpr ⟨(k.2 - cu s).toNat,mem_range.mpr (by lia),?_⟩,?_⟩
    .rw[Int.toNat_of_nonneg (by lia),show cu s+(k.2 - cu s)=k.2 by lia]
    .show ((((ini.length:Int),k.2):K2),s.2.2)=(k,s.2.2)
     rw[<-a]
  rw[row];by_cases c:k.1=(ini.length:Int)
  .rw[if_pos c,jP c];by_cases c2:cu s<=k.2/\k.2<eA s
   .rw[if_pos ⟨o1,c2⟩];exact ⟨λz=>z.elim (λy=>(nomatch y)) λy=>by rw[y.2.2],λz=>.inr ⟨c,c2,Option.some.inj z⟩⟩
   .rw[if_neg (λz=>c2 z.2)];exact ⟨λz=>z.elim (λy=>(nomatch y)) λy=>absurd y.2.1 c2,λz=>(nomatch z)⟩
  .rw[if_neg c];exact ⟨λz=>z.elim id λy=>absurd y.1 c,.inl⟩
structure Ip (ss:List S3)(rs:List R3):Prop where
 eV:(rs.map bM).Nodup
 uv:∀k v,(k,v)∈rs.map iG↔av ss k=some v
theorem Bo {ss:List S3}(ok:∀s∈ss,0<s.2.2/\cu s<=eA s){rs:List R3}(hp:rs.Perm (ju 0 ss)):Ip ss rs where
 eV:=(hp.map _).nodup_iff.mpr (lK ss 0)
 uv:=λk v=>by rw[(hp.map _).mem_iff];exact Bv ok k v
theorem dU (rs:List R3):(rs.map iG).map (·.1)=rs.map bM:=by rw[map_map];rfl
noncomputable def live (rs:List R3):Nat:=(rs.filter λr=>decide (0<r.2.2)).length
theorem je (r:R3)(rs:List R3):live (r::rs)=(if 0<r.2.2 then 1 else 0)+live rs:=by
 unfold live;rw[filter_cons];by_cases c:0<r.2.2
 .rw[if_pos (decide_eq_true c),if_pos c,K9];lia
 .rw[if_neg (by rw[decide_eq_true_eq];exact c),if_neg c];lia
theorem tO:∀{rs:List R3} {j:Nat} {r r':R3},rs[j]?=some r->live (rs.set j r')+(if 0<r.2.2 then 1 else 0)=live rs+(if 0<r'.2.2 then 1 else 0)
 | [],_,_,_,h=>by simp at h
 | a::rs,0,r,r',h=>by
  cases h;rw[List.set_cons_zero,je,je];lia
 | a::rs,j+1,r,r',h=>by
  have ih:=tO (rs:=rs) (j:=j) (r:=r) (r':=r') (by simpa using h);rw[List.set_cons_succ,je,je];lia
theorem Bq {rs:List R3}{j:Nat}{r:R3}{v:Int}(h:rs[j]?=some r):(rs.set j (r.1,r.2.1,v)).map bM=rs.map bM:=by
 rw[map_set];refine List.ext_getElem? λi=>?_;rw[List.getElem?_set];split
 .rename_i e;subst e;rw[KS,h];obtain ⟨hl,_⟩:=Kw.mp h;rw[if_pos (by rw[Ks];exact hl)];rfl
 .rfl
theorem zh {rs:List R3}(hn:(rs.map bM).Nodup){j:Nat}{r:R3}(h:rs[j]?=some r):aO (rs.map iG) (bM r)=some r.2.2:=by
 rw[gJ (by unfold Keyed;rw[dU];exact hn)];exact KJ.mpr ⟨r,KC h,rfl⟩
theorem Bg {rs:List R3}(hn:(rs.map bM).Nodup){j:Nat}{r:R3}(h:rs[j]?=some r)(v:Int):putD (rs.map iG) (bM r) v=(rs.set j (r.1,r.2.1,v)).map iG:=by
 have hk:bM r∈(rs.map iG).map (·.1):=by rw[dU];exact KJ.mpr ⟨r,KC h,rfl⟩
 unfold putD;rw[if_pos (i7.mpr hk),map_map];refine List.ext_getElem? λi=>?_;rw[KS,KS,List.getElem?_set];by_cases e:j=i
 .subst e;obtain ⟨hl,_⟩:=Kw.mp h;rw[if_pos rfl,if_pos hl,h];show some (if bM r=bM r then (bM r,v) else iG r)=some (iG (r.1,r.2.1,v));rw[if_pos rfl];rfl
 .rw[if_neg e];cases e2:rs[i]? with
  | none=>rfl
  | some y =>
   have ne:bM y≠bM r:=λz=>e (eW hn (i:=j) (j:=i) (x:=bM r) (by rw[KS,h];rfl) (by rw[KS,e2];show some (bM y)=_;rw[z]));show some (if bM y=bM r then (bM y,v) else iG y)=some (iG y);rw[if_neg ne]
theorem BG {pre post:bY}{k:K2}{v:Int}(h:k∉pre.map (·.1)):aO (pre++(k,v)::post) k=some v:=by
 rw[mf,cq.mpr h,bQ,if_pos rfl];rfl
theorem Di {pre post:bY}{k:K2}{v w:Int}(h:k∉pre.map (·.1))(h':k∉post.map (·.1)):putD (pre++(k,v)::post) k w=pre++(k,w)::post:=by
 have same:∀l:bY,k∉l.map (·.1)->l.map (λp=>if p.1=k then (p.1,w) else p)=l:=λl hl=>by
  refine (map_congr_left λp hp=>?_).trans (List.map_id _);rw[if_neg (λz=>hl (KJ.mpr ⟨p,hp,z⟩))];rfl
 unfold putD;rw[if_pos (i7.mpr (by rw[KU];exact mem_append_right _ (.head _))),KU,K3,same pre h,same post h',if_pos rfl]
noncomputable def half (cell g:Int)(key:K2)(k:K2):Bool:=decide ((cell+k.2) % 3=1/\key.2+g<=k.2)
structure zr (g:Int)(hs cs:List S3)(keys:List K2)(key:K2)(pre post:bY)(bs:List P5)(base:Nat)(cell:Int)(j:Nat)(rs:List R3)(ps al:List P5)(need:Int)(m a:Nat):Prop where
 dw:DG g hs cs ps (rs.map iG) (pre++(key,need)::post)
 kr:rs.map bM=keys
 r0:∀r∈rs,0<=r.2.2
 n0:0<=need
 pm:al.Perm (ps++bs)
 nw:∀p∈ps,dO p=key->∃i,i<j/\keys[i]?=some (gk p)
 tk:∀p∈ps,dO p=key\/dO p∈pre.map (·.1)
 ct:al.length+live rs<=base+m+a
 m1:m<=30
 m2:need<=2 ^ (30 - m)
 m3:m<=((keys.take j).filter (half cell g key)).length
 a1:a=0\/(a=1/\need=0)
section
variable {g:Int} {hs cs:List S3} {keys:List K2} {key:K2} {pre post:bY} {bs:List P5} {base:Nat} {cell:Int} {j:Nat} {rs:List R3} {ps al:List P5} {need:Int} {m a:Nat}
theorem pT (keys:List K2)(f:K2->Bool)(j:Nat):((keys.take j).filter f).length<=((keys.take (j+1)).filter f).length:=by
 rw[List.take_succ,filter_append,KA];lia
theorem zr.skip (h:zr g hs cs keys key pre post bs base cell j rs ps al need m a):zr g hs cs keys key pre post bs base cell (j+1) rs ps al need m a where
 dw:=h.dw
 kr:=h.kr
 r0:=h.r0
 n0:=h.n0
 pm:=h.pm
 nw:=λp hp e=>by
  obtain ⟨i,hi,z⟩:=h.nw p hp e;exact ⟨i,by lia,z⟩
 tk:=h.tk
 ct:=h.ct
 m1:=h.m1
 m2:=h.m2
 m3:=Nat.le_trans h.m3 (pT ..)
 a1:=h.a1
theorem zr.pass (h:zr g hs cs keys key pre post bs base cell j rs ps al need m a)(hn:keys.Nodup)(hk1:key∉pre.map (·.1))(hk2:key∉post.map (·.1))(ra:∀k∈keys,(av hs k).isSome=true)(rb:(av cs key).isSome=true){r:R3}(hr:rs[j]?=some r){x:Int}(x1:1<=x)(xr:x<=r.2.2)(xn:x<=need)(hw:key.2+g<=r.2.1)
    (kind:x=r.2.2\/x=need\/((cell+r.2.1) % 3=1/\x=need / 2)):∃m' a',zr g hs cs keys key pre post bs base cell (j+1) (rs.set j (r.1,r.2.1,r.2.2 - x)) (ps++[(r.1,r.2.1,key.1,key.2,x)]) (al++[(r.1,r.2.1,key.1,key.2,x)]) (need - x) m' a':=by
  have hnr:(rs.map bM).Nodup:=by rw[h.kr];exact hn
  have hkj:keys[j]?=some (bM r):=by rw[<-h.kr,KS,hr];rfl
  have rk:=ra _ (KC hkj);have dn:=DG.pass h.dw (zh hnr hr) (BG hk1) rk rb x1 hw λp hp z=>by
    obtain ⟨i,hi,e⟩:=h.nw p hp z.2;rw[z.1] at e;have:=eW hn e hkj;lia
  rw[Bg hnr hr,Di hk1 hk2] at dn;have a0:a=0:=by
    rcases h.a1 with z | ⟨_,z⟩
    · exact z
    · lia
  have lv:=tO (r':=(r.1,r.2.1,r.2.2 - x)) hr;rw[if_pos (by lia)] at lv;have mk:∀m' a',(al.length+1+live (rs.set j (r.1,r.2.1,r.2.2 - x))<=base+m'+a')->m'<=30->need - x<=2 ^ (30 - m')->m'<=((keys.take (j+1)).filter (half cell g key)).length->(a'=0\/(a'=1/\need - x=0))->zr g hs cs keys key pre post bs base cell (j+1) (rs.set j (r.1,r.2.1,r.2.2 - x)) (ps++[(r.1,r.2.1,key.1,key.2,x)]) (al++[(r.1,r.2.1,key.1,key.2,x)]) (need - x) m' a':=λm' a' c1 c2 c3 c4 c5 =>
    ⟨dn,by rw[Bq hr];exact h.kr,λy hy=>by
      rcases List.mem_or_eq_of_mem_set hy with z | z
      · exact h.r0 y z
      · rw[z];show 0<=r.2.2 - x;lia,by lia,by
      refine (h.pm.append_right _).trans ?_;rw[Lg,Lg];exact List.Perm.append_left _ perm_append_comm,λp hp e=>by
      rcases Lf.mp hp with z | z
      · obtain ⟨i,hi,y⟩:=h.nw p z e;exact ⟨i,by lia,y⟩
      · rw[mem_singleton.mp z];exact ⟨j,by lia,hkj⟩,dZ h.tk (.inl rfl),by rw[KA];exact c1,c2,c3,c4,c5⟩
  have hct:=h.ct;have hm1:=h.m1;have hm2:=h.m2;have hm3:=h.m3;have hmo:=pT keys (half cell g key) j;by_cases c:x=r.2.2
  · refine ⟨m, 0, mk m 0 ?_ hm1 (by lia) (by lia) (.inl rfl)⟩;rw[if_neg (show ¬0<(r.1,r.2.1,r.2.2 - x).2.2 by show ¬0<r.2.2 - x;lia)] at lv;lia
  · rw [if_pos (show 0 < (r.1, r.2.1, r.2.2 - x).2.2 by show 0 < r.2.2 - x;lia)] at lv;by_cases c2:x=need
    · refine ⟨m, 1, mk m 1 (by lia) hm1 ?_ (by lia) (.inr ⟨rfl, by lia⟩)⟩;have:(0:Int)<=2 ^ (30 - m):=Int.pow_nonneg (by decide);lia
    · obtain ⟨c3,c4⟩:=(kind.resolve_left c).resolve_left c2;have hm30:m<30:=by
        refine Classical.byContradiction λz=>?_;have:30 - m=0:=by lia
        rw[this] at hm2;have:need<=1:=hm2;lia
      obtain ⟨d,hd⟩ : ∃d,30 - m=d+1:=⟨29 - m,by lia⟩
      refine ⟨m+1,0,mk (m+1) 0 (by lia) (by lia) ?_ ?_ (.inl rfl)⟩
      · rw [show 30 - (m + 1) = d by lia];rw[hd,Int.pow_succ] at hm2;lia
      · have e:(keys.take (j+1)).filter (half cell g key)=(keys.take j).filter (half cell g key)++[bM r]:=by
          rw[List.take_succ,hkj,filter_append];congr 1;show List.filter _ [bM r]=_;rw[filter_cons,if_pos (by unfold half;exact decide_eq_true ⟨c3,hw⟩)];rfl
        rw[e,KA];show m+1<=_+1;lia
end
noncomputable def fJ (w:K2->Nat)(ks:List K2):Nat:=(ks.map λk=>w k+1).sum
structure Out (g:Int)(hs cs:List S3)(keys:List K2)(ck0:bY)(w:K2->Nat)(k:Nat)(rs:List R3)(ck:bY)(ps al:List P5):Prop where
 dw:DG g hs cs ps (rs.map iG) ck
 kr:rs.map bM=keys
 kc:ck.map (·.1)=ck0.map (·.1)
 r0:∀r∈rs,0<=r.2.2
 c0:∀p∈ck,0<=p.2
 rest:ck.drop k=ck0.drop k
 pm:al.Perm (ps++fg (ck.take k))
 tk:∀p∈ps,dO p∈(ck0.take k).map (·.1)
 ct:al.length+live rs<=keys.length+fJ w ((ck0.take k).map (·.1))
section
variable {g:Int} {hs cs:List S3} {keys:List K2} {ck0:bY} {w:K2->Nat} {k:Nat} {rs:List R3} {ck:bY} {ps al:List P5} {key:K2} {need:Int} {cell:Int}
theorem CN (rs:List R3):live rs<=rs.length:=List.length_filter_le _ _
theorem Out.start (hr:Ip hs rs){rc:List R3}(hc:Ip cs rc)(oh:Pos hs)(oc:Pos cs)(hk:rs.map bM=keys):Out g hs cs keys (rc.map iG) w 0 rs (rc.map iG) [] [] where
 dw:=⟨λp h=>(nomatch h),.nil,λk v hv r hr'=>by
  have:=(hr.uv k v).mp ((gJ (by unfold Keyed;rw[dU];exact hr.eV)).mp hv);rw[hr'] at this;cases this;show 0+v=v;lia,λk v hv r hr'=>by
  have:=(hc.uv k v).mp ((gJ (by unfold Keyed;rw[dU];exact hc.eV)).mp hv);rw[hr'] at this;cases this;show 0+v=v;lia⟩
 kr:=hk
 kc:=rfl
 r0:=λr h=>by
  obtain ⟨s,_,h0,_,_,e⟩:=cU ((hr.uv _ _).mp (KJ.mpr ⟨r,h,rfl⟩));have e:r.2.2=s.2.2:=e;lia
 c0:=λp h=>by
  obtain ⟨s,_,h0,_,_,e⟩:=cU ((hc.uv p.1 p.2).mp h);lia
 rest:=rfl
 pm:=.nil
 tk:=λp h=>(nomatch h)
 ct:=by
  have:=CN rs;rw[<-hk,Ks];show 0+live rs<=_;lia
theorem Out.into (h:Out g hs cs keys ck0 w k rs ck ps al)(hn:(ck0.map (·.1)).Nodup)(hk:ck0[k]?=some (key,need))(n1:0<=need)(n2:need<=1000000000) :
  ck=ck.take k++(key,need)::ck.drop (k+1)/\key∉(ck.take k).map (·.1)/\key∉(ck.drop (k+1)).map (·.1)/\zr g hs cs keys key (ck.take k) (ck.drop (k+1)) (fg (ck.take k)) (keys.length+fJ w ((ck0.take k).map (·.1))) cell 0 rs ps al need 0 0:=by
 have hl:ck.length=ck0.length:=by have:=congrArg List.length h.kc;rwa [Ks,Ks] at this
 obtain ⟨hlt,_⟩:=Kw.mp hk;have hck:ck[k]?=some (key,need):=by
  have e:=congrArg (λl=>l[0]?) h.rest;rw[List.getElem?_drop,List.getElem?_drop,Nat.add_zero,hk] at e;exact e
 have dec:ck=ck.take k++(key,need)::ck.drop (k+1):=by
  have hlt':k<ck.length:=by lia
  rw[Kt hlt'] at hck;rw[<-Option.some.inj hck,<-drop_eq_getElem_cons hlt',take_append_drop]
 have nk:(ck.map (·.1)).Nodup:=by rw[h.kc];exact hn
 have nk':=nk;rw[dec,KU,K3,nodup_append,nodup_cons] at nk';have k1:key∉(ck.take k).map (·.1):=λz=>nk'.2.2 key z key (.head _) rfl;have ek:(ck.take k).map (·.1)=(ck0.take k).map (·.1):=by rw[map_take,h.kc,map_take]
 refine ⟨dec,k1,nk'.2.1.1,⟨by rw[<-dec];exact h.dw,h.kr,h.r0,n1,h.pm,λp hp e=>?_,λp hp=>.inr (by rw[ek];exact h.tk p hp),h.ct,by lia,by show need<=2 ^ 30;have:(2:Int) ^ 30=1073741824:=rfl;lia,Lc _,.inl rfl⟩⟩;rw[<-e] at k1;exact absurd (by rw[ek];exact h.tk p hp) k1
theorem yd (pre:bY)(key:K2)(v:Int):fg (pre++[(key,v)])=fg pre++(if 0<v then [(-1,-1,key.1,key.2,v)] else []):=by
 unfold fg kK;rw[filter_append,KU,filter_cons];by_cases c:0<v
 .rw[if_pos (decide_eq_true c),if_pos c];rfl
 .rw[if_neg (by rw[decide_eq_true_eq];exact c),if_neg c];rfl
theorem zr.out {pre post:bY}{m a:Nat}{need':Int}(h:zr g hs cs keys key pre post (fg pre) (keys.length+fJ w ((ck0.take k).map (·.1))) cell keys.length rs ps al need m a)(hk:ck0[k]?=some (key,need'))(hpl:pre.length=k)(e1:(pre++(key,need)::post).map (·.1)=ck0.map (·.1))(e2:post=ck0.drop (k+1))(e3:pre.map (·.1)=(ck0.take k).map (·.1))(c0:∀p∈pre,0<=p.2)(c1:∀p∈post,0<=p.2)
  (hw:((keys).filter (half cell g key)).length<=w key\/30<=w key) {al':List P5} (ha:al'=al++(if 0<need then [(-1,-1,key.1,key.2,need)] else [])):Out g hs cs keys ck0 w (k+1) rs (pre++(key,need)::post) ps al' where
 dw:=h.dw
 kr:=h.kr
 kc:=e1
 r0:=h.r0
 c0:=λp hp=>by
  rcases Lf.mp hp with z | z
  .exact c0 p z
  .rcases KQ.mp z with z | z
   .rw[z];exact h.n0
   .exact c1 p z
 rest:=by
  rw[<-e2,List.drop_append,hpl,List.drop_of_length_le (by lia),Nat.add_sub_cancel_left];rfl
 pm:=by
  rw[List.take_append,hpl,take_of_length_le (by lia),Nat.add_sub_cancel_left];show al'.Perm (ps++fg (pre++[(key,need)]));rw[yd,ha,<-Lg];exact h.pm.append_right _
 tk:=λp hp=>by
  rw[List.take_succ,hk,KU];rcases h.tk p hp with z | z
  .refine mem_append_right _ ?_;rw[z];exact .head _
  .exact mem_append_left _ (by rw[<-e3];exact z)
 ct:=by
  have e:fJ w ((ck0.take (k+1)).map (·.1))=fJ w ((ck0.take k).map (·.1))+(w key+1):=by
   unfold fJ;rw[List.take_succ,hk,KU,KU,sum_append];rfl
  have h1:=h.ct;have h2:=h.m1;have h3:=h.m3;rw[List.take_length] at h3;rw[e,ha,KA];have h4:(if 0<need then [((-1:Int),(-1:Int),key.1,key.2,need)] else []).length+a<=1:=by
   rcases h.a1 with z | ⟨z,y⟩
   .rw[z];split<;>simp
   .rw[z,if_neg (by lia)];simp
  rcases hw with z | z<;>lia
theorem Out.IX (h:Out g hs cs keys ck0 w ck0.length rs ck ps al)(hr:keys.Nodup)(hc:(ck0.map (·.1)).Nodup)(eh:∀k,k∈keys↔(av hs k).isSome=true)(ec:∀k,k∈ck0.map (·.1)↔(av cs k).isSome=true) :
  Looks g hs cs (al++kB (rs.map iG))/\(al++kB (rs.map iG)).length<=keys.length+fJ w (ck0.map (·.1)):=by
 have hl:ck.length=ck0.length:=by have:=congrArg List.length h.kc;rwa [Ks,Ks] at this
 have L:=h.dw.Hn (by unfold Keyed;rw[dU,h.kr];exact hr) (by unfold Keyed;rw[h.kc];exact hc) (λp hp=>by
  obtain ⟨r,hr,rfl⟩:=KJ.mp hp;exact h.r0 r hr) h.c0 (λk=>by rw[dU,h.kr];exact eh k) (λk=>by rw[h.kc];exact ec k)
 have pm:=h.pm;rw[take_of_length_le (by lia)] at pm;refine ⟨L.perm ?_,?_⟩
 .refine (pm.append_right _).trans ?_;rw[Lg,Lg];exact List.Perm.append_left _ perm_append_comm
 .have h1:=h.ct;rw[List.take_length] at h1;have e:(kB (rs.map iG)).length=live rs:=by
   unfold kB kK live;rw[Ks,List.filter_map,Ks];rfl
  rw[KA,e];exact h1
end
end WS
namespace WS
open DL
noncomputable def w3 (k:K2):Nat:=min 30 ((202 - k.2).toNat / 3)
theorem y8 {a b:List Nat}(h:a.Perm b):a.sum=b.sum:=by
 induction h with
 | nil=>rfl
 | cons x _ ih=>rw[sum_cons,sum_cons,ih]
 | swap x y l=>simp only[sum_cons];lia
 | trans _ _ h1 h2=>rw[h1,h2]
theorem Cy {g cell:Int}{keys:List K2}{key:K2}(hn:keys.Nodup)(h1:∀k∈keys,k.1=0/\k.2<200)(g0:0<=g)(k1:key.2<200):(keys.filter (half cell g key)).length<=(202 - key.2).toNat / 3:=by
 have fm:∀k∈keys.filter (half cell g key),k.1=0/\k.2<200/\(cell+k.2) % 3=1/\key.2+g<=k.2:=λk hk=>by
  obtain ⟨a,b⟩:=List.mem_filter.mp hk;unfold half at b;rw[decide_eq_true_eq] at b;exact ⟨(h1 k a).1,(h1 k a).2,b⟩
 have:=fw (l:=(keys.filter (half cell g key)).map λk=>(k.2 - key.2).toNat / 3) (l':=K6 ((202 - key.2).toNat / 3)) (by
  show List.Pairwise (·≠·) _;rw[pairwise_map];refine List.Pairwise.imp_of_mem (λ{x y} hx hy hne e=>hne ?_) (hn.sublist filter_sublist);have a:=fm x hx;have b:=fm y hy;exact Prod.ext (a.1.trans b.1.symm) (by lia)) λz hz=>by
  obtain ⟨k,hk,rfl⟩:=KJ.mp hz;have:=fm k hk;exact mem_range.mpr (by lia)
 rw[Ks,length_range] at this;exact this
theorem y9 (f:Nat->Nat)(lo n:Nat):∀m,lo+n<=m->((K6 n).map λj=>f (lo+j)).sum<=((K6 m).map f).sum:=by
 intro m;induction m generalizing n with
 | zero =>
  intro h;rw[show n=0 by lia];exact Lc _
 | succ m ih =>
  intro h;rw[List.range_succ,KU,sum_append];by_cases c:lo+n<=m
  .have:=ih n c;lia
  .cases n with
   | zero=>exact Lc _
   | succ n =>
    have:=ih n (by lia);rw[List.range_succ,KU,sum_append];have e:lo+n=m:=by lia
    show _ + [f (lo+n)].sum<=_ + [f m].sum;rw[e];lia
noncomputable def f3 (d:Nat):Nat:=min 30 ((202 - d) / 3)+1
theorem E2:((K6 200).map f3).sum=4895:=by decide +kernel
theorem Ds {n:Nat}{s:S3}(h:0<=cu s/\cu s<=eA s/\eA s<=200):fJ w3 ((jQ n s (eA s - cu s).toNat).map bM)<=4895:=by
 have:=y9 f3 (cu s).toNat (eA s - cu s).toNat 200 (by lia);rw[E2] at this;unfold fJ jQ;rw[map_map,map_map];refine Nat.le_trans (Nat.le_of_eq ?_) this;congr 1;refine map_congr_left λj _=>?_;show min 30 ((202 - (cu s+(j:Int))).toNat / 3)+1=min 30 ((202 - ((cu s).toNat+j)) / 3)+1;rw[show (202 - (cu s+(j:Int))).toNat=202 - ((cu s).toNat+j) by lia]
theorem uJ (w:K2->Nat)(a b:List K2):fJ w (a++b)=fJ w a+fJ w b:=by unfold fJ;rw[KU,sum_append]
theorem Bx:∀{ss:List S3} {n:Nat},(∀s∈ss,0<=cu s/\cu s<=eA s/\eA s<=200)->fJ w3 ((ju n ss).map bM)<=4895*ss.length
 | [],_,_=>Lc _
 | s::ss,n,h=>by
  have ih:=Bx (ss:=ss) (n:=n+1) λs hs=>h s (.tail _ hs);have:=Ds (n:=n) (h s (.head _));unfold ju;rw[KU,uJ,K9];lia
theorem zi {w:K2->Nat}{a b:List K2}(h:a.Perm b):fJ w a=fJ w b:=y8 (h.map _)
theorem oF (c:Nat):∀ks:List K2,fJ (λ_=>c) ks=(c+1)*ks.length
 | []=>rfl
 | k::ks=>by
  have ih:=oF c ks;unfold fJ at ih ⊢;rw[K3,sum_cons,ih,K9,Nat.mul_add,Nat.mul_one];dsimp only;lia
theorem rL:∀{ss:List S3} {n:Nat},(∀s∈ss,eA s - cu s<=6)->(ju n ss).length<=6*ss.length
 | [],_,_=>Lc _
 | s::ss,n,h=>by
  have ih:=rL (ss:=ss) (n:=n+1) λs hs=>h s (.tail _ hs);have:=h s (.head _);unfold ju jQ;rw[KA,Ks,length_range,K9];lia
theorem GY {g:Int}{hs cs:List S3}{rs rc:List R3}(g0:0<=g)(hh:∀s∈hs,0<=cu s/\cu s<=eA s/\eA s<=200)(hc:∀s∈cs,0<=cu s/\cu s<=eA s/\eA s<=200)(nh:hs.length<=12)(nc:cs.length<=12)(hr:rs.Perm (ju 0 hs))(hrc:rc.Perm (ju 0 cs))
  (sm:(hs.length<=1/\cs.length<=2)\/((∀x∈hs,eA x - cu x<=6)/\∀x∈cs,eA x - cu x<=6)) :
  ∃w:K2->Nat,(∀(key:K2) (cell:Int),key∈rc.map bM->((rs.map bM).filter (half cell g key)).length<=w key\/30<=w key)/\(rs.map bM).length+fJ w (rc.map bM)<=9990:=by
 rcases sm with ⟨s1,s2⟩ | ⟨s1,s2⟩
 .refine ⟨w3,λkey cell hk=>?_,?_⟩
  .unfold w3;by_cases c:30<=(202 - key.2).toNat / 3
   .exact .inr (by lia)
   .refine .inl ?_;rw[show min 30 ((202 - key.2).toNat / 3)=(202 - key.2).toNat / 3 by lia];have kd:∀{ss:List S3} {n:Nat} {r:R3},(∀s∈ss,0<=cu s/\cu s<=eA s/\eA s<=200)->r∈ju n ss->r.2.1<200:=λ{ss}=>by
     induction ss with
     | nil=>intro n r _ h;cases h
     | cons s ss ih =>
      intro n r ho h;unfold ju at h;rcases Lf.mp h with h | h
      .obtain ⟨j,hj,rfl⟩:=KJ.mp h;have:=mem_range.mp hj;have:=ho s (.head _);show cu s+(j:Int)<200;lia
      .exact ih (λs hs=>ho s (.tail _ hs)) h
    refine Cy ((hr.map _).nodup_iff.mpr (lK hs 0)) (λk hk=>?_) g0 ?_
    .obtain ⟨r,hr',rfl⟩:=KJ.mp hk;have m:=hr.mem_iff.mp hr';have:=rK m;exact ⟨by show r.1=0;lia,kd hh m⟩
    .obtain ⟨r,hr',rfl⟩:=KJ.mp hk;exact kd hc (hrc.mem_iff.mp hr')
  .have l1:=jl (n:=0) hh;have l2:=Bx (n:=0) hc;rw[Ks,hr.length_eq,zi (hrc.map bM)];lia
 .refine ⟨λ_=>30,λkey cell _=>.inr (Ku _),?_⟩;have l1:=rL (n:=0) s1;have l2:=rL (n:=0) s2;rw[oF,Ks,Ks,hr.length_eq,hrc.length_eq];lia
end WS
set_option maxHeartbeats 4000000
namespace WS
open PySem L2 DL
local macro_rules | `(tactic| walk_at "rs1")=>do let ns:=("EU zS ET wu Ca Cc wy wx qE B8 EH B7 uZ EI zM di dC mm dI EJ Cb wo Ce oI DY zI ER oJ EO B6 Iq zJ qD dE sM EM su GN Gn GO mH fK EL gd aV dput de E4 B.val dB Tg.d putN u9 vb fW wH j7 fh uK GP List.map List.length we wj wg sk so sq sr sI sy sA wc sJ sL wm sD sF sE pK wW wX zW xK xM xN wz uF uG pE pG pF zR sC wa v9 pD uY j4 mI zT zU EK v8 zO wO BS oK zV wd zG v7 u0 qF qC zN qB B9 wq mG zX".splitOn " ").toArray.map λs=>Lean.mkIdent s.toName;`(tactic| dsimp only[$[$ns:ident],*])
local macro_rules | `(tactic| walk_at "rsx")=>`(tactic| set_option simprocs false in simp only[Hi,Hj,Hk,Jg,Jh,GX])
local macro_rules | `(tactic| walk_at "rs")=>`(tactic| repeat (first | walk_at "rs1" | walk_at "rsx"))
local macro_rules | `(tactic| walk_at "v") => `(tactic| first | exact Or.inl rfl | exact Or.inr (Or.inl rfl) | exact Or.inr (Or.inr rfl))
local macro_rules | `(tactic| walk_at "rs2")=>do let ns:=("zS ET wu Ca Cc wy wx qE B8 EH B7 uZ EI zM di dC mm dI EJ Cb wo Ce oI DY zI ER oJ EO B6 Iq zJ qD dE sM EM su GN Gn GO mH fK EL gd aV dput de E4 B.val dB Tg.d putN u9 vb fW wH j7 fh uK GP List.map List.length we wj wg sk so sq sr sI sy sA wc sJ sL wm sD sF sE pK wW wX zW xK xM xN wz uF uG pE pG pF zR sC wa v9 pD uY j4 mI zT zU EK v8 zO wO BS oK zV wd zG v7 u0 qF qC zN qB B9 wq mG zX".splitOn " ").toArray.map λs=>Lean.mkIdent s.toName;`(tactic| dsimp only[$[$ns:ident],*])
noncomputable def top (i:Nat):Stmt:=PySem.Challenge.pw_warmshare_k17_sharings_spoilt.main.body.getD i (.Pass ⟨0,0,0,0⟩)
structure oX (K:Frag)(mg:Str->Option Kn):Prop where
 eS:mg "len" = none
 gO:mg "range" = none
 jY:mg "min" = none
 zy:mg "sum" = none
 r6:mg "enumerate" = none
 sd:mg "max" = none
 se:mg "sorted" = none
 uS:mg "list" = none
 DN:mg "set" = none
 GF:mg "all" = none
 qr:mg "isinstance" = none
 BZ:mg "tuple" = none
 gw:CT K mg "BOUGHT" (-1) (-1)
noncomputable abbrev eJ:Stmt:=top 10
theorem e6:bj ["script","k","step","found","cell"] ["script","k"] (aj eJ):=⟨rfl,rfl,rfl,by decide +kernel,rfl,by decide +kernel,by decide +kernel⟩
noncomputable abbrev cW:Stmt:=top 11
theorem fZ:bj ["number","low","wide","most","one","rate"] ["number","low","wide","most"] (aj cW):=⟨rfl,rfl,rfl,by decide +kernel,rfl,by decide +kernel,by decide +kernel⟩
noncomputable abbrev cP:Stmt:=top 12
theorem aK:bj ["script","number","low","wide","gap","counts","most","streams","k","cell","hots"] ["script"] (aj cP):=⟨rfl,rfl,rfl,by decide +kernel,rfl,by decide +kernel,by decide +kernel⟩
noncomputable abbrev bO:Stmt:=top 4
theorem cn:bj ["streams","rates","number","stream","degree"] ["streams"] (aj bO):=⟨rfl,rfl,rfl,by decide +kernel,rfl,by decide +kernel,by decide +kernel⟩
noncomputable abbrev bF:Stmt:=top 5
theorem lH:bj ["steps"] ["steps"] (aj bF):=⟨rfl,rfl,rfl,by decide +kernel,rfl,by decide +kernel,by decide +kernel⟩
noncomputable abbrev bK:Stmt:=top 6
theorem kM:bj ["gap","giver","taker"] ["gap","giver","taker"] (aj bK):=⟨rfl,rfl,rfl,by decide +kernel,rfl,by decide +kernel,by decide +kernel⟩
noncomputable abbrev fH:Stmt:=top 2
theorem bP:bj ["works","left","wanted","givers","passes","turn","taker","need","giver","heat"] ["works"] (aj fH):=⟨rfl,rfl,rfl,by decide +kernel,rfl,by decide +kernel,by decide +kernel⟩
noncomputable abbrev dH:Stmt:=top 17
theorem d8:bj ["streams","number","found","k","degree","at"] ["streams","number"] (aj dH):=⟨rfl,rfl,rfl,by decide +kernel,rfl,by decide +kernel,by decide +kernel⟩
noncomputable abbrev cN:Stmt:=top 18
theorem aT:bj ["works","number","cells","passes","hots","colds","k","taker","into","need","cell","one","part","heat"] ["works","number","cells"] (aj cN):=⟨rfl,rfl,rfl,by decide +kernel,rfl,by decide +kernel,by decide +kernel⟩
noncomputable abbrev bN:Stmt:=top 19
theorem cY:bj ["passes","at","other","one","two","some"] ["passes","at","other"] (aj bN):=⟨rfl,rfl,rfl,by decide +kernel,rfl,by decide +kernel,by decide +kernel⟩
noncomputable abbrev cV:Stmt:=top 20
theorem aZ:bj ["passes","cell","at","more","one","kind","other","some","spot","number"] ["passes","cell"] (aj cV):=⟨rfl,rfl,rfl,by decide +kernel,rfl,by decide +kernel,by decide +kernel⟩
noncomputable abbrev eL:Stmt:=top 15
theorem bS:bj ["streams","passes","place","sums","one","key","number","start","goal","rate","degree"] ["streams","passes","place"] (aj eL):=⟨rfl,rfl,rfl,by decide +kernel,rfl,by decide +kernel,by decide +kernel⟩
noncomputable abbrev cG:Stmt:=top 13
theorem d7:bj ["streams","number","degree","start","goal","rate"] ["streams","number","degree"] (aj cG):=⟨rfl,rfl,rfl,by decide +kernel,rfl,by decide +kernel,by decide +kernel⟩
noncomputable abbrev eK:Stmt:=top 14
theorem dJ:bj ["works","one","giver","at","taker","into","heat"] ["works","one"] (aj eK):=⟨rfl,rfl,rfl,by decide +kernel,rfl,by decide +kernel,by decide +kernel⟩
noncomputable abbrev br:Stmt:=top 16
theorem eR:bj ["works","passes","one","heat","cold"] ["works","passes"] (aj br):=⟨rfl,rfl,rfl,by decide +kernel,rfl,by decide +kernel,by decide +kernel⟩
noncomputable abbrev cm:Stmt:=top 8
theorem dz:bj ["pairs","sums","step","heat"] ["pairs"] (aj cm):=⟨rfl,rfl,rfl,by decide +kernel,rfl,by decide +kernel,by decide +kernel⟩
noncomputable abbrev eN:Stmt:=top 7
theorem uC:bj ["gap","giver","taker","heat"] ["gap","giver","taker","heat"] (aj eN):=⟨rfl,rfl,rfl,by decide +kernel,rfl,by decide +kernel,by decide +kernel⟩
noncomputable abbrev aR:Stmt:=top 3
theorem bT:bj ["works","passes","given","gotten","heat","cold"] ["works","passes"] (aj aR):=⟨rfl,rfl,rfl,by decide +kernel,rfl,by decide +kernel,by decide +kernel⟩
noncomputable abbrev kL:Stmt:=top 21
theorem fc:bj ["script","works","whole","cells","cell","passes","due","handed","found"] ["script"] (aj kL):=⟨rfl,rfl,rfl,by decide +kernel,rfl,by decide +kernel,by decide +kernel⟩
noncomputable abbrev Dk:Str:="warmest_first" ++ ".<locals>." ++ "<lambda>"
section
variable {Pt:Addr} {P:KP} {w:K7} {K:Frag} {mg:Str->Option Kn} {base:Heap} {f:Addr} {fd:FuncData}
theorem mulR {i j:Int}(h : -(2 ^ 64)<j/\j<2 ^ 64):uM i j:=.inr h
theorem mulL {i j:Int}(h : -(2 ^ 64)<i/\i<2 ^ 64):uM i j:=.inl h
noncomputable def d3 (x:S3):D:=.tup [.int x.1,.int x.2.1,.int x.2.2]
noncomputable def dW (g:Int)(hs cs:List S3):D:=.tup [.int g,.lst (hs.map d3),.lst (cs.map d3)]
structure zw (g:Int)(hs cs:List S3):Prop where
 g0:0<=g
 g1:g<=50
 nh:hs.length<=12
 nc:cs.length<=12
 D7:∀x∈hs,zq x
 qy:∀x∈cs,kU x
theorem bo {t1 u:fU}{E:iw}{ρ:ax}(C:ax->Prop)(tail:∀ρ,C ρ->u E ρ)(head:∀N:ax->Prop,(∀ρ,C ρ->N ρ)->t1 { E with nx:=N } ρ):EU t1 u E ρ:=head _ tail
theorem EG (p q:S3)(h:d3 p=d3 q):p=q:=by
 obtain ⟨a,b,c⟩:=p;obtain ⟨a',b',c'⟩:=q;unfold d3 at h;simp only[D.tup.injEq,List.cons.injEq,D.int.injEq,and_true] at h;obtain ⟨rfl,rfl,rfl⟩:=h;rfl
theorem mP:∀l:List P5,iJ (l.map d5)=true
 | []=>dm
 | x::l=>by rw[K3,eF,mP l,show cF (d5 x)=true by unfold d5;simp only[kF,eF,dm,jg,Bool.and_true]];rfl
theorem mL:∀l:List P5,gQ (l.map d5)<=1
 | []=>by rw[List.map_nil,iB];exact Lc _
 | x::l=>by
  have h:=mL l;have e:dep (d5 x)=1:=by unfold d5;simp only[qH,gf,iB,mM];rfl
  rw[K3,gf,e];lia
noncomputable def wv (n:Nat)(l:List (Option B)):Nat->Option B:=λi=>(l[i - n]?).getD none
noncomputable def cR:DR:=λds P=>∃g a b c d:Int,ds = [.int g,.tup [.int a,.int b],.tup [.int c,.int d]]/\P (.p (.bl (decide (b>=d+g))))
theorem kH (T:oX K mg)(F:lP K "is_warm_enough" "is_warm_enough" bK f fd):cL P w K mg base iu 1 f fd ["gap","giver","taker"] (eP K cR):=by
 refine uL F kM (λds Q h=>by obtain ⟨g,a,b,c,d,rfl,q⟩:=h;rfl) λcdv A outer s H E hr=>⟨_,(ak (aP (lq xm (aH (dv 1) ae) (ao aD (aH (dv 2) ae) (dv 0)) (aA _)))),λds Q h=>?_⟩
 obtain ⟨g,a,b,c,d,rfl,q⟩:=h;walk_at "rs";exact q
structure xV (ss:List S3):Prop where
 n:ss.length<=12
 w:∀s∈ss,0<=cu s/\cu s<=eA s/\eA s<=200
theorem rJ {hs:List S3}(h:∀s∈hs,zq s)(n:hs.length<=12):xV hs:=⟨n,λs hs=>by
 have a:=(h s hs).lo;have b:=(h s hs).lt;have c:=(h s hs).hi;unfold cu eA;lia⟩
theorem mZ {cs:List S3}(h:∀s∈cs,kU s)(n:cs.length<=12):xV cs:=⟨n,λs hs=>by
 have a:=(h s hs).lo;have b:=(h s hs).lt;have c:=(h s hs).hi;unfold cu eA;lia⟩
noncomputable def du:DR:=λds P=>∃ss:List S3,ds = [.lst (ss.map d3)]/\xV ss/\∀kvs:bY,Keyed kvs->kvs.length<=2400->(∀k,aO kvs k=av ss k)->P (.o (.dct kvs))
theorem lB (T:oX K mg)(F:lP K "rates_by_step" "rates_by_step" bO f fd):cL P w K mg base iu 1 f fd ["streams"] (eP K du):=by
  refine uL F cn (λds Q h=>by obtain ⟨ss,rfl,ok,q⟩:=h;rfl) λcdv A outer s H E hr=>⟨_,(af (fD (i:=1) cn.nd rfl (Or.inl rfl) qG)
      (af (jC (g:=(.t [2,3])) PassesOwn.never rfl (qJ (by rfl) T.r6 (aa (dv 0) ai)) (iO rfl (aS (aB (i:=2) cn.nd rfl (Or.inl rfl)) (aS (aB (i:=3) cn.nd rfl (Or.inl rfl)) fN))) (ak (bq (aF lX (aH (dv 3) ae) ae (aA _)) (ak (gR (g:=(.n 4)) PassesOwn.never rfl (nz (by rfl) T.gO (aa (aG (vZ rfl) (by rfl) T.jY boot_min (aa (aC (dv 3) (az ae) (az ae)) ai)) (aa (aG (vY rfl) (by rfl) T.sd boot_max (aa (aC (dv 3) (az ae) (az ae)) ai)) ai))) (aB (i:=4) cn.nd rfl (Or.inl rfl)) (ak (Cm (i:=1) hr rfl (by walk_at "v") (dv 2) (dv 4) (aH (dv 3) ae))))) aJ)))
      (ak (qM 1)))),λds Q h=>?_⟩
  obtain ⟨ss,rfl,ok,q⟩:=h;walk_at "rs";have sl:sizeLine=16777216:=sizeLine_eq;refine cJ (λi ρ=>∃kvs,∃y:Nat->Option B,ρ = [some (.p (.lst (ss.map d3))),some (.o (.dct kvs)),y 2,y 3,y 4]/\Keyed kvs/\kvs.length<=200*i/\∀k,aO kvs k=av (ss.take i) k) ⟨[],λ_=>none,rfl,.nil,Ku _,λk=>by
    rw[List.take_zero];unfold av strAt;split<;>first | rfl | (rename_i h;split at h<;>cases h)⟩ ?_ ?_
  · rintro i x ρ hx ⟨kvs,yy,rfl,hk,hl,hv⟩;obtain ⟨y,hy,rfl⟩:=gS hx;rw[KS] at hy;cases es:ss[i]? with
    | none=>rw[es] at hy;cases hy
    | some s =>
    rw[es] at hy;cases hy;have hi:=(Kw.mp es).1;have hn:=ok.n;have hw:=ok.w s (KC es);have tl:(ss.take i).length=i:=by rw[KO];lia
    repeat (first | dsimp only[d3] | walk_at "rs1" | walk_at "rsx")
    refine ⟨λh0=>⟨by decide,⟨[s.1,s.2.1],rfl,by simp,λm hm hle=>⟨by decide,[s.1,s.2.1],rfl,by simp,λM hM hge=>?_⟩⟩⟩,λh0=>?_⟩
    · have em:m=cu s:=by
        unfold cu;have h1:=hle s.1 (.head _);have h2:=hle s.2.1 (.tail _ (.head _));simp only[KQ,List.not_mem_nil,or_false] at hm;lia
      have eM:M=eA s:=by
        unfold eA;have h1:=hge s.1 (.head _);have h2:=hge s.2.1 (.tail _ (.head _));simp only[KQ,List.not_mem_nil,or_false] at hM;lia
      subst em;subst eM;rw[decide_eq_true_eq] at h0;walk_at "rs";refine ⟨⟨by lia,by lia,by lia,by lia⟩,?_⟩;refine cJ (λj ρ=>∃kvs' a4,ρ = [some (.p (.lst (ss.map d3))),some (.o (.dct kvs')),some (.p (.int ((0+i:Nat):Int))),some (.p (.tup [.int s.1,.int s.2.1,.int s.2.2])),a4]/\Keyed kvs'/\kvs'.length<=200*i+j/\∀k:K2,aO kvs' k=if k.1=(i:Int)/\cu s<=k.2/\k.2<cu s+(j:Nat) then some s.2.2 else av (ss.take i) k) ⟨kvs,yy 4,rfl,hk,hl,λk=>by rw[if_neg (by lia)];exact hv k⟩ ?_ ?_
      · rintro j y ρ hy ⟨kvs',a4',rfl,hk',hl',hv'⟩;obtain ⟨hj,rfl⟩:=cC hy;walk_at "rs";refine ⟨by lia,_,_,rfl,qb hk' _ _,by have:=xE kvs' (((0+i:Nat):Int),cu s+(j:Nat)) s.2.2;lia,λk=>?_⟩;rw[gK,hv'];obtain ⟨k1,k2'⟩:=k;dsimp only;by_cases c:((0+i:Nat):Int)=k1/\cu s+(j:Nat)=k2'
        · rw[if_pos (by rw[c.1,c.2]),if_pos (by lia)]
        · rw [if_neg (by rw [Prod.mk.injEq];exact c)];by_cases c2:k1=(i:Int)/\cu s<=k2'/\k2'<cu s+(j:Nat)
          · rw[if_pos c2,if_pos (by lia)]
          · rw[if_neg c2,if_neg (by lia)]
      · rintro ρ ⟨kvs',a4',rfl,hk',hl',hv'⟩;rw[cQ] at hl' hv';refine ⟨kvs',wv 2 [_,_,_],rfl,hk',by lia,λk=>?_⟩;rw[hv',WS.take_snoc es,iS,tl];by_cases c:k.1=(i:Int)
        · rw[if_pos c];by_cases c2:cu s<=k.2/\k.2<eA s
          · rw[if_pos ⟨c,c2.1,by lia⟩,if_pos ⟨h0,c2⟩]
          · rw[if_neg (by lia),if_neg (λz=>c2 z.2),jP (by rw[tl];exact c)]
        · rw[if_neg (λz=>c z.1),if_neg c]
    · rw[decide_eq_false_iff_not] at h0;refine ⟨kvs,wv 2 [_,_,_],rfl,hk,by lia,λk=>?_⟩;rw[hv,WS.take_snoc es,iS,tl];by_cases c:k.1=(i:Int)
      · rw[if_pos c,if_neg (λz=>h0 z.1),jP (by rw[tl];exact c)]
      · rw[if_neg c]
  · rintro ρ ⟨kvs,yy,rfl,hk,hl,hv⟩;rw[gU,Ks] at *;rw[List.take_length] at hv;walk_at "rs";have:=ok.n;exact q kvs hk (by lia) hv
noncomputable def ik (k:K2):D:=.tup [.int k.1,.int k.2]
noncomputable def l5 (p:P5):List Int:=[p.1,p.2.1,p.2.2.1,p.2.2.2.1,p.2.2.2.2]
theorem flat_keys:∀ks:List K2,(ks.map ik).all D.flat=true
 | []=>rfl
 | k::ks=>by rw[K3,List.all_cons,flat_keys ks];rfl
theorem Am:∀ps:List P5,(ps.map d5).all D.flat=true
 | []=>rfl
 | k::ks=>by rw[K3,List.all_cons,Am ks];rfl
noncomputable def fb:DR:=λds P=>∃kvs:bY,ds = [.dct kvs]/\∀ps:bY,ps.Perm kvs->xQ ps->P (.o (.lst ((ps.map (·.1)).map ik)))
theorem lC (kb:K.In base)(hBl:cc mg base)(T:oX K mg)(F:Er K "warmest_first" "warmest_first" bF f fd Pt):cL P w K mg base iu 1 f fd ["steps"] (mC K Pt Dk fb):=by
 refine Jq F lH (λds Q h=>by obtain ⟨kvs,rfl,q⟩:=h;rfl) λcdv A outer s H E hr hT hC=>⟨_,(ak (aP (Aa (x:="step") (by rfl) T.se (by rfl) T.uS rfl (hr.mono (by decide)) rfl hC kb hBl hT rfl rfl (λ_ _ _ _ _=>rfl) rfl rfl rfl (by decide) rfl (by decide) (aa (dv 0) ai)))),λds Q h=>?_⟩
 obtain ⟨kvs,rfl,q⟩:=h;walk_at "rs";intro ps hp hf;have:=q ps hp hf;rw[map_map] at this;exact this
noncomputable def oj:DR:=λds P=>∃g hs cs,ds = [dW g hs cs]/\zw g hs cs/\∀ps:List P5,Looks g hs cs ps->zt (ps.map l5)->ps.length<=4800->Tight g ps->P (.o (.lst (ps.map d5)))
inductive JS (g:Int)(hs cs:List S3)(ck:bY)(gs ts:List K2)(i:Nat)(ρ:ax):Prop
 | mk (t:Nat) (lk:bY) (ps:List P5) (y:Nat->Option B) (G:Gi g hs cs gs ts i t lk ps) (e:ρ = [some (.p (dW g hs cs)),some (.o (.dct lk)),some (.p (.dct ck)),some (.p (.lst (gs.map ik))),some (.o (.lst (ps.map d5))),some (.p (.int (t:Nat))),y 6,y 7,y 8,y 9]):JS g hs cs ck gs ts i ρ
inductive IH (g:Int)(hs cs:List S3)(ck:bY)(gs ts:List K2)(i:Nat)(k:K2)(C:Int->Nat->Prop)(ρ:ax):Prop
 | mk (t:Nat) (n:Int) (lk:bY) (ps:List P5) (y:Nat->Option B) (G:Gw g hs cs gs ts i k t n lk ps) (c:C n t) (e:ρ = [some (.p (dW g hs cs)),some (.o (.dct lk)),some (.p (.dct ck)),some (.p (.lst (gs.map ik))),some (.o (.lst (ps.map d5))),some (.p (.int (t:Nat))),some (.p (ik k)),some (.p (.int n)),y 8,y 9]):IH g hs cs ck gs ts i k C ρ
noncomputable def Kd (n:Nat)(ρ:ax):Nat:=match aV ρ 5,aV ρ 7 with
 | some (.p (.int t)),some (.p (.int m))=>2*(n - t.toNat)+(if 0<m then 1 else 0)
 | _,_=>0
theorem yH (T:oX K mg)(F_rates_by_step:Fn P w K mg base "rates_by_step" 1 ["streams"] (eP K du))(F_warmest_first:Fn P w K mg base "warmest_first" 1 ["steps"] (mC K Pt Dk fb))(F_is_warm_enough:Fn P w K mg base "is_warm_enough" 1 ["gap","giver","taker"] (eP K cR))(F:lP K "shared" "shared" fH f fd):cL P w K mg base iu 2 f fd ["works"] (mC K Pt Dk oj):=by
 refine Ht F bP (λds Q h=>by obtain ⟨g,hs,cs,rfl,ok,q⟩:=h;rfl) λcdv A outer s H E hr hT=>⟨_,(af (fD (i:=1) bP.nd rfl (Or.inr rfl) (bz F_rates_by_step (hr.mono (by decide)) (by rfl) (aa (aH (dv 0) ae) ai)))
   (af (aw (i:=2) bP.nd rfl (Or.inl rfl) (bz F_rates_by_step (hr.mono (by decide)) (by rfl) (aa (aH (dv 0) ae) ai)))
   (af (Cp (i:=3) bP.nd rfl (Or.inl rfl) (u6 hT F_warmest_first (hr.mono (by decide)) (by rfl) (aa (dv 1) ai)))
   (af (fD (i:=4) bP.nd rfl (Or.inl rfl) (cf ai))
   (af (aw (i:=5) bP.nd rfl (Or.inl rfl) ae)
   (af (jC (g:=(.n 6)) PassesOwn.never rfl (bL (u6 hT F_warmest_first (hr.mono (by decide)) (by rfl) (aa (dv 2) ai))) (aB (i:=6) bP.nd rfl (Or.inl rfl)) (af (aw (i:=7) bP.nd rfl (Or.inl rfl) (mJ hr (dv 2) (dv 6)))
   (af (Ag PassesOwn.never (DW.dt (lu (aF lX (dv 7) ae (aA _)) (lu (aF p6 (dv 5) (aG dA (by rfl) T.eS PySem.boot_len (aa (dv 3) ai)) (aA _)) (kf (nA (bz F_is_warm_enough (hr.mono (by decide)) (by rfl) (aa (aH (dv 0) ae) (aa (aH (dv 3) (dv 5)) (aa (dv 6) ai))))))))) (af (aw (i:=8) bP.nd rfl (Or.inl rfl) (aH (dv 3) (dv 5)))
   (af (wK (i:=9) bP.nd rfl (Or.inl rfl) (aG (gP rfl) (by rfl) T.jY boot_min (aa (dv 7) (aa (mJ hr (dv 1) (dv 8)) ai))))
   (af (qK (i:=4) rfl (by walk_at "v") (ao aD (ao aD (dv 8) (dv 6)) (bw (aa (dv 9) ai))))
   (af (Ae (i:=7) bP.nd rfl (Or.inl rfl) (dv 9) Ay)
   (af (Ck (Dh (pv 1) (dv 8).pe (get_dict (kC hr)) (dv 9).pe Ay (set_dict (kC hr))))
   (ak (bq (aF dq (mJ hr (dv 1) (dv 8)) ae (aA _)) (ak (Ae (i:=5) bP.nd rfl (Or.inl rfl) ae E5)) aJ))))))))
   (ak (bq (aF lX (dv 7) ae (aA _)) (ak (qK (i:=4) rfl (by walk_at "v") (ao aD (Cg (dv 6) T.gw (by rfl)) (bw (aa (dv 7) ai))))) aJ)))))
   (af (Cn (i:=4) rfl (by walk_at "v") (iz (g:=(.n 0)) (tc:=gd) (te:=(mm _ (v7 _ _ (di 0)) (sM (dE (mm sC (di 1) (di 0)) qD)))) (sc0:=aj fH) (N0:=["works","left","wanted","givers","passes","turn","taker","need","giver","heat"]) ["giver","left"] [none,some 1] rfl (bL (aC (dv 3) (az (dv 5)) aQ)) (λ_ _ _ _ _=>(aB (i:=0) (show (["giver","left"]:List Str).Nodup by decide +kernel) rfl (Or.inl rfl))) (λ_ _ _ _ _=>fC) (λ_ _ _ _ _=>(ao aD (Ci (dv 0) T.gw (by rfl)) (bw (aa (mJ hr (dv 1) (dv 0)) ai))))))
   (ak (aP (aG zE (by rfl) T.se boot_sorted (aa (dv 4) ai))))))))))),λds Q h=>?_⟩
 obtain ⟨g,hs,cs,rfl,ok,q⟩:=h;have sl:sizeLine=16777216:=sizeLine_eq;have oh:=rJ ok.D7 ok.nh;have oc:=mZ ok.qy ok.nc;refine bo (λρ=>∃hk:bY,Keyed hk/\hk.length<=2400/\(∀k,aO hk k=av hs k)/\ρ = [some (.p (dW g hs cs)),some (.o (.dct hk)),none,none,none,none,none,none,none,none]) ?_ λN hN=>?_;rotate_left
 .repeat (first | dsimp only[dW] | walk_at "rs1" | walk_at "rsx")
  exact ⟨hs,rfl,oh,λkvs hk hl hv=>hN _ ⟨kvs,hk,hl,hv,rfl⟩⟩
 rintro ρ ⟨hk,kh,lh,vh,rfl⟩;refine bo (λρ=>∃ck:bY,Keyed ck/\ck.length<=2400/\(∀k,aO ck k=av cs k)/\ρ = [some (.p (dW g hs cs)),some (.o (.dct hk)),some (.p (.dct ck)),none,none,none,none,none,none,none]) ?_ λN hN=>?_;rotate_left
 .repeat (first | dsimp only[dW] | walk_at "rs1" | walk_at "rsx")
  exact ⟨cs,rfl,oc,λkvs hk hl hv=>hN _ ⟨kvs,hk,hl,hv,rfl⟩⟩
 rintro ρ ⟨ck,kc,lc,vc,rfl⟩;refine bo (λρ=>∃gs:List K2,zu hs gs/\ρ = [some (.p (dW g hs cs)),some (.o (.dct hk)),some (.p (.dct ck)),some (.p (.lst (gs.map ik))),none,none,none,none,none,none]) ?_ λN hN=>?_;rotate_left
 .walk_at "rs";exact ⟨hk,rfl,λps hp hf=>⟨flat_keys _,hN _ ⟨_,By kh lh vh hp hf,rfl⟩⟩⟩
 rintro ρ ⟨gs,sg,rfl⟩;refine bo (λρ=>ρ = [some (.p (dW g hs cs)),some (.o (.dct hk)),some (.p (.dct ck)),some (.p (.lst (gs.map ik))),some (.o (.lst [])),none,none,none,none,none]) ?_ λN hN=>?_;rotate_left
 .walk_at "rs";exact hN _ rfl
 rintro ρ rfl;refine bo (λρ=>ρ = [some (.p (dW g hs cs)),some (.o (.dct hk)),some (.p (.dct ck)),some (.p (.lst (gs.map ik))),some (.o (.lst [])),some (.p (.int 0)),none,none,none,none]) ?_ λN hN=>?_;rotate_left
 .walk_at "rs";exact hN _ rfl
 rintro ρ rfl;have lg:=sg.len;refine bo (λρ=>∃(ts:List K2) (t:Nat) (lk:bY) (ps:List P5) (y:Nat->Option B),zu cs ts/\Gi g hs cs gs ts ts.length t lk ps/\ρ = [some (.p (dW g hs cs)),some (.o (.dct lk)),some (.p (.dct ck)),some (.p (.lst (gs.map ik))),some (.o (.lst (ps.map d5))),some (.p (.int (t:Nat))),y 6,y 7,y 8,y 9]) ?_ λN hN=>?_;rotate_left
 .repeat (first | walk_at "rs2" | walk_at "rsx")
  refine ⟨ck,rfl,λcp hp hf=>?_⟩;have st:=By kc lc vc hp hf;generalize cp.map (·.1)=ts at st;have lt:=st.len;refine cJ (JS g hs cs ck gs ts) ⟨0,hk,[],λ_=>none,Gi.start sg lh vh,rfl⟩ ?_ ?_
  .rintro i x ρ hx ⟨t,lk,ps,y,G,rfl⟩;rw[KS] at hx;obtain ⟨k,hk1,rfl⟩:=Option.map_eq_some_iff.mp hx;have hi:i<ts.length:=(Kw.mp hk1).1;obtain ⟨r,hr⟩:=Option.isSome_iff_exists.mp ((st.is k).mp (KC hk1));have kb:0<=k.2+g/\k.2+g<=250:=by
    obtain ⟨s,h1,h2,h3,h4,_⟩:=cU hr;have:=oc.w s (cz h1).2.2;have:=ok.g0;have:=ok.g1;lia
   have G1:=G.take st hk1 hr;have hv:aO ck (k.1,k.2)=some r:=(vc k).trans hr;dsimp only[Tg.d,dput];refine bo (λρ=>ρ = [some (.p (dW g hs cs)),some (.o (.dct lk)),some (.p (.dct ck)),some (.p (.lst (gs.map ik))),some (.o (.lst (ps.map d5))),some (.p (.int (t:Nat))),some (.p (ik k)),some (.p (.int r)),y 8,y 9]) ?_ λN hN=>?_;rotate_left
   .repeat (first | dsimp only[ik] | walk_at "rs1" | walk_at "rsx")
    exact ⟨r,hv,hN _ rfl⟩
   rintro ρ rfl;refine bo (IH g hs cs ck gs ts i k λn t=>n=0\/∀a,gs[t]?=some a->a.2<k.2+g) ?_ λN hN=>?_;rotate_left
   .unfold zY;refine ⟨IH g hs cs ck gs ts i k λ_ _=>True,Kd gs.length,⟨t,r,lk,ps,y,G1,trivial,rfl⟩,?_⟩;clear G G1;rintro ρ ⟨t,n,lk,ps,y,G,_,rfl⟩;repeat (first | walk_at "rs2" | walk_at "rsx")
    rw[Ks];refine ⟨λh1=>⟨λh2=>?_,λh2=>⟨λz=>(nomatch z),λ_=>hN _ ⟨t,n,lk,ps,y,G,.inr λa ha=>?_,rfl⟩⟩⟩,λh1=>⟨λz=>(nomatch z),λ_=>hN _ ⟨t,n,lk,ps,y,G,.inl ?_,rfl⟩⟩⟩;rotate_left
    .have:=(Kw.mp ha).1;have:=of_decide_eq_false h2;lia
    .have:=of_decide_eq_false h1;have:=G.n0;lia
    have n1:=of_decide_eq_true h1;have t1:t<gs.length:=by
     have:=of_decide_eq_true h2;lia
    have ha:=Kt t1;generalize gs[t]=a at ha;have g1:fI (gs.map ik) ((t:Nat):Int)=some (ik a):=gN ha;obtain ⟨v,hv1,_⟩:=G.gr.oG t a ha;have hv2:aO lk (a.1,a.2)=some v:=hv1;have llk:=G.gr.ln;have lps:=G.n1;repeat (first | dsimp only[dW] | walk_at "rs2" | walk_at "rsx" | set_option simprocs false in simp only[g1])
    refine ⟨g,a.1,a.2,k.1,k.2,rfl,?_⟩;repeat (first | walk_at "rs2" | walk_at "rsx")
    refine ⟨λh3=>?_,λh3=>hN _ ⟨t,n,lk,ps,y,G,.inr λb hb=>?_,rfl⟩⟩;rotate_left
    .rw[ha] at hb;cases hb;have:=of_decide_eq_false h3;lia
    have hw:=of_decide_eq_true h3;refine bo (λρ=>ρ = [some (.p (dW g hs cs)),some (.o (.dct lk)),some (.p (.dct ck)),some (.p (.lst (gs.map ik))),some (.o (.lst (ps.map d5))),some (.p (.int (t:Nat))),some (.p (ik k)),some (.p (.int n)),some (.p (ik a)),y 9]) ?_ λN hN=>?_;rotate_left
    .repeat (first | walk_at "rs1" | walk_at "rsx" | set_option simprocs false in simp only[g1])
     exact hN _ rfl
    rintro ρ rfl;obtain ⟨m,hm⟩ : ∃m,m=if v<n then v else n:=⟨_,rfl⟩
    refine bo (λρ=>ρ = [some (.p (dW g hs cs)),some (.o (.dct lk)),some (.p (.dct ck)),some (.p (.lst (gs.map ik))),some (.o (.lst (ps.map d5))),some (.p (.int (t:Nat))),some (.p (ik k)),some (.p (.int n)),some (.p (ik a)),some (.p (.int m))]) ?_ λN hN=>?_;rotate_left
    .repeat (first | dsimp only[ik] | walk_at "rs1" | walk_at "rsx")
     exact ⟨v,hv2,rfl,hN _ (by rw[hm];rfl)⟩
    rintro ρ rfl;refine bo (λρ=>ρ = [some (.p (dW g hs cs)),some (.o (.dct lk)),some (.p (.dct ck)),some (.p (.lst (gs.map ik))),some (.o (.lst ((ps++[(a.1,a.2,k.1,k.2,m)]).map d5))),some (.p (.int (t:Nat))),some (.p (ik k)),some (.p (.int n)),some (.p (ik a)),some (.p (.int m))]) ?_ λN hN=>?_;rotate_left
    .repeat (first | dsimp only[ik] | walk_at "rs1" | walk_at "rsx")
     exact ⟨(λz=>nomatch z),(λz=>nomatch z),by rw[sl];show 4<=16777216;decide,(λz=>nomatch z),(λz=>nomatch z),by rw[sl];show 5<=16777216;decide,by rw[Ks];lia,hN _ (by rw[KU];rfl)⟩
    rintro ρ rfl;refine bo (λρ=>ρ = [some (.p (dW g hs cs)),some (.o (.dct lk)),some (.p (.dct ck)),some (.p (.lst (gs.map ik))),some (.o (.lst ((ps++[(a.1,a.2,k.1,k.2,m)]).map d5))),some (.p (.int (t:Nat))),some (.p (ik k)),some (.p (.int (n - m))),some (.p (ik a)),some (.p (.int m))]) ?_ λN hN=>?_;rotate_left
    .walk_at "rs";exact hN _ rfl
    rintro ρ rfl;refine bo (λρ=>ρ = [some (.p (dW g hs cs)),some (.o (.dct (putD lk a (v - m)))),some (.p (.dct ck)),some (.p (.lst (gs.map ik))),some (.o (.lst ((ps++[(a.1,a.2,k.1,k.2,m)]).map d5))),some (.p (.int (t:Nat))),some (.p (ik k)),some (.p (.int (n - m))),some (.p (ik a)),some (.p (.int m))]) ?_ λN hN=>?_;rotate_left
    .repeat (first | dsimp only[ik] | walk_at "rs1" | walk_at "rsx")
     exact ⟨v,hv2,by lia,hN _ rfl⟩
    rintro ρ rfl;have hv3:aO (putD lk a (v - m)) (a.1,a.2)=some (v - m):=by rw[gK,if_pos rfl]
    have mor:0<m/\(m=v\/m=n)/\m<=n:=by
     obtain ⟨_,_,_,_,v0⟩:=G.gr.oG t a ha;rename_i w hw' _ _;rw[hv1] at hw';cases hw';have:=v0 (Ku _);rw[hm];split<;>lia
    repeat (first | dsimp only[ik] | walk_at "rs1" | walk_at "rsx")
    refine ⟨v - m,hv3,λh4=>⟨⟨t+1,n - m,_,_,wv 8 [_,_],G.pass sg st hk1 n1 ha hw hv1 hm (by rw[if_pos (of_decide_eq_true h4)]),trivial,rfl⟩,?_⟩,λh4=>⟨⟨t,n - m,_,_,wv 8 [_,_],G.pass sg st hk1 n1 ha hw hv1 hm (by rw[if_neg (of_decide_eq_false h4)]),trivial,rfl⟩,?_⟩⟩
    .show 2*(gs.length - ((t:Int)+1).toNat)+(if 0<n - m then 1 else 0)<2*(gs.length - ((t:Nat):Int).toNat)+(if 0<n then 1 else 0)
     rw[if_pos n1];split<;>lia
    .have:=of_decide_eq_false h4;show 2*(gs.length - ((t:Nat):Int).toNat)+(if 0<n - m then 1 else 0)<2*(gs.length - ((t:Nat):Int).toNat)+(if 0<n then 1 else 0)
     rw[if_neg (by lia),if_pos n1];lia
   rintro ρ ⟨t,n,lk,ps,y,G,hn,rfl⟩;have hlp:=G.n1;have htl:=G.gr.tl;repeat (first | dsimp only[ik] | walk_at "rs1" | walk_at "rsx")
   refine ⟨λh=>⟨(λz=>nomatch z),by rw[sl];show 4<=16777216;decide,(λz=>nomatch z),(λz=>nomatch z),by rw[sl];show 5<=16777216;decide,by rw[Ks];lia,?_⟩,λh=>?_⟩
   .have h0:=of_decide_eq_true h;have B:=G.Ka sg st hk1 h0 kb.1 kb.2 (hn.resolve_left (by lia));exact ⟨t,lk,_,wv 6 [_,_,_,_],B,by rw[KU];rfl⟩
   .have h0:n=0:=by
     have:=of_decide_eq_false h;have:=G.n0;lia
    subst h0;exact ⟨t,lk,ps,wv 6 [_,_,_,_],G.done hk1,rfl⟩
  .rintro ρ ⟨t,lk,ps,y,G,rfl⟩;rw[Ks] at G;exact hN _ ⟨ts,t,lk,ps,y,st,G,rfl⟩
 rintro ρ ⟨ts,t,lk,ps,y,st,G,rfl⟩;obtain ⟨Z,ti,ln⟩:=G.finish sg st;have ls:=st.len;have lp:=G.n;have tl:=G.gr.tl;refine bo (λρ=>ρ = [some (.p (dW g hs cs)),some (.o (.dct lk)),some (.p (.dct ck)),some (.p (.lst (gs.map ik))),some (.o (.lst ((ps++fP gs t lk).map d5))),some (.p (.int (t:Nat))),y 6,y 7,y 8,y 9]) ?_ λN hN=>?_;rotate_left
 .walk_at "rs";rw[dh,<-map_drop];refine gY (λx y e=>?_) (λk=>d5 (k.1,k.2,-1,-1,(aO lk k).getD 0)) (by rw[Li];lia) (λk hk2=>?_) ?_
  .unfold ik at e;simp only[D.tup.injEq,List.cons.injEq,D.int.injEq,and_true] at e;exact Prod.ext e.1 e.2
  .obtain ⟨j,hj⟩:=mem_iff_getElem?.mp (mem_of_mem_drop hk2);obtain ⟨v,hv,_⟩:=G.gr.oG j k hj;have hv2:aO lk (k.1,k.2)=some v:=hv;repeat (first | dsimp only[ik] | walk_at "rs1" | walk_at "rsx")
   refine ⟨(λz=>nomatch z),by rw[sl];show 4<=16777216;decide,v,hv2,(λz=>nomatch z),(λz=>nomatch z),by rw[sl];show 5<=16777216;decide,?_⟩;rw[hv];rfl
  have e:(gs.drop t).map (λk=>d5 (k.1,k.2,-1,-1,(aO lk k).getD 0))=(fP gs t lk).map d5:=by unfold fP;rw[map_map];rfl
  rw[e];refine ⟨Am _,?_,?_⟩
  .rw[Ks,Ks];rw[KA] at ln;lia
  .rw[<-KU];exact hN _ rfl
 rintro ρ rfl;walk_at "rs";refine ⟨(ps++fP gs t lk).map l5,5,by rw[map_map];rfl,by decide,λns hn=>?_,λmss hp hu=>?_⟩
 .obtain ⟨p,_,rfl⟩:=KJ.mp hn;rfl
 .obtain ⟨qs,hq,rfl⟩:=iN hp _ rfl;rw[map_map];exact q qs (Z.perm hq) hu (by rw[hq.length_eq];lia) (ti.imp (λz p hp=>z p (hq.mem_iff.mp hp)) (by rintro ⟨L,hL,z⟩;exact ⟨L,hL,λp hp=>z p (hq.mem_iff.mp hp)⟩))
noncomputable def jO:DR:=λds P=>∃(g:Int) (p:P5),ds = [.int g,.tup [.int p.1,.int p.2.1],.tup [.int p.2.2.1,.int p.2.2.2.1],.int (ht p)]/\P (.p (.bl (jt g p)))
theorem ud (T:oX K mg)(F_is_warm_enough:Fn P w K mg base "is_warm_enough" 1 ["gap","giver","taker"] (eP K cR))(F:lP K "may_pass" "may_pass" eN f fd):cL P w K mg base iu 2 f fd ["gap","giver","taker","heat"] (eP K jO):=by
 refine uL F uC (λds Q h=>by obtain ⟨g,p,rfl,q⟩:=h;rfl) λcdv A outer s H E hr=>⟨_,(af (bq (aF p6 (dv 3) ae (aA _)) (ak (aP lR)) aJ)
   (af (bq (DW.dt (nB (Aj hr (dv 1) T.gw (by rfl)) (jD (Aj hr (dv 2) T.gw (by rfl))))) (ak (aP (lq (rg hr) (dv 1) (dv 2) (aA _)))) aJ)
   (ak (aP (bz F_is_warm_enough (hr.mono (by decide)) (by rfl) (aa (dv 0) (aa (dv 1) (aa (dv 2) ai)))))))),λds Q h=>?_⟩
 obtain ⟨g,p,rfl,q⟩:=h;walk_at "rs";refine ⟨λh=>?_,λh=>?_⟩
 .have e:jt g p=false:=by
   unfold jt;rw[decide_eq_true_eq] at h;rw[decide_eq_false (by lia),Bool.false_and]
  rw[<-e];exact q
 .have e1:decide (1<=ht p)=true:=by
   rw[decide_eq_false_iff_not] at h;exact decide_eq_true (by lia)
  unfold jt at q;rw[e1,Bool.true_and] at q;have e2:(gk p=Bt)=(p.1 = -1/\p.2.1 = -1):=by unfold gk Bt;rw[Prod.mk.injEq]
  have e3:(dO p=Bt)=(p.2.2.1 = -1/\p.2.2.2.1 = -1):=by unfold dO Bt;rw[Prod.mk.injEq]
  have e4:(!decide (p.1=p.2.2.1/\p.2.1=p.2.2.2.1))=decide (gk p≠dO p):=by
   rw[<-decide_not,decide_eq_decide];unfold gk dO;rw[ne_eq,Prod.mk.injEq]
  refine ⟨λh1=>⟨λ_=>q8 ?_,λz=>(nomatch z)⟩,λh1=>⟨λh2=>q8 ?_,λh2=>?_⟩⟩
  .rw[decide_eq_true_eq] at h1;rw[if_pos (.inl (by rw[e2];exact h1))] at q;rw[e4];exact q
  .rw[decide_eq_true_eq] at h2;rw[if_pos (.inr (by rw[e3];exact h2))] at q;rw[e4];exact q
  .rw[decide_eq_false_iff_not] at h1 h2;rw[if_neg (λz=>z.elim (λz=>h1 (by rw[<-e2];exact z)) λz=>h2 (by rw[<-e3];exact z))] at q;exact ⟨g,p.1,p.2.1,p.2.2.1,p.2.2.2.1,rfl,q⟩
noncomputable def dQ (q:Q2):D:=.tup [.tup [.int q.1.1,.int q.1.2],.int q.2]
noncomputable def fF:DR:=λds P=>∃qs:List Q2,ds = [.lst (qs.map dQ)]/\qs.length<=9995/\P (.o (.dct (ij qs)))
theorem mz (T:oX K mg)(F:lP K "heat_by_step" "heat_by_step" cm f fd):cL P w K mg base iu 1 f fd ["pairs"] (eP K fF):=by
 refine uL F dz (λds Q h=>by obtain ⟨qs,rfl,hl,q⟩:=h;rfl) λcdv A outer s H E hr=>⟨_,(af (fD (i:=1) dz.nd rfl (Or.inl rfl) qG)
   (af (jC (g:=(.t [2,3])) PassesOwn.never rfl (bL (dv 0)) (iO rfl (aS (aB (i:=2) dz.nd rfl (Or.inl rfl)) (aS (aB (i:=3) dz.nd rfl (Or.inl rfl)) fN))) (ak (sQ (i:=1) hr rfl (by walk_at "v") (dv 2) (ao aD (mK hr (dv 1) (dv 2) ae ⟨rfl,rfl,rfl,rfl⟩) (dv 3)))))
   (ak (qM 1)))),λds Q h=>?_⟩
 obtain ⟨qs,rfl,hl,q⟩:=h;walk_at "rs";have sl:sizeLine=16777216:=sizeLine_eq;refine cJ (λi ρ=>∃a2 a3,ρ = [some (.p (.lst (qs.map dQ))),some (.o (.dct (ij (qs.take i)))),a2,a3]) ⟨none,none,rfl⟩ ?_ ?_
 .rintro i x ρ hx ⟨a2,a3,rfl⟩;rw[KS] at hx;cases eq:qs[i]? with
  | none=>rw[eq] at hx;cases hx
  | some y =>
  rw[eq] at hx;cases hx;repeat (first | dsimp only[dQ] | walk_at "rs1" | walk_at "rsx")
  have hn:=(i6 (qs.take i)).2.1;rw[KO] at hn;rw[WS.take_snoc eq,kZ];exact ⟨by lia,_,_,rfl⟩
 .rintro ρ ⟨a2,a3,rfl⟩;rw[Ks,List.take_length];walk_at "rs";exact q
noncomputable def eI:DR:=λds P=>∃(g:Int) (hs cs:List S3) (ps:List P5),ds = [dW g hs cs,.lst (ps.map d5)]/\xV hs/\xV cs/\ps.length<=9995 /\
 (Looks g hs cs ps->P (.p (.tup [.int (aX Bt (gq ps)),.int (aX Bt (tq ps))])))/\(¬Looks g hs cs ps->P (.p .non))
theorem kI (T:oX K mg)(F_heat_by_step:Fn P w K mg base "heat_by_step" 1 ["pairs"] (eP K fF))(F_rates_by_step:Fn P w K mg base "rates_by_step" 1 ["streams"] (eP K du))(F_may_pass:Fn P w K mg base "may_pass" 2 ["gap","giver","taker","heat"] (eP K jO))(F:lP K "looked_through" "looked_through" aR f fd):cL P w K mg base iu 3 f fd ["works","passes"] (eP K eI):=by
 refine uL F bT (λds Q h=>by obtain ⟨g,hs,cs,ps,rfl,oh,oc,hl,q1,q2⟩:=h;rfl) λcdv A outer s H E hr=>⟨_,(af (bq (qN (nA (aG (EE rfl) (by rfl) T.GF boot_all (aa (iz (g:=(.n 0)) (tc:=gd) (te:=(su _ (dE (mm uX (di 1) (dC _)) (dE (DZ (di 0) (fK (dC _)) (fK (dC _))) (dE (DZ (di 0) (fK (dC _)) (fK (dC _))) (dE (mm uX (di 0) (dC _)) qD)))))) (sc0:=aj aR) (N0:=["works","passes","given","gotten","heat","cold"]) ["one","works"] [none,some 0] rfl (bL (dv 1)) (λ_ _ _ _ _=>(aB (i:=0) (show (["one","works"]:List Str).Nodup by decide +kernel) rfl (Or.inl rfl))) (λ_ _ _ _ _=>fC) (λ_ _ _ _ _=>(bz F_may_pass (hr.mono (by decide)) (by rfl) (aa (aH (dv 1) ae) (aa (aC (dv 0) (az ae) (az ae)) (aa (aC (dv 0) (az ae) (az ae)) (aa (aH (dv 0) ae) ai))))))) ai)))) (ak (aP fB)) aJ)
   (af (bq (aF p6 (pI hr rfl (by rfl) T.eS (by rfl) T.DN (aa (iz (g:=(.n 0)) (tc:=gd) (te:=(DZ (di 0) (fK (dC _)) (fK (dC _)))) (sc0:=aj aR) (N0:=["works","passes","given","gotten","heat","cold"]) ["one"] [none] rfl (bL (dv 1)) (λ_ _ _ _ _=>(aB (i:=0) (show (["one"]:List Str).Nodup by decide +kernel) rfl (Or.inl rfl))) (λ_ _ _ _ _=>fC) (λ_ _ _ _ _=>(aC (dv 0) (az ae) (az ae)))) ai)) (aG dA (by rfl) T.eS PySem.boot_len (aa (dv 1) ai)) (aA _)) (ak (aP fB)) aJ)
   (af (fD (i:=2) bT.nd rfl (Or.inl rfl) (bz F_heat_by_step (hr.mono (by decide)) (by rfl) (aa (iz (g:=(.n 0)) (tc:=gd) (te:=(sM (dE (DZ (di 0) (fK (dC _)) (fK (dC _))) (dE (mm uX (di 0) (dC _)) qD)))) (sc0:=aj aR) (N0:=["works","passes","given","gotten","heat","cold"]) ["one"] [none] rfl (bL (dv 1)) (λ_ _ _ _ _=>(aB (i:=0) (show (["one"]:List Str).Nodup by decide +kernel) rfl (Or.inl rfl))) (λ_ _ _ _ _=>fC) (λ_ _ _ _ _=>(bw (aa (aC (dv 0) (az ae) (az ae)) (aa (aH (dv 0) ae) ai))))) ai)))
   (af (fD (i:=3) bT.nd rfl (Or.inl rfl) (bz F_heat_by_step (hr.mono (by decide)) (by rfl) (aa (iz (g:=(.n 0)) (tc:=gd) (te:=(sM (dE (DZ (di 0) (fK (dC _)) (fK (dC _))) (dE (mm uX (di 0) (dC _)) qD)))) (sc0:=aj aR) (N0:=["works","passes","given","gotten","heat","cold"]) ["one"] [none] rfl (bL (dv 1)) (λ_ _ _ _ _=>(aB (i:=0) (show (["one"]:List Str).Nodup by decide +kernel) rfl (Or.inl rfl))) (λ_ _ _ _ _=>fC) (λ_ _ _ _ _=>(bw (aa (aC (dv 0) (az ae) (az ae)) (aa (aH (dv 0) ae) ai))))) ai)))
   (af (wJ (i:=2) (j:=4) hr bT.nd rfl (Or.inl rfl) rfl (by walk_at "v") T.gw (by rfl) ⟨rfl,rfl,rfl,rfl⟩)
   (af (wJ (i:=3) (j:=5) hr bT.nd rfl (Or.inl rfl) rfl (by walk_at "v") T.gw (by rfl) ⟨rfl,rfl,rfl,rfl⟩)
   (af (bq (DW.dt (nB (aF (p7 hr) (dv 2) (bz F_rates_by_step (hr.mono (by decide)) (by rfl) (aa (aH (dv 0) ae) ai)) (aA _)) (jD (aF (p7 hr) (dv 3) (bz F_rates_by_step (hr.mono (by decide)) (by rfl) (aa (aH (dv 0) ae) ai)) (aA _))))) (ak (aP fB)) aJ)
   (ak (aP (bw (aa (dv 4) (aa (dv 5) ai)))))))))))),λds Q h=>?_⟩
 obtain ⟨g,hs,cs,ps,rfl,oh,oc,hl,q1,q2⟩:=h;repeat (first | dsimp only[dW] | walk_at "rs1" | walk_at "rsx")
 refine gY fV (λp=>.bl (jt g p)) (by lia) (λp _=>?_) ?_
 .repeat (first | dsimp only[d5] | walk_at "rs1" | walk_at "rsx")
  exact ⟨by decide,by decide,g,p,rfl,rfl⟩
 refine ⟨ps.map (jt g),by rw[map_map];rfl,?_⟩;walk_at "rs";refine ⟨λh=>q2 λL=>?_,λh=>?_⟩
 .rw[show (List.all (ps.map (jt g)) id)=true by
   rw[List.all_eq_true];intro b hb;obtain ⟨p,hp,rfl⟩:=KJ.mp hb;exact L.may p hp] at h
  cases h
 have may:∀p∈ps,jt g p=true:=λp hp=>by
  have h':(List.all (ps.map (jt g)) id)=true:=by
   cases e:List.all (ps.map (jt g)) id with
   | true=>rfl
   | false=>rw[e] at h;cases h
  exact List.all_eq_true.mp h' _ (KJ.mpr ⟨p,hp,rfl⟩)
 refine gY fV (λp=>tupI (k4 p)) (by lia) (λp _=>?_) ?_
 .repeat (first | dsimp only[d5] | walk_at "rs1" | walk_at "rsx")
  exact ⟨by decide,rfl⟩
 refine ⟨ps.map k4,by rw[map_map];rfl,by rw[Ks];exact hl,?_⟩;have hdl:=Cj (ps.map k4);have hdf:=pL (ps.map k4);rw[Ks] at hdl hdf ⊢;refine ⟨λh=>q2 λL=>?_,λh=>?_⟩
 .rw[decide_eq_true_eq] at h;have:=hdf.mpr L.eV;lia
 have eV:(ps.map k4).Nodup:=hdf.mp (by
  rw[decide_eq_false_iff_not] at h;lia)
 refine gY fV (λp=>dQ (gk p,ht p)) (by lia) (λp _=>?_) ?_
 .repeat (first | dsimp only[d5] | walk_at "rs1" | walk_at "rsx")
  exact ⟨by decide,rfl⟩
 refine ⟨gq ps,by unfold gq;rw[map_map];rfl,by unfold gq;rw[Ks];exact hl,?_⟩;walk_at "rs";refine gY fV (λp=>dQ (dO p,ht p)) (by lia) (λp _=>?_) ?_
 .repeat (first | dsimp only[d5] | walk_at "rs1" | walk_at "rsx")
  exact ⟨by decide,rfl⟩
 refine ⟨tq ps,by unfold tq;rw[map_map];rfl,by unfold tq;rw[Ks];exact hl,?_⟩;walk_at "rs";obtain ⟨kg,_,vg⟩:=i6 (gq ps);obtain ⟨kt,_,vt⟩:=i6 (tq ps);have eG:∀{kvs:bY} {ss:List S3},Keyed kvs->(∀k,aO kvs k=av ss k)->∀{qs:List Q2},(uB (j9 (ij qs) (-1,-1)) kvs=true↔∀k,k≠Bt->gH k qs=av ss k):=λ{kvs ss} hk hv {qs}=>by
  obtain ⟨kq,_,vq⟩:=i6 qs;rw[same_iff (ve kq _) hk];constructor
  .intro h k hne;have:=h k;rw[qk,if_neg (λz=>hne z.symm),vq,hv] at this;exact this
  .intro h k;rw[qk,hv];by_cases c:((-1,-1):K2)=k
   .rw[if_pos c,<-c];exact (lF ss).symm
   .rw[if_neg c,vq];exact h k λz=>c z.symm
 refine ⟨by decide,by decide,hs,rfl,oh,λka hka _ hva=>?_⟩;walk_at "rs";have eB:∀b:Bool,((!b)=true↔¬b=true)/\((!b)=false↔b=true):=λb=>by cases b<;>simp
 refine ⟨λh=>⟨λ_=>q2 λL=>(eB _).1.mp h ((eG hka hva).mpr L.oG),λz=>nomatch z⟩,λh=>⟨cs,rfl,oc,λkb hkb _ hvb=>?_⟩⟩;have oG:=(eG hka hva).mp ((eB _).2.mp h);walk_at "rs";refine ⟨λh=>q2 λL=>(eB _).1.mp h ((eG hkb hvb).mpr L.oA),λh=>?_⟩;have oA:=(eG hkb hvb).mp ((eB _).2.mp h);rw[vg,vt,jn,jn];exact q1 ⟨may,eV,oG,oA⟩
noncomputable def hO:DR:=λds P=>∃(ns:List Int) (k:Int),ds = [.scr ns,.int k]/\ns.length<=63/\(0<=k/\k<=1000)/\∀z:Int,0<=z->P (.p (.int z))
theorem t9 (T:oX K mg)(F:lP K "_law_draw" "_law_draw" eJ f fd):cL P w K mg base iu 1 f fd ["script","k"] (eP K hO):=by
 refine uL F e6 (λds Q h=>by obtain ⟨ns,k,rfl,hl,⟨hk,hk2⟩,q⟩:=h;rfl) λcdv A outer s H E hr=>⟨_,(af (aw (i:=2) e6.nd rfl (Or.inl rfl) (ao aD ae (ao bx (aG dA (by rfl) T.eS PySem.boot_len (aa (dv 0) ai)) ae)))
   (af (aw (i:=3) e6.nd rfl (Or.inl rfl) (ao aD (ao gA ae (dv 1)) ae))
   (af (jC (g:=(.n 4)) PassesOwn.never rfl (bL (pJ (dv 0) (az (ao aY (dv 1) (dv 2))) aQ (az (dv 2)))) (aB (i:=4) e6.nd rfl (Or.inl rfl)) (ak (aw (i:=3) e6.nd rfl (Or.inl rfl) (ao aY (ao aD (ao gA (dv 3) (ao aD (ao gA ae (dv 1)) ae)) (dv 4)) ae))))
   (ak (aP (ao aY (ao gA (dv 3) (ao aD (ao aD (ao aY (ao bx (dv 3) ae) ae) (ao gA ae (dv 1))) ae)) ae)))))),λds Q h=>?_⟩
 obtain ⟨ns,k,rfl,hl,⟨hk,hk2⟩,q⟩:=h;walk_at "rs";refine ⟨⟨by decide,by decide⟩,mulL (by decide),by lia,λz=>by have:=Option.some.inj z;lia,?_⟩;refine cJ (λi ρ=>∃(f:Int) (a4:Option B),0<=f/\ρ = [some (B.p (D.scr ns)),some (B.p (D.int k)),some (B.p (D.int (1+(ns.length:Int) / 8))),some (B.p (D.int f)),a4]) ⟨_,_,by lia,rfl⟩ ?_ ?_
 .rintro i x ρ hx ⟨f,a4,hf,rfl⟩;rw[KS] at hx;obtain ⟨c,hc,rfl⟩:=Option.map_eq_some_iff.mp hx;walk_at "rs";exact ⟨mulL (by decide),mulR (by lia),by decide,_,_,Int.emod_nonneg _ (by decide),rfl⟩
 .rintro ρ ⟨f,a4,hf,rfl⟩;walk_at "rs";exact ⟨⟨by decide,by decide⟩,by decide,mulL (by decide),mulR (by lia),by decide,q _ (Int.emod_nonneg _ (by decide))⟩
noncomputable def hX:DR:=λds P=>∃n low wide most:Int,ds = [.int n,.int low,.int wide,.int most]/\0<=low/\(wide=6/\low<20\/wide=100/\low<=1)/\1<=most/\most<=1000000000/\∀x:S3,kU x->(wide=6->x.2.1 - x.1<=6)->P (.p (d3 x))
theorem oT (T:oX K mg)(F:lP K "_law_stream" "_law_stream" cW f fd):cL P w K mg base iu 1 f fd ["number","low","wide","most"] (eP K hX):=by
 refine uL F fZ (λds Q h=>by obtain ⟨n,low,wide,most,rfl,h0,hw,hm,hM,q⟩:=h;rfl) λcdv A outer s H E hr=>⟨_,(af (aw (i:=4) fZ.nd rfl (Or.inl rfl) (ao aD (dv 1) (ao aY (dv 0) (dv 2))))
   (af (aw (i:=5) fZ.nd rfl (Or.inl rfl) (ao aD ae (ao aY (ao gA (ao bx (dv 0) ae) ae) (dv 3))))
   (af (bq (DW.dt (lu (aF dq (dv 2) ae (aA _)) (kf (aF dq (ao aY (ao bx (dv 0) ae) ae) ae (aA _))))) (ak (aP (bw (aa (dv 4) (aa ae (aa (dv 5) ai)))))) aJ)
   (ak (aP (bw (aa (dv 4) (aa (ao aD (ao aD (dv 4) ae) (ao aY (ao bx (dv 0) ae) (dv 2))) (aa (dv 5) ai))))))))),λds Q h=>?_⟩
 obtain ⟨n,low,wide,most,rfl,h0,hw,hm,hM,q⟩:=h;walk_at "rs";have r1:=Int.emod_nonneg (n / 10000*1009) (b:=most) (by lia);have r2:=Int.emod_lt_of_pos (n / 10000*1009) (b:=most) (by lia);refine ⟨by lia,⟨by decide,by decide⟩,mulR (by decide),by lia,λhw1=>⟨⟨by decide,by decide⟩,by decide,λ_=>?_,λ_=>⟨⟨by decide,by decide⟩,by lia,?_⟩⟩,λhw1=>⟨λz=>(nomatch z),λ_=>⟨⟨by decide,by decide⟩,by lia,?_⟩⟩⟩
 .rw[decide_eq_true_eq] at hw1;subst hw1;exact q (low+n % 100,200,1+n / 10000*1009 % most) ⟨by dsimp only;lia,by dsimp only;lia,by dsimp only;lia,by dsimp only;lia,by dsimp only;lia⟩ (λz=>by lia)
 .rw[decide_eq_true_eq] at hw1;subst hw1;exact q (low+n % 100,low+n % 100+1+n / 100 % 100,1+n / 10000*1009 % most) ⟨by dsimp only;lia,by dsimp only;lia,by dsimp only;lia,by dsimp only;lia,by dsimp only;lia⟩ (λz=>by lia)
 .rw[decide_eq_false_iff_not] at hw1;obtain ⟨rfl,hw⟩ : wide=6/\low<20:=by lia
  exact q (low+n % 6,low+n % 6+1+n / 100 % 6,1+n / 10000*1009 % most) ⟨by dsimp only;lia,by dsimp only;lia,by dsimp only;lia,by dsimp only;lia,by dsimp only;lia⟩ (λ_=>by dsimp only;lia)
structure Ez (g:Int)(hs cs:List S3):Prop where
 ok:zw g hs cs
 sm:(hs.length<=1/\cs.length<=2)\/((∀x∈hs,x.1 - x.2.1<=6)/\∀x∈cs,x.2.1 - x.1<=6)
noncomputable def iR:DR:=λds P=>∃ns:List Int,ds = [.scr ns]/\ns.length<=63/\∀g hs cs,Ez g hs cs->P (.p (dW g hs cs))
theorem rl (T:oX K mg)(F_law_draw:Fn P w K mg base "_law_draw" 1 ["script","k"] (eP K hO))(F_law_stream:Fn P w K mg base "_law_stream" 1 ["number","low","wide","most"] (eP K hX))(F:lP K "_law_works" "_law_works" cP f fd):cL P w K mg base iu 2 f fd ["script"] (eP K iR):=by
 refine uL F aK (λds Q h=>by obtain ⟨ns,rfl,hl,q⟩:=h;rfl) λcdv A outer s H E hr=>⟨_,(af (aw (i:=1) aK.nd rfl (Or.inl rfl) (bz F_law_draw (hr.mono (by decide)) (by rfl) (aa (dv 0) (aa ae ai))))
   (af (aw (i:=2) aK.nd rfl (Or.inl rfl) (ao aY (dv 1) ae))
   (af (aw (i:=3) aK.nd rfl (Or.inl rfl) ae)
   (af (bq (aF dq (ao aY (ao bx (dv 1) ae) ae) ae (aA _)) (af (aw (i:=2) aK.nd rfl (Or.inl rfl) (ao aY (ao bx (dv 1) ae) ae))
   (ak (aw (i:=3) aK.nd rfl (Or.inl rfl) ae))) aJ)
   (af (aw (i:=4) aK.nd rfl (Or.inl rfl) (ao aY (bz F_law_draw (hr.mono (by decide)) (by rfl) (aa (dv 0) (aa ae ai))) ae))
   (af (bq (aF dq (ao aY (ao bx (bz F_law_draw (hr.mono (by decide)) (by rfl) (aa (dv 0) (aa ae ai))) ae) ae) ae (aA _)) (ak (aw (i:=4) aK.nd rfl (Or.inl rfl) (ao aY (ao bx (bz F_law_draw (hr.mono (by decide)) (by rfl) (aa (dv 0) (aa ae ai))) ae) ae))) aJ)
   (af (bq (DW.dt (lu (aF dq (dv 3) ae (aA _)) (kf (aF dq (ao aY (ao bx (dv 1) ae) ae) ae (aA _))))) (ak (aw (i:=4) aK.nd rfl (Or.inl rfl) ae)) aJ)
   (af (aw (i:=5) aK.nd rfl (Or.inl rfl) (cf (aa (ao aY (bz F_law_draw (hr.mono (by decide)) (by rfl) (aa (dv 0) (aa ae ai))) ae) (aa (ao aY (bz F_law_draw (hr.mono (by decide)) (by rfl) (aa (dv 0) (aa ae ai))) ae) ai))))
   (af (bq (aF dq (dv 3) ae (aA _)) (ak (aw (i:=5) aK.nd rfl (Or.inl rfl) (cf (aa (aG (gP rfl) (by rfl) T.jY boot_min (aa ae (aa (aH (dv 5) ae) ai))) (aa (aG (gP rfl) (by rfl) T.jY boot_min (aa ae (aa (aH (dv 5) ae) ai))) ai))))) (ak (bq (aF dq (ao aY (ao bx (bz F_law_draw (hr.mono (by decide)) (by rfl) (aa (dv 0) (aa ae ai))) ae) ae) ae (aA _)) (ak (aw (i:=5) aK.nd rfl (Or.inl rfl) (cf (aa ae (aa (ao aD ae (ao aY (bz F_law_draw (hr.mono (by decide)) (by rfl) (aa (dv 0) (aa ae ai))) ae)) ai))))) aJ)))
   (af (aw (i:=6) aK.nd rfl (Or.inl rfl) (aH (cf (aa ae (aa (ao AX ae ae) ai))) (ao aY (bz F_law_draw (hr.mono (by decide)) (by rfl) (aa (dv 0) (aa ae ai))) ae)))
   (af (fD (i:=7) aK.nd rfl (Or.inl rfl) (cf ai))
   (af (gR (g:=(.n 8)) PassesOwn.never rfl (j8 (by rfl) T.gO (aa (ao aD (aH (dv 5) ae) (aH (dv 5) ae)) ai)) (aB (i:=8) aK.nd rfl (Or.inl rfl)) (af (aw (i:=9) aK.nd rfl (Or.inl rfl) (ao aD (aG (uW rfl) (by rfl) T.zy boot_sum (aa (pJ (dv 0) (az (dv 8)) (az ae) (az ae)) ai)) (bz F_law_draw (hr.mono (by decide)) (by rfl) (aa (dv 0) (aa (ao aD ae (dv 8)) ai)))))
   (ak (qK (i:=7) rfl (by walk_at "v") (bz F_law_stream (hr.mono (by decide)) (by rfl) (aa (dv 9) (aa (dv 2) (aa (dv 3) (aa (dv 6) ai)))))))))
   (af (vi (i:=10) aK.nd rfl (Or.inl rfl) (g:=(.t [0,1,2])) (tc:=gd) (te:=(sM (dE (di 1) (dE (di 0) (dE (di 2) qD))))) (sc0:=aj cP) (N0:=["script","number","low","wide","gap","counts","most","streams","k","cell","hots"]) ["start","goal","rate"] [none,none,none] rfl (bL (aC (dv 7) aQ (az (aH (dv 5) ae)))) (λ_ _ _ _ _=>(iO rfl (aS (aB (i:=0) (show (["start","goal","rate"]:List Str).Nodup by decide +kernel) rfl (Or.inl rfl)) (aS (aB (i:=1) (show (["start","goal","rate"]:List Str).Nodup by decide +kernel) rfl (Or.inl rfl)) (aS (aB (i:=2) (show (["start","goal","rate"]:List Str).Nodup by decide +kernel) rfl (Or.inl rfl)) fN))))) (λ_ _ _ _ _=>fC) (λ_ _ _ _ _=>(bw (aa (dv 1) (aa (dv 0) (aa (dv 2) ai))))))
   (ak (aP (bw (aa (dv 4) (aa (dv 10) (aa (aC (dv 7) (az (aH (dv 5) ae)) aQ) ai))))))))))))))))))),λds Q h=>?_⟩
 obtain ⟨ns,rfl,hl,q⟩:=h;refine bo (λρ=>∃n:Int,0<=n/\ρ = [some (B.p (D.scr ns)),some (B.p (D.int n)),none,none,none,none,none,none,none,none,none]) ?_ λN hN=>?_;rotate_left
 .walk_at "rs";exact ⟨ns,0,rfl,hl,⟨by decide,by decide⟩,λz hz=>hN _ ⟨z,hz,rfl⟩⟩
 rintro ρ ⟨n,hn,rfl⟩;refine bo (λρ=>ρ = [some (B.p (D.scr ns)),some (B.p (D.int n)),some (B.p (D.int (n % 20))),none,none,none,none,none,none,none,none]) ?_ λN hN=>?_;rotate_left
 .walk_at "rs";exact ⟨by decide,hN _ rfl⟩
 rintro ρ rfl;refine bo (λρ=>ρ = [some (B.p (D.scr ns)),some (B.p (D.int n)),some (B.p (D.int (n % 20))),some (B.p (D.int 6)),none,none,none,none,none,none,none]) ?_ λN hN=>?_;rotate_left
 .walk_at "rs";exact hN _ rfl
 rintro ρ rfl;refine bo (λρ=>∃low wide:Int,0<=low/\(wide=6/\low<20\/wide=100/\low<=1)/\ρ = [some (B.p (D.scr ns)),some (B.p (D.int n)),some (B.p (D.int low)),some (B.p (D.int wide)),none,none,none,none,none,none,none]) ?_ λN hN=>?_;rotate_left
 .walk_at "rs";exact ⟨⟨by decide,by decide⟩,by decide,λ_=>⟨⟨by decide,by decide⟩,by decide,hN _ ⟨_,_,by lia,.inr ⟨rfl,by lia⟩,rfl⟩⟩,λ_=>hN _ ⟨_,_,by lia,.inl ⟨rfl,by lia⟩,rfl⟩⟩
 rintro ρ ⟨low,wide,h0,hw,rfl⟩;refine bo (λρ=>∃g:Int,(0<=g/\g<=50)/\ρ = [some (B.p (D.scr ns)),some (B.p (D.int n)),some (B.p (D.int low)),some (B.p (D.int wide)),some (B.p (D.int g)),none,none,none,none,none,none]) ?_ λN hN=>?_;rotate_left
 .walk_at "rs";refine ⟨ns,1,rfl,hl,⟨by decide,by decide⟩,λz hz=>?_⟩;walk_at "rs";exact ⟨by decide,hN _ ⟨_,⟨by lia,by lia⟩,rfl⟩⟩
 rintro ρ ⟨g,hg,rfl⟩;refine bo (λρ=>∃g:Int,(0<=g/\g<=50)/\ρ = [some (B.p (D.scr ns)),some (B.p (D.int n)),some (B.p (D.int low)),some (B.p (D.int wide)),some (B.p (D.int g)),none,none,none,none,none,none]) ?_ λN hN=>?_;rotate_left
 .walk_at "rs";refine ⟨ns,1,rfl,hl,⟨by decide,by decide⟩,λz hz=>?_⟩;walk_at "rs";refine ⟨⟨by decide,by decide⟩,by decide,λ_=>⟨ns,1,rfl,hl,⟨by decide,by decide⟩,λz hz=>?_⟩,λ_=>hN _ ⟨g,hg,rfl⟩⟩;walk_at "rs";exact ⟨⟨by decide,by decide⟩,by decide,hN _ ⟨_,⟨by lia,by lia⟩,rfl⟩⟩
 clear hg g;rintro ρ ⟨g,hg,rfl⟩;refine bo (λρ=>∃g:Int,(0<=g/\g<=50)/\ρ = [some (B.p (D.scr ns)),some (B.p (D.int n)),some (B.p (D.int low)),some (B.p (D.int wide)),some (B.p (D.int g)),none,none,none,none,none,none]) ?_ λN hN=>?_;rotate_left
 .walk_at "rs";exact ⟨λ_=>⟨⟨by decide,by decide⟩,by decide,λ_=>hN _ ⟨50,⟨by decide,by decide⟩,rfl⟩,λ_=>hN _ ⟨g,hg,rfl⟩⟩,λ_=>⟨λz=>(nomatch z),λ_=>hN _ ⟨g,hg,rfl⟩⟩⟩
 clear hg g;rintro ρ ⟨g,hg,rfl⟩;refine bo (λρ=>∃a b:Int,(0<=a/\a<=12/\0<=b/\b<=12)/\ρ = [some (B.p (D.scr ns)),some (B.p (D.int n)),some (B.p (D.int low)),some (B.p (D.int wide)),some (B.p (D.int g)),some (B.p (D.lst [D.int a,D.int b])),none,none,none,none,none]) ?_ λN hN=>?_;rotate_left
 .walk_at "rs";refine ⟨ns,2,rfl,hl,⟨by decide,by decide⟩,λz hz=>?_⟩;walk_at "rs";refine ⟨by decide,ns,3,rfl,hl,⟨by decide,by decide⟩,λy hy=>?_⟩;walk_at "rs";exact ⟨by decide,hN _ ⟨_,_,⟨by lia,by lia,by lia,by lia⟩,rfl⟩⟩
 rintro ρ ⟨a,b,hab,rfl⟩;refine bo (λρ=>∃a b:Int,(0<=a/\a<=12/\0<=b/\b<=12/\(wide=6\/(a<=1/\b<=2)))/\ρ = [some (B.p (D.scr ns)),some (B.p (D.int n)),some (B.p (D.int low)),some (B.p (D.int wide)),some (B.p (D.int g)),some (B.p (D.lst [D.int a,D.int b])),none,none,none,none,none]) ?_ λN hN=>?_;rotate_left
 .walk_at "rs";refine ⟨λ_=>?_,λhw6=>⟨ns,2,rfl,hl,⟨by decide,by decide⟩,λz hz=>?_⟩⟩
  .refine hN _ ⟨_,_,⟨?_,?_,?_,?_,.inr ⟨?_,?_⟩⟩,rfl⟩<;>split<;>lia
  .walk_at "rs";refine ⟨⟨by decide,by decide⟩,by decide,λ_=>⟨ns,3,rfl,hl,⟨by decide,by decide⟩,λy hy=>?_⟩,λ_=>hN _ ⟨a,b,⟨hab.1,hab.2.1,hab.2.2.1,hab.2.2.2,.inl (by have:=of_decide_eq_false hw6;lia)⟩,rfl⟩⟩;walk_at "rs";exact ⟨by decide,hN _ ⟨_,_,⟨by lia,by lia,by lia,by lia,.inl (by have:=of_decide_eq_false hw6;lia)⟩,rfl⟩⟩
 clear hab a b;rintro ρ ⟨a,b,⟨ha,ha2,hb,hb2,hsm⟩,rfl⟩;refine bo (λρ=>∃m:Int,(1<=m/\m<=1000000000)/\ρ = [some (B.p (D.scr ns)),some (B.p (D.int n)),some (B.p (D.int low)),some (B.p (D.int wide)),some (B.p (D.int g)),some (B.p (D.lst [D.int a,D.int b])),some (B.p (D.int m)),none,none,none,none]) ?_ λN hN=>?_;rotate_left
 .walk_at "rs";refine ⟨⟨by decide,by decide,by decide⟩,ns,4,rfl,hl,⟨by decide,by decide⟩,λz hz=>?_⟩;walk_at "rs";refine ⟨by decide,?_⟩;have:z % 2=0\/z % 2=1:=by lia
  rcases this with e | e<;>rw[e]
  .exact ⟨_,rfl,hN _ ⟨4,⟨by decide,by decide⟩,rfl⟩⟩
  .exact ⟨_,rfl,hN _ ⟨_,⟨by decide,by decide⟩,rfl⟩⟩
 rintro ρ ⟨m,hm,rfl⟩;refine bo (λρ=>ρ = [some (B.p (D.scr ns)),some (B.p (D.int n)),some (B.p (D.int low)),some (B.p (D.int wide)),some (B.p (D.int g)),some (B.p (D.lst [D.int a,D.int b])),some (B.p (D.int m)),some (B.o (D.lst [])),none,none,none]) ?_ λN hN=>?_;rotate_left
 .walk_at "rs";exact hN _ rfl
 rintro ρ rfl;have sl:sizeLine=16777216:=sizeLine_eq;refine bo (λρ=>∃(ss:List S3) (a8 a9:Option B),(∀s∈ss,kU s/\(wide=6->s.2.1 - s.1<=6))/\ss.length=(a+b).toNat/\ρ = [some (B.p (D.scr ns)),some (B.p (D.int n)),some (B.p (D.int low)),some (B.p (D.int wide)),some (B.p (D.int g)),some (B.p (D.lst [D.int a,D.int b])),some (B.p (D.int m)),some (B.o (D.lst (ss.map d3))),a8,a9,none]) ?_ λN hN=>?_;rotate_left
 .walk_at "rs";refine ⟨⟨by lia,by lia⟩,?_⟩;refine cJ (λi ρ=>∃(ss:List S3) (a8 a9:Option B),(∀s∈ss,kU s/\(wide=6->s.2.1 - s.1<=6))/\ss.length=i/\ρ = [some (B.p (D.scr ns)),some (B.p (D.int n)),some (B.p (D.int low)),some (B.p (D.int wide)),some (B.p (D.int g)),some (B.p (D.lst [D.int a,D.int b])),some (B.p (D.int m)),some (B.o (D.lst (ss.map d3))),a8,a9,none]) ⟨[],none,none,λs h=>(nomatch h),rfl,rfl⟩ ?_ ?_
  .rintro i x ρ hx ⟨ss,a8,a9,hs,hlen,rfl⟩;obtain ⟨hi,rfl⟩:=cC hx;rw[Int.zero_add];walk_at "rs";refine ⟨λz=>(by have:=Option.some.inj z;lia),Cd ?_⟩;walk_at "rs";refine ⟨ns,20+(i:Int),rfl,hl,⟨by lia,by lia⟩,λz hz=>?_⟩;walk_at "rs";refine ⟨_,low,wide,m,rfl,h0,hw,hm.1,hm.2,λs ho ho6=>?_⟩;walk_at "rs";rw[Ks];refine ⟨by lia,ss++[s],_,_,λt ht=>?_,by rw[KA,hlen];rfl,by rw[KU];rfl⟩;rcases Lf.mp ht with ht | ht
   .exact hs t ht
   .rw[mem_singleton.mp ht];exact ⟨ho,ho6⟩
  .rintro ρ ⟨ss,a8,a9,hs,hlen,rfl⟩;rw[cQ] at hlen;exact hN _ ⟨ss,a8,a9,hs,hlen,rfl⟩
 rintro ρ ⟨ss,a8,a9,hs,hlen,rfl⟩;obtain ⟨k,rfl⟩ : ∃k:Nat,a=(k:Int):=⟨a.toNat,(Int.toNat_of_nonneg ha).symm⟩
 walk_at "rs";rw[e8,<-map_take];refine gY EG (λs=>d3 (s.2.1,s.1,s.2.2)) (by rw[KO];lia) (λs _=>?_) ?_
 .repeat (first | dsimp only[d3] | walk_at "rs1" | walk_at "rsx")
 walk_at "rs";rw[dh,<-map_drop];have e:=q g ((ss.take k).map λs=>(s.2.1,s.1,s.2.2)) (ss.drop k) ⟨⟨hg.1,hg.2,by rw[Ks,KO];lia,by rw[Li];lia,λs h=>by
  obtain ⟨t,ht,rfl⟩:=KJ.mp h;obtain ⟨o1,o2,o3,o4,o5⟩:=(hs t (mem_of_mem_take ht)).1;exact ⟨o1,o2,o3,o4,o5⟩,λs h=>(hs s (mem_of_mem_drop h)).1⟩,by
  rcases hsm with w6 | ⟨h1,h2⟩
  .refine .inr ⟨λs h=>?_,λs h=>(hs s (mem_of_mem_drop h)).2 w6⟩;obtain ⟨t,ht,rfl⟩:=KJ.mp h;exact (hs t (mem_of_mem_take ht)).2 w6
  .exact .inl ⟨by rw[Ks,KO];lia,by rw[Li];lia⟩⟩
 unfold dW at e;rw[map_map] at e;exact e
noncomputable def dR (r:R3):D:=.lst [.int r.1,.int r.2.1,.int r.2.2]
noncomputable def iQ:DR:=λds P=>∃(ss:List S3) (z:Int),ds = [.lst (ss.map d3),.int z]/\xV ss/\∀rs:List R3,rs.Perm (ju 0 ss)->P (.n false (rs.map dR))
theorem rj (T:oX K mg)(F:lP K "_law_steps" "_law_steps" dH f fd):cL P w K mg base iu 1 f fd ["streams","number"] (eP K iQ):=by
 refine uL F d8 (λds Q h=>by obtain ⟨ss,z,rfl,ok,q⟩:=h;rfl) λcdv A outer s H E hr=>⟨_,(af (Af (i:=2) d8.nd rfl (Or.inl rfl))
   (af (gR (g:=(.n 3)) PassesOwn.never rfl (j8 (by rfl) T.gO (aa (aG dA (by rfl) T.eS PySem.boot_len (aa (dv 0) ai)) ai)) (aB (i:=3) d8.nd rfl (Or.inl rfl)) (ak (gR (g:=(.n 4)) PassesOwn.never rfl (nz (by rfl) T.gO (aa (aG (vZ rfl) (by rfl) T.jY boot_min (aa (aC (aH (dv 0) (dv 3)) aQ (az ae)) ai)) (aa (aG (vY rfl) (by rfl) T.sd boot_max (aa (aC (aH (dv 0) (dv 3)) aQ (az ae)) ai)) ai))) (aB (i:=4) d8.nd rfl (Or.inl rfl)) (ak (vf (i:=2) rfl (by walk_at "v") (cf (aa (dv 3) (aa (dv 4) (aa (aH (aH (dv 0) (dv 3)) ae) ai)))))))))
   (af (wK (i:=5) d8.nd rfl (Or.inl rfl) (ao aY (dv 1) (aG (qw rfl) (by rfl) T.sd boot_max (aa ae (aa (aG dA (by rfl) T.eS PySem.boot_len (aa (dv 2) ai)) ai)))))
   (ak (yj (i:=2) (m:=5) rfl (by walk_at "v") rfl (by walk_at "v")))))),λds Q h=>?_⟩
 obtain ⟨ss,z,rfl,ok,q⟩:=h;have sl:sizeLine=16777216:=sizeLine_eq;have hn:=ok.n;refine bo (λρ=>ρ = [some (.p (.lst (ss.map d3))),some (.p (.int z)),some (.n false []),none,none,none]) ?_ λN hN=>?_;rotate_left
 .walk_at "rs";exact hN _ rfl
 rintro ρ rfl;refine bo (λρ=>∃a3 a4,ρ = [some (.p (.lst (ss.map d3))),some (.p (.int z)),some (.n false ((ju 0 ss).map dR)),a3,a4,none]) ?_ λN hN=>?_;rotate_left
 .walk_at "rs";rw[Ks];refine ⟨⟨by lia,by lia⟩,?_⟩;refine cJ (λi ρ=>∃a3 a4,ρ = [some (.p (.lst (ss.map d3))),some (.p (.int z)),some (.n false ((ju 0 (ss.take i)).map dR)),a3,a4,none]) ⟨none,none,rfl⟩ ?_ ?_
  .rintro i x ρ hx ⟨a3,a4,rfl⟩;obtain ⟨hi,rfl⟩:=cC hx;rw[Int.zero_add];have hi':i<ss.length:=by lia
   have ec:=Kt hi';have hw:=ok.w _ (List.getElem_mem hi');generalize ss[i]=s at ec hw;have g1:fI (ss.map d3) ((i:Nat):Int)=some (d3 s):=gN ec;have tl:(ss.take i).length=i:=by rw[KO];lia
   have l1:=jl (ss:=ss.take i) (n:=0) λs hs=>ok.w s (mem_of_mem_take hs);rw[tl] at l1;repeat (first | dsimp only[d3] | walk_at "rs1" | walk_at "rsx" | set_option simprocs false in simp only[g1])
   refine ⟨by decide,⟨[s.1,s.2.1],rfl,by simp,λm hm hle=>⟨by decide,[s.1,s.2.1],rfl,by simp,λM hM hge=>?_⟩⟩⟩;have em:m=cu s:=by
    unfold cu;have h1:=hle s.1 (.head _);have h2:=hle s.2.1 (.tail _ (.head _));simp only[KQ,List.not_mem_nil,or_false] at hm;lia
   have eM:M=eA s:=by
    unfold eA;have h1:=hge s.1 (.head _);have h2:=hge s.2.1 (.tail _ (.head _));simp only[KQ,List.not_mem_nil,or_false] at hM;lia
   subst em;subst eM;walk_at "rs";refine ⟨⟨by lia,by lia,by lia,by lia⟩,?_⟩;refine cJ (λj ρ=>∃a4,ρ = [some (.p (.lst (ss.map d3))),some (.p (.int z)),some (.n false ((ju 0 (ss.take i)++jQ i s j).map dR)),some (.p (.int (i:Nat))),a4,none]) ⟨a4,by rw[show jQ i s 0 = [] from rfl,append_nil]⟩ ?_ ?_
   .rintro j y ρ hy ⟨b4,rfl⟩;obtain ⟨hj,rfl⟩:=cC hy;repeat (first | dsimp only[d3] | walk_at "rs1" | walk_at "rsx" | set_option simprocs false in simp only[g1])
    rw[yQ,<-Lg,KU (l₂:=[_])];refine ⟨rfl,?_,_,rfl⟩;rw[Ks,KA,show (jQ i s j).length=j by unfold jQ;rw[Ks,length_range]];lia
   .rintro ρ ⟨b4,rfl⟩;rw[cQ,take_snoc ec,ox,tl,Nat.zero_add];exact ⟨_,_,rfl⟩
  .rintro ρ ⟨a3,a4,rfl⟩;rw[cQ,show (((ss.length:Nat):Int)).toNat=ss.length from rfl,List.take_length];exact hN _ ⟨_,_,rfl⟩
 rintro ρ ⟨a3,a4,rfl⟩;walk_at "rs";have l1:=jl (ss:=ss) (n:=0) ok.w;rw[Ks];have hM:0<(if ((ju 0 ss).length:Int)>1 then ((ju 0 ss).length:Int) else 1):=by split<;>lia
 generalize (if ((ju 0 ss).length:Int)>1 then ((ju 0 ss).length:Int) else 1)=M at hM;refine ⟨hM,rfl,(z % M).toNat,(Int.toNat_of_nonneg (Int.emod_nonneg _ (by lia))).symm,by lia,?_⟩;rw[<-map_drop,<-map_take,<-KU];refine q _ ?_;have:=perm_append_comm (l₁:=(ju 0 ss).drop (z % M).toNat) (l₂:=(ju 0 ss).take (z % M).toNat);rw[take_append_drop] at this;exact this
theorem ES (x y:R3)(h:dR x=dR y):x=y:=by
 obtain ⟨a,b,c⟩:=x;obtain ⟨a',b',c'⟩:=y;unfold dR at h;simp only[D.lst.injEq,List.cons.injEq,D.int.injEq,and_true] at h;obtain ⟨rfl,rfl,rfl⟩:=h;rfl
theorem xA {hs:List S3}(h:∀s∈hs,zq s):∀s∈hs,0<s.2.2/\cu s<=eA s:=λs hs=>by
 have a:=(h s hs).r0;have b:=(h s hs).lt;unfold cu eA;lia
theorem um {cs:List S3}(h:∀s∈cs,kU s):∀s∈cs,0<s.2.2/\cu s<=eA s:=λs hs=>by
 have a:=(h s hs).r0;have b:=(h s hs).lt;unfold cu eA;lia
theorem mX {ss:List S3}{rs:List R3}(h:Ip ss rs)(k:K2):k∈rs.map bM↔(av ss k).isSome=true:=by
 rw[<-dU];constructor
 .intro z;obtain ⟨p,hp,rfl⟩:=KJ.mp z;rw[(h.uv p.1 p.2).mp hp];rfl
 .intro z;obtain ⟨v,hv⟩:=Option.isSome_iff_exists.mp z;exact KJ.mpr ⟨(k,v),(h.uv k v).mpr hv,rfl⟩
theorem t6:∀l:List Int,iJ (l.map D.int)=true
 | []=>dm
 | x::l=>by rw[K3,eF,t6 l,jg];rfl
theorem sP:∀l:List Int,gQ (l.map D.int)<=1
 | []=>by rw[List.map_nil,iB];exact Lc _
 | x::l=>by
  have h:=sP l;rw[K3,gf,mM];lia
theorem C2 {ns:List Int}{Q:B->Prop}(h:Q (.p (.bl (!ns.isEmpty)))):Gp (.lst (ns.map D.int)) (.lst []) Q:=by
 refine ⟨⟨by rw[g7];exact t6 ns,by rw[g7,dm],by rw[mN];have:=sP ns;lia⟩,?_⟩;have e:bI (.lst (ns.map D.int)) (.lst [])=ns.isEmpty:=by
  unfold bI;cases ns with
  | nil=>rfl
  | cons p r=>exact iM (by simp)
 rw[e];exact h
theorem BC (n c:Int):∃pt,fI [D.int n,D.int (n / 2),D.int 0] (c % 3)=some (.int pt)/\(pt=n\/(c % 3=1/\pt=n / 2)\/pt=0):=by
 have:c % 3=0\/c % 3=1\/c % 3=2:=by lia
 rcases this with e | e | e<;>rw[e]
 .exact ⟨n,Hi _ _,.inl rfl⟩
 .exact ⟨n / 2,Hj _ _ _,.inr (.inl ⟨rfl,rfl⟩)⟩
 .exact ⟨0,Hk _ _ _ _,.inr (.inr rfl)⟩
theorem IU {t:vS}{j:Nat}{C:ax->Prop}{ρ:ax}(h:∀N:ax->Prop,(∀ρ,C ρ->N ρ)->t j N ρ):t j C ρ:=h C λ_ z=>z
inductive Ex (g:Int)(hs cs:List S3)(keys:List K2)(rc:List R3)(w:K2->Nat)(z:Int)(ns:List Int)(k:Nat)(ρ:ax):Prop
 | mk (rs:List R3) (ck:bY) (ps al:List P5) (y:Nat->Option B) (O:Out g hs cs keys (rc.map iG) w k rs ck ps al) (e:ρ = [some (.p (dW g hs cs)),some (.p (.int z)),some (.p (.lst (ns.map D.int))),some (.o (.lst (al.map d5))),some (.n false (rs.map dR)),some (.p (.lst (rc.map dR))),y 6,y 7,y 8,y 9,y 10,y 11,y 12,y 13]):Ex g hs cs keys rc w z ns k ρ
inductive Es (g:Int)(hs cs:List S3)(keys:List K2)(rc:List R3)(b:Nat)(z:Int)(ns:List Int)(k:Nat)(c:R3)(pre post:bY)(cell:Int)(j:Nat)(ρ:ax):Prop
 | mk (rs:List R3) (ps al:List P5) (need:Int) (m a:Nat) (y:Nat->Option B) (I:zr g hs cs keys (bM c) pre post (fg pre) b cell j rs ps al need m a) (e:ρ = [some (.p (dW g hs cs)),some (.p (.int z)),some (.p (.lst (ns.map D.int))),some (.o (.lst (al.map d5))),some (.n false (rs.map dR)),some (.p (.lst (rc.map dR))),some (.p (.int (k:Nat))),some (.p (.int c.1)),some (.p (.int c.2.1)),some (.p (.int need)),some (.p (.int cell)),y 11,y 12,y 13]):Es g hs cs keys rc b z ns k c pre post cell j ρ
noncomputable def iP:DR:=λds P=>∃(g:Int) (hs cs:List S3) (z:Int) (ns:List Int),ds = [dW g hs cs,.int z,.lst (ns.map D.int)]/\Ez g hs cs/\ns.length<=63/\∀ps:List P5,Looks g hs cs ps->ps.length<=9990->P (.o (.lst (ps.map d5)))
theorem rh (T:oX K mg)(F_law_steps:Fn P w K mg base "_law_steps" 1 ["streams","number"] (eP K iQ))(F:lP K "_law_drawn" "_law_drawn" cN f fd):cL P w K mg base iu 2 f fd ["works","number","cells"] (eP K iP):=by
  refine uL F aT (λds Q h=>by obtain ⟨g,hs,cs,z,ns,rfl,wk,hl,q⟩:=h;rfl) λcdv A outer s H E hr=>⟨_,(af (fD (i:=3) aT.nd rfl (Or.inl rfl) (cf ai))
      (af (fD (i:=4) aT.nd rfl (Or.inl rfl) (bz F_law_steps (hr.mono (by decide)) (by rfl) (aa (aH (dv 0) ae) (aa (dv 1) ai))))
      (af (aw (i:=5) aT.nd rfl (Or.inl rfl) (bz F_law_steps (hr.mono (by decide)) (by rfl) (aa (aH (dv 0) ae) (aa (ao bx (dv 1) ae) ai))))
      (af (gR (g:=(.n 6)) PassesOwn.never rfl (j8 (by rfl) T.gO (aa (aG dA (by rfl) T.eS PySem.boot_len (aa (dv 5) ai)) ai)) (aB (i:=6) aT.nd rfl (Or.inl rfl)) (af (qL (g:=(.t [7,8,9])) (aH (dv 5) (dv 6)) (iO rfl (aS (aB (i:=7) aT.nd rfl (Or.inl rfl)) (aS (aB (i:=8) aT.nd rfl (Or.inl rfl)) (aS (aB (i:=9) aT.nd rfl (Or.inl rfl)) fN)))))
      (af (aw (i:=10) aT.nd rfl (Or.inl rfl) ae)
      (af (bq (aF (rg hr) (dv 2) (cf ai) (aA _)) (ak (aw (i:=10) aT.nd rfl (Or.inl rfl) (aH (dv 2) (ao aY (dv 6) (aG dA (by rfl) T.eS PySem.boot_len (aa (dv 2) ai)))))) aJ)
      (af (Co (i:=4) (j:=11) (by decide) PassesOwn.never rfl rfl (by walk_at "v") (aB (i:=11) aT.nd rfl (Or.inl rfl)) (j5 (u5 (m:=12) (by decide) (by decide) aT.nd rfl (Or.inl rfl) (aH (cf (aa (dv 9) (aa (ao bx (dv 9) ae) (aa ae ai)))) (ao aY (ao aD (dv 10) (aH (dv 11) ae)) ae)))
      (wB (GR (DW.dt (lu (aF xm (ao lz (aH (dv 11) ae) (dv 8)) (aH (dv 0) ae) (aA _)) (kf (aF lX (aG (gP rfl) (by rfl) T.jY boot_min (aa (dv 12) (aa (aH (dv 11) ae) ai))) ae (aA _))))) (j5 (u5 (m:=13) (by decide) (by decide) aT.nd rfl (Or.inl rfl) (aG (gP rfl) (by rfl) T.jY boot_min (aa (dv 12) (aa (aH (dv 11) ae) ai))))
      (j5 (EW (m:=3) (by decide) (by decide) rfl (by walk_at "v") (bw (aa (aH (dv 11) ae) (aa (aH (dv 11) ae) (aa (dv 7) (aa (dv 8) (aa (dv 13) ai)))))))
      (j5 (EX (by decide) rfl (by walk_at "v") ae (ao lz (aH (dv 11) ae) (dv 13)))
      (wB (u5 (m:=9) (by decide) (by decide) aT.nd rfl (Or.inl rfl) (ao lz (dv 9) (dv 13))))))) Cf))))
      (ak (bq (aF lX (dv 9) ae (aA _)) (ak (qK (i:=3) rfl (by walk_at "v") (bw (aa (bE ae) (aa (bE ae) (aa (dv 7) (aa (dv 8) (aa (dv 9) ai)))))))) aJ)))))))
      (ak (aP (ao aD (dv 3) (iz (g:=(.t [0,1,2])) (tc:=(oJ (mm _ (di 2) (dC _)))) (te:=(sM (dE (di 0) (dE (di 1) (dE (Ce oI (dC _)) (dE (Ce oI (dC _)) (dE (di 2) qD))))))) (sc0:=aj cN) (N0:=["works","number","cells","passes","hots","colds","k","taker","into","need","cell","one","part","heat"]) ["giver","at","left"] [none,none,none] rfl (bL (dv 4)) (λ_ _ _ _ _=>(iO rfl (aS (aB (i:=0) (show (["giver","at","left"]:List Str).Nodup by decide +kernel) rfl (Or.inl rfl)) (aS (aB (i:=1) (show (["giver","at","left"]:List Str).Nodup by decide +kernel) rfl (Or.inl rfl)) (aS (aB (i:=2) (show (["giver","at","left"]:List Str).Nodup by decide +kernel) rfl (Or.inl rfl)) fN))))) (λ_ _ _ _ _=>(iD (aF lX (dv 2) ae (aA _)))) (λ_ _ _ _ _=>(bw (aa (dv 0) (aa (dv 1) (aa (bE ae) (aa (bE ae) (aa (dv 2) ai))))))))))))))),λds Q h=>?_⟩
  obtain ⟨g,hs,cs,z,ns,rfl,wk,hl,q⟩:=h;have ok:=wk.ok;have sl:sizeLine=16777216:=sizeLine_eq;have oh:=rJ ok.D7 ok.nh;have oc:=mZ ok.qy ok.nc;refine bo (λρ=>ρ = [some (.p (dW g hs cs)),some (.p (.int z)),some (.p (.lst (ns.map D.int))),some (.o (.lst [])),none,none,none,none,none,none,none,none,none,none]) ?_ λN hN=>?_;rotate_left
  · walk_at "rs";exact hN _ rfl
  rintro ρ rfl;refine bo (λρ=>∃rs:List R3,rs.Perm (ju 0 hs)/\ρ = [some (.p (dW g hs cs)),some (.p (.int z)),some (.p (.lst (ns.map D.int))),some (.o (.lst [])),some (.n false (rs.map dR)),none,none,none,none,none,none,none,none,none]) ?_ λN hN=>?_;rotate_left
  · repeat (first | dsimp only[dW] | walk_at "rs1" | walk_at "rsx")
    exact ⟨hs,z,rfl,oh,λrs hp=>hN _ ⟨rs,hp,rfl⟩⟩
  rintro ρ ⟨rs,hpr,rfl⟩;refine bo (λρ=>∃rc:List R3,rc.Perm (ju 0 cs)/\ρ = [some (.p (dW g hs cs)),some (.p (.int z)),some (.p (.lst (ns.map D.int))),some (.o (.lst [])),some (.n false (rs.map dR)),some (.p (.lst (rc.map dR))),none,none,none,none,none,none,none,none]) ?_ λN hN=>?_;rotate_left
  · repeat (first | dsimp only[dW] | walk_at "rs1" | walk_at "rsx")
    exact ⟨⟨by decide,by decide⟩,cs,z / 1000,rfl,oc,λrc hp=>hN _ ⟨rc,hp,rfl⟩⟩
  rintro ρ ⟨rc,hpc,rfl⟩;have Rh:=Bo (xA ok.D7) hpr;have Rc:=Bo (um ok.qy) hpc;obtain ⟨w,hw,hsum⟩:=GY (g:=g) (rs:=rs) (rc:=rc) ok.g0 oh.w oc.w ok.nh ok.nc hpr hpc (wk.sm.imp id (by rintro ⟨a,b⟩;exact ⟨λs h=>by have:=a s h;have:=(ok.D7 s h).lt;unfold cu eA;lia,λs h=>by have:=b s h;have:=(ok.qy s h).lt;unfold cu eA;lia⟩));obtain ⟨keys,hkeys⟩ : ∃keys,keys=rs.map bM:=⟨_,rfl⟩
  rw[<-hkeys] at hw hsum;have S0:Out g hs cs keys (rc.map iG) w 0 rs (rc.map iG) [] []:=Out.start Rh Rc (λs h=>(xA ok.D7 s h).1) (λs h=>(um ok.qy s h).1) hkeys.symm;have lc:=jl (n:=0) oc.w;have lh:=jl (n:=0) oh.w;have nc:=ok.nc;have nh:=ok.nh;have hlc:rc.length<=2400:=by rw[hpc.length_eq];lia
  have hlk:keys.length<=2400:=by rw[hkeys,Ks,hpr.length_eq];lia
  have kn:keys.Nodup:=by rw[hkeys];exact Rh.eV
  have kcn:((rc.map iG).map (·.1)).Nodup:=by rw[dU];exact Rc.eV
  refine bo (Ex g hs cs keys rc w z ns rc.length) ?_ λN hN=>?_;rotate_left
  · repeat (first | walk_at "rs2" | walk_at "rsx")
    rw[Ks];refine ⟨⟨by lia,by lia⟩,?_⟩;refine cJ (Ex g hs cs keys rc w z ns) ⟨rs,rc.map iG,[],[],λ_=>none,S0,rfl⟩ ?_ ?_
    · rintro k x ρ hx ⟨rs,ck,ps,al,y,O,rfl⟩;obtain ⟨hk,rfl⟩:=cC hx;rw[Int.zero_add];have hk':k<rc.length:=by lia
      have ec:=Kt hk';generalize rc[k]=c at ec;have g1:fI (rc.map dR) ((k:Nat):Int)=some (dR c):=gN ec;have mc:bM c∈rc.map bM:=KJ.mpr ⟨c,KC ec,rfl⟩;have rb:=(mX Rc _).mp mc;have hc0:(rc.map iG)[k]?=some (bM c,c.2.2):=by rw[KS,ec];rfl
      have cb:0<=c.2.2/\c.2.2<=1000000000:=by
        obtain ⟨s,hs',h0,_,_,e⟩:=cU ((Rc.uv _ _).mp (KJ.mpr ⟨c,KC ec,rfl⟩));have:=(ok.qy s (cz hs').2.2).r1;have e:c.2.2=s.2.2:=e;lia
      dsimp only[Tg.d,dput];refine bo (λρ=>ρ = [some (.p (dW g hs cs)),some (.p (.int z)),some (.p (.lst (ns.map D.int))),some (.o (.lst (al.map d5))),some (.n false (rs.map dR)),some (.p (.lst (rc.map dR))),some (.p (.int (k:Nat))),some (.p (.int c.1)),some (.p (.int c.2.1)),some (.p (.int c.2.2)),y 10,y 11,y 12,y 13]) ?_ λN hN=>?_;rotate_left
      · repeat (first | dsimp only[dR] | walk_at "rs1" | walk_at "rsx" | set_option simprocs false in simp only[g1])
        exact hN _ rfl
      rintro ρ rfl;refine bo (λρ=>∃cell:Int,ρ = [some (.p (dW g hs cs)),some (.p (.int z)),some (.p (.lst (ns.map D.int))),some (.o (.lst (al.map d5))),some (.n false (rs.map dR)),some (.p (.lst (rc.map dR))),some (.p (.int (k:Nat))),some (.p (.int c.1)),some (.p (.int c.2.1)),some (.p (.int c.2.2)),some (.p (.int cell)),y 11,y 12,y 13]) ?_ λN hN=>?_;rotate_left
      · walk_at "rs";exact hN _ ⟨0,rfl⟩
      rintro ρ ⟨cell0,rfl⟩;refine bo (λρ=>∃cell:Int,ρ = [some (.p (dW g hs cs)),some (.p (.int z)),some (.p (.lst (ns.map D.int))),some (.o (.lst (al.map d5))),some (.n false (rs.map dR)),some (.p (.lst (rc.map dR))),some (.p (.int (k:Nat))),some (.p (.int c.1)),some (.p (.int c.2.1)),some (.p (.int c.2.2)),some (.p (.int cell)),y 11,y 12,y 13]) ?_ λN hN=>?_;rotate_left
      · walk_at "rs";refine C2 ?_;walk_at "rs";rw[Ks];refine ⟨λh=>?_,λ_=>hN _ ⟨_,rfl⟩⟩;have hp:0<ns.length:=by
          cases ns with
          | nil=>cases h
          | cons _ _=>exact Nat.zero_lt_succ _
        have e1:=Int.emod_nonneg (k:Int) (b:=(ns.length:Int)) (by lia);have e2:=Int.emod_lt_of_pos (k:Int) (b:=(ns.length:Int)) (by lia);refine ⟨by lia,?_⟩;generalize (k:Int) % (ns.length:Int)=y at e1 e2;obtain ⟨i,rfl⟩ : ∃i:Nat,y=(i:Int):=⟨y.toNat,(Int.toNat_of_nonneg e1).symm⟩
        have hi:=Kt (l:=ns) (i:=i) (by lia);exact ⟨_,gN hi,hN _ ⟨_,rfl⟩⟩
      rintro ρ ⟨cell,rfl⟩;obtain ⟨dec,k1,k2,I0⟩:=O.into (cell:=cell) kcn hc0 cb.1 cb.2;have hl0:ck.length=rc.length:=by have:=congrArg List.length O.kc;rwa [Ks,Ks,Ks] at this
      have pl:(ck.take k).length=k:=by rw[KO];lia
      have ep:(ck.take k).map (·.1)=((rc.map iG).take k).map (·.1):=by rw[map_take,O.kc,map_take]
      have eq:ck.drop (k+1)=(rc.map iG).drop (k+1):=by
        have:=congrArg (List.drop 1) O.rest;rw[List.drop_drop,List.drop_drop] at this;exact this
      have pc0:∀p∈ck.take k,0<=p.2:=λp h=>O.c0 p (mem_of_mem_take h);have qc0:∀p∈ck.drop (k+1),0<=p.2:=λp h=>O.c0 p (mem_of_mem_drop h);have kk:∀v:Int,(ck.take k++(bM c,v)::ck.drop (k+1)).map (·.1)=(rc.map iG).map (·.1):=λv=>by
        rw[<-O.kc];conv=>rhs;rw[dec]
        rw[KU,KU];rfl
      have bk:keys.length+fJ w (((rc.map iG).take k).map (·.1))<=9990:=by
        refine Nat.le_trans (Nat.add_le_add_left ?_ _) hsum;rw[<-dU rc];conv=>rhs;rw[<-take_append_drop k (rc.map iG)]
        rw[KU,uJ];lia
      refine bo (Es g hs cs keys rc (keys.length+fJ w (((rc.map iG).take k).map (·.1))) z ns k c (ck.take k) (ck.drop (k+1)) cell keys.length) ?_ λN hN=>?_;rotate_left
      · have hlr : (rs.map dR).length = keys.length := by rw [Ks, <- Ks (f := bM), O.kr]
        unfold zL;dsimp only[aV];refine ⟨(by show 11<14;decide),Es g hs cs keys rc (keys.length+fJ w (((rc.map iG).take k).map (·.1))) z ns k c (ck.take k) (ck.drop (k+1)) cell,⟨rs,ps,al,c.2.2,0,0,y,I0,rfl⟩,?_,?_⟩
        · rw[hlr];clear I0;rintro j ρ hj ⟨rs,ps,al,need,m,a,y,I,rfl⟩;have lr2:(rs.map dR).length=keys.length:=by rw[Ks,<-Ks (f:=bM),I.kr]
          refine ⟨⟨_,rfl,lr2⟩,?_⟩;have hjr:j<rs.length:=by rw[Ks] at lr2;lia
          have hr:=Kt hjr;generalize rs[j]=r at hr;have ga:(rs.map dR).getD j D.non=dR r:=by rw[getD_eq_getElem?_getD,KS,hr];rfl
          obtain ⟨pt,hpt,hkind⟩:=BC need (cell+r.2.1);have hct:=I.ct;have hm1:=I.m1;have r0:=I.r0 r (KC hr);have n0:=I.n0;refine IU λNX hNX=>?_;repeat (first | dsimp only[dW,dR] | walk_at "rs1" | walk_at "rsx" | set_option simprocs false in simp only[ga])
          refine ⟨⟨by decide,by decide⟩,by decide,.int pt,hpt,rfl,λh1=>⟨λh2=>?_,λh2=>hNX _ ⟨rs,ps,al,need,m,a,wv 11 [_,_,_],I.skip,rfl⟩⟩,λh1=>⟨λz=>(nomatch z),λ_=>hNX _ ⟨rs,ps,al,need,m,a,wv 11 [_,_,_],I.skip,rfl⟩⟩⟩;have h1:=of_decide_eq_true h1;have h2:=of_decide_eq_true h2;walk_at "rs";have hx:(if r.2.2<pt then r.2.2 else pt)<=r.2.2/\(if r.2.2<pt then r.2.2 else pt)<=pt/\((if r.2.2<pt then r.2.2 else pt)=r.2.2\/(if r.2.2<pt then r.2.2 else pt)=pt):=by split<;>lia
          generalize (if r.2.2<pt then r.2.2 else pt)=x at h2 hx;have a2:a<=1:=by rcases I.a1 with z | z<;>lia
          obtain ⟨m',a',I'⟩:=I.pass (x:=x) kn k1 k2 (λy hy=>(mX Rh y).mp (by rw[<-hkeys];exact hy)) rb hr (by lia) (by lia) (by lia) (by show c.2.1+g<=r.2.1;lia) (by
            rcases hx.2.2 with e | e
            · exact .inl e
            · rcases hkind with y | y | y
              · exact .inr (.inl (by lia))
              · exact .inr (.inr ⟨y.1,by lia⟩)
              · lia)
          rw[Ks];refine ⟨rfl,rfl,by lia,rfl,_,2,by rw[KS,hr];rfl,rfl,rfl,hNX _ ⟨rs.set j (r.1,r.2.1,r.2.2 - x),_,al++[(r.1,r.2.1,c.1,c.2.1,x)],_,m',a',wv 11 [none,some (.p (.int pt)),some (.p (.int x))],I',?_⟩⟩;rw[KU,map_set];rfl
        · rw[hlr];rintro ρ ⟨rs,ps,al,need,m,a,y,I,rfl⟩;exact hN _ ⟨rs,ps,al,need,m,a,y,I,rfl⟩
      rintro ρ ⟨rs,ps,al,need,m,a,y,I,rfl⟩;have hct:=I.ct;have hm1:=I.m1;have n0:=I.n0;walk_at "rs";rw[Ks];have a2:a<=1:=by rcases I.a1 with z | z<;>lia
      refine ⟨λh=>⟨by lia,rs,_,ps,al++[(-1,-1,c.1,c.2.1,need)],wv 6 [_,_,_,_,_,_,_,_],I.out hc0 pl (kk _) eq ep pc0 qc0 (hw _ _ mc) ?_,by rw[KU];rfl⟩,λh=>⟨rs,_,ps,al,wv 6 [_,_,_,_,_,_,_,_],I.out hc0 pl (kk _) eq ep pc0 qc0 (hw _ _ mc) ?_,rfl⟩⟩
      · rw[if_pos (of_decide_eq_true h)];rfl
      · rw[if_neg (of_decide_eq_false h),append_nil]
    · rintro ρ ⟨rs,ck,ps,al,y,O,rfl⟩;rw[cQ] at O;exact hN _ ⟨rs,ck,ps,al,y,O,rfl⟩
  rintro ρ ⟨rs,ck,ps,al,y,O,rfl⟩;have O':Out g hs cs keys (rc.map iG) w (rc.map iG).length rs ck ps al:=by rw[Ks];exact O
  obtain ⟨L,hlen⟩:=O'.IX kn kcn (λk=>by rw[hkeys];exact mX Rh k) (λk=>by rw[dU];exact mX Rc k);rw[dU] at hlen;walk_at "rs";refine jd ES (λr=>if 0<r.2.2 then some (d5 (r.1,r.2.1,-1,-1,r.2.2)) else none) (by rw[<-Ks (f:=bM),O.kr];lia) (λr _=>?_) ?_
  · repeat (first | dsimp only[dR] | walk_at "rs1" | walk_at "rsx")
    refine ⟨λh=>?_,λh=>?_⟩
    · rw[if_pos (of_decide_eq_true h)];rfl
    · rw[if_neg (of_decide_eq_false h)]
  rw[bV (λr:R3=>0<r.2.2) λr=>d5 (r.1,r.2.1,-1,-1,r.2.2)];have eh:(rs.filter λr=>decide (0<r.2.2)).map (λr=>d5 (r.1,r.2.1,-1,-1,r.2.2))=(kB (rs.map iG)).map d5:=by
    unfold kB kK;rw[List.filter_map,map_map,map_map];rfl
  rw[eh];walk_at "rs";rw[Ks,Ks,<-KU];rw[KA] at hlen;exact ⟨by lia,q _ L (by rw[KA];lia)⟩
theorem Iy {ps:List P5}{Q:B->Prop}(h:Q (.p (.bl (!ps.isEmpty)))):Gp (.lst (ps.map d5)) (.lst []) Q:=by
 refine ⟨⟨by rw[g7];exact mP ps,by rw[g7,dm],by rw[mN];have:=mL ps;lia⟩,?_⟩;have e:bI (.lst (ps.map d5)) (.lst [])=ps.isEmpty:=by
  unfold bI;cases ps with
  | nil=>rfl
  | cons p r=>exact iM (by simp)
 rw[e];exact h
noncomputable def fY:DR:=λds P=>∃(ss:List S3) (n d:Int),ds = [.lst (ss.map d3),.int n,.int d]/\P (.p (.bl (cD ss (n,d))))
theorem nS (T:oX K mg)(F:lP K "_law_is_step" "_law_is_step" cG f fd):cL P w K mg base iu 1 f fd ["streams","number","degree"] (eP K fY):=by
 refine uL F d7 (λds Q h=>by obtain ⟨ss,n,d,rfl,q⟩:=h;rfl) λcdv A outer s H E hr=>⟨_,(af (bq (DW.dt (nB (aF p6 (dv 1) ae (aA _)) (jD (aF xm (dv 1) (aG dA (by rfl) T.eS PySem.boot_len (aa (dv 0) ai)) (aA _))))) (ak (aP lR)) aJ)
   (af (qL (g:=(.t [3,4,5])) (aH (dv 0) (dv 1)) (iO rfl (aS (aB (i:=3) d7.nd rfl (Or.inl rfl)) (aS (aB (i:=4) d7.nd rfl (Or.inl rfl)) (aS (aB (i:=5) d7.nd rfl (Or.inl rfl)) fN)))))
   (ak (aP (zZ (lq Hs (aG (gP rfl) (by rfl) T.jY boot_min (aa (dv 3) (aa (dv 4) ai))) (dv 2) (aA _)) (u7 (lq p6 (dv 2) (aG (qw rfl) (by rfl) T.sd boot_max (aa (dv 3) (aa (dv 4) ai))) (aA _)))))))),λds Q h=>?_⟩
 obtain ⟨ss,n,d,rfl,q⟩:=h;walk_at "rs";refine ⟨λh=>⟨λ_=>?_,λz=>nomatch z⟩,λh=>⟨λh2=>?_,λh2=>?_⟩⟩
 .rw[decide_eq_true_eq] at h;rw[uH (k:=(n,d)) h] at q;exact q
 .rw[decide_eq_false_iff_not] at h;rw[decide_eq_true_eq,Ks] at h2;have e:cD ss (n,d)=false:=by
   unfold cD strAt;rw[if_pos (show 0<=(n,d).1 by show 0<=n;lia),List.getElem?_eq_none (show ss.length<=(n,d).1.toNat by show ss.length<=n.toNat;lia)]
  rw[e] at q;exact q
 .rw[decide_eq_false_iff_not] at h h2;rw[Ks] at h2;have hlt:n.toNat<ss.length:=by lia
  have ec:=Kt hlt;generalize ss[n.toNat]=s at ec;have en:((n.toNat:Nat):Int)=n:=Int.toNat_of_nonneg (by lia);have g1:fI (ss.map d3) n=some (d3 s):=by rw[<-en];exact gN ec
  have e:cD ss (n,d)=decide (cu s<=d/\d<eA s):=by
   unfold cD strAt;rw[if_pos (show 0<=(n,d).1 by show 0<=n;lia),show ss[(n,d).1.toNat]?=some s from ec]
  rw[e] at q;refine ⟨d3 s,g1,?_⟩;have m1:(if s.2.1<s.1 then s.2.1 else s.1)=cu s:=by unfold cu;split<;>lia
  have m2:(if s.2.1>s.1 then s.2.1 else s.1)=eA s:=by unfold eA;split<;>lia
  repeat (first | dsimp only[d3] | walk_at "rs1" | walk_at "rsx")
  rw[m1,m2];refine ⟨λh3=>?_,λh3=>?_⟩
  .rw[decide_eq_true_eq] at h3;rw[show decide (cu s<=d/\d<eA s)=decide (d<eA s) by rw[decide_eq_decide];exact ⟨λz=>z.2,λz=>⟨h3,z⟩⟩] at q;exact q
  .rw[decide_eq_false_iff_not] at h3;rw[decide_eq_false (λz=>h3 z.1)] at q;exact q
noncomputable def jM:DR:=λds P=>∃(g:Int) (hs cs:List S3) (p:P5),ds = [dW g hs cs,d5 p]/\P (.p (.bl (lW g hs cs p)))
theorem ua (T:oX K mg)(F_law_is_step:Fn P w K mg base "_law_is_step" 1 ["streams","number","degree"] (eP K fY))(F:lP K "_law_goes" "_law_goes" eK f fd):cL P w K mg base iu 2 f fd ["works","one"] (eP K jM):=by
 refine uL F dJ (λds Q h=>by obtain ⟨g,hs,cs,p,rfl,q⟩:=h;rfl) λcdv A outer s H E hr=>⟨_,(af (qL (g:=(.t [2,3,4,5,6])) (dv 1) (iO rfl (aS (aB (i:=2) dJ.nd rfl (Or.inl rfl)) (aS (aB (i:=3) dJ.nd rfl (Or.inl rfl)) (aS (aB (i:=4) dJ.nd rfl (Or.inl rfl)) (aS (aB (i:=5) dJ.nd rfl (Or.inl rfl)) (aS (aB (i:=6) dJ.nd rfl (Or.inl rfl)) fN)))))))
   (af (bq (aF p6 (dv 6) ae (aA _)) (ak (aP lR)) aJ)
   (af (bq (aF (vC hr) (bw (aa (dv 2) (aa (dv 3) ai))) (bw (aa (bE ae) (aa (bE ae) ai))) (aA _)) (ak (aP (bz F_law_is_step (hr.mono (by decide)) (by rfl) (aa (aH (dv 0) ae) (aa (dv 4) (aa (dv 5) ai)))))) aJ)
   (af (bq (qN (nA (bz F_law_is_step (hr.mono (by decide)) (by rfl) (aa (aH (dv 0) ae) (aa (dv 2) (aa (dv 3) ai)))))) (ak (aP lR)) aJ)
   (ak (aP (GS (lq (vC hr) (bw (aa (dv 4) (aa (dv 5) ai))) (bw (aa (bE ae) (aa (bE ae) ai))) (aA _)) (u7 (zZ (bz F_law_is_step (hr.mono (by decide)) (by rfl) (aa (aH (dv 0) ae) (aa (dv 4) (aa (dv 5) ai)))) (u7 (lq xm (ao lz (dv 3) (dv 5)) (aH (dv 0) ae) (aA _)))))))))))),λds Q h=>?_⟩
 obtain ⟨g,hs,cs,p,rfl,q⟩:=h;repeat (first | dsimp only[dW,d5] | walk_at "rs1" | walk_at "rsx")
 have e2:(gk p=Bt)↔(p.1 = -1/\p.2.1 = -1):=by unfold gk Bt;rw[Prod.mk.injEq]
 have e3:(dO p=Bt)↔(p.2.2.1 = -1/\p.2.2.2.1 = -1):=by unfold dO Bt;rw[Prod.mk.injEq]
 refine ⟨λh=>?_,λh=>wL ?_⟩
 .rw[decide_eq_true_eq] at h;have e:lW g hs cs p=false:=by
   unfold lW;rw[decide_eq_false (show ¬1<=ht p by show ¬1<=p.2.2.2.2;lia),Bool.false_and]
  rw[e] at q;exact q
 .rw[decide_eq_false_iff_not] at h;unfold lW at q;rw[decide_eq_true (show 1<=ht p by show 1<=p.2.2.2.2;lia),Bool.true_and] at q;walk_at "rs";refine ⟨λc=>⟨cs,_,_,rfl,?_⟩,λc=>⟨hs,_,_,rfl,?_⟩⟩
  .rw[decide_eq_true_eq] at c;rw[if_pos (e2.mpr c)] at q;exact q
  .rw[decide_eq_false_iff_not] at c;rw[if_neg (λz=>c (e2.mp z))] at q;walk_at "rs";refine ⟨λc1=>?_,λc1=>wL ?_⟩
   .rw[Bool.not_eq_true'] at c1;rw[show cD hs (gk p)=false from c1,Bool.false_and] at q;exact q
   .rw[Bool.not_eq_false'] at c1;rw[show cD hs (gk p)=true from c1,Bool.true_and] at q;walk_at "rs";refine ⟨λc2=>?_,λc2=>⟨cs,_,_,rfl,?_⟩⟩
    .rw[decide_eq_true_eq] at c2;rw[decide_eq_true (e3.mpr c2),Bool.true_or] at q;exact q
    .rw[decide_eq_false_iff_not] at c2;rw[decide_eq_false (λz=>c2 (e3.mp z)),Bool.false_or] at q;walk_at "rs";refine ⟨λc3=>?_,λc3=>?_⟩
     .rw[show cD cs (dO p)=true from c3,Bool.true_and] at q;exact q
     .rw[show cD cs (dO p)=false from c3,Bool.false_and] at q;exact q
noncomputable def gX (b:Bool):P5->K2:=if b then gk else dO
noncomputable def jN:DR:=λds P=>∃(ss:List S3) (ps:List P5) (b:Bool),ds = [.lst (ss.map d3),.lst (ps.map d5),.int (if b then 0 else 2)]/\ss.length<=12/\(∀s∈ss,0<=cu s/\eA s<=200)/\ps.length<=9995 /\
 (qq ss (ps.map λp=>(gX b p,ht p))->∀z:Int,P (.p (.int z)))/\(¬qq ss (ps.map λp=>(gX b p,ht p))->P (.p .non))
theorem uc (T:oX K mg)(F:lP K "_law_sums" "_law_sums" eL f fd):cL P w K mg base iu 1 f fd ["streams","passes","place"] (eP K jN):=by
  refine uL F bS (λds Q h=>by obtain ⟨ss,ps,b,rfl,hn,hw,hl,q1,q2⟩:=h;rfl) λcdv A outer s H E hr=>⟨_,(af (fD (i:=3) bS.nd rfl (Or.inl rfl) qG)
      (af (jC (g:=(.n 4)) PassesOwn.never rfl (bL (dv 1)) (aB (i:=4) bS.nd rfl (Or.inl rfl)) (af (aw (i:=5) bS.nd rfl (Or.inl rfl) (bw (aa (aH (dv 4) (dv 2)) (aa (aH (dv 4) (ao aD (dv 2) ae)) ai))))
      (ak (sQ (i:=3) hr rfl (by walk_at "v") (dv 5) (ao aD (mK hr (dv 3) (dv 5) ae ⟨rfl,rfl,rfl,rfl⟩) (aH (dv 4) ae))))))
      (af (gR (g:=(.n 6)) PassesOwn.never rfl (j8 (by rfl) T.gO (aa (aG dA (by rfl) T.eS PySem.boot_len (aa (dv 0) ai)) ai)) (aB (i:=6) bS.nd rfl (Or.inl rfl)) (af (qL (g:=(.t [7,8,9])) (aH (dv 0) (dv 6)) (iO rfl (aS (aB (i:=7) bS.nd rfl (Or.inl rfl)) (aS (aB (i:=8) bS.nd rfl (Or.inl rfl)) (aS (aB (i:=9) bS.nd rfl (Or.inl rfl)) fN)))))
      (ak (gR (g:=(.n 10)) PassesOwn.never rfl (nz (by rfl) T.gO (aa (aG (gP rfl) (by rfl) T.jY boot_min (aa (dv 7) (aa (dv 8) ai))) (aa (aG (qw rfl) (by rfl) T.sd boot_max (aa (dv 7) (aa (dv 8) ai))) ai))) (aB (i:=10) bS.nd rfl (Or.inl rfl)) (ak (bq (aF t8 (mK hr (dv 3) (bw (aa (dv 6) (aa (dv 10) ai))) ae ⟨rfl,rfl,rfl,rfl⟩) (dv 9) (aA _)) (ak (aP fB)) aJ))))))
      (ak (aP (mK hr (dv 3) (bw (aa (bE ae) (aa (bE ae) ai))) ae ⟨rfl,rfl,rfl,rfl⟩)))))),λds Q h=>?_⟩
  obtain ⟨ss,ps,b,rfl,hn,hw,hl,q1,q2⟩:=h;walk_at "rs";have sl:sizeLine=16777216:=sizeLine_eq;have key:∀(i:Nat) p,ps[i]?=some p->ij ((ps.map λp=>(gX b p,ht p)).take (i+1))=putD (ij ((ps.map λp=>(gX b p,ht p)).take i)) (gX b p) ((aO (ij ((ps.map λp=>(gX b p,ht p)).take i)) (gX b p)).getD 0+ht p):=λi p e=>by
    rw[WS.take_snoc (show (ps.map λp=>(gX b p,ht p))[i]?=some (gX b p,ht p) by rw[KS,e];rfl),kZ]
  refine cJ (λi ρ=>∃a4 a5,ρ = [some (.p (.lst (ss.map d3))),some (.p (.lst (ps.map d5))),some (.p (.int (if b=true then 0 else 2))),some (.o (.dct (ij ((ps.map λp=>(gX b p,ht p)).take i)))),a4,a5,none,none,none,none,none]) ⟨none,none,rfl⟩ ?_ ?_
  · rintro i x ρ hx ⟨a4,a5,rfl⟩;rw[KS] at hx;obtain ⟨p,hp,rfl⟩:=Option.map_eq_some_iff.mp hx;have hn2:=(i6 ((ps.map λp=>(gX b p,ht p)).take i)).2.1;rw[KO,Ks] at hn2;have k2:=key i p hp;have g1:fI [D.int p.1,D.int p.2.1,D.int p.2.2.1,D.int p.2.2.2.1,D.int p.2.2.2.2] (if b=true then 0 else 2)=some (.int (gX b p).1):=by cases b<;>rfl
    have g2:fI [D.int p.1,D.int p.2.1,D.int p.2.2.1,D.int p.2.2.2.1,D.int p.2.2.2.2] ((if b=true then 0 else 2)+1)=some (.int (gX b p).2):=by cases b<;>rfl
    repeat (first | dsimp only[d5] | walk_at "rs1" | walk_at "rsx" | set_option simprocs false in simp only[g1,g2])
    rw[k2];exact ⟨by lia,_,_,rfl⟩
  · rintro ρ ⟨a4,a5,rfl⟩;rw[Ks,<-Ks (λp=>(gX b p,ht p)),List.take_length];have va:=(i6 (ps.map λp=>(gX b p,ht p))).2.2;walk_at "rs";rw[Ks];refine ⟨⟨by lia,by lia⟩,?_⟩;refine cJ (λi ρ=>(∀j s,j<i->ss[j]?=some s->∀d,cu s<=d->d<eA s->aX ((j:Int),d) (ps.map λp=>(gX b p,ht p))=s.2.2)/\∃y:Nat->Option B,ρ = [some (.p (.lst (ss.map d3))),some (.p (.lst (ps.map d5))),some (.p (.int (if b=true then 0 else 2))),some (.o (.dct (ij (ps.map λp=>(gX b p,ht p))))),a4,a5,y 6,y 7,y 8,y 9,y 10]) ⟨λj s h=>absurd h (Nat.not_lt_zero _),wv 6 [_,_,_,_,_],rfl⟩ ?_ ?_
    · rintro i x ρ hx ⟨hd,y,rfl⟩;obtain ⟨hi,rfl⟩:=cC hx;rw[Int.zero_add];have hi':i<ss.length:=by lia
      have ec:=Kt hi';have hw':=hw _ (List.getElem_mem hi');generalize ss[i]=s at ec hw';have g1:fI (ss.map d3) ((i:Nat):Int)=some (d3 s):=gN ec;have m1:(if s.2.1<s.1 then s.2.1 else s.1)=cu s:=by unfold cu;split<;>lia
      have m2:(if s.2.1>s.1 then s.2.1 else s.1)=eA s:=by unfold eA;split<;>lia
      repeat (first | dsimp only[d3] | walk_at "rs1" | walk_at "rsx" | set_option simprocs false in simp only[g1])
      rw[m1,m2];refine ⟨⟨by lia,by lia,by lia,by lia⟩,?_⟩;refine cJ (λm ρ=>(∀d,cu s<=d->d<cu s+(m:Int)->aX ((i:Int),d) (ps.map λp=>(gX b p,ht p))=s.2.2)/\∃a10,ρ = [some (.p (.lst (ss.map d3))),some (.p (.lst (ps.map d5))),some (.p (.int (if b=true then 0 else 2))),some (.o (.dct (ij (ps.map λp=>(gX b p,ht p))))),a4,a5,some (.p (.int (i:Nat))),some (.p (.int s.1)),some (.p (.int s.2.1)),some (.p (.int s.2.2)),a10]) ⟨λd h1 h2=>absurd h1 (by lia),_,rfl⟩ ?_ ?_
      · rintro m y ρ hy ⟨hm,a10',rfl⟩;obtain ⟨hm',rfl⟩:=cC hy;walk_at "rs";rw[va,jn];refine ⟨λh=>q2 λS=>?_,λh=>⟨λd h1 h2=>?_,_,rfl⟩⟩
        · have := S i s ec (cu s + (m : Int)) (by lia) (by lia);rw[this] at h;simp at h
        · by_cases c:d=cu s+(m:Int)
          · subst c;simpa using h
          · exact hm d h1 (by lia)
      · rintro ρ ⟨hm,a10',rfl⟩;rw[cQ] at hm;refine ⟨λj s' hj e d h1 h2=>?_,wv 6 [_,_,_,_,_],rfl⟩;by_cases c:j=i
        · subst c;rw[ec] at e;cases e;exact hm d h1 (by lia)
        · exact hd j s' (by lia) e d h1 h2
    · rintro ρ ⟨hd,y,rfl⟩;rw[cQ] at hd;walk_at "rs";exact q1 (λi s e d h1 h2=>hd i s (by have:=(Kw.mp e).1;lia) e d h1 h2) _
noncomputable def hE:DR:=λds P=>∃(g:Int) (hs cs:List S3) (ps:List P5),ds = [dW g hs cs,.lst (ps.map d5)]/\zw g hs cs/\ps.length<=9995 /\
 (Looks g hs cs ps->P (.p (.tup [.int (aX Bt (gq ps)),.int (aX Bt (tq ps))])))/\(¬Looks g hs cs ps->P (.p .non))
theorem oR (T:oX K mg)(F_law_sums:Fn P w K mg base "_law_sums" 1 ["streams","passes","place"] (eP K jN))(F_law_goes:Fn P w K mg base "_law_goes" 2 ["works","one"] (eP K jM))(F:lP K "_law_bought" "_law_bought" br f fd):cL P w K mg base iu 3 f fd ["works","passes"] (eP K hE):=by
  refine uL F eR (λds Q h=>by obtain ⟨g,hs,cs,ps,rfl,ok,hl,q1,q2⟩:=h;rfl) λcdv A outer s H E hr=>⟨_,(af (jC (g:=(.n 2)) PassesOwn.never rfl (bL (dv 1)) (aB (i:=2) eR.nd rfl (Or.inl rfl)) (ak (bq (qN (nA (bz F_law_goes (hr.mono (by decide)) (by rfl) (aa (dv 0) (aa (dv 2) ai))))) (ak (aP fB)) aJ)))
      (af (bq (aF t8 (pI hr rfl (by rfl) T.eS (by rfl) T.DN (aa (iz (g:=(.n 0)) (tc:=gd) (te:=(DZ (di 0) mH (fK (dC _)))) (sc0:=aj br) (N0:=["works","passes","one","heat","cold"]) ["one"] [none] rfl (bL (dv 1)) (λ_ _ _ _ _=>(aB (i:=0) (show (["one"]:List Str).Nodup by decide +kernel) rfl (Or.inl rfl))) (λ_ _ _ _ _=>fC) (λ_ _ _ _ _=>(aC (dv 0) aQ (az ae)))) ai)) (aG dA (by rfl) T.eS PySem.boot_len (aa (dv 1) ai)) (aA _)) (ak (aP fB)) aJ)
      (af (aw (i:=3) eR.nd rfl (Or.inl rfl) (bz F_law_sums (hr.mono (by decide)) (by rfl) (aa (aH (dv 0) ae) (aa (iz (g:=(.n 0)) (tc:=(oJ (mm _ (mm uX (di 0) (dC _)) (Ce oI (dC _))))) (te:=(di 0)) (sc0:=aj br) (N0:=["works","passes","one","heat","cold"]) ["one"] [none] rfl (bL (dv 1)) (λ_ _ _ _ _=>(aB (i:=0) (show (["one"]:List Str).Nodup by decide +kernel) rfl (Or.inl rfl))) (λ_ _ _ _ _=>(iD (aF t8 (aH (dv 0) ae) (bE ae) (aA _)))) (λ_ _ _ _ _=>(dv 0))) (aa ae ai)))))
      (af (aw (i:=4) eR.nd rfl (Or.inl rfl) (bz F_law_sums (hr.mono (by decide)) (by rfl) (aa (aH (dv 0) ae) (aa (iz (g:=(.n 0)) (tc:=(oJ (mm _ (mm uX (di 0) (dC _)) (Ce oI (dC _))))) (te:=(di 0)) (sc0:=aj br) (N0:=["works","passes","one","heat","cold"]) ["one"] [none] rfl (bL (dv 1)) (λ_ _ _ _ _=>(aB (i:=0) (show (["one"]:List Str).Nodup by decide +kernel) rfl (Or.inl rfl))) (λ_ _ _ _ _=>(iD (aF t8 (aH (dv 0) ae) (bE ae) (aA _)))) (λ_ _ _ _ _=>(dv 0))) (aa ae ai)))))
      (af (bq (DW.dt (nB (aF vD (dv 3) fB (aA _)) (jD (aF vD (dv 4) fB (aA _))))) (ak (aP fB)) aJ)
      (ak (aP (bw (aa (aG (uW rfl) (by rfl) T.zy boot_sum (aa (iz (g:=(.n 0)) (tc:=(oJ (mm _ (mm uX (di 0) (dC _)) (Ce oI (dC _))))) (te:=(mm uX (di 0) (dC _))) (sc0:=aj br) (N0:=["works","passes","one","heat","cold"]) ["one"] [none] rfl (bL (dv 1)) (λ_ _ _ _ _=>(aB (i:=0) (show (["one"]:List Str).Nodup by decide +kernel) rfl (Or.inl rfl))) (λ_ _ _ _ _=>(iD (aF dq (aH (dv 0) ae) (bE ae) (aA _)))) (λ_ _ _ _ _=>(aH (dv 0) ae))) ai)) (aa (aG (uW rfl) (by rfl) T.zy boot_sum (aa (iz (g:=(.n 0)) (tc:=(oJ (mm _ (mm uX (di 0) (dC _)) (Ce oI (dC _))))) (te:=(mm uX (di 0) (dC _))) (sc0:=aj br) (N0:=["works","passes","one","heat","cold"]) ["one"] [none] rfl (bL (dv 1)) (λ_ _ _ _ _=>(aB (i:=0) (show (["one"]:List Str).Nodup by decide +kernel) rfl (Or.inl rfl))) (λ_ _ _ _ _=>(iD (aF dq (aH (dv 0) ae) (bE ae) (aA _)))) (λ_ _ _ _ _=>(aH (dv 0) ae))) ai)) ai)))))))))),λds Q h=>?_⟩
  obtain ⟨g,hs,cs,ps,rfl,ok,hl,q1,q2⟩:=h;repeat (first | dsimp only[dW] | walk_at "rs1" | walk_at "rsx")
  have sh:=rJ ok.D7 ok.nh;have sc:=mZ ok.qy ok.nc;have ph:Pos hs:=λs h=>by have:=(ok.D7 s h).r0;lia
  have pc:Pos cs:=λs h=>by have:=(ok.qy s h).r0;lia
  have iff:=yB (g:=g) ph pc ps;have nh:=ok.nh;have nc:=ok.nc;refine cJ (λi ρ=>(∀p∈ps.take i,lW g hs cs p=true)/\∃a2,ρ = [some (.p (dW g hs cs)),some (.p (.lst (ps.map d5))),a2,none,none]) ⟨λp h=>(by rw[List.take_zero] at h;cases h),_,rfl⟩ ?_ ?_
  · rintro i x ρ hx ⟨hd,a2,rfl⟩;rw[KS] at hx;obtain ⟨p,hp,rfl⟩:=Option.map_eq_some_iff.mp hx;walk_at "rs";refine ⟨g,hs,cs,p,rfl,?_⟩;walk_at "rs";refine ⟨λh=>q2 λL=>?_,λh=>⟨λp' hp'=>?_,_,rfl⟩⟩
    · rw[(iff.mp L).1 p (KC hp)] at h;cases h
    · rw[WS.take_snoc hp] at hp';rcases Lf.mp hp' with z | z
      · exact hd p' z
      · rw[mem_singleton.mp z];simpa using h
  · rintro ρ ⟨hd,a2,rfl⟩;rw[Ks,List.take_length] at hd;repeat (first | dsimp only[dW] | walk_at "rs1" | walk_at "rsx")
    refine gY fV (λp=>tupI (k4 p)) (by lia) (λp _=>?_) ?_
    · repeat (first | dsimp only[d5] | walk_at "rs1" | walk_at "rsx")
      exact ⟨by decide,rfl⟩
    refine ⟨ps.map k4,by rw[map_map];rfl,by rw[Ks];exact hl,?_⟩;have hdf:=pL (ps.map k4);rw[Ks] at hdf ⊢;refine ⟨λh=>q2 λL=>?_,λh=>?_⟩
    · rw[hdf.mpr L.eV] at h;simp at h
    have eV:(ps.map k4).Nodup:=hdf.mp (by simp at h;lia);have fl:∀t:P5->Bool,(ps.filter t).length<=9995:=λt=>by have:=List.length_filter_le t ps;lia
    refine jd fV (λp=>if p.2.2.1 ≠ -1 then some (d5 p) else none) (by lia) (λp _=>?_) ?_
    · repeat (first | dsimp only[d5] | walk_at "rs1" | walk_at "rsx")
      refine ⟨λh=>?_,λh=>?_⟩
      · rw[if_pos (by simpa using h)]
      · rw[if_neg (by simpa using h)]
    rw[bV (λp:P5=>p.2.2.1 ≠ -1) d5];refine ⟨cs,ps.filter λp=>decide (p.2.2.1 ≠ -1),false,rfl,nc,λs h=>⟨(sc.w s h).1,(sc.w s h).2.2⟩,fl _,λS z=>?_,λS=>?_⟩
    · walk_at "rs";refine jd fV (λp=>if p.1 ≠ -1 then some (d5 p) else none) (by lia) (λp _=>?_) ?_
      · repeat (first | dsimp only[d5] | walk_at "rs1" | walk_at "rsx")
        refine ⟨λh=>?_,λh=>?_⟩
        · rw[if_pos (by simpa using h)]
        · rw[if_neg (by simpa using h)]
      rw[bV (λp:P5=>p.1 ≠ -1) d5];refine ⟨hs,ps.filter λp=>decide (p.1 ≠ -1),true,rfl,nh,λs h=>⟨(sh.w s h).1,(sh.w s h).2.2⟩,fl _,λS2 z2=>?_,λS2=>?_⟩
      · have L:Looks g hs cs ps:=iff.mpr ⟨hd,eV,S,S2⟩;walk_at "rs";refine ⟨λz=>(nomatch z),λ_=>⟨λz=>(nomatch z),λ_=>?_⟩⟩;refine jd fV (λp=>if p.1 = -1 then some (.int (ht p)) else none) (by lia) (λp _=>?_) ?_
        · repeat (first | dsimp only[d5] | walk_at "rs1" | walk_at "rsx")
          refine ⟨λh=>?_,λh=>?_⟩
          · rw [if_pos (by simpa using h)];rfl
          · rw[if_neg (by simpa using h)]
        rw[bV (λp:P5=>p.1 = -1) λp=>D.int (ht p)];refine ⟨(ps.filter λp=>decide (p.1 = -1)).map ht,by rw[map_map];rfl,?_⟩;walk_at "rs";refine jd fV (λp=>if p.2.2.1 = -1 then some (.int (ht p)) else none) (by lia) (λp _=>?_) ?_
        · repeat (first | dsimp only[d5] | walk_at "rs1" | walk_at "rsx")
          refine ⟨λh=>?_,λh=>?_⟩
          · rw [if_pos (by simpa using h)];rfl
          · rw[if_neg (by simpa using h)]
        rw[bV (λp:P5=>p.2.2.1 = -1) λp=>D.int (ht p)];refine ⟨(ps.filter λp=>decide (p.2.2.1 = -1)).map ht,by rw[map_map];rfl,?_⟩;walk_at "rs";rw[show ((ps.filter λp=>decide (p.1 = -1)).map ht).sum=aX Bt (gq ps) from BD gk L.gB,show ((ps.filter λp=>decide (p.2.2.1 = -1)).map ht).sum=aX Bt (tq ps) from BD dO L.tB];exact q1 L
      · walk_at "rs";refine ⟨λz=>(nomatch z),λ_=>⟨λ_=>?_,λz=>(nomatch z)⟩⟩;exact q2 λL=>S2 (iff.mp L).2.2.2
    · walk_at "rs";refine jd fV (λp=>if p.1 ≠ -1 then some (d5 p) else none) (by lia) (λp _=>?_) ?_
      · repeat (first | dsimp only[d5] | walk_at "rs1" | walk_at "rsx")
        refine ⟨λh=>?_,λh=>?_⟩
        · rw[if_pos (by simpa using h)]
        · rw[if_neg (by simpa using h)]
      rw[bV (λp:P5=>p.1 ≠ -1) d5];have nL:¬Looks g hs cs ps:=λL=>S (iff.mp L).2.2.1;refine ⟨hs,ps.filter λp=>decide (p.1 ≠ -1),true,rfl,nh,λs h=>⟨(sh.w s h).1,(sh.w s h).2.2⟩,fl _,λS2 z2=>?_,λS2=>?_⟩
      · walk_at "rs";exact ⟨λ_=>⟨λ_=>q2 nL,λz=>(nomatch z)⟩,λz=>(nomatch z)⟩
      · walk_at "rs";exact ⟨λ_=>⟨λ_=>q2 nL,λz=>(nomatch z)⟩,λz=>(nomatch z)⟩
theorem wZ {n i:Nat}(h:i<n):tI n (i:Nat)=some i:=by
 unfold tI;rw[if_pos (by lia),if_pos (by lia),Int.toNat_natCast]
noncomputable def e9:DR:=λds P=>∃(ps:List P5) (i j:Nat),ds = [.lst (ps.map d5),.int (i:Nat),.int (j:Nat)]/\i<ps.length/\j<ps.length/\∀qs:List P5,qs.length=ps.length->P (.o (.lst (qs.map d5)))/\P (.p (.lst (qs.map d5)))
theorem lA (T:oX K mg)(F:lP K "_law_exchanged" "_law_exchanged" bN f fd):cL P w K mg base iu 1 f fd ["passes","at","other"] (eP K e9):=by
 refine uL F cY (λds Q h=>by obtain ⟨ps,i,j,rfl,hi,hj,q⟩:=h;rfl) λcdv A outer s H E hr=>⟨_,(af (aw (i:=3) cY.nd rfl (Or.inl rfl) (aH (dv 0) (dv 1)))
   (af (aw (i:=4) cY.nd rfl (Or.inl rfl) (aH (dv 0) (dv 2)))
   (af (bq (DW.dt (nB (aF dq (dv 1) (dv 2) (aA _)) (jD (aF t8 (aH (dv 3) ae) (aH (dv 4) ae) (aA _))))) (ak (aP (dv 0))) aJ)
   (af (fD (i:=5) cY.nd rfl (Or.inl rfl) (pH vX (by rfl) T.uS boot_list (aa (dv 0) ai)))
   (af (sR (i:=5) rfl (by walk_at "v") (dv 1) (ao gz (aC (dv 3) aQ (az ae)) (aC (dv 4) (az ae) aQ)))
   (af (sR (i:=5) rfl (by walk_at "v") (dv 2) (ao gz (aC (dv 4) aQ (az ae)) (aC (dv 3) (az ae) aQ)))
   (ak (qM 5)))))))),λds Q h=>?_⟩
 obtain ⟨ps,i,j,rfl,hi,hj,q⟩:=h;have sl:sizeLine=16777216:=sizeLine_eq;have e1:=Kt hi;have e2:=Kt hj;generalize ps[i]=a at e1;generalize ps[j]=b at e2;have g1:fI (ps.map d5) (i:Nat)=some (d5 a):=gN e1;have g2:fI (ps.map d5) (j:Nat)=some (d5 b):=gN e2;have x1:tI (ps.map d5).length (i:Nat)=some i:=wZ (by rw[Ks];exact hi);have x2:∀d,tI ((ps.map d5).set i d).length (j:Nat)=some j:=λd=>wZ (by rw[length_set,Ks];exact hj);refine bo (λρ=>ρ = [some (.p (.lst (ps.map d5))),some (.p (.int (i:Nat))),some (.p (.int (j:Nat))),some (.p (d5 a)),none,none]) ?_ λN hN=>?_;rotate_left
 .repeat (first | dsimp only[d5] | walk_at "rs1" | walk_at "rsx" | set_option simprocs false in simp only[g1])
  exact hN _ rfl
 rintro ρ rfl;refine bo (λρ=>ρ = [some (.p (.lst (ps.map d5))),some (.p (.int (i:Nat))),some (.p (.int (j:Nat))),some (.p (d5 a)),some (.p (d5 b)),none]) ?_ λN hN=>?_;rotate_left
 .repeat (first | dsimp only[d5] | walk_at "rs1" | walk_at "rsx" | set_option simprocs false in simp only[g2])
  exact hN _ rfl
 rintro ρ rfl;refine bo (λρ=>ρ = [some (.p (.lst (ps.map d5))),some (.p (.int (i:Nat))),some (.p (.int (j:Nat))),some (.p (d5 a)),some (.p (d5 b)),none]) ?_ λN hN=>?_;rotate_left
 .repeat (first | dsimp only[d5] | walk_at "rs1" | walk_at "rsx")
  exact ⟨λ_=>⟨λ_=>(q ps rfl).2,λz=>(nomatch z)⟩,λ_=>⟨λ_=>(q ps rfl).2,λ_=>hN _ rfl⟩⟩
 rintro ρ rfl;repeat (first | dsimp only[d5] | walk_at "rs1" | walk_at "rsx" | set_option simprocs false in simp only[x1,x2])
 refine ⟨by decide,by decide,by rw[sl];exact Lb rfl,by decide,by decide,by rw[sl];exact Lb rfl,?_⟩;have z:=(q ((ps.set i (a.1,a.2.1,b.2.2)).set j (b.1,b.2.1,a.2.2)) (by rw[length_set,length_set])).1;rw[map_set,map_set] at z;exact z
noncomputable def GC (n:Nat)(P:B->Prop):Prop:=∀qs:List P5,qs.length<=n->P (.o (.lst (qs.map d5)))/\P (.p (.lst (qs.map d5)))
theorem Ax {tc:ig}{t u:fU}{E:iw}{ρ:ax}(ht:t E ρ)(h:∀T:Prop,T->tc (de ρ) λc=>(c=true->T)/\(c=false->u E ρ)):Ca tc t u E ρ:=h _ ht
theorem gi (c:Int){n:Nat}(h:0<n):∃m:Nat,m<n/\c % (n:Int)=(m:Nat):=by
 have h1:=Int.emod_nonneg c (b:=(n:Int)) (by lia);have h2:=Int.emod_lt_of_pos c (b:=(n:Int)) (by lia);exact ⟨(c % (n:Int)).toNat,by lia,(Int.toNat_of_nonneg h1).symm⟩
theorem JD {ps:List P5}{m k:Nat}{x:P5}:(ps.map d5).take m++[d5 x]++(ps.map d5).drop k=(ps.take m++[x]++ps.drop k).map d5:=by
 rw[KU,KU,map_take,map_drop];rfl
theorem Cr {ps:List P5}{Q:B->Prop}(h:Q (.p (.bl ps.isEmpty))):IW (.lst (ps.map d5)) (.lst []) Q:=by
 refine ⟨⟨by rw[g7];exact mP ps,by rw[g7,dm],by rw[mN];have:=mL ps;lia⟩,?_⟩;have e:bI (.lst (ps.map d5)) (.lst [])=ps.isEmpty:=by
  unfold bI;cases ps with
  | nil=>rfl
  | cons p r=>exact iM (by simp)
 rw[e];exact h
theorem Bu (a:P5)(v:Int){s:Nat}(h:s<5):∃x:P5,D.tup (eD [D.int a.1,D.int a.2.1,D.int a.2.2.1,D.int a.2.2.2.1,D.int a.2.2.2.2] none (some (s:Nat))++[D.int v]++eD [D.int a.1,D.int a.2.1,D.int a.2.2.1,D.int a.2.2.2.1,D.int a.2.2.2.2] (some ((s:Nat)+1)) none)=d5 x /\
  ¬(HT.df (0+1+1+1+1+1) 0 none=0/\HT.df (0+1+1+1+1+1) (0+1+1+1+1+1) (some (s:Nat))=0+1+1+1+1+1) /\
  (eD [D.int a.1,D.int a.2.1,D.int a.2.2.1,D.int a.2.2.2.1,D.int a.2.2.2.2] none (some (s:Nat))).length+(0+1)<=5 /\
  ¬(HT.df (0+1+1+1+1+1) 0 (some ((s:Nat)+1))=0/\HT.df (0+1+1+1+1+1) (0+1+1+1+1+1) none=0+1+1+1+1+1) /\
  (eD [D.int a.1,D.int a.2.1,D.int a.2.2.1,D.int a.2.2.2.1,D.int a.2.2.2.2] none (some (s:Nat))++[D.int v]).length+(eD [D.int a.1,D.int a.2.1,D.int a.2.2.1,D.int a.2.2.2.1,D.int a.2.2.2.2] (some ((s:Nat)+1)) none).length<=5:=by
 have:s=0\/s=1\/s=2\/s=3\/s=4:=by lia
 rcases this with z | z | z | z | z<;>subst z
 .exact ⟨(v,a.2.1,a.2.2.1,a.2.2.2.1,a.2.2.2.2),rfl,by decide,Lb rfl,by decide,Lb rfl⟩
 .exact ⟨(a.1,v,a.2.2.1,a.2.2.2.1,a.2.2.2.2),rfl,by decide,Lb rfl,by decide,Lb rfl⟩
 .exact ⟨(a.1,a.2.1,v,a.2.2.2.1,a.2.2.2.2),rfl,by decide,Lb rfl,by decide,Lb rfl⟩
 .exact ⟨(a.1,a.2.1,a.2.2.1,v,a.2.2.2.2),rfl,by decide,Lb rfl,by decide,Lb rfl⟩
 .exact ⟨(a.1,a.2.1,a.2.2.1,a.2.2.2.1,v),rfl,by decide,Lb rfl,by decide,Lb rfl⟩
noncomputable def hV:DR:=λds P=>∃(ps:List P5) (c:Int),ds = [.lst (ps.map d5),.int c]/\ps.length<=9994/\GC (ps.length+1) P
theorem oS (T:oX K mg)(F_law_exchanged:Fn P w K mg base "_law_exchanged" 1 ["passes","at","other"] (eP K e9))(F:lP K "_law_spoilt" "_law_spoilt" cV f fd):cL P w K mg base iu 2 f fd ["passes","cell"] (eP K hV):=by
 refine uL F aZ (λds Q h=>by obtain ⟨ps,c,rfl,hl,q⟩:=h;rfl) λcdv A outer s H E hr=>⟨_,(af (bq (DW.dt (nB (aF (vC hr) (dv 0) (cf ai) (aA _)) (jD (aF dq (ao aY (dv 1) ae) ae (aA _))))) (af (aw (i:=2) aZ.nd rfl (Or.inl rfl) (ao aY (ao bx (dv 1) ae) (ao aD (aG dA (by rfl) T.eS PySem.boot_len (aa (dv 0) ai)) ae)))
   (af (aw (i:=3) aZ.nd rfl (Or.inl rfl) (aH (cf (aa (bw (aa (bE ae) (aa (bE ae) (aa (bE ae) (aa (bE ae) (aa ae ai)))))) (aa (bw (aa ae (aa ae (aa ae (aa ae (aa ae ai)))))) (aa (bw (aa ae (aa ae (aa (bE ae) (aa (bE ae) (aa ae ai)))))) (aa (bw (aa (bE ae) (aa (bE ae) (aa ae (aa ae (aa ae ai)))))) ai))))) (ao aY (ao bx (dv 1) ae) ae)))
   (ak (aP (ao aD (ao aD (aC (dv 0) aQ (az (dv 2))) (cf (aa (dv 3) ai))) (aC (dv 0) (az (dv 2)) aQ)))))) aJ)
   (af (aw (i:=2) aZ.nd rfl (Or.inl rfl) (ao aY (ao bx (dv 1) ae) (aG dA (by rfl) T.eS PySem.boot_len (aa (dv 0) ai))))
   (af (aw (i:=4) aZ.nd rfl (Or.inl rfl) (aH (dv 0) (dv 2)))
   (af (aw (i:=5) aZ.nd rfl (Or.inl rfl) (ao aY (dv 1) ae))
   (af (bq (aF dq (dv 5) ae (aA _)) (ak (aP (ao aD (aC (dv 0) aQ (az (dv 2))) (aC (dv 0) (az (ao aD (dv 2) ae)) aQ)))) aJ)
   (af (aw (i:=6) aZ.nd rfl (Or.inl rfl) (ao aY (ao bx (dv 1) ae) (ao aD (aG dA (by rfl) T.eS PySem.boot_len (aa (dv 0) ai)) ae)))
   (af (bq (aF dq (dv 5) ae (aA _)) (ak (aP (ao aD (ao aD (aC (dv 0) aQ (az (dv 6))) (cf (aa (dv 4) ai))) (aC (dv 0) (az (dv 6)) aQ)))) aJ)
   (af (bq (DW.dt (lu (aF dq (dv 5) ae (aA _)) (kf (aF lX (aH (dv 4) ae) ae (aA _))))) (af (aw (i:=7) aZ.nd rfl (Or.inl rfl) (ao aD (ao aD (aC (dv 0) aQ (az (dv 2))) (cf (aa (ao gz (aC (dv 4) aQ (az ae)) (bw (aa (ao lz (aH (dv 4) ae) ae) ai))) ai))) (aC (dv 0) (az (ao aD (dv 2) ae)) aQ)))
   (ak (aP (ao aD (ao aD (aC (dv 7) aQ (az (dv 6))) (cf (aa (ao gz (aC (dv 4) aQ (az ae)) (bw (aa ae ai))) ai))) (aC (dv 7) (az (dv 6)) aQ))))) aJ)
   (af (bq (aF dq (dv 5) ae (aA _)) (ak (aP (bz F_law_exchanged (hr.mono (by decide)) (by rfl) (aa (dv 0) (aa (dv 2) (aa (ao aY (ao bx (dv 1) ae) (aG dA (by rfl) T.eS PySem.boot_len (aa (dv 0) ai))) ai)))))) aJ)
   (af (aw (i:=8) aZ.nd rfl (Or.inl rfl) (ao aY (ao bx (dv 1) ae) ae))
   (af (aw (i:=9) aZ.nd rfl (Or.inl rfl) (ao aD (aH (dv 4) (dv 8)) (aH (cf (aa ae (aa (bE ae) ai))) (ao aY (dv 5) ae))))
   (af (bq (aF dq (dv 5) ae (aA _)) (ak (aw (i:=9) aZ.nd rfl (Or.inl rfl) (aH (cf (aa (bE ae) (aa ae (aa (bE ae) (aa (ao AX ae ae) ai))))) (ao aY (ao bx (dv 1) ae) ae)))) aJ)
   (af (bq (aF dq (dv 5) ae (aA _)) (ak (aw (i:=9) aZ.nd rfl (Or.inl rfl) (ao lz ae (aH (dv 4) (dv 8))))) aJ)
   (ak (aP (ao aD (ao aD (aC (dv 0) aQ (az (dv 2))) (cf (aa (ao gz (ao gz (aC (dv 4) aQ (az (dv 8))) (bw (aa (dv 9) ai))) (aC (dv 4) (az (ao aD (dv 8) ae)) aQ)) ai))) (aC (dv 0) (az (ao aD (dv 2) ae)) aQ))))))))))))))))),λds Q h=>?_⟩
 obtain ⟨ps,c,rfl,hl,q⟩:=h;have sl:sizeLine=16777216:=sizeLine_eq;have done:∀{m k:Nat} {x:P5},m<=k->k<=ps.length->Q (.o (.lst ((ps.map d5).take m++[d5 x]++(ps.map d5).drop k))):=λ{m k x} h1 h2=>by
  rw[JD];exact (q _ (by rw[KA,KA,KO,Li,Lh];lia)).1
 have ll:(ps.map d5).length=ps.length:=Ks ..;refine bo (λρ=>ps≠[]/\ρ = [some (.p (.lst (ps.map d5))),some (.p (.int c)),none,none,none,none,none,none,none,none]) ?_ λN hN=>?_;rotate_left
 .refine Ax ?_ λT ht=>?_
  .walk_at "rs";rw[ll];obtain ⟨m,hm,em⟩:=gi (c / 13) (n:=ps.length+1) (by lia);rw[show ((ps.length:Int)+1)=((ps.length+1:Nat):Int) by lia,em,e8,dh];obtain ⟨r,hr,er⟩:=gi (c / 1300) (n:=4) (by decide);rw[show (4:Int)=((4:Nat):Int) from rfl,er];refine ⟨⟨by decide,by decide⟩,by lia,⟨by decide,by decide⟩,by decide,?_⟩;obtain ⟨x,hx⟩ : ∃x:P5,fI [D.tup [D.int (-1),D.int (-1),D.int (-1),D.int (-1),D.int 1],D.tup [D.int 0,D.int 3,D.int 0,D.int 2,D.int 1],D.tup [D.int 99,D.int 0,D.int (-1),D.int (-1),D.int 5],D.tup [D.int (-1),D.int (-1),D.int 0,D.int 3,D.int 0]] (r:Nat)=some (d5 x):=by
    have:r=0\/r=1\/r=2\/r=3:=by lia
    rcases this with z | z | z | z<;>subst z
    .exact ⟨(-1,-1,-1,-1,1),rfl⟩
    .exact ⟨(0,3,0,2,1),rfl⟩
    .exact ⟨(99,0,-1,-1,5),rfl⟩
    .exact ⟨(-1,-1,0,3,0),rfl⟩
   refine ⟨d5 x,hx,?_,?_,done (Ku _) (by lia)⟩
   .rw[KO,ll];lia
   .rw[KA,KO,Li,ll,Lh];lia
  .walk_at "rs";refine Cr ?_;walk_at "rs";refine ⟨λ_=>⟨λ_=>ht,λz=>(nomatch z)⟩,λz=>⟨by decide,λ_=>ht,λ_=>hN _ ⟨λw=>?_,rfl⟩⟩⟩;rw[w] at z;cases z
 rintro ρ ⟨hp,rfl⟩;have hn:0<ps.length:=List.length_pos_iff.mpr hp;refine bo (λρ=>∃m:Nat,m<ps.length/\ρ = [some (.p (.lst (ps.map d5))),some (.p (.int c)),some (.p (.int (m:Nat))),none,none,none,none,none,none,none]) ?_ λN hN=>?_;rotate_left
 .walk_at "rs";rw[ll];obtain ⟨m,hm,em⟩:=gi (c / 13) hn;rw[em];exact ⟨⟨by decide,by decide⟩,by lia,hN _ ⟨m,hm,rfl⟩⟩
 rintro ρ ⟨m,hm,rfl⟩;have e1:=Kt hm;generalize ps[m]=a at e1;have g1:fI (ps.map d5) (m:Nat)=some (d5 a):=gN e1;have em1:((m:Int)+1)=((m+1:Nat):Int):=by lia
 refine bo (λρ=>ρ = [some (.p (.lst (ps.map d5))),some (.p (.int c)),some (.p (.int (m:Nat))),none,some (.p (d5 a)),none,none,none,none,none]) ?_ λN hN=>?_;rotate_left
 .repeat (first | dsimp only[d5] | walk_at "rs1" | walk_at "rsx" | set_option simprocs false in simp only[g1])
  exact hN _ rfl
 rintro ρ rfl;refine bo (λρ=>ρ = [some (.p (.lst (ps.map d5))),some (.p (.int c)),some (.p (.int (m:Nat))),none,some (.p (d5 a)),some (.p (.int (c % 13))),none,none,none,none]) ?_ λN hN=>?_;rotate_left
 .walk_at "rs";exact ⟨by decide,hN _ rfl⟩
 rintro ρ rfl;obtain ⟨kd,hkd⟩ : ∃kd,kd=c % 13:=⟨_,rfl⟩
 rw[<-hkd];refine bo (λρ=>ρ = [some (.p (.lst (ps.map d5))),some (.p (.int c)),some (.p (.int (m:Nat))),none,some (.p (d5 a)),some (.p (.int kd)),none,none,none,none]) ?_ λN hN=>?_;rotate_left
 .walk_at "rs";refine ⟨λ_=>?_,λ_=>hN _ rfl⟩;rw[em1,e8,dh];refine ⟨by rw[KO,Li,ll];lia,?_⟩;rw[<-map_take,<-map_drop,<-KU];exact (q _ (by rw[KA,KO,Li];lia)).1
 rintro ρ rfl;refine bo (λρ=>∃o:Nat,o<=ps.length/\ρ = [some (.p (.lst (ps.map d5))),some (.p (.int c)),some (.p (.int (m:Nat))),none,some (.p (d5 a)),some (.p (.int kd)),some (.p (.int (o:Nat))),none,none,none]) ?_ λN hN=>?_;rotate_left
 .walk_at "rs";rw[ll];obtain ⟨o,ho,eo⟩:=gi (c / 1300) (n:=ps.length+1) (by lia);rw[show ((ps.length:Int)+1)=((ps.length+1:Nat):Int) by lia,eo];exact ⟨⟨by decide,by decide⟩,by lia,hN _ ⟨o,by lia,rfl⟩⟩
 rintro ρ ⟨o,ho,rfl⟩;refine bo (λρ=>ρ = [some (.p (.lst (ps.map d5))),some (.p (.int c)),some (.p (.int (m:Nat))),none,some (.p (d5 a)),some (.p (.int kd)),some (.p (.int (o:Nat))),none,none,none]) ?_ λN hN=>?_;rotate_left
 .walk_at "rs";refine ⟨λ_=>?_,λ_=>hN _ rfl⟩;rw[e8,dh];refine ⟨?_,?_,done (Ku _) ho⟩
  .rw[KO,ll];lia
  .rw[KA,KO,Li,ll,Lh];lia
 rintro ρ rfl;refine bo (λρ=>ρ = [some (.p (.lst (ps.map d5))),some (.p (.int c)),some (.p (.int (m:Nat))),none,some (.p (d5 a)),some (.p (.int kd)),some (.p (.int (o:Nat))),none,none,none]) ?_ λN hN=>?_;rotate_left
 .refine Ax ?_ λT ht=>?_
  .repeat (first | dsimp only[d5] | walk_at "rs1" | walk_at "rsx")
   have ea:∀x,D.tup (eD [D.int a.1,D.int a.2.1,D.int a.2.2.1,D.int a.2.2.2.1,D.int a.2.2.2.2] none (some 4)++[D.int x])=d5 (a.1,a.2.1,a.2.2.1,a.2.2.2.1,x):=λx=>rfl;rw[ea,ea,em1,e8,dh,JD];have lr:(ps.take m++[((a.1,a.2.1,a.2.2.1,a.2.2.2.1,a.2.2.2.2 - 1):P5)]++ps.drop (m+1)).length=ps.length:=by rw[KA,KA,KO,Li,Lh];lia
   generalize ps.take m++[((a.1,a.2.1,a.2.2.1,a.2.2.2.1,a.2.2.2.2 - 1):P5)]++ps.drop (m+1)=rs at lr;rw[e8,dh];refine ⟨by decide,by rw[sl];exact Lb rfl,?_,?_,by decide,by rw[sl];exact Lb rfl,?_,?_,?_⟩
   .rw[KO,ll];lia
   .rw[KA,KO,Li,ll,Lh];lia
   .rw[KO,Ks];lia
   .rw[KA,KO,Li,Ks,Lh];lia
   .rw[JD];exact (q _ (by rw[KA,KA,KO,Li,Lh];lia)).1
  .repeat (first | dsimp only[d5] | walk_at "rs1" | walk_at "rsx")
   exact ⟨λ_=>⟨λ_=>ht,λ_=>hN _ rfl⟩,λ_=>⟨λz=>(nomatch z),λ_=>hN _ rfl⟩⟩
 rintro ρ rfl;refine bo (λρ=>ρ = [some (.p (.lst (ps.map d5))),some (.p (.int c)),some (.p (.int (m:Nat))),none,some (.p (d5 a)),some (.p (.int kd)),some (.p (.int (o:Nat))),none,none,none]) ?_ λN hN=>?_;rotate_left
 .walk_at "rs";refine ⟨λ_=>?_,λ_=>hN _ rfl⟩;rw[ll];obtain ⟨j,hj,ej⟩:=gi (c / 1300) hn;rw[ej];exact ⟨⟨by decide,by decide⟩,by lia,ps,m,j,rfl,hm,hj,λqs h=>q qs (by lia)⟩
 rintro ρ rfl;refine bo (λρ=>∃s:Nat,s<5/\ρ = [some (.p (.lst (ps.map d5))),some (.p (.int c)),some (.p (.int (m:Nat))),none,some (.p (d5 a)),some (.p (.int kd)),some (.p (.int (o:Nat))),none,some (.p (.int (s:Nat))),none]) ?_ λN hN=>?_;rotate_left
 .walk_at "rs";obtain ⟨j,hj,ej⟩:=gi (c / 1300) (n:=5) (by decide);rw[show (5:Int)=((5:Nat):Int) from rfl,ej];exact ⟨⟨by decide,by decide⟩,by decide,hN _ ⟨j,hj,rfl⟩⟩
 rintro ρ ⟨s,hs,rfl⟩;obtain ⟨y,hy⟩ : ∃y:Int,fI [D.int a.1,D.int a.2.1,D.int a.2.2.1,D.int a.2.2.2.1,D.int a.2.2.2.2] (s:Nat)=some (.int y):=by
  have:s=0\/s=1\/s=2\/s=3\/s=4:=by lia
  rcases this with z | z | z | z | z<;>subst z<;>exact ⟨_,rfl⟩
 refine bo (λρ=>∃v:Int,ρ = [some (.p (.lst (ps.map d5))),some (.p (.int c)),some (.p (.int (m:Nat))),none,some (.p (d5 a)),some (.p (.int kd)),some (.p (.int (o:Nat))),none,some (.p (.int (s:Nat))),some (.p (.int v))]) ?_ λN hN=>?_;rotate_left
 .repeat (first | dsimp only[d5] | walk_at "rs1" | walk_at "rsx" | set_option simprocs false in simp only[hy])
  refine ⟨by decide,?_⟩;have:kd % 2=0\/kd % 2=1:=by lia
  rcases this with z | z<;>rw[z]
  .exact ⟨_,rfl,hN _ ⟨_,rfl⟩⟩
  .exact ⟨_,rfl,hN _ ⟨_,rfl⟩⟩
 rintro ρ ⟨v,rfl⟩;refine bo (λρ=>∃v:Int,ρ = [some (.p (.lst (ps.map d5))),some (.p (.int c)),some (.p (.int (m:Nat))),none,some (.p (d5 a)),some (.p (.int kd)),some (.p (.int (o:Nat))),none,some (.p (.int (s:Nat))),some (.p (.int v))]) ?_ λN hN=>?_;rotate_left
 .walk_at "rs";refine ⟨λ_=>⟨⟨by decide,by decide,by decide⟩,⟨by decide,by decide⟩,by decide,?_⟩,λ_=>hN _ ⟨_,rfl⟩⟩;have:c / 6500 % 4=0\/c / 6500 % 4=1\/c / 6500 % 4=2\/c / 6500 % 4=3:=by lia
  rcases this with z | z | z | z<;>rw[z]
  .exact ⟨_,rfl,hN _ ⟨_,rfl⟩⟩
  .exact ⟨_,rfl,hN _ ⟨_,rfl⟩⟩
  .exact ⟨_,rfl,hN _ ⟨_,rfl⟩⟩
  .exact ⟨_,rfl,hN _ ⟨_,rfl⟩⟩
 rintro ρ ⟨v,rfl⟩;refine bo (λρ=>∃v:Int,ρ = [some (.p (.lst (ps.map d5))),some (.p (.int c)),some (.p (.int (m:Nat))),none,some (.p (d5 a)),some (.p (.int kd)),some (.p (.int (o:Nat))),none,some (.p (.int (s:Nat))),some (.p (.int v))]) ?_ λN hN=>?_;rotate_left
 .repeat (first | dsimp only[d5] | walk_at "rs1" | walk_at "rsx" | set_option simprocs false in simp only[hy])
  exact ⟨λ_=>hN _ ⟨_,rfl⟩,λ_=>hN _ ⟨_,rfl⟩⟩
 rintro ρ ⟨v,rfl⟩;repeat (first | dsimp only[d5] | walk_at "rs1" | walk_at "rsx")
 obtain ⟨x,hx,c1,c2,c3,c4⟩:=Bu a v hs;rw[hx];refine ⟨c1,by lia,c3,by lia,?_⟩;rw[em1,e8,dh];refine ⟨?_,?_,done (by lia) (by lia)⟩
 .rw[KO,ll];lia
 .rw[KA,KO,Li,ll,Lh];lia
theorem Hr {ps:List P5}{Q:B->Prop}(h:Q (.p (.bl false))):Gp (.lst (ps.map d5)) (.lst (ps.map d5)) Q:=by
 have n5:cF (.lst (ps.map d5))=true:=by rw[g7];exact mP ps
 refine ⟨⟨n5,n5,by rw[mN];have:=mL ps;lia⟩,?_⟩;rw[ui _ n5];exact h
theorem Jn {a b:Int}{Q:B->Prop}(h:Q (.p (.bl false))):Gp (.tup [.int a,.int b]) (.tup [.int a,.int b]) Q:=q8 (by rw[decide_eq_true ⟨rfl,rfl⟩];exact h)
noncomputable def Bj:DR:=λds P=>∃ns:List Int,ds = [.scr ns]/\ns.length<=63/\P (.p (.bl true))
theorem Fm (T:oX K mg)(F_law_works:Fn P w K mg base "_law_works" 2 ["script"] (eP K iR))(F_shared:Fn P w K mg base "shared" 2 ["works"] (mC K Pt Dk oj))(F_law_drawn:Fn P w K mg base "_law_drawn" 2 ["works","number","cells"] (eP K iP))(F_law_spoilt:Fn P w K mg base "_law_spoilt" 2 ["passes","cell"] (eP K hV))(F_law_bought:Fn P w K mg base "_law_bought" 3 ["works","passes"] (eP K hE))(F_looked_through:Fn P w K mg base "looked_through" 3 ["works","passes"] (eP K eI))(F_law_draw:Fn P w K mg base "_law_draw" 1 ["script","k"] (eP K hO))(F:lP K "law" "law" kL f fd):cL P w K mg base iu 4 f fd ["script"] (mC K Pt Dk Bj):=by
 refine Ht F fc (λds Q h=>by obtain ⟨ns,rfl,hl,q⟩:=h;rfl) λcdv A outer s H E hr hT=>⟨_,(af (aw (i:=1) fc.nd rfl (Or.inl rfl) (bz F_law_works (hr.mono (by decide)) (by rfl) (aa (dv 0) ai)))
   (af (aw (i:=2) fc.nd rfl (Or.inl rfl) (u6 hT F_shared (hr.mono (by decide)) (by rfl) (aa (dv 1) ai)))
   (af (bq (aF dq (ao aY (bz F_law_draw (hr.mono (by decide)) (by rfl) (aa (dv 0) (aa ae ai))) ae) ae (aA _)) (ak (aw (i:=2) fc.nd rfl (Or.inl rfl) (bz F_law_drawn (hr.mono (by decide)) (by rfl) (aa (dv 1) (aa (bz F_law_draw (hr.mono (by decide)) (by rfl) (aa (dv 0) (aa ae ai))) (aa (aC (dv 0) aQ (az ae)) ai)))))) aJ)
   (af (aw (i:=3) fc.nd rfl (Or.inl rfl) (aC (dv 0) aQ (az ae)))
   (af (bq (aF lX (aG dA (by rfl) T.eS PySem.boot_len (aa (dv 2) ai)) ae (aA _)) (ak (aw (i:=3) fc.nd rfl (Or.inl rfl) (aC (dv 0) aQ (az ae)))) aJ)
   (af (jC (g:=(.n 4)) PassesOwn.never rfl (bL (ao aD (cf (aa ae ai)) (dv 3))) (aB (i:=4) fc.nd rfl (Or.inl rfl)) (af (aw (i:=5) fc.nd rfl (Or.inl rfl) (bz F_law_spoilt (hr.mono (by decide)) (by rfl) (aa (dv 2) (aa (ao bx (dv 4) ae) ai))))
   (af (bq (aF dq (ao aY (dv 4) ae) ae (aA _)) (ak (aw (i:=5) fc.nd rfl (Or.inl rfl) (bz F_law_spoilt (hr.mono (by decide)) (by rfl) (aa (dv 5) (aa (ao bx (dv 4) ae) ai))))) aJ)
   (af (aw (i:=6) fc.nd rfl (Or.inl rfl) (bz F_law_bought (hr.mono (by decide)) (by rfl) (aa (dv 1) (aa (dv 5) ai))))
   (af (aw (i:=7) fc.nd rfl (Or.inl rfl) (pH vX (by rfl) T.uS boot_list (aa (dv 5) ai)))
   (af (aw (i:=8) fc.nd rfl (Or.inl rfl) (bz F_looked_through (hr.mono (by decide)) (by rfl) (aa (dv 1) (aa (dv 7) ai))))
   (af (bq (aF (rg hr) (dv 7) (dv 5) (aA _)) (ak (aP lR)) aJ)
   (ak (bq (aF vD (dv 6) fB (aA _)) (ak (bq (aF C3 (dv 8) fB (aA _)) (ak (aP lR)) aJ)) (ak (bq (DW.dt (nB (qN (nA (EZ (T:="tuple") (by simp) (by rfl) T.qr (dv 8) (Dc (v:=.ty "tuple") (by rfl) T.BZ boot_tuple rfl)))) (jD (aF (rg hr) (dv 8) (dv 6) (aA _))))) (ak (aP lR)) aJ)))))))))))
   (ak (aP lR)))))))),λds Q h=>?_⟩
 obtain ⟨ns,rfl,hl,q⟩:=h;refine bo (λρ=>∃g hs cs,Ez g hs cs/\ρ = [some (B.p (D.scr ns)),some (B.p (dW g hs cs)),none,none,none,none,none,none,none]) ?_ λN hN=>?_;rotate_left
 .walk_at "rs";exact ⟨ns,rfl,hl,λg hs cs wk=>hN _ ⟨g,hs,cs,wk,rfl⟩⟩
 rintro ρ ⟨g,hs,cs,wk,rfl⟩;have ok:=wk.ok;have sh:=rJ ok.D7 ok.nh;have sc:=mZ ok.qy ok.nc;have sl:sizeLine=16777216:=sizeLine_eq;refine bo (λρ=>∃ts:List P5,ts.length<=9990/\ρ = [some (B.p (D.scr ns)),some (B.p (dW g hs cs)),some (B.p (D.lst (ts.map d5))),none,none,none,none,none,none]) ?_ λN hN=>?_;rotate_left
 .walk_at "rs";exact ⟨g,hs,cs,rfl,ok,λts _ _ hp _=>hN _ ⟨ts,by lia,rfl⟩⟩
 rintro ρ ⟨ts0,hp0,rfl⟩;refine bo (λρ=>∃ts:List P5,ts.length<=9990/\ρ = [some (B.p (D.scr ns)),some (B.p (dW g hs cs)),some (B.p (D.lst (ts.map d5))),none,none,none,none,none,none]) ?_ λN hN=>?_;rotate_left
 .walk_at "rs";refine ⟨ns,7,rfl,hl,⟨by decide,by decide⟩,λz hz=>?_⟩;walk_at "rs";refine ⟨by decide,λ_=>⟨ns,5,rfl,hl,⟨by decide,by decide⟩,λz hz=>?_⟩,λ_=>hN _ ⟨ts0,hp0,rfl⟩⟩;walk_at "rs";exact ⟨g,hs,cs,z,eD ns none (some 63),rfl,wk,by rw[show (63:Int)=((63:Nat):Int) from rfl,e8,KO];lia,λps _ hp=>hN _ ⟨ps,hp,rfl⟩⟩
 rintro ρ ⟨ts,hpt,rfl⟩;refine bo (λρ=>∃ms:List Int,ms.length<=63/\ρ = [some (B.p (D.scr ns)),some (B.p (dW g hs cs)),some (B.p (D.lst (ts.map d5))),some (.p (.lst (ms.map D.int))),none,none,none,none,none]) ?_ λN hN=>?_;rotate_left
 .walk_at "rs";exact hN _ ⟨eD ns none (some 24),by rw[show (24:Int)=((24:Nat):Int) from rfl,e8,KO];lia,rfl⟩
 rintro ρ ⟨ms0,hm0,rfl⟩;refine bo (λρ=>∃ms:List Int,ms.length<=63/\ρ = [some (B.p (D.scr ns)),some (B.p (dW g hs cs)),some (B.p (D.lst (ts.map d5))),some (.p (.lst (ms.map D.int))),none,none,none,none,none]) ?_ λN hN=>?_;rotate_left
 .walk_at "rs";exact ⟨λ_=>hN _ ⟨eD ns none (some 6),by rw[show (6:Int)=((6:Nat):Int) from rfl,e8,KO];lia,rfl⟩,λ_=>hN _ ⟨ms0,hm0,rfl⟩⟩
 rintro ρ ⟨ms,hm,rfl⟩;refine bo (λ_=>True) ?_ λN hN=>?_
 .rintro ρ _;exact q
 repeat (first | walk_at "rs2" | walk_at "rsx")
 rw[Ks];refine ⟨by lia,?_⟩;rw[show [D.int 0]++ms.map D.int=(0::ms).map D.int from rfl];refine cJ (λi ρ=>∃y:Nat->Option B,ρ = [some (B.p (D.scr ns)),some (B.p (dW g hs cs)),some (B.p (D.lst (ts.map d5))),some (.p (.lst (ms.map D.int))),y 4,y 5,y 6,y 7,y 8]) ⟨λ_=>none,rfl⟩ ?_ ?_;rotate_left
 .rintro ρ _;exact hN _ trivial
 rintro i x ρ hx ⟨y,rfl⟩;rw[KS] at hx;obtain ⟨c,hc,rfl⟩:=Option.map_eq_some_iff.mp hx;dsimp only[Tg.d,dput];refine bo (λρ=>∃qs:List P5,qs.length<=9991/\ρ = [some (B.p (D.scr ns)),some (B.p (dW g hs cs)),some (B.p (D.lst (ts.map d5))),some (.p (.lst (ms.map D.int))),some (.p (.int c)),some (.p (.lst (qs.map d5))),y 6,y 7,y 8]) ?_ λN hN=>?_;rotate_left
 .walk_at "rs";exact ⟨⟨by decide,by decide⟩,ts,_,rfl,by lia,λqs h=>⟨hN _ ⟨qs,by lia,rfl⟩,hN _ ⟨qs,by lia,rfl⟩⟩⟩
 rintro ρ ⟨qs0,hq0,rfl⟩;refine bo (λρ=>∃qs:List P5,qs.length<=9992/\ρ = [some (B.p (D.scr ns)),some (B.p (dW g hs cs)),some (B.p (D.lst (ts.map d5))),some (.p (.lst (ms.map D.int))),some (.p (.int c)),some (.p (.lst (qs.map d5))),y 6,y 7,y 8]) ?_ λN hN=>?_;rotate_left
 .walk_at "rs";exact ⟨by decide,λ_=>⟨⟨by decide,by decide⟩,qs0,_,rfl,by lia,λqs h=>⟨hN _ ⟨qs,by lia,rfl⟩,hN _ ⟨qs,by lia,rfl⟩⟩⟩,λ_=>hN _ ⟨qs0,by lia,rfl⟩⟩
 rintro ρ ⟨qs,hq,rfl⟩;obtain ⟨dd,hd⟩ : ∃dd:D,(Looks g hs cs qs->dd=.tup [.int (aX Bt (gq qs)),.int (aX Bt (tq qs))])/\(¬Looks g hs cs qs->dd=.non):=by
  rcases Classical.em (Looks g hs cs qs) with z | z
  .exact ⟨_,λ_=>rfl,λy=>absurd z y⟩
  .exact ⟨_,λy=>absurd y z,λ_=>rfl⟩
 refine bo (λρ=>ρ = [some (B.p (D.scr ns)),some (B.p (dW g hs cs)),some (B.p (D.lst (ts.map d5))),some (.p (.lst (ms.map D.int))),some (.p (.int c)),some (.p (.lst (qs.map d5))),some (.p dd),y 7,y 8]) ?_ λN hN=>?_;rotate_left
 .walk_at "rs";refine ⟨g,hs,cs,qs,rfl,ok,by lia,λz=>?_,λz=>?_⟩
  .rw[<-hd.1 z];exact hN _ rfl
  .rw[<-hd.2 z];exact hN _ rfl
 rintro ρ rfl;refine bo (λρ=>ρ = [some (B.p (D.scr ns)),some (B.p (dW g hs cs)),some (B.p (D.lst (ts.map d5))),some (.p (.lst (ms.map D.int))),some (.p (.int c)),some (.p (.lst (qs.map d5))),some (.p dd),some (.p (.lst (qs.map d5))),y 8]) ?_ λN hN=>?_;rotate_left
 .walk_at "rs";exact hN _ rfl
 rintro ρ rfl;refine bo (λρ=>ρ = [some (B.p (D.scr ns)),some (B.p (dW g hs cs)),some (B.p (D.lst (ts.map d5))),some (.p (.lst (ms.map D.int))),some (.p (.int c)),some (.p (.lst (qs.map d5))),some (.p dd),some (.p (.lst (qs.map d5))),some (.p dd)]) ?_ λN hN=>?_;rotate_left
 .walk_at "rs";refine ⟨g,hs,cs,qs,rfl,sh,sc,by lia,λz=>?_,λz=>?_⟩
  .rw[<-hd.1 z];exact hN _ rfl
  .rw[<-hd.2 z];exact hN _ rfl
 rintro ρ rfl;refine bo (λρ=>ρ = [some (B.p (D.scr ns)),some (B.p (dW g hs cs)),some (B.p (D.lst (ts.map d5))),some (.p (.lst (ms.map D.int))),some (.p (.int c)),some (.p (.lst (qs.map d5))),some (.p dd),some (.p (.lst (qs.map d5))),some (.p dd)]) ?_ λN hN=>?_;rotate_left
 .walk_at "rs";refine Hr ?_;walk_at "rs";exact ⟨λz=>(nomatch z),λ_=>hN _ rfl⟩
 rintro ρ rfl;rcases Classical.em (Looks g hs cs qs) with z | z
 .obtain rfl:=hd.1 z;walk_at "rs";refine ⟨λz=>(nomatch z),λ_=>⟨λz=>(nomatch z),λ_=>Jn ?_⟩⟩;walk_at "rs";exact ⟨λz=>(nomatch z),λ_=>⟨wv 4 [_,_,_,_,_],rfl⟩⟩
 .obtain rfl:=hd.2 z;walk_at "rs";exact ⟨λ_=>⟨λz=>(nomatch z),λ_=>⟨wv 4 [_,_,_,_,_],rfl⟩⟩,λz=>(nomatch z)⟩
end
end WS
namespace WS
open PySem L2 DL
theorem jh {α:Type}{P:List α->Prop}(h:∀x0,P [x0]):∀us:List α,us.length=1->P us:=λus hl=>match us,hl with | [x0],_=>h x0
theorem ji {α:Type}{P:List α->Prop}(h:∀x0 x1,P [x0,x1]):∀us:List α,us.length=2->P us:=λus hl=>match us,hl with | [x0,x1],_=>h x0 x1
theorem kG {α:Type}{P:List α->Prop}(h:∀x0 x1 x2,P [x0,x1,x2]):∀us:List α,us.length=3->P us:=λus hl=>match us,hl with | [x0,x1,x2],_=>h x0 x1 x2
theorem xo {α:Type}{P:List α->Prop}(h:∀x0 x1 x2 x3,P [x0,x1,x2,x3]):∀us:List α,us.length=4->P us:=λus hl=>match us,hl with | [x0,x1,x2,x3],_=>h x0 x1 x2 x3
theorem all_mk {l:PySem.W.OpenLaw}{w:K7}{K:Frag}{h:Heap}{mg:Str->Option Kn}{fa:Addr}(X:K.In h)(G:h.Ns mainGlobals mg)(hfa:mg "law" = some (.ref fa))
  {f1:Addr} {od1 an1:Option Addr} {sl1:Array (Option Kn)} {oc1 kV1 dc1 pm1 cd1 ct1:Kn}
  {f2:Addr} {od2 an2:Option Addr} {sl2:Array (Option Kn)} {oc2 kV2 dc2 pm2 cd2 ct2:Kn}
  {f3:Addr} {od3 an3:Option Addr} {sl3:Array (Option Kn)} {oc3 kV3 dc3 pm3 cd3 ct3:Kn}
  {f4:Addr} {od4 an4:Option Addr} {sl4:Array (Option Kn)} {oc4 kV4 dc4 pm4 cd4 ct4:Kn}
  {f5:Addr} {od5 an5:Option Addr} {sl5:Array (Option Kn)} {oc5 kV5 dc5 pm5 cd5 ct5:Kn}
  {f6:Addr} {od6 an6:Option Addr} {sl6:Array (Option Kn)} {oc6 kV6 dc6 pm6 cd6 ct6:Kn}
  {f7:Addr} {od7 an7:Option Addr} {sl7:Array (Option Kn)} {oc7 kV7 dc7 pm7 cd7 ct7:Kn}
  {f8:Addr} {od8 an8:Option Addr} {sl8:Array (Option Kn)} {oc8 kV8 dc8 pm8 cd8 ct8:Kn}
  {f9:Addr} {od9 an9:Option Addr} {sl9:Array (Option Kn)} {oc9 kV9 dc9 pm9 cd9 ct9:Kn}
  {f10:Addr} {od10 an10:Option Addr} {sl10:Array (Option Kn)} {oc10 kV10 dc10 pm10 cd10 ct10:Kn}
  {f11:Addr} {od11 an11:Option Addr} {sl11:Array (Option Kn)} {oc11 kV11 dc11 pm11 cd11 ct11:Kn}
  {f12:Addr} {od12 an12:Option Addr} {sl12:Array (Option Kn)} {oc12 kV12 dc12 pm12 cd12 ct12:Kn}
  {f13:Addr} {od13 an13:Option Addr} {sl13:Array (Option Kn)} {oc13 kV13 dc13 pm13 cd13 ct13:Kn}
  {f14:Addr} {od14 an14:Option Addr} {sl14:Array (Option Kn)} {oc14 kV14 dc14 pm14 cd14 ct14:Kn}
  {f15:Addr} {od15 an15:Option Addr} {sl15:Array (Option Kn)} {oc15 kV15 dc15 pm15 cd15 ct15:Kn}
  {f16:Addr} {od16 an16:Option Addr} {sl16:Array (Option Kn)} {oc16 kV16 dc16 pm16 cd16 ct16:Kn}
  {f17:Addr} {od17 an17:Option Addr} {sl17:Array (Option Kn)} {oc17 kV17 dc17 pm17 cd17 ct17:Kn}
  {f18:Addr} {od18 an18:Option Addr} {sl18:Array (Option Kn)} {oc18 kV18 dc18 pm18 cd18 ct18:Kn}
  {f19:Addr} {od19 an19:Option Addr} {sl19:Array (Option Kn)} {oc19 kV19 dc19 pm19 cd19 ct19:Kn}
  {bt1:Addr} {bo1:Option Addr} {bu1 bv1:Tok} {bn1:Nat} {bs1:Array (Option Kn)}
  {Pt mc:Addr}
  (a1:nsIn K mainGlobals "_law_draw" = some (some (.ref f1))) (l1:K.lookup f1=some ⟨oc1,od1,.func (fnOf "_law_draw" "_law_draw" (ba eJ) (aN eJ) (aj eJ) .none kV1 dc1 pm1 an1 cd1 ct1),sl1⟩) (c1:codeIn K cd1 "_law_draw" = true) (k1:keepIn K (.ref f1)=true)
  (a2:nsIn K mainGlobals "_law_stream" = some (some (.ref f2))) (l2:K.lookup f2=some ⟨oc2,od2,.func (fnOf "_law_stream" "_law_stream" (ba cW) (aN cW) (aj cW) .none kV2 dc2 pm2 an2 cd2 ct2),sl2⟩) (c2:codeIn K cd2 "_law_stream" = true) (k2:keepIn K (.ref f2)=true)
  (a3:nsIn K mainGlobals "_law_works" = some (some (.ref f3))) (l3:K.lookup f3=some ⟨oc3,od3,.func (fnOf "_law_works" "_law_works" (ba cP) (aN cP) (aj cP) .none kV3 dc3 pm3 an3 cd3 ct3),sl3⟩) (c3:codeIn K cd3 "_law_works" = true) (k3:keepIn K (.ref f3)=true)
  (a4:nsIn K mainGlobals "rates_by_step" = some (some (.ref f4))) (l4:K.lookup f4=some ⟨oc4,od4,.func (fnOf "rates_by_step" "rates_by_step" (ba bO) (aN bO) (aj bO) .none kV4 dc4 pm4 an4 cd4 ct4),sl4⟩) (c4:codeIn K cd4 "rates_by_step" = true) (k4:keepIn K (.ref f4)=true)
  (a5:nsIn K mainGlobals "warmest_first" = some (some (.ref f5))) (l5:K.lookup f5=some ⟨oc5,od5,.func (fnOf "warmest_first" "warmest_first" (ba bF) (aN bF) (aj bF) .none kV5 dc5 pm5 an5 cd5 ct5),sl5⟩) (c5:codeIn K cd5 "warmest_first" = true) (k5:keepIn K (.ref f5)=true)
  (a6:nsIn K mainGlobals "is_warm_enough" = some (some (.ref f6))) (l6:K.lookup f6=some ⟨oc6,od6,.func (fnOf "is_warm_enough" "is_warm_enough" (ba bK) (aN bK) (aj bK) .none kV6 dc6 pm6 an6 cd6 ct6),sl6⟩) (c6:codeIn K cd6 "is_warm_enough" = true) (k6:keepIn K (.ref f6)=true)
  (a7:nsIn K mainGlobals "shared" = some (some (.ref f7))) (l7:K.lookup f7=some ⟨oc7,od7,.func (fnOf "shared" "shared" (ba fH) (aN fH) (aj fH) .none kV7 dc7 pm7 an7 cd7 ct7),sl7⟩) (c7:codeIn K cd7 "shared" = true) (k7:keepIn K (.ref f7)=true)
  (a8:nsIn K mainGlobals "_law_steps" = some (some (.ref f8))) (l8:K.lookup f8=some ⟨oc8,od8,.func (fnOf "_law_steps" "_law_steps" (ba dH) (aN dH) (aj dH) .none kV8 dc8 pm8 an8 cd8 ct8),sl8⟩) (c8:codeIn K cd8 "_law_steps" = true) (k8:keepIn K (.ref f8)=true)
  (a9:nsIn K mainGlobals "_law_drawn" = some (some (.ref f9))) (l9:K.lookup f9=some ⟨oc9,od9,.func (fnOf "_law_drawn" "_law_drawn" (ba cN) (aN cN) (aj cN) .none kV9 dc9 pm9 an9 cd9 ct9),sl9⟩) (c9:codeIn K cd9 "_law_drawn" = true) (k9:keepIn K (.ref f9)=true)
  (a10:nsIn K mainGlobals "_law_exchanged" = some (some (.ref f10))) (l10:K.lookup f10=some ⟨oc10,od10,.func (fnOf "_law_exchanged" "_law_exchanged" (ba bN) (aN bN) (aj bN) .none kV10 dc10 pm10 an10 cd10 ct10),sl10⟩) (c10:codeIn K cd10 "_law_exchanged" = true) (k10:keepIn K (.ref f10)=true)
  (a11:nsIn K mainGlobals "_law_spoilt" = some (some (.ref f11))) (l11:K.lookup f11=some ⟨oc11,od11,.func (fnOf "_law_spoilt" "_law_spoilt" (ba cV) (aN cV) (aj cV) .none kV11 dc11 pm11 an11 cd11 ct11),sl11⟩) (c11:codeIn K cd11 "_law_spoilt" = true) (k11:keepIn K (.ref f11)=true)
  (a12:nsIn K mainGlobals "_law_sums" = some (some (.ref f12))) (l12:K.lookup f12=some ⟨oc12,od12,.func (fnOf "_law_sums" "_law_sums" (ba eL) (aN eL) (aj eL) .none kV12 dc12 pm12 an12 cd12 ct12),sl12⟩) (c12:codeIn K cd12 "_law_sums" = true) (k12:keepIn K (.ref f12)=true)
  (a13:nsIn K mainGlobals "_law_is_step" = some (some (.ref f13))) (l13:K.lookup f13=some ⟨oc13,od13,.func (fnOf "_law_is_step" "_law_is_step" (ba cG) (aN cG) (aj cG) .none kV13 dc13 pm13 an13 cd13 ct13),sl13⟩) (c13:codeIn K cd13 "_law_is_step" = true) (k13:keepIn K (.ref f13)=true)
  (a14:nsIn K mainGlobals "_law_goes" = some (some (.ref f14))) (l14:K.lookup f14=some ⟨oc14,od14,.func (fnOf "_law_goes" "_law_goes" (ba eK) (aN eK) (aj eK) .none kV14 dc14 pm14 an14 cd14 ct14),sl14⟩) (c14:codeIn K cd14 "_law_goes" = true) (k14:keepIn K (.ref f14)=true)
  (a15:nsIn K mainGlobals "_law_bought" = some (some (.ref f15))) (l15:K.lookup f15=some ⟨oc15,od15,.func (fnOf "_law_bought" "_law_bought" (ba br) (aN br) (aj br) .none kV15 dc15 pm15 an15 cd15 ct15),sl15⟩) (c15:codeIn K cd15 "_law_bought" = true) (k15:keepIn K (.ref f15)=true)
  (a16:nsIn K mainGlobals "heat_by_step" = some (some (.ref f16))) (l16:K.lookup f16=some ⟨oc16,od16,.func (fnOf "heat_by_step" "heat_by_step" (ba cm) (aN cm) (aj cm) .none kV16 dc16 pm16 an16 cd16 ct16),sl16⟩) (c16:codeIn K cd16 "heat_by_step" = true) (k16:keepIn K (.ref f16)=true)
  (a17:nsIn K mainGlobals "may_pass" = some (some (.ref f17))) (l17:K.lookup f17=some ⟨oc17,od17,.func (fnOf "may_pass" "may_pass" (ba eN) (aN eN) (aj eN) .none kV17 dc17 pm17 an17 cd17 ct17),sl17⟩) (c17:codeIn K cd17 "may_pass" = true) (k17:keepIn K (.ref f17)=true)
  (a18:nsIn K mainGlobals "looked_through" = some (some (.ref f18))) (l18:K.lookup f18=some ⟨oc18,od18,.func (fnOf "looked_through" "looked_through" (ba aR) (aN aR) (aj aR) .none kV18 dc18 pm18 an18 cd18 ct18),sl18⟩) (c18:codeIn K cd18 "looked_through" = true) (k18:keepIn K (.ref f18)=true)
  (a19:nsIn K mainGlobals "law" = some (some (.ref f19))) (l19:K.lookup f19=some ⟨oc19,od19,.func (fnOf "law" "law" (ba kL) (aN kL) (aj kL) .none kV19 dc19 pm19 an19 cd19 ct19),sl19⟩) (c19:codeIn K cd19 "law" = true) (k19:keepIn K (.ref f19)=true)
  (z1:nsIn K mainGlobals "len" = some none)
  (z2:nsIn K mainGlobals "range" = some none)
  (z3:nsIn K mainGlobals "min" = some none)
  (z4:nsIn K mainGlobals "sum" = some none)
  (z5:nsIn K mainGlobals "enumerate" = some none)
  (z6:nsIn K mainGlobals "max" = some none)
  (z7:nsIn K mainGlobals "sorted" = some none)
  (z8:nsIn K mainGlobals "list" = some none)
  (z9:nsIn K mainGlobals "set" = some none)
  (z10:nsIn K mainGlobals "all" = some none)
  (z11:nsIn K mainGlobals "isinstance" = some none)
  (z12:nsIn K mainGlobals "tuple" = some none)
  (yt1:nsIn K mainGlobals "BOUGHT" = some (some (.ref bt1))) (yl1:K.lookup bt1=some ⟨.type "tuple",bo1,.seq #[.int (-1) bu1,.int (-1) bv1] bn1,bs1⟩)
  (m1:cd5=.ref mc) (m2:PySem.W.codeHdIn K mc Pt=true) (m3:K.lookup Pt=none)
  : ∃(fd:FuncData) (c:Addr),K.lookup Pt=none/\PySem.W.codeHdIn K c Pt=true/\(∀(s:Kp) (v:Kn),BindsTo s fd ⟨[v],[]⟩ [("script",v)])/\∀base:Heap,K.In base->base.Ns mainGlobals mg->cc mg base->cL l.prog w K mg base iu 4 fa fd ["script"] (rH K Pt Dk):=by
 have e:=hfa.symm.trans (mg_of X G a19);cases e;have F1:=cy (st:=eJ) l1 c1 k1;have b1:=F1.binds (ps:=["script","k"]) λ_ _ _ _ _ _=>ji λ_ _=>rfl;have F2:=cy (st:=cW) l2 c2 k2;have b2:=F2.binds (ps:=["number","low","wide","most"]) λ_ _ _ _ _ _=>xo λ_ _ _ _=>rfl;have F3:=cy (st:=cP) l3 c3 k3;have b3:=F3.binds (ps:=["script"]) λ_ _ _ _ _ _=>jh λ_=>rfl;have F4:=cy (st:=bO) l4 c4 k4;have b4:=F4.binds (ps:=["streams"]) λ_ _ _ _ _ _=>jh λ_=>rfl;have F5:=cy (st:=bF) l5 c5 k5;have b5:=F5.binds (ps:=["steps"]) λ_ _ _ _ _ _=>jh λ_=>rfl;have F6:=cy (st:=bK) l6 c6 k6;have b6:=F6.binds (ps:=["gap","giver","taker"]) λ_ _ _ _ _ _=>kG λ_ _ _=>rfl;have F7:=cy (st:=fH) l7 c7 k7;have b7:=F7.binds (ps:=["works"]) λ_ _ _ _ _ _=>jh λ_=>rfl;have F8:=cy (st:=dH) l8 c8 k8;have b8:=F8.binds (ps:=["streams","number"]) λ_ _ _ _ _ _=>ji λ_ _=>rfl;have F9:=cy (st:=cN) l9 c9 k9;have b9:=F9.binds (ps:=["works","number","cells"]) λ_ _ _ _ _ _=>kG λ_ _ _=>rfl;have F10:=cy (st:=bN) l10 c10 k10;have b10:=F10.binds (ps:=["passes","at","other"]) λ_ _ _ _ _ _=>kG λ_ _ _=>rfl;have F11:=cy (st:=cV) l11 c11 k11;have b11:=F11.binds (ps:=["passes","cell"]) λ_ _ _ _ _ _=>ji λ_ _=>rfl;have F12:=cy (st:=eL) l12 c12 k12;have b12:=F12.binds (ps:=["streams","passes","place"]) λ_ _ _ _ _ _=>kG λ_ _ _=>rfl;have F13:=cy (st:=cG) l13 c13 k13;have b13:=F13.binds (ps:=["streams","number","degree"]) λ_ _ _ _ _ _=>kG λ_ _ _=>rfl;have F14:=cy (st:=eK) l14 c14 k14;have b14:=F14.binds (ps:=["works","one"]) λ_ _ _ _ _ _=>ji λ_ _=>rfl;have F15:=cy (st:=br) l15 c15 k15;have b15:=F15.binds (ps:=["works","passes"]) λ_ _ _ _ _ _=>ji λ_ _=>rfl;have F16:=cy (st:=cm) l16 c16 k16;have b16:=F16.binds (ps:=["pairs"]) λ_ _ _ _ _ _=>jh λ_=>rfl;have F17:=cy (st:=eN) l17 c17 k17;have b17:=F17.binds (ps:=["gap","giver","taker","heat"]) λ_ _ _ _ _ _=>xo λ_ _ _ _=>rfl;have F18:=cy (st:=aR) l18 c18 k18;have b18:=F18.binds (ps:=["works","passes"]) λ_ _ _ _ _ _=>ji λ_ _=>rfl;have F19:=cy (st:=kL) l19 c19 k19;have b19:=F19.binds (ps:=["script"]) λ_ _ _ _ _ _=>jh λ_=>rfl;have T:oX K mg:=⟨mg_none_of X G z1,mg_none_of X G z2,mg_none_of X G z3,mg_none_of X G z4,mg_none_of X G z5,mg_none_of X G z6,mg_none_of X G z7,mg_none_of X G z8,mg_none_of X G z9,mg_none_of X G z10,mg_none_of X G z11,mg_none_of X G z12,⟨_,mg_of X G yt1,λH=>.inr ⟨_,_,_,yl1,rfl,rfl,gF (by show 2<=1000;decide),.cons ⟨_,rfl⟩ (.cons ⟨_,rfl⟩ .nil)⟩⟩⟩
 subst m1;have FC:=Cv (st:=bF) l5 c5 m2;have G1:∀base:Heap,K.In base/\cc mg base->Fn l.prog w K mg base "_law_draw" 1 ["script","k"] (eP K hO):=λbase B=>eC F1 (mg_of X G a1) b1 (t9 T F1);have G2:∀base:Heap,K.In base/\cc mg base->Fn l.prog w K mg base "_law_stream" 1 ["number","low","wide","most"] (eP K hX):=λbase B=>eC F2 (mg_of X G a2) b2 (oT T F2);have G3:∀base:Heap,K.In base/\cc mg base->Fn l.prog w K mg base "_law_works" 2 ["script"] (eP K iR):=λbase B=>eC F3 (mg_of X G a3) b3 (rl T (G1 base B) (G2 base B) F3);have G4:∀base:Heap,K.In base/\cc mg base->Fn l.prog w K mg base "rates_by_step" 1 ["streams"] (eP K du):=λbase B=>eC F4 (mg_of X G a4) b4 (lB T F4);have G5:∀base:Heap,K.In base/\cc mg base->Fn l.prog w K mg base "warmest_first" 1 ["steps"] (mC K Pt Dk fb):=λbase B=>eC F5 (mg_of X G a5) b5 (lC B.1 B.2 T FC);have G6:∀base:Heap,K.In base/\cc mg base->Fn l.prog w K mg base "is_warm_enough" 1 ["gap","giver","taker"] (eP K cR):=λbase B=>eC F6 (mg_of X G a6) b6 (kH T F6);have G7:∀base:Heap,K.In base/\cc mg base->Fn l.prog w K mg base "shared" 2 ["works"] (mC K Pt Dk oj):=λbase B=>eC F7 (mg_of X G a7) b7 (yH T (G4 base B) (G5 base B) (G6 base B) F7);have G8:∀base:Heap,K.In base/\cc mg base->Fn l.prog w K mg base "_law_steps" 1 ["streams","number"] (eP K iQ):=λbase B=>eC F8 (mg_of X G a8) b8 (rj T F8);have G9:∀base:Heap,K.In base/\cc mg base->Fn l.prog w K mg base "_law_drawn" 2 ["works","number","cells"] (eP K iP):=λbase B=>eC F9 (mg_of X G a9) b9 (rh T (G8 base B) F9);have G10:∀base:Heap,K.In base/\cc mg base->Fn l.prog w K mg base "_law_exchanged" 1 ["passes","at","other"] (eP K e9):=λbase B=>eC F10 (mg_of X G a10) b10 (lA T F10);have G11:∀base:Heap,K.In base/\cc mg base->Fn l.prog w K mg base "_law_spoilt" 2 ["passes","cell"] (eP K hV):=λbase B=>eC F11 (mg_of X G a11) b11 (oS T (G10 base B) F11);have G12:∀base:Heap,K.In base/\cc mg base->Fn l.prog w K mg base "_law_sums" 1 ["streams","passes","place"] (eP K jN):=λbase B=>eC F12 (mg_of X G a12) b12 (uc T F12);have G13:∀base:Heap,K.In base/\cc mg base->Fn l.prog w K mg base "_law_is_step" 1 ["streams","number","degree"] (eP K fY):=λbase B=>eC F13 (mg_of X G a13) b13 (nS T F13);have G14:∀base:Heap,K.In base/\cc mg base->Fn l.prog w K mg base "_law_goes" 2 ["works","one"] (eP K jM):=λbase B=>eC F14 (mg_of X G a14) b14 (ua T (G13 base B) F14);have G15:∀base:Heap,K.In base/\cc mg base->Fn l.prog w K mg base "_law_bought" 3 ["works","passes"] (eP K hE):=λbase B=>eC F15 (mg_of X G a15) b15 (oR T (G12 base B) (G14 base B) F15);have G16:∀base:Heap,K.In base/\cc mg base->Fn l.prog w K mg base "heat_by_step" 1 ["pairs"] (eP K fF):=λbase B=>eC F16 (mg_of X G a16) b16 (mz T F16);have G17:∀base:Heap,K.In base/\cc mg base->Fn l.prog w K mg base "may_pass" 2 ["gap","giver","taker","heat"] (eP K jO):=λbase B=>eC F17 (mg_of X G a17) b17 (ud T (G6 base B) F17);have G18:∀base:Heap,K.In base/\cc mg base->Fn l.prog w K mg base "looked_through" 3 ["works","passes"] (eP K eI):=λbase B=>eC F18 (mg_of X G a18) b18 (kI T (G16 base B) (G4 base B) (G17 base B) F18);exact ⟨fnOf "law" "law" (ba kL) (aN kL) (aj kL) .none kV19 dc19 pm19 an19 cd19 ct19,_,m3,m2,λs v=>.of_eq rfl,λbase kb _ B=>(λB=>CK (Fm T (G3 base B) (G7 base B) (G9 base B) (G11 base B) (G15 base B) (G18 base B) (G1 base B) F19)) ⟨kb,B⟩⟩
end WS
open PySem PySem.W PyProof.Rows
set_option maxRecDepth 100000 in
set_option maxHeartbeats 0 in
theorem PySem.Challenge.cw_warmshare_k17_sharings_spoilt_holds : PySem.Challenge.rw_warmshare_k17_sharings_spoilt.Holds := by
  w_on;o_law;k_head;(case hw=>w_witness2)
  k_fill
  refine DL.BH (l:=PySem.Challenge.rw_warmshare_k17_sharings_spoilt) (k:=4) (x:="script") (qn:=WS.Dk) rfl rfl ⟨rfl,by decide,by decide,rfl⟩ (λw h Y=>⟨PySem.W.km_in_of Y,PySem.W.km_tabs_of Y _ (mem_singleton.mpr rfl)⟩) ?F
  case F =>
    intro w mg fa h KX G hmg
    refine' WS.all_mk KX G hmg ?a1 ?l1 ?c1 ?k1 ?a2 ?l2 ?c2 ?k2 ?a3 ?l3 ?c3 ?k3 ?a4 ?l4 ?c4 ?k4 ?a5 ?l5 ?c5 ?k5 ?a6 ?l6 ?c6 ?k6 ?a7 ?l7 ?c7 ?k7 ?a8 ?l8 ?c8 ?k8 ?a9 ?l9 ?c9 ?k9 ?a10 ?l10 ?c10 ?k10 ?a11 ?l11 ?c11 ?k11 ?a12 ?l12 ?c12 ?k12 ?a13 ?l13 ?c13 ?k13 ?a14 ?l14 ?c14 ?k14 ?a15 ?l15 ?c15 ?k15 ?a16 ?l16 ?c16 ?k16 ?a17 ?l17 ?c17 ?k17 ?a18 ?l18 ?c18 ?k18 ?a19 ?l19 ?c19 ?k19 ?z1 ?z2 ?z3 ?z4 ?z5 ?z6 ?z7 ?z8 ?z9 ?z10 ?z11 ?z12 ?yt1 ?yl1 ?m1 ?m2 ?m3
    (case a1=>k_is)
    (case l1=>k_is)
    (case c1=>k_is)
    (case k1=>k_is)
    (case a2=>k_is)
    (case l2=>k_is)
    (case c2=>k_is)
    (case k2=>k_is)
    (case a3=>k_is)
    (case l3=>k_is)
    (case c3=>k_is)
    (case k3=>k_is)
    (case a4=>k_is)
    (case l4=>k_is)
    (case c4=>k_is)
    (case k4=>k_is)
    (case a5=>k_is)
    (case l5=>k_is)
    (case c5=>k_is)
    (case k5=>k_is)
    (case a6=>k_is)
    (case l6=>k_is)
    (case c6=>k_is)
    (case k6=>k_is)
    (case a7=>k_is)
    (case l7=>k_is)
    (case c7=>k_is)
    (case k7=>k_is)
    (case a8=>k_is)
    (case l8=>k_is)
    (case c8=>k_is)
    (case k8=>k_is)
    (case a9=>k_is)
    (case l9=>k_is)
    (case c9=>k_is)
    (case k9=>k_is)
    (case a10=>k_is)
    (case l10=>k_is)
    (case c10=>k_is)
    (case k10=>k_is)
    (case a11=>k_is)
    (case l11=>k_is)
    (case c11=>k_is)
    (case k11=>k_is)
    (case a12=>k_is)
    (case l12=>k_is)
    (case c12=>k_is)
    (case k12=>k_is)
    (case a13=>k_is)
    (case l13=>k_is)
    (case c13=>k_is)
    (case k13=>k_is)
    (case a14=>k_is)
    (case l14=>k_is)
    (case c14=>k_is)
    (case k14=>k_is)
    (case a15=>k_is)
    (case l15=>k_is)
    (case c15=>k_is)
    (case k15=>k_is)
    (case a16=>k_is)
    (case l16=>k_is)
    (case c16=>k_is)
    (case k16=>k_is)
    (case a17=>k_is)
    (case l17=>k_is)
    (case c17=>k_is)
    (case k17=>k_is)
    (case a18=>k_is)
    (case l18=>k_is)
    (case c18=>k_is)
    (case k18=>k_is)
    (case a19=>k_is)
    (case l19=>k_is)
    (case c19=>k_is)
    (case k19=>k_is)
    (case z1=>k_is)
    (case z2=>k_is)
    (case z3=>k_is)
    (case z4=>k_is)
    (case z5=>k_is)
    (case z6=>k_is)
    (case z7=>k_is)
    (case z8=>k_is)
    (case z9=>k_is)
    (case z10=>k_is)
    (case z11=>k_is)
    (case z12=>k_is)
    (case yt1=>k_is)
    (case yl1=>k_is)
    (case m1=>rfl)
    (case m2=>kernel_rfl)
    (case m3=>kernel_rfl)
#print axioms PySem.Challenge.cw_warmshare_k17_sharings_spoilt_holds