import PyProof.Rows.All
import Wide.All
import OpenK.AllK
import Wide.FinOn
import Lean
import PyProof.EqAt
import PyProof.EqKinds
import PyProof.TupleCall
import KE.KSortKey
import KE.KLam
import KE.KMinKey
import KE.KDictList
import KE.KSortTup
import KE.KEqDict
import PyProof.SetKind
import PyProof.TupleKey
import PyProof.IsRules
import PyProof.Rows.SetFrom
import PyProof.SetRoads
import PyProof.Rows.FactsT2
import PyProof.SetScanFacts
import PySem.SetTable
import PySem.Challenge.RW_warmshare_k19_whole_nothing_passes_the_p
open PySem renaming Value->Lg,wpAny_bind->Lh,Shared->Li,wpAny_pure->Lj,Program->LH,Around->LQ,World->LR
open List renaming length_map->Lk,getElem?_eq_getElem->Lm,getElem?_eq_some_iff->Lp,mem_of_getElem?->Ls,mem_map->Lx,mem_cons->Lz,length_append->LA,getElem?_map->LC,range->LD,size_toArray->LG,map_append->LI,map_cons->LK,length_cons->LN,mem_cons_of_mem->LO,replicate->LW,append_assoc->LX
open Nat renaming le_refl->Ll,ne_of_lt->LF,lt_of_lt_of_le->LJ,zero_le->LS
open PySem.Heap renaming get?_push_of_some->Ln,lt_size->Lv,get?_push_size->LP
open Array renaming getElem?_toList->Lo,getElem?_eq_getElem->Lq,length_toList->Lw
open PyProof.Rows renaming wpS_bind->Lr,wpS_pure->Lu,SortSt->Ly
open Bool renaming false_eq_true->LB,false_ne_true->LM,and_eq_true->LV
open PySem.Obj renaming mapSeq->LU
open PySem.W (Frag nsIn fnOf keepIn codeIn kia_one mg_of mg_none_of findIn kitx_list instObj methodObj lookIn kitx_dict plainGet specialIn isFn kitOne kitx_tuple cellsFrom_some tabObj codeHd_of_K)
open PyProof.Rows (boot_all boot_bool boot_enumerate boot_int boot_isinstance boot_list boot_max boot_min boot_set boot_sorted boot_sum)
open List (mem_append map_map length_take mem_range filter_cons mem_singleton length_drop nodup_cons length_range filter_append sum_cons sum_append nodup_append mem_cons_self filterMap_cons take_append_drop pairwise_append mem_append_left mem_append_right mem_of_mem_take mem_of_mem_drop perm_append_comm pairwise_map getD_eq_getElem?_getD map_congr_left filter_sublist map_take map_drop take_of_length_le drop_eq_getElem_cons map_set pairwise_iff_getElem mem_iff_getElem? length_set lookup_cons nodup_range append_nil length_eq_zero_iff eq_nil_or_concat concat_eq_append)
theorem aZa (h:True:=by rfl):True:=h
theorem aZb (h:True:=by decide):True:=h
theorem aZc (h:True:=by intro _;rfl):True:=h
theorem aZd (h:True:=by first | exact .inl rfl | exact .inr rfl | assumption):True:=h
theorem aZe (h:True:=by decide +kernel):True:=h
theorem aZf (h:True:=by first | exact Or.inl rfl | exact Or.inr (Or.inl rfl) | exact Or.inr (Or.inr rfl)):True:=h
theorem aZg (h:True:=by first | exact .inl rfl | exact .inr rfl):True:=h
theorem aZh (h:True:=by exact Nat.le_of_ble_eq_true rfl):True:=h
theorem aZi (h:True:=by exact λ_ _=>rfl):True:=h
set_option maxHeartbeats 4000000
set_option bootstrap.genMatcherCode false
set_option genSizeOfSpec false
noncomputable section
set_option Elab.async false
set_option linter.all false
set_option maxRecDepth 100000
namespace L2
open PySem PySem.Spec PyProof.Rows
noncomputable abbrev Key:=Sum Int Str
noncomputable def rJ:Key->Lg->Bool
 | .inl k,v=>Value.isInt k v
 | .inr x,v=>Value.isStrOf x v
noncomputable def J1 (w:LR):Key->Int
 | .inl k=>hashInt k
 | .inr x=>hashStr w x
theorem bY:∀{k:Key} {v:Lg},rJ k v=true->(∃i t,k=Sum.inl i/\v=Value.int i t)\/(∃x t,k=Sum.inr x/\v=Value.str x t)
 | .inl i,v,h=>by
  obtain ⟨t,e⟩:=Value.isInt_shape (k:=i) (v:=v) h;exact .inl ⟨i,t,rfl,e⟩
 | .inr x,v,h=>by
  obtain ⟨t,e⟩:=Value.isStrOf_shape (x:=x) (v:=v) h;exact .inr ⟨x,t,rfl,e⟩
theorem zV (i:Int)(t:Tok):rJ (.inl i) (.int i t)=true:=by simp[rJ,Value.isInt]
theorem zW (x:Str)(t:Tok):rJ (.inr x) (.str x t)=true:=by simp[rJ,Value.isStrOf]
theorem FY (a b:Int):decide ((Sum.inl a:Key)=Sum.inl b)=(a == b):=by
 by_cases e:a=b
 .subst e;simp
 .have h:¬(Sum.inl a:Key)=Sum.inl b:=λq=>e (Sum.inl.inj q);rw[decide_eq_false h];exact (beq_eq_false_iff_ne.mpr e).symm
theorem Gd (a b:Str):decide ((Sum.inr a:Key)=Sum.inr b)=decide (a=b):=by
 by_cases e:a=b
 .subst e;simp
 .have h:¬(Sum.inr a:Key)=Sum.inr b:=λq=>e (Sum.inr.inj q);rw[decide_eq_false h,decide_eq_false e]
theorem FZ (a:Int)(b:Str):decide ((Sum.inl a:Key)=Sum.inr b)=false:=decide_eq_false (λq=>nomatch q)
theorem Gb (a:Str)(b:Int):decide ((Sum.inr a:Key)=Sum.inl b)=false:=decide_eq_false (λq=>nomatch q)
noncomputable def bx (prog:LH)(w:LR):PySem.KeyKind prog w Key where
 is:=rJ
 hash:=J1 w
 inj:=λv a b ha hb=>by
  rcases bY ha with ⟨i,t,rfl,rfl⟩ | ⟨x,t,rfl,rfl⟩
  .rcases bY hb with ⟨j,u,rfl,e⟩ | ⟨y,u,rfl,e⟩
   .injection e with e1 _;rw[e1]
   .exact nomatch e
  .rcases bY hb with ⟨j,u,rfl,e⟩ | ⟨y,u,rfl,e⟩
   .exact nomatch e
   .injection e with e1 _;rw[e1]
 byValue:=λk v h=>by
  rcases bY h with ⟨i,t,rfl,rfl⟩ | ⟨x,t,rfl,rfl⟩<;>rfl
 pyHash:=λhv h=>by
  rcases bY hv with ⟨i,t,rfl,rfl⟩ | ⟨x,t,rfl,rfl⟩
  .exact wpAny_pyHash_int h
  .exact wpAny_pyHash_str h
 eqBool:=λhu hv h=>by
  rcases bY hu with ⟨i,t,rfl,rfl⟩ | ⟨x,t,rfl,rfl⟩
  .rcases bY hv with ⟨j,u,rfl,rfl⟩ | ⟨y,u,rfl,rfl⟩
   .rw[FY] at h;exact wpAny_eqBool_int h
   .rw[FZ] at h;exact SeqAt.EqAt.int_str i t y u _ _ _ _ h
  .rcases bY hv with ⟨j,u,rfl,rfl⟩ | ⟨y,u,rfl,rfl⟩
   .rw[Gb] at h;exact SeqAt.EqAt.str_int x t j u _ _ _ _ h
   .rw[Gd] at h;exact wpAny_eqBool_str h
 «strs»:=λk x t v h=>by
  rcases bY h with ⟨i,u,rfl,e⟩ | ⟨y,u,rfl,e⟩
  .exact nomatch e
  .injection e with e1 _
   subst e1;cases v<;>rfl
theorem vj (prog:LH)(w:LR)(i:Int)(t:Tok):(bx prog w).is (.inl i) (.int i t)=true:=zV i t
theorem vk (prog:LH)(w:LR)(x:Str)(t:Tok):(bx prog w).is (.inr x) (.str x t)=true:=zW x t
end L2
namespace L2
open PySem PySem.Spec PyProof.Rows
inductive V where
 | non | bl (b:Bool) | int (i:Int) | str (x:Str) | byt (b:Array UInt8) | flt (b:UInt64) | ref (a:Addr) | ty (n:String)
 deriving DecidableEq
noncomputable def RelV:V->Lg->Prop
 | .non,u=>u=Value.none
 | .bl b,u=>u=Value.bool b
 | .int i,u=>∃t,u=Value.int i t
 | .str x,u=>∃t,u=Value.str x t
 | .byt b,u=>∃t,u=Value.bytes b t
 | .flt b,u=>∃t,u=Value.float b t
 | .ref a,u=>u=Value.ref a
 | .ty n,u=>u=Value.type n
noncomputable abbrev Vals:List V->List Lg->Prop:=Paired RelV
theorem Vals.length {xs:List V}{us:List Lg}(r:Vals xs us):xs.length=us.length:=Paired.length r
theorem Vals.get:∀{xs:List V} {us:List Lg} {i:Nat} {x:V},Vals xs us->xs[i]?=some x->∃u,us[i]?=some u/\RelV x u
 | _,_,_,_,.nil,e=>by simp at e
 | _,_,0,_,.cons r _,e=>by simp at e;subst e;exact ⟨_,rfl,r⟩
 | _,_,i+1,x,.cons _ t,e=>by
  obtain ⟨u,h1,h2⟩:=Vals.get (i:=i) (x:=x) t (by simpa using e);exact ⟨u,by simpa using h1,h2⟩
theorem Vals.set {x:V}{u:Lg}(r:RelV x u):∀{xs:List V} {us:List Lg} (i:Nat),Vals xs us->Vals (xs.set i x) (us.set i u)
 | _,_,_,.nil=>.nil
 | _,_,0,.cons _ t=>.cons r t
 | _,_,i+1,.cons q t=>.cons q (Vals.set r i t)
theorem Vals.append:∀{xs ys:List V} {us ws:List Lg},Vals xs us->Vals ys ws->Vals (xs++ys) (us++ws)
 | _,_,_,_,.nil,s=>s
 | _,_,_,_,.cons r t,s=>.cons r (Vals.append t s)
theorem Vals.take:∀{xs:List V} {us:List Lg} (n:Nat),Vals xs us->Vals (xs.take n) (us.take n)
 | _,_,0,_=>.nil
 | _,_,_+1,.nil=>.nil
 | _,_,n+1,.cons r t=>.cons r (Vals.take n t)
theorem Vals.drop:∀{xs:List V} {us:List Lg} (n:Nat),Vals xs us->Vals (xs.drop n) (us.drop n)
 | _,_,0,r=>r
 | _,_,_+1,.nil=>.nil
 | _,_,n+1,.cons _ t=>Vals.drop n t
theorem Vals.none_of:∀{xs:List V} {us:List Lg} {i:Nat},Vals xs us->xs[i]?=none->us[i]?=none:=λ{xs us i} r e=>by
 have h1:=r.length;have h2:xs.length<=i:=List.getElem?_eq_none_iff.mp e;exact List.getElem?_eq_none_iff.mpr (by lia)
noncomputable def oI:Option V->Option Lg->Prop
 | some v,some u=>RelV v u
 | none,none=>True
 | _,_=>False
noncomputable def KV {κ:Type}:List (κ×V)->List (κ×Lg)->Prop:=Paired λ(p:κ×V) (q:κ×Lg)=>p.1=q.1/\RelV p.2 q.2
noncomputable def kV:Key->V
 | .inl i=>.int i
 | .inr x=>.str x
inductive HO where
 | lst (xs:List V)
 | tup (xs:List V)
 | dK (kvs:List (Key×V)) | dT (kvs:List (List Key×V))
 | set (S:Int->Bool) (n:Nat)
 | ins (C dx:Addr) (fs:List (Str×V))
 | own (x:Addr)
 | xd (fs:List (Str×V))
 | met (f x:Addr)
 | rng (lo hi:Int)
 | cc (o:Obj) (u:HO)
 | tbl (ps:Array Lg)
 | ext (φ:Heap->Prop)
noncomputable abbrev Hp:=Addr->Option HO
noncomputable def upd (H:Hp)(a:Addr)(o:HO):Hp:=λb=>if b=a then some o else H b
theorem aA {H:Hp}{a:Addr}{o:HO}:upd H a o a=some o:=by unfold upd;rw[if_pos rfl]
theorem aq {H:Hp}{a b:Addr}{o:HO}(h:b≠a):upd H a o b=H b:=by unfold upd;rw[if_neg h]
theorem yG {H:Hp}{a b:Addr}{o u:HO}(h:H a=some o)(h':H b=some u)(d:o≠u):a≠b:=by
 intro e;subst e;rw[h] at h';exact d (Option.some.inj h')
theorem bo {H:Hp}{a b:Addr}{o:HO}(h:H a=some o)(h':H b=none):a≠b:=by
 intro e;subst e;rw[h] at h';cases h'
section
variable (P:LH) (w:LR)
noncomputable def cM (H:Hp)(h:Heap)(a:Addr):HO->Prop
 | .lst xs=>xs.length<=sizeLine/\∃(its:List Lg) (n:Nat),Vals xs its/\h.get? a=some { cls:=.type "list",data:=.seq its.toArray n }
 | .tup xs=>xs.length<=sizeLine/\∃its:List Lg,Vals xs its/\IsTup h a its.toArray
 | .dK kvs=>kvs.length<=sizeLine/\(a == sysModules)=false/\∃vs,KV kvs vs/\h.DictOf (bx P w) a vs
 | .dT kvs=>kvs.length<=sizeLine/\(a == sysModules)=false/\∃xs:List (List Key×Addr×Lg),
   Paired (λ(p:List Key×V) (q:List Key×Addr×Lg)=>p.1=q.1/\H q.2.1=some (.tup (p.1.map kV))/\RelV p.2 q.2.2) kvs xs /\
   ∃o es ep,h.get? a=some o/\o.ExactDict/\o.data=.dict es ep/\es.toList=xs.map (entryOfKey (tupleKind (bx P w)))/\(xs.map (·.1)).Nodup
 | .set S n=>h.SetOf (intKind P w) a S n
 | .ins C dx fs=>H dx=some (.own a)/\fs.length<=1000/\dx≠a/\h.get? a=some (instObj C dx) /\
   ∃mA,h.Ns1 dx mA/\(∀f,oI (fs.lookup f) (mA f))/\PySem.Within mA (fs.map (·.1))
 | .own _=>∃o,h.get? a=some o
 | .xd fs=>∃mA,h.Ns1 a mA/\∀f,oI (fs.lookup f) (mA f)
 | .rng lo hi=>∃t u v,h.get? a=some { cls:=.type "range",data:=.fields #[.int lo t,.int hi u,.int 1 v] }
 | .cc o u=>h.get? a=some o/\cM H h a u
 | .tbl qs=>∃tb:Array Lg,h.get? a=some { cls:=.none,data:=.fields tb }/\TriplesOk tb.toList /\
   ∀pos cv,codeAmong pos tb.toList=some cv->∃c q t,cv=.ref c/\qs[0]?=some (.str q t)/\H c=some (.own a)/\h.CodeRec (.ref c) q
 | .met f x=>h.get? a=some (methodObj (.ref f) (.ref x))
 | .ext φ=>φ h/\(∃o,h.get? a=some o)/\∀h1 h2:Heap,φ h1->(∀o,h1.get? a=some o->h2.get? a=some o)->φ h2
noncomputable def kF (H:Hp)(h:Heap):Prop:=∀a o,H a=some o->cM P w H h a o
end
section
variable {P:LH} {w:LR} {H H':Hp} {h h':Heap} {a:Addr} {o:HO}
theorem cM.lt (x:cM P w H h a o):a<h.objs.size:=by
 cases o with
 | lst xs=>obtain ⟨_,_,_,_,e⟩:=x;exact Lv e
 | tup xs=>obtain ⟨_,_,_,p⟩:=x;exact p.lt
 | dK kvs=>obtain ⟨_,_,_,_,o,_,_,e,_⟩:=x;exact Lv e
 | dT kvs=>obtain ⟨_,_,_,_,o,_,_,e,_⟩:=x;exact Lv e
 | set S n=>obtain ⟨o,_,_,_,e,_⟩:=x;exact Lv e
 | ins C dx fs=>obtain ⟨_,_,_,e,_⟩:=x;exact Lv e
 | own y=>obtain ⟨_,e⟩:=x;exact Lv e
 | xd fs=>obtain ⟨_,⟨_,_,_,e,_⟩,_⟩:=x;exact Lv e
 | rng lo hi=>obtain ⟨_,_,_,e⟩:=x;exact Lv e
 | cc ob u=>obtain ⟨e,_⟩:=x;exact Lv e
 | tbl qs=>obtain ⟨_,e,_⟩:=x;exact Lv e
 | met f y=>exact Lv (show h.get? a=some _ from x)
 | ext φ=>obtain ⟨_,⟨_,e⟩,_⟩:=x;exact Lv e
theorem Paired.Eh {α β:Type}{F G:α->β->Prop}:∀{l₁:List α} {l₂:List β},Paired F l₁ l₂->(∀a b,F a b->G a b)->Paired G l₁ l₂
 | _,_,.nil,_=>.nil
 | _,_,.cons r t,f=>.cons (f _ _ r) (Paired.Eh t f)
theorem Paired.imp' {α β:Type}{F G:α->β->Prop}(f:∀a b,F a b->G a b){l₁:List α}{l₂:List β}(r:Paired F l₁ l₂):Paired G l₁ l₂:=Paired.Eh r f
theorem cM.d7 (x:cM P w H h a o)(k:∀b u,(b=a\/H b=some (.own a))->h.get? b=some u->h'.get? b=some u)
  (ho:∀b,H b=some (.own a)->H' b=some (.own a)) (ht:∀b xs,H b=some (.tup xs)->H' b=some (.tup xs)):cM P w H' h' a o:=by
 induction o with
 | lst xs=>obtain ⟨z,its,n,r,e⟩:=x;exact ⟨z,its,n,r,k _ _ (.inl rfl) e⟩
 | tup xs=>obtain ⟨z,its,r,ob,e,c⟩:=x;exact ⟨z,its,r,ob,k _ _ (.inl rfl) e,c⟩
 | dK kvs=>obtain ⟨z,y,vs,r,ob,es,ep,e,c⟩:=x;exact ⟨z,y,vs,r,ob,es,ep,k _ _ (.inl rfl) e,c⟩
 | dT kvs =>
  obtain ⟨z,y,xs,r,ob,es,ep,e,c⟩:=x;exact ⟨z,y,xs,Paired.Eh r λp q z=>⟨z.1,ht _ _ z.2.1,z.2.2⟩,ob,es,ep,k _ _ (.inl rfl) e,c⟩
 | set S n=>obtain ⟨ob,es,ep,t,e,c⟩:=x;exact ⟨ob,es,ep,t,k _ _ (.inl rfl) e,c⟩
 | ins C dx fs =>
  obtain ⟨d,z,ne,e,mA,⟨od,es,ep,e2,c⟩,r⟩:=x;exact ⟨ho _ d,z,ne,k _ _ (.inl rfl) e,mA,⟨od,es,ep,k _ _ (.inr d) e2,c⟩,r⟩
 | own y=>obtain ⟨ob,e⟩:=x;exact ⟨ob,k _ _ (.inl rfl) e⟩
 | xd fs=>obtain ⟨mA,⟨od,es,ep,e,c⟩,r⟩:=x;exact ⟨mA,⟨od,es,ep,k _ _ (.inl rfl) e,c⟩,r⟩
 | rng lo hi=>obtain ⟨t,u,v,e⟩:=x;exact ⟨t,u,v,k _ _ (.inl rfl) e⟩
 | cc ob u ih=>obtain ⟨e,q⟩:=x;exact ⟨k _ _ (.inl rfl) e,ih q⟩
 | tbl qs =>
  obtain ⟨m,e,t,f⟩:=x;refine ⟨m,k _ _ (.inl rfl) e,t,λpos cv z=>?_⟩;obtain ⟨c,q,u,r,r2,o,c2,ob,vs,tk,e2,g,rest⟩:=f pos cv z;cases e2;exact ⟨c,q,u,r,r2,ho _ o,c,ob,vs,tk,rfl,k _ _ (.inr o) g,rest⟩
 | met f y =>
  have e:h.get? a=some (methodObj (.ref f) (.ref y)):=x;show h'.get? a=some (methodObj (.ref f) (.ref y));exact k a _ (.inl rfl) e
 | ext φ=>obtain ⟨p,⟨o,e⟩,st⟩:=x;exact ⟨st _ _ p λo q=>k _ _ (.inl rfl) q,⟨o,k _ _ (.inl rfl) e⟩,st⟩
theorem kF.lt (x:kF P w H h)(e:H a=some o):a<h.objs.size:=(x a o e).lt
theorem kF.fresh (x:kF P w H h)(e:h.objs.size<=a):H a=none:=by
 cases q:H a with
 | none=>rfl
 | some u=>exact absurd (LJ (x.lt q) e) (Nat.lt_irrefl _)
theorem kF.kept (x:kF P w H h)(k:∀b u,h.get? b=some u->h'.get? b=some u):kF P w H h':=λa o e =>
 (x a o e).d7 (λb u _ q=>k b u q) (λ_ q=>q) λ_ _ q=>q
theorem kF.laid (x:kF P w H h)(k:∀b u,h.get? b=some u->h'.get? b=some u)(hp:h.objs.size<=a)(new:cM P w (upd H a o) h' a o):kF P w (upd H a o) h':=λb u e=>by
 have hn:=x.fresh hp;by_cases hb:b=a
 .subst hb;rw[aA] at e;cases e;exact new
 .rw[aq hb] at e;exact (x b u e).d7 (λc v _ q=>k c v q) (λc q=>by rw[aq (bo q hn)];exact q) λc xs q=>by rw[aq (bo q hn)];exact q
end
noncomputable def Rd (H:Hp)(a:Addr)(u:HO):Prop:=H a=some u\/∃o,H a=some (.cc o u)
theorem Rd.ok {P:LH}{w:LR}{H:Hp}{h:Heap}{a:Addr}{u:HO}(r:Rd H a u)(x:kF P w H h):cM P w H h a u:=by
 rcases r with r | ⟨o,r⟩
 .exact x a u r
 .obtain ⟨_,q⟩:=x a _ r;exact q
noncomputable def Hv:Option HO->Prop
 | some (.lst _)=>True
 | some (.dK _)=>True
 | some (.dT _)=>True
 | some (.set _ _)=>True
 | some (.ins _ _ _)=>True
 | some (.ext _)=>True
 | _=>False
section
variable {P:LH} {w:LR} {H:Hp} {h h':Heap} {x e:Addr} {o':HO}
theorem kF.write (ok:kF P w H h)(mu:Hv (H x))(he:e=x\/H e=some (.own x))(k:∀b u,b≠e->h.get? b=some u->h'.get? b=some u)(heo:∃u,h'.get? e=some u)
    (new:cM P w (upd H x o') h' x o'):kF P w (upd H x o') h':=λb u q=>by
  have nown:∀c y,H c=some (.own y)->c≠x:=λc y r z=>by subst z;rw[r] at mu;exact mu
  have ntup:∀c xs,H c=some (.tup xs)->c≠x:=λc xs r z=>by subst z;rw[r] at mu;exact mu
  by_cases hb:b=x
  · subst hb;rw[aA] at q;cases q;exact new
  · rw[aq hb] at q;by_cases hbe:b=e
    · have q':H b=some (.own x):=by
        rcases he with z | z
        · exact absurd (hbe.trans z) hb
        · rw[hbe];exact z
      rw[q] at q';cases q';obtain ⟨v,hv⟩:=heo;exact ⟨v,by rw[hbe];exact hv⟩
    · refine (ok b u q).d7 (λc v hc r => k c v ?_ r) (λc r => by rw [aq (nown c b r)];exact r) λc xs r => by rw [aq (ntup c xs r)];exact r
      rcases hc with rfl | hc
      · exact hbe
      · rintro rfl;rcases he with z | z
        · exact nown c b hc z
        · rw[hc] at z;cases z;exact hb rfl
end
structure Un (fs ex:List Addr)(H H':Hp)(h h':Heap):Prop where
 keep:∀b o,h.get? b=some o->H b=none->b∉fs->b∉ex->h'.get? b=some o
 slot:∀b o,h.get? b=some o->H b=none->b∈fs->b∉ex->∃sl,h'.get? b=some { o with slots:=sl }
 free:∀b o,h.get? b=some o->H b=none->b∉ex->H' b=none
 there:∀b o,h.get? b=some o->b∉ex->∃o',h'.get? b=some o'
 ue:∀b xs,H b=some (.tup xs)->H' b=some (.tup xs)
 qv:∀b o u,H b=some (.cc o u)->H' b=some (.cc o u)
 qg:∀b ps,H b=some (.tbl ps)->∃more,H' b=some (.tbl (ps++more))
section
variable {fs fs' ex ex':List Addr} {H H1 H2:Hp} {h h1 h2 h':Heap} {a x e:Addr} {o:HO}
theorem Un.any (u:Un fs ex H H1 h h1){b:Addr}{ob:Obj}(q:h.get? b=some ob)(n:H b=none)(hx:b∉ex):∃sl,h1.get? b=some { ob with slots:=sl }:=by
 by_cases hb:b∈fs
 .exact u.slot b ob q n hb hx
 .exact ⟨ob.slots,u.keep b ob q n hb hx⟩
theorem Un.kept (k:∀b u,h.get? b=some u->h'.get? b=some u):Un fs ex H H h h':=
 ⟨λb ob q _ _ _=>k b ob q,λb ob q _ _ _=>⟨ob.slots,k b ob q⟩,λ_ _ _ n _=>n,λb ob q _=>⟨ob,k b ob q⟩,λ_ _ q=>q,λ_ _ _ q=>q,λ_ ps q=>⟨#[],by rw[q];simp⟩⟩
theorem Un.refl:Un fs ex H H h h:=Un.kept λ_ _ q=>q
theorem Un.laid (k:∀b u,h.get? b=some u->h'.get? b=some u)(hp:h.objs.size<=a)(hn:H a=none):Un fs ex H (upd H a o) h h' where
 keep:=λb u q _ _ _=>k b u q
 slot:=λb u q _ _ _=>⟨u.slots,k b u q⟩
 free:=λb u q n _=>by rw[aq (LF (LJ (Lv q) hp))];exact n
 there:=λb u q _=>⟨u,k b u q⟩
 ue:=λb xs q=>by rw[aq (bo q hn)];exact q
 qv:=λb u xs q=>by rw[aq (bo q hn)];exact q
 qg:=λb ps q=>⟨#[],by rw[aq (bo q hn),q];simp⟩
theorem Un.write (mu:Hv (H x))(he:e=x\/H e=some (.own x))(k:∀b u,b≠e->h.get? b=some u->h'.get? b=some u)(heo:∃u,h'.get? e=some u):Un fs ex H (upd H x o) h h':=by
 have hx:∀b,H b=none->b≠x:=λb n z=>by subst z;rw[n] at mu;exact mu
 have hb:∀b,H b=none->b≠e:=λb n z=>by
  subst z;rcases he with r | r
  .exact hx b n r
  .rw[n] at r;cases r
 have hm:∀b u,H b=some u->¬Hv (some u)->b≠x:=λb u q nm z=>by subst z;rw[q] at mu;exact nm mu
 refine ⟨λb u q n _ _=>k b u (hb b n) q,λb u q n _ _=>⟨u.slots,k b u (hb b n) q⟩,λb u q n _=>by rw[aq (hx b n)];exact n,λb u q _=>?_,
  λb xs q=>by rw[aq (hm b _ q λz=>z)];exact q,λb u xs q=>by rw[aq (hm b _ q λz=>z)];exact q,λb ps q=>⟨#[],by rw[aq (hm b _ q λz=>z),q];simp⟩⟩
 by_cases hbe:b=e
 .subst hbe;exact heo
 .exact ⟨u,k b u hbe q⟩
end
noncomputable def JC (h:Heap)(H:Hp):List Addr:=(LD h.objs.size).filter λa=>(H a).isSome
noncomputable def sQ (h:Heap)(H:Hp):Heap:=PySem.W.hideAll h (JC h H)
theorem zQ (h:Heap)(H:Hp):(sQ h H).objs.size=h.objs.size:=PySem.W.hideAll_size _ _
theorem pk {h:Heap}{H:Hp}{b:Addr}{o:Obj}(e:h.get? b=some o)(n:H b=none):(sQ h H).get? b=some o:=
 PySem.W.hideAll_get _ e λhm=>by
  have q:(H b).isSome=true:=(List.mem_filter.mp hm).2;rw[n] at q;simp at q
theorem El {h:Heap}{H:Hp}{b:Addr}{o:Obj}(e:(sQ h H).get? b=some o):h.get? b=some o/\H b=none:=by
 have e':h.get? b=some o:=PySem.W.of_hideAll (JC h H) e;refine ⟨e',?_⟩;cases q:H b with
 | none=>rfl
 | some x =>
  have hm:b∈JC h H:=List.mem_filter.mpr ⟨mem_range.mpr (Lv e'),by simp[q]⟩;have z:(sQ h H).get? b=none:=PySem.W.hideAll_none (JC h H) hm;rw[z] at e;cases e
noncomputable def Dg (g h:Heap)(L:Addr):List (Addr×Obj):=(LD h.objs.size).filterMap λa=>if a=L\/(g.get? a).isSome=true then none else (h.get? a).map λo=>(a,o)
noncomputable def rest (g h:Heap)(L d:Addr):List (Addr×Obj):=(Dg g h L).filter λp=>decide (p.1≠d)
end L2
namespace L2
open PySem PySem.Spec PyProof.Rows
structure Mod (K:Frag)(mg:Str->Option Lg)(base:Heap):Prop where
 Ih:K.In base
 glob:base.Ns mainGlobals mg
 blt:∃mb,base.Ns builtinsNs mb/\∀x:Str,x≠"__name__"->mb x=bootBuiltins x
 nolimit:base.NoLimit
structure Cx where
 prog:LH
 w:LR
 K:Frag
 mg:Str->Option Lg
 base:Heap
 A:LQ
 N:List Str
 s₀:Li
 H₀:Hp
 env:Env
 outer:List Env
 stack:List Env
 ex:List Addr
 fn:Str->Bool
 calm:Bool
 pn:List (Addr×Obj)
 xe:Lg->Li->Prop
noncomputable def AS (l:List Env):List Addr:=l.filterMap (·.frame)
noncomputable abbrev Cx.fs (X:Cx):List Addr:=AS X.outer
noncomputable def uk (sc:Scope)(x:Str):Prop:=sc.names.lookup x=some .local\/sc.names.lookup x=some .cell\/sc.names.lookup x=some .free
noncomputable def Loc (sc:Scope)(x:Str):Prop:=sc.names.lookup x=some .local\/sc.names.lookup x=some .cell
noncomputable def Look (env:Env)(h:Heap)(m:Str->Option Lg)(x:Str)(u:Lg):Prop:=
 (env.kindOf x=some .local/\m x=some u)\/((env.kindOf x=some .cell\/env.kindOf x=some .free)/\∃c,env.cells.lookup x=some c/\h.IsCell c (some u))
structure Cx.Ok (X:Cx):Prop where
 mod:Mod X.K X.mg X.base
 kind:X.env.scope.kind=.function
 glob:X.env.globals=mainGlobals
 blt:X.env.builtins=builtinsNs
 above:X.s₀.heap.objs.size<=X.env.locals
 inj:∀x y c,X.env.cells.lookup x=some c->X.env.cells.lookup y=some c->x=y
 has:∀x,(X.env.kindOf x=some .cell\/X.env.kindOf x=some .free)->∃c,X.env.cells.lookup x=some c
 HE:∀x c,X.fn x=true->X.env.cells.lookup x=some c->X.s₀.heap.objs.size<=c
 hd:X.calm=true->X.A.handled=none
 frames:X.A.frames=some X.stack
 JA:X.stack=X.outer\/(X.stack=X.env::X.outer/\X.env.frame=some X.env.locals)
 Jt:∀b∈X.ex,b≠X.env.locals/\∀x c,X.env.cells.lookup x=some c->c≠b
 bs:∀b o,X.base.get? b=some o->X.s₀.heap.get? b=some o/\X.H₀ b=none
 ET:X.base.objs.size<=X.s₀.heap.objs.size
 Cc:∀b o,X.base.get? b=some o->b∉X.ex
 Bv:∀b∈X.ex,b∉X.fs
 o9:X.s₀.heap.FunFrames X.base X.outer
 Ho:∀b∈X.fs,X.H₀ b=none
structure Inv (X:Cx)(pins:List (Addr×Obj))(σ:List (Option V))(H:Hp)(s:Li):Prop where
 ok:X.Ok
 os:s.os=X.s₀.os
 bare:AllBare s.gens
 base:Un X.fs X.ex X.H₀ H X.s₀.heap s.heap
 loc:∃m,s.heap.Ns X.env.locals m/\∀(i:Nat) (x:Str) (v:V),X.N[i]?=some x->σ[i]?=some (some v)->uk X.env.scope x->∃u,RelV v u/\Look X.env s.heap m x u
 cell:∀x c,X.env.cells.lookup x=some c->∃v,s.heap.IsCell c v
 free:H X.env.locals=none
 kO:∀x c,X.env.cells.lookup x=some c->H c=none
 pin:∀p∈X.pn++pins,s.heap.get? p.1=some p.2/\H p.1=none/\p.1≠X.env.locals/\p.1∉X.fs/\∀v,p.2.data≠.cell v
 bC:kF X.prog X.w H s.heap
 len:σ.length=X.N.length
section
variable {X:Cx} {pins:List (Addr×Obj)} {σ:List (Option V)} {H H':Hp} {s:Li} {h':Heap}
theorem Cx.Ok.J6 (ok:X.Ok){b:Addr}{o:Obj}(e:X.base.get? b=some o):b∉X.fs:=λhb=>by
 have:=(ok.o9.mem hb).1;rw[e] at this;cases this
theorem Inv.bs (I:Inv X pins σ H s):∀b o,X.base.get? b=some o->s.heap.get? b=some o/\H b=none:=λb o e =>
 ⟨I.base.keep b o (I.ok.bs b o e).1 (I.ok.bs b o e).2 (I.ok.J6 e) (I.ok.Cc b o e),I.base.free b o (I.ok.bs b o e).1 (I.ok.bs b o e).2 (I.ok.Cc b o e)⟩
theorem Inv.bk (I:Inv X pins σ H s):∀b o,X.base.get? b=some o->s.heap.get? b=some o:=λb o e=>(I.bs b o e).1
theorem Inv.mod (I:Inv X pins σ H s):Mod X.K X.mg X.base:=I.ok.mod
theorem Inv.qx (I:Inv X pins σ H s):X.K.In s.heap:=I.ok.mod.Ih.keeps I.bk
theorem Inv.nolimit (I:Inv X pins σ H s):s.heap.NoLimit:=I.ok.mod.nolimit.keeps I.bk
theorem Inv.lt (I:Inv X pins σ H s):X.env.locals<s.heap.objs.size:=let ⟨_,hn,_⟩:=I.loc;hn.lt
theorem Inv.sz (I:Inv X pins σ H s):X.s₀.heap.objs.size<=s.heap.objs.size:=Nat.le_trans I.ok.above (Nat.le_of_lt I.lt)
theorem Inv.J7 (I:Inv X pins σ H s){a:Addr}(h:s.heap.objs.size<=a):a∉X.fs:=λhb=>by
 obtain ⟨_,o,ho,_⟩:=I.ok.o9.mem hb;exact absurd (LJ (Lv ho) (Nat.le_trans I.sz h)) (Nat.lt_irrefl _)
theorem Inv.FH (I:Inv X pins σ H s):∀x c,X.env.cells.lookup x=some c->c≠X.env.locals:=λx c e z=>by
 obtain ⟨v,o,ho,hd⟩:=I.cell x c e;obtain ⟨m,⟨o',es,ep,ho',hd',_⟩,_⟩:=I.loc;rw[z,ho'] at ho;cases ho;rw[hd'] at hd;cases hd
theorem Inv.o9 (I:Inv X pins σ H s):s.heap.FunFrames X.base X.outer:=by
 have all:∀(l:List Env),(∀b∈AS l,b∈X.fs)->X.s₀.heap.FunFrames X.base l->s.heap.FunFrames X.base l:=by
  intro l;induction l with
  | nil=>intro _ _;trivial
  | cons env r ih =>
   intro hs hl;obtain ⟨hk,⟨L,o,hf,hn,ho,hd⟩,hr⟩:=hl;have hL:L∈X.fs:=hs L (by unfold AS;rw[filterMap_cons,hf];exact mem_cons_self);obtain ⟨sl,e⟩:=I.base.slot L o ho (I.ok.Ho L hL) hL λz=>I.ok.Bv L z hL;exact ⟨hk,⟨L,_,hf,hn,e,hd⟩,ih (λb hb=>hs b (by unfold AS;rw[filterMap_cons,hf];exact LO _ hb)) hr⟩
 exact all X.outer (λ_ hb=>hb) I.ok.o9
theorem Inv.stack (I:Inv X pins σ H s):s.heap.FunFrames X.base X.stack:=by
 rcases I.ok.JA with e | ⟨e,hf⟩
 .rw[e];exact I.o9
 .rw[e];obtain ⟨m,hn,_⟩:=I.loc;refine .cons (by rw[I.ok.kind];decide) hf hn ?_ I.o9;exact Heap.get?_none_of_le (Nat.le_trans I.ok.ET I.ok.above)
theorem Inv.xl (I:Inv X pins σ H s):∀b∈AS X.stack,b∈X.env.locals::X.fs:=λb hb=>by
 rcases I.ok.JA with e | ⟨e,hf⟩
 .rw[e] at hb;exact LO _ hb
 .rw[e] at hb;unfold AS at hb;rw[filterMap_cons,hf] at hb;exact hb
theorem Inv.zf (I:Inv X pins σ H s):∀b∈AS X.stack,H b=none:=λb hb=>by
 rcases Lz.mp (I.xl b hb) with e | hb
 .rw[e];exact I.free
 .obtain ⟨_,o,ho,_⟩:=I.ok.o9.mem hb;exact I.base.free b o ho (I.ok.Ho b hb) λz=>I.ok.Bv b z hb
theorem Inv.step {g':Array GenState}{t':Nat}{d':Drawn}{ch:List Addr}(I:Inv X pins σ H s)
  (hch:∀b∈ch,(b∈X.ex\/X.s₀.heap.objs.size<=b)/\b≠X.env.locals/\(∀x c,X.env.cells.lookup x=some c->c≠b)/\∀p∈X.pn++pins,p.1≠b)
  (keep:∀b o,b≠X.env.locals->b∉X.fs->b∉ch->s.heap.get? b=some o->H b=none->h'.get? b=some o)
  (slot:∀b o,b≠X.env.locals->b∈X.fs->b∉ch->s.heap.get? b=some o->H b=none->∃sl,h'.get? b=some { o with slots:=sl }) (free:∀b o,b∉ch->s.heap.get? b=some o->H b=none->H' b=none)
  (there:∀b o,b∉ch->s.heap.get? b=some o->∃o',h'.get? b=some o')
  (ue:∀b xs,H b=some (.tup xs)->H' b=some (.tup xs)) (qv:∀b o u,H b=some (.cc o u)->H' b=some (.cc o u)) (qg:∀b ps,H b=some (.tbl ps)->∃more,H' b=some (.tbl (ps++more)))
  (ns:∀m,s.heap.Ns X.env.locals m->h'.Ns X.env.locals m) (bC:kF X.prog X.w H' h') (hg:AllBare g') :
  Inv X pins σ H' { s with heap:=h',gens:=g',drawn:=d',toks:=t' }:=by
 have neL:∀b o,X.s₀.heap.get? b=some o->b≠X.env.locals:=λb o e=>LF (LJ (Lv e) I.ok.above);have neC:∀b o,X.s₀.heap.get? b=some o->b∉X.ex->b∉ch:=λb o e hx hb=>by
  rcases (hch b hb).1 with z | z
  .exact hx z
  .exact absurd (LJ (Lv e) z) (Nat.lt_irrefl _)
 have cellK:∀x c,X.env.cells.lookup x=some c->∀v,s.heap.IsCell c v->h'.IsCell c v:= by
  rintro x c e v ⟨o,ho,hd⟩;have nch:c∉ch:=λz=>(hch c z).2.2.1 x c e rfl;by_cases hc:c∈X.fs
  .obtain ⟨sl,q⟩:=slot c o (I.FH x c e) hc nch ho (I.kO x c e);exact ⟨_,q,hd⟩
  .exact ⟨o,keep c o (I.FH x c e) hc nch ho (I.kO x c e),hd⟩
 refine ⟨I.ok,I.os,hg,⟨λb o e n hb hx=>?_,λb o e n hb hx=>?_,λb o e n hx=>?_,λb o e hx=>?_,λb xs e=>ue b xs (I.base.ue b xs e),λb o xs e=>qv b o xs (I.base.qv b o xs e),λb ps e=>?_⟩,?_,λx c e=>?_,?_,λx c e=>?_,λp hp=>?_,bC,I.len⟩
 .exact keep b o (neL b o e) hb (neC b o e hx) (I.base.keep b o e n hb hx) (I.base.free b o e n hx)
 .obtain ⟨sl,e1⟩:=I.base.slot b o e n hb hx;obtain ⟨sl',e2⟩:=slot b _ (neL b o e) hb (neC b o e hx) e1 (I.base.free b o e n hx);exact ⟨sl',e2⟩
 .obtain ⟨o',e1⟩:=I.base.there b o e hx;exact free b o' (neC b o e hx) e1 (I.base.free b o e n hx)
 .obtain ⟨o',e1⟩:=I.base.there b o e hx;exact there b o' (neC b o e hx) e1
 .obtain ⟨m1,e1⟩:=I.base.qg b ps e;obtain ⟨m2,e2⟩:=qg b _ e1;exact ⟨m1++m2,by rw[e2,Array.append_assoc]⟩
 .obtain ⟨m,hn,hl⟩:=I.loc;refine ⟨m,ns m hn,λi x v e1 e2 e3=>?_⟩;obtain ⟨u,r,l⟩:=hl i x v e1 e2 e3;refine ⟨u,r,?_⟩;rcases l with l | ⟨k,c,e,z⟩
  .exact .inl l
  .exact .inr ⟨k,c,e,cellK x c e _ z⟩
 .obtain ⟨v,z⟩:=I.cell x c e;exact ⟨v,cellK x c e v z⟩
 .obtain ⟨m,⟨o,_,_,ho,_⟩,_⟩:=I.loc;exact free _ o (λz=>(hch _ z).2.1 rfl) ho I.free
 .obtain ⟨v,o,ho,hd⟩:=I.cell x c e;exact free c o (λz=>(hch c z).2.2.1 x c e rfl) ho (I.kO x c e)
 .obtain ⟨e,n,ne,nf,d⟩:=I.pin p hp;have nch:p.1∉ch:=λz=>(hch p.1 z).2.2.2 p hp rfl;exact ⟨keep p.1 p.2 ne nf nch e n,free p.1 p.2 nch e n,ne,nf,d⟩
theorem Inv.un {t':Nat}(I:Inv X pins σ H s)(u:Un X.fs [] H H' s.heap h')(bC:kF X.prog X.w H' h'):Inv X pins σ H' { s with heap:=h',toks:=t' }:=by
 obtain ⟨m,⟨o,es,ep,ho,r⟩,_⟩:=id I.loc;obtain ⟨sl,hL⟩:=u.any ho I.free (by simp);exact I.step (g':=s.gens) (d':=s.drawn) (ch:=[]) (λ_ z=>nomatch z) (λb o _ hb _ e n=>u.keep b o e n hb (by simp)) (λb o _ hb _ e n=>u.slot b o e n hb (by simp)) (λb o _ e n=>u.free b o e n (by simp)) (λb o _ e=>u.there b o e (by simp)) u.ue u.qv u.qg (λm' hm=>by
  obtain ⟨o',es',ep',ho',r'⟩:=hm;rw[ho] at ho';cases ho';exact ⟨_,es',ep',hL,r'⟩) bC I.bare
theorem Inv.call {g':Array GenState}{t':Nat}{d':Drawn}{ch:List Addr}(I:Inv X pins σ H s)(u:Un (AS X.stack) ch H H' s.heap h')(bC:kF X.prog X.w H' h')(hg:AllBare g')
  (hch:∀b∈ch,(b∈X.ex\/X.s₀.heap.objs.size<=b)/\b≠X.env.locals/\(∀x c,X.env.cells.lookup x=some c->c≠b)/\∀p∈X.pn++pins,p.1≠b) :
  Inv X pins σ H' { s with heap:=h',gens:=g',drawn:=d',toks:=t' }:=by
 obtain ⟨m,⟨o,es,ep,ho,r⟩,_⟩:=id I.loc;obtain ⟨sl,hL⟩:=u.any ho I.free λz=>(hch _ z).2.1 rfl;exact I.step (ch:=ch) hch (λb o hL hb hc e n=>u.keep b o e n (λz=>(Lz.mp (I.xl b z)).elim hL hb) hc) (λb o _ _ hc e n=>u.any e n hc) (λb o hc e n=>u.free b o e n hc) (λb o hc e=>u.there b o e hc) u.ue u.qv u.qg (λm' hm=>by
  obtain ⟨o',es',ep',ho',r'⟩:=hm;rw[ho] at ho';cases ho';exact ⟨_,es',ep',hL,r'⟩) bC hg
theorem Inv.turned {t':Nat}{it:Addr}(I:Inv X pins σ H s)(k:∀b o,b≠it->s.heap.get? b=some o->h'.get? b=some o)(hn:H it=none)(hL:it≠X.env.locals)
    (h1:it∈X.ex\/X.s₀.heap.objs.size<=it) (h2:∀x c,X.env.cells.lookup x=some c->c≠it) (h3:∀p∈X.pn++pins,p.1≠it):Inv X pins σ H { s with heap:=h',toks:=t' }:=by
  have nit:∀b u,H b=some u->b≠it:=λb u e z=>by rw[z,hn] at e;cases e
  refine I.step (g':=s.gens) (d':=s.drawn) (ch:=[it]) (λb hb=>?_) (λb o _ _ hc e _=>k b o (λz=>hc (by simp[z])) e) (λb o _ _ hc e _=>⟨o.slots,k b o (λz=>hc (by simp[z])) e⟩) (λ_ _ _ _ n=>n)
    (λb o hc e=>⟨o,k b o (λz=>hc (by simp[z])) e⟩) (λ_ _ e=>e) (λ_ _ _ e=>e) (λb ps e=>⟨#[],by rw[e];simp⟩) (λm hm=>?_) (λb u e=>?_) I.bare
  · have e : b = it := by simpa using hb
    subst e;exact ⟨h1,hL,h2,h3⟩
  · obtain ⟨o,es,ep,ho,r⟩:=hm;exact ⟨o,es,ep,k _ o (Ne.symm hL) ho,r⟩
  · refine (I.bC b u e).d7 (λc v hc q=>k c v ?_ q) (λ_ q=>q) λ_ _ q=>q;rcases hc with z | z
    · rw[z];exact nit b u e
    · exact nit c _ z
theorem Inv.tok (I:Inv X pins σ H s)(t:Nat):Inv X pins σ H { s with toks:=t }:=I.un (h':=s.heap) (t':=t) Un.refl I.bC
theorem Inv.kept {t':Nat}(I:Inv X pins σ H s)(k:∀b u,s.heap.get? b=some u->h'.get? b=some u):Inv X pins σ H { s with heap:=h',toks:=t' }:=I.un (Un.kept k) (I.bC.kept k)
theorem Inv.laid {a:Addr}{o:HO}{t':Nat}(I:Inv X pins σ H s)(k:∀b u,s.heap.get? b=some u->h'.get? b=some u)(hp:s.heap.objs.size<=a)(new:cM X.prog X.w (upd H a o) h' a o) :
  Inv X pins σ (upd H a o) { s with heap:=h',toks:=t' }:=I.un (Un.laid k hp (I.bC.fresh hp)) (I.bC.laid k hp new)
theorem Inv.write {x e:Addr}{o:HO}{t':Nat}(I:Inv X pins σ H s)(mu:Hv (H x))(he:e=x\/H e=some (.own x))(k:∀b u,b≠e->s.heap.get? b=some u->h'.get? b=some u)(heo:∃u,h'.get? e=some u)
  (new:cM X.prog X.w (upd H x o) h' x o):Inv X pins σ (upd H x o) { s with heap:=h',toks:=t' }:=I.un (Un.write mu he k heo) (I.bC.write mu he k heo new)
theorem Inv.yR {pins':List (Addr×Obj)}(I:Inv X pins σ H s)(h:∀p∈pins',s.heap.get? p.1=some p.2/\H p.1=none/\p.1≠X.env.locals/\p.1∉X.fs/\∀v,p.2.data≠.cell v):Inv X pins' σ H s:=
 ⟨I.ok,I.os,I.bare,I.base,I.loc,I.cell,I.free,I.kO,λp hp=>(mem_append.mp hp).elim (λz=>I.pin p (mem_append_left _ z)) (h p),I.bC,I.len⟩
theorem vn {N:List Str}(hN:N.Nodup){i j:Nat}{x:Str}(a:N[i]?=some x)(b:N[j]?=some x):i=j:=by
 obtain ⟨h1,e1⟩:=Lp.mp a;obtain ⟨h2,e2⟩:=Lp.mp b;exact (List.getElem_inj hN).mp (e1.trans e2.symm)
theorem rY {M:Model}{A:LQ}{E:Lg->Li->Prop}{i:Nat}{x:Str}{v:V}{u:Lg}{Q:Unit->Li->Prop}(I:Inv X pins σ H s)(hN:X.N.Nodup)(hi:X.N[i]?=some x)(hx:Loc X.env.scope x)(r:RelV v u)
  (h:∀s',Inv X pins (σ.set i (some v)) H s'->(∃a,Heap.SameBut a s.heap s'.heap/\(a=X.env.locals\/X.env.cells.lookup x=some a))->Q () s') (hf:autoParam (X.fn x=true\/X.env.scope.names.lookup x=some .local) aZd._auto_1):wpAny M A (storeName X.env x u) Q E s:=by
 obtain ⟨m,hn,hl⟩:=id I.loc;have hcls:(X.env.scope.kind == .class || (X.env.scope.kind == .module && X.env.locals != X.env.globals))=false:=by rw[I.ok.kind];rfl
 have hiσ:i<σ.length:=by rw[I.len];exact (Lp.mp hi).1
 have FH:=I.FH;have tracked:∀{a:Addr} {h':Heap},(∃o,s.heap.get? a=some o/\H a=none)->Heap.SameBut a s.heap h'->kF X.prog X.w H h':=λ{a h'} ha hs b ob e=>by
  obtain ⟨_,_,hfree⟩:=ha;refine (I.bC b ob e).d7 (λc w' hc q=>(hs.2 c ?_).trans q) (λ_ q=>q) λ_ _ q=>q;rintro rfl;rcases hc with rfl | hc
  .rw[hfree] at e;cases e
  .rw[hfree] at hc;cases hc
 rcases hx with hk | hk
 .refine wpAny_storeName_local hk hn (λh' hn' hs=>?_) hcls;obtain ⟨oL,_,_,hoL,_⟩:=id hn;refine h _ ⟨I.ok,I.os,I.bare,⟨λb o e n hb hx=>?_,λb o e n hb hx=>?_,I.base.free,λb o e hx=>?_,I.base.ue,I.base.qv,I.base.qg⟩,⟨_,hn',λj y v' e1 e2 e3=>?_⟩,λy c e=>?_,I.free,I.kO,λp hp=>?_,tracked ⟨oL,hoL,I.free⟩ hs,by simpa using I.len⟩ ⟨_,hs,.inl rfl⟩
  .exact (hs.2 b (LF (LJ (Lv e) I.ok.above))).trans (I.base.keep b o e n hb hx)
  .obtain ⟨sl,e1⟩:=I.base.slot b o e n hb hx;exact ⟨sl,(hs.2 b (LF (LJ (Lv e) I.ok.above))).trans e1⟩
  .obtain ⟨o',e1⟩:=I.base.there b o e hx;exact ⟨o',(hs.2 b (LF (LJ (Lv e) I.ok.above))).trans e1⟩
  .by_cases hj:j=i
   .subst hj;rw[hi] at e1;cases e1;rw[List.getElem?_set_self hiσ] at e2;cases e2;exact ⟨u,r,.inl ⟨hk,by simp⟩⟩
   .rw[List.getElem?_set_ne (Ne.symm hj)] at e2;obtain ⟨u',r',q⟩:=hl j y v' e1 e2 e3;refine ⟨u',r',?_⟩;rcases q with ⟨k,e⟩ | ⟨k,c,e,z⟩
    .refine .inl ⟨k,?_⟩;have:y≠x:=λe=>hj (vn hN e1 (e ▸ hi));simp[this,e]
    .exact .inr ⟨k,c,e,z.sameBut hs (FH y c e)⟩
  .obtain ⟨w',z⟩:=I.cell y c e;exact ⟨w',z.sameBut hs (FH y c e)⟩
  .obtain ⟨e,n,ne,nf,d⟩:=I.pin p hp;exact ⟨(hs.2 p.1 ne).trans e,n,ne,nf,d⟩
 .have hfn:X.fn x=true:=by
   rcases hf with z | z
   .exact z
   .rw[z] at hk;cases hk
  obtain ⟨c,hc⟩:=I.ok.has x (.inl hk);obtain ⟨w',z⟩:=I.cell x c hc;refine wpAny_storeName_cell I.ok.kind hk hc z (λh' hc' hs=>?_);obtain ⟨oc,hoc,hocd⟩:=id z;refine h { s with heap:=h' } ⟨I.ok,I.os,I.bare,⟨λb o e n hb hx=>?_,λb o e n hb hx=>?_,I.base.free,λb o e hx=>?_,I.base.ue,I.base.qv,I.base.qg⟩,⟨m,hn.sameBut hs (Ne.symm (FH x c hc)),λj y v' e1 e2 e3=>?_⟩,λy c' e=>?_,I.free,I.kO,λp hp=>?_,tracked ⟨oc,hoc,I.kO x c hc⟩ hs,by simpa using I.len⟩ ⟨c,hs,.inr hc⟩
  .exact (hs.2 b (LF (LJ (Lv e) (I.ok.HE x c hfn hc)))).trans (I.base.keep b o e n hb hx)
  .obtain ⟨sl,e1⟩:=I.base.slot b o e n hb hx;exact ⟨sl,(hs.2 b (LF (LJ (Lv e) (I.ok.HE x c hfn hc)))).trans e1⟩
  .obtain ⟨o',e1⟩:=I.base.there b o e hx;exact ⟨o',(hs.2 b (LF (LJ (Lv e) (I.ok.HE x c hfn hc)))).trans e1⟩
  .by_cases hj:j=i
   .subst hj;rw[hi] at e1;cases e1;rw[List.getElem?_set_self hiσ] at e2;cases e2;exact ⟨u,r,.inr ⟨.inl hk,c,hc,hc'⟩⟩
   .rw[List.getElem?_set_ne (Ne.symm hj)] at e2;obtain ⟨u',r',q⟩:=hl j y v' e1 e2 e3;refine ⟨u',r',?_⟩;rcases q with q | ⟨k,c',e,z'⟩
    .exact .inl q
    .refine .inr ⟨k,c',e,z'.sameBut hs ?_⟩;rintro rfl;exact hj (vn hN e1 (I.ok.inj _ _ _ e hc ▸ hi))
  .by_cases hcc:c'=c
   .subst hcc;exact ⟨_,hc'⟩
   .obtain ⟨w2,z2⟩:=I.cell y c' e;exact ⟨w2,z2.sameBut hs hcc⟩
  .obtain ⟨e,n,ne,nf,d⟩:=I.pin p hp;refine ⟨(hs.2 p.1 ?_).trans e,n,ne,nf,d⟩;intro q;rw[q,hoc] at e;have q':oc=p.2:=Option.some.inj e;exact d w' (by rw[<-q'];exact hocd)
theorem qc {M:Model}{A:LQ}{E:Lg->Li->Prop}{i:Nat}{x:Str}{v:V}{u:Lg}{Q:Unit->Li->Prop}(I:Inv X pins σ H s)(hN:X.N.Nodup)(hi:X.N[i]?=some x)(hx:Loc X.env.scope x)(r:RelV v u)
  (h:∀s',Inv X pins (σ.set i (some v)) H s'->Q () s') (hf:autoParam (X.fn x=true\/X.env.scope.names.lookup x=some .local) aZd._auto_1):wpAny M A (storeName X.env x u) Q E s:=
 rY I hN hi hx r (λs' I' _=>h s' I') hf
theorem Inv.HF {s':Li}{ch:List Addr}(I:Inv X pins σ H s)(ho:s'.os=s.os)(u:Un (AS X.stack) ch H H' s.heap s'.heap)(bC:kF X.prog X.w H' s'.heap)(hg:AllBare s'.gens)
  (hch:∀b∈ch,(b∈X.ex\/X.s₀.heap.objs.size<=b)/\b≠X.env.locals/\(∀x c,X.env.cells.lookup x=some c->c≠b)/\∀p∈X.pn++pins,p.1≠b):Inv X pins σ H' s':=by
 obtain ⟨h',g',d',t',o'⟩:=s';have e:o'=s.os:=ho;subst e;exact I.call (g':=g') (t':=t') (d':=d') u bC hg hch
end
noncomputable abbrev XK:=Lg->Option Addr->Hp->Prop
noncomputable abbrev St:=List (Option V)
noncomputable abbrev VK:=V->Hp->Prop
noncomputable abbrev TE:=St->Hp->VK->Prop
noncomputable abbrev TT:=St->Hp->(Bool->Hp->Prop)->Prop
noncomputable abbrev TA:=St->Hp->(List V->Hp->Prop)->Prop
structure Ends where
 nx:St->Hp->Prop
 rt:VK
 bk:St->Hp->Prop:=λ_ _=>False
 ct:St->Hp->Prop:=λ_ _=>False
noncomputable abbrev TS:=Ends->St->Hp->Prop
noncomputable def EP (X:Cx)(pins:List (Addr×Obj))(σ:St)(Q:VK)(u:Lg)(s':Li):Prop:=∃v H',Inv X pins σ H' s'/\RelV v u/\Q v H'
noncomputable def TP (X:Cx)(pins:List (Addr×Obj))(σ:St)(Q:Bool->Hp->Prop)(b:Bool)(s':Li):Prop:=∃H',Inv X pins σ H' s'/\Q b H'
noncomputable def AP (X:Cx)(pins:List (Addr×Obj))(σ:St)(Q:List V->Hp->Prop)(us:List Lg)(s':Li):Prop:=∃vs H',Inv X pins σ H' s'/\Vals vs us/\Q vs H'
noncomputable def SP (X:Cx)(pins:List (Addr×Obj))(D:Ends)(f:Flow)(s':Li):Prop:=
 match f with
 | .next=>∃σ' H',Inv X pins σ' H' s'/\D.nx σ' H'
 | .brk=>∃σ' H',Inv X pins σ' H' s'/\D.bk σ' H'
 | .cont=>∃σ' H',Inv X pins σ' H' s'/\D.ct σ' H'
 | .ret u=>∃v σ' H',Inv X pins σ' H' s'/\RelV v u/\D.rt v H'
noncomputable def PE (X:Cx)(e:Expr)(t:TE):Prop:=
 ∀(pins:List (Addr×Obj)) (s:Li) (σ:St) (H:Hp) (Q:VK),Inv X pins σ H s->t σ H Q->wpAny (model X.prog X.w) X.A (eval e X.env) (EP X pins σ Q) X.xe s
noncomputable def PT (X:Cx)(e:Expr)(t:TT):Prop:=
 ∀(pins:List (Addr×Obj)) (s:Li) (σ:St) (H:Hp) (Q:Bool->Hp->Prop),Inv X pins σ H s->t σ H Q->wpAny (model X.prog X.w) X.A (isTrue e X.env (eval e X.env)) (TP X pins σ Q) X.xe s
noncomputable def PW (X:Cx)(e:Expr)(t:TT):Prop:=
 ∀(whole:Sem Lg) (pins:List (Addr×Obj)) (s:Li) (σ:St) (H:Hp) (Q:Bool->Hp->Prop),Inv X pins σ H s->t σ H Q->wpAny (model X.prog X.w) X.A (isTrue e X.env whole) (TP X pins σ Q) X.xe s
theorem PW.pt {X:Cx}{e:Expr}{t:TT}(h:PW X e t):PT X e t:=h _
noncomputable def PA (X:Cx)(es:List Expr)(t:TA):Prop:=
 ∀(pos:Pos) (pins:List (Addr×Obj)) (s:Li) (σ:St) (H:Hp) (Q:List V->Hp->Prop),Inv X pins σ H s->t σ H Q->wpAny (model X.prog X.w) X.A (spliced (backTo pos (starEach es X.env))) (AP X pins σ Q) X.xe s
noncomputable def PS (X:Cx)(st:Stmt)(t:TS):Prop:=
 ∀(pins:List (Addr×Obj)) (s:Li) (σ:St) (H:Hp) (D:Ends),Inv X pins σ H s->t D σ H->wpAny (model X.prog X.w) X.A (exec st X.env) (SP X pins D) X.xe s
noncomputable def oH (X:Cx)(st:List Stmt)(t:TS):Prop:=
 ∀(pins:List (Addr×Obj)) (s:Li) (σ:St) (H:Hp) (D:Ends),Inv X pins σ H s->t D σ H->wpAny (model X.prog X.w) X.A (execs st X.env) (SP X pins D) X.xe s
theorem cj {α:Type}{t:Sem α}{Q Q':α->Li->Prop}{M:Model}{A:LQ}{E:Lg->Li->Prop}{s:Li}(h:wpAny M A t Q E s)(hQ:∀a s,Q a s->Q' a s):wpAny M A t Q' E s:=wpAny_mono h hQ λ_ _ x=>x
end L2
namespace L2
open PySem PySem.Spec PyProof.Rows
section
variable {X:Cx}
theorem bin {a b:Expr}{ta tb:TE}(ha:PE X a ta)(hb:PE X b tb){pins:List (Addr×Obj)}{s:Li}{σ:St}{H:Hp}{R:V->V->Hp->Prop}(I:Inv X pins σ H s)(h:ta σ H λx H1=>tb σ H1 λy H2=>R x y H2)
  {α:Type} {Q:α->Li->Prop} {f:Lg->Lg->Sem α}
  (hf:∀v u s2 x y H2,Inv X pins σ H2 s2->RelV x v->RelV y u->R x y H2->wpAny (model X.prog X.w) X.A (f v u) Q X.xe s2) :
  wpAny (model X.prog X.w) X.A (eval a X.env) (λv s₁=>wpAny (model X.prog X.w) X.A (eval b X.env) (λu s₂=>wpAny (model X.prog X.w) X.A (f v u) Q X.xe s₂) X.xe s₁) X.xe s:=by
 refine cj (ha pins s σ H _ I h) ?_;rintro v s1 ⟨x,H1,I1,r1,q1⟩;refine cj (hb pins s1 σ H1 _ I1 q1) ?_;rintro u s2 ⟨y,H2,I2,r2,q2⟩;exact hf v u s2 x y H2 I2 r1 r2 q2
noncomputable def Hd (i:Nat):TE:=λσ H Q=>∃v,σ[i]?=some (some v)/\Q v H
noncomputable def tC (v:V):TE:=λ_ H Q=>Q v H
theorem dF {i:Nat}{x:Str}{pos:Pos}(hN:X.N[i]?=some x)(hv:uk X.env.scope x)(hd:autoParam ((x == ("__debug__" : Str))=false) aZb._auto_1)(hcd:autoParam ((x == ("__classdict__" : Str))=false) aZb._auto_1):PE X (.Name x pos) (Hd i):=by
 intro pins s σ H Q I h;obtain ⟨v,e,h⟩:=h;obtain ⟨m,hn,hl⟩:=I.loc;obtain ⟨u,r,l⟩:=hl i x v hN e hv;have fin:EP X pins σ Q u s:=⟨v,H,I,r,h⟩
 rcases l with ⟨hk,hm⟩ | ⟨hk,c,hc,hcell⟩
 .exact wpAny_Name (wpAny_loadName_local I.ok.kind hk hn hm fin) hd
 .rcases hk with hk | hk
  .exact wpAny_Name (wpAny_loadName_cell I.ok.kind hk hc hcell fin) hd
  .exact wpAny_Name (wpAny_loadName_free I.ok.kind hk hc hcell fin hcd) hd
theorem Ck {i j pos}:PE X (.Constant (.int i) j pos) (tC (.int i)):=λ_ _ _ H _ I h=>wpAny_Constant_int ⟨.int i,H,I.tok _,⟨_,rfl⟩,h⟩
theorem Iz {b j pos}:PE X (.Constant (.bool b) j pos) (tC (.bl b)):=λ_ _ _ H _ I h=>Constant_bool ⟨.bl b,H,I,rfl,h⟩
theorem GF {j pos}:PE X (.Constant .none j pos) (tC .non):=λ_ _ _ H _ I h=>Constant_none ⟨.non,H,I,rfl,h⟩
noncomputable def Gl (X:Cx)(x:Str):Prop:=X.env.kindOf x=some .globalImplicit
theorem yB {E:Lg->Li->Prop}{pins:List (Addr×Obj)}{s:Li}{σ:St}{H:Hp}{x:Str}{u:Lg}{pos:Pos}{Q:Lg->Li->Prop}(I:Inv X pins σ H s)(hg:Gl X x)(hm:X.mg x=some u)(h:Q u s)
  (hd:autoParam ((x == ("__debug__" : Str))=false) aZb._auto_1):wpAny (model X.prog X.w) X.A (eval (.Name x pos) X.env) Q E s:=
 Calls.Name_function_global I.ok.kind hg (Calls.loadGlobal_global (by rw[I.ok.glob];exact I.mod.glob.keeps I.bk) hm h) hd
theorem iG {E:Lg->Li->Prop}{pins:List (Addr×Obj)}{s:Li}{σ:St}{H:Hp}{x:Str}{u:Lg}{pos:Pos}{Q:Lg->Li->Prop}(I:Inv X pins σ H s)(hg:Gl X x)(hm:X.mg x=none)(hv:bootBuiltins x=some u)(h:Q u s)
  (hn:autoParam (x≠"__name__") aZb._auto_1) (hd:autoParam ((x == ("__debug__" : Str))=false) aZb._auto_1):wpAny (model X.prog X.w) X.A (eval (.Name x pos) X.env) Q E s:=by
 obtain ⟨mb,h1,h2⟩:=I.mod.blt;exact Calls.Name_function_global I.ok.kind hg (Calls.loadGlobal_builtin (by rw[I.ok.glob];exact I.mod.glob.keeps I.bk) hm (by rw[I.ok.blt];exact h1.keeps I.bk) ((h2 x hn).trans hv) h) hd
theorem mC {x:Str}{v:V}{u:Lg}{pos:Pos}(hg:Gl X x)(hm:X.mg x=some u)(r:RelV v u)(hd:autoParam ((x == ("__debug__" : Str))=false) aZb._auto_1):PE X (.Name x pos) (tC v):=
 λ_ _ _ H _ I h=>yB I hg hm ⟨v,H,I,r,h⟩ hd
theorem yN {x:Str}{v:V}{u:Lg}{pos:Pos}(hg:Gl X x)(hm:X.mg x=none)(hv:bootBuiltins x=some u)(r:RelV v u)(hn:autoParam (x≠"__name__") aZb._auto_1)(hd:autoParam ((x == ("__debug__" : Str))=false) aZb._auto_1):PE X (.Name x pos) (tC v):=
 λ_ _ _ H _ I h=>iG I hg hm hv ⟨v,H,I,r,h⟩ hn hd
variable {a b:Expr} {ta tb:TE} {pos:Pos}
noncomputable def PC (X:Cx)(op:CmpOp)(a b:Expr)(t:TE):Prop:=
 ∀(pins:List (Addr×Obj)) (s:Li) (σ:St) (H:Hp) (Q:VK),Inv X pins σ H s->t σ H Q ->
  wpAny (model X.prog X.w) X.A (eval a X.env) (λv s₁=>wpAny (model X.prog X.w) X.A (eval b X.env) (λu s₂=>wpAny (model X.prog X.w) X.A (compareOp op v u) (EP X pins σ Q) X.xe s₂) X.xe s₁) X.xe s
theorem Ca (b:Expr){op:CmpOp}(h:op≠.In)(h2:op≠.NotIn):behindInMarks op b=false:=by
 have e1:(op == CmpOp.In)=false:=by cases op<;>first | rfl | exact absurd rfl h
 have e2:(op == CmpOp.NotIn)=false:=by cases op<;>first | rfl | exact absurd rfl h2
 cases b<;>simp[behindInMarks,e1,e2]
noncomputable def tB (t:TE):TT:=λσ H Q=>t σ H λx H1=>∃c,x=.bl c/\Q c H1
theorem J9 {op:CmpOp}{t:TE}(h:PC X op a b t)(h1:behindInMarks op b=false:=by first | exact Ca _ (by decide) (by decide) | rfl):PT X (.Compare a [op] [b] pos) (tB t):=by
 intro pins s σ H Q I hw;refine wpAny_isTrue_Compare1 (cj (h pins s σ H _ I hw) λv s1 h1=>cj h1 λu s2 h2=>cj h2 ?_) h1;rintro c s3 ⟨x,H1,I1,r1,q1⟩;obtain ⟨d,rfl,q⟩:=q1;cases r1;exact wpAny_truthy_bool ⟨H1,I1,q⟩
theorem GI {e:Expr}{t:TE}(h:PE X e t)(he:autoParam (∀whole,isTrue e X.env whole=(do let v <-whole;standAt e.pos;holding [v] (truthy v))) aZc._auto_1):PT X e (tB t):=by
  intro pins s σ H Q I hw;refine isTrue_plain (cj (h pins s σ H _ I hw) ?_) (he _);rintro v s1 ⟨x,H1,I1,r1,q1⟩;obtain ⟨d,rfl,q⟩:=q1;cases r1;exact wpAny_truthy_bool ⟨H1,I1,q⟩
variable {tA tB':TT} {rest:List Expr}
noncomputable def Jc (t u:TT):TT:=λσ H Q=>t σ H λc H1=>if c=true then u σ H1 Q else Q false H1
noncomputable def KR (t u:TT):TT:=λσ H Q=>t σ H λc H1=>if c=true then Q true H1 else u σ H1 Q
noncomputable def Kq (t:TT):TT:=λσ H Q=>t σ H λc H1=>Q (!c) H1
theorem Ex (ha:PT X a tA):PW X (.BoolOp .And [a] pos) tA:=by
 intro wh pins s σ H Q I h;refine isTrue_and (cj (ha pins s σ H Q I h) λc s1 e=>?_);cases c with
 | true=>exact isTrue_and_nil e
 | false=>exact e
theorem GL (ha:PT X a tA):PW X (.BoolOp .Or [a] pos) tA:=by
 intro wh pins s σ H Q I h;refine isTrue_or (cj (ha pins s σ H Q I h) λc s1 e=>?_);cases c with
 | false=>exact isTrue_or_nil e
 | true=>exact e
theorem GJ (ha:PT X a tA)(hb:PW X (.BoolOp .And (b::rest) pos) tB'):PW X (.BoolOp .And (a::b::rest) pos) (Jc tA tB'):=by
 intro wh pins s σ H Q I h;refine isTrue_and (cj (ha pins s σ H _ I h) ?_);rintro c s1 ⟨H1,I1,q1⟩;cases c with
 | true=>exact hb wh pins s1 σ H1 Q I1 q1
 | false=>exact ⟨H1,I1,q1⟩
theorem IF (ha:PT X a tA)(hb:PW X (.BoolOp .Or (b::rest) pos) tB'):PW X (.BoolOp .Or (a::b::rest) pos) (KR tA tB'):=by
 intro wh pins s σ H Q I h;refine isTrue_or (cj (ha pins s σ H _ I h) ?_);rintro c s1 ⟨H1,I1,q1⟩;cases c with
 | true=>exact ⟨H1,I1,q1⟩
 | false=>exact hb wh pins s1 σ H1 Q I1 q1
theorem GH (ha:PT X a tA):PT X (.UnaryOp .Not a pos) (Kq tA):=by
 intro pins s σ H Q I h;exact isTrue_not (ha pins s σ H (λc H1=>Q (!c) H1) I h)
end
end L2
namespace L2
open PySem PySem.Spec PyProof.Rows
noncomputable def dA (K:Frag)(H:Hp)(a:Addr)(xs:List V):Prop:=
 Rd H a (.lst xs) \/
  ∃(o:Obj) (its:Array Lg) (n:Nat),K.lookup a=some o/\o.cls=.type "list"/\o.dict=none/\o.data=.seq its n/\its.size<=sizeLine/\Vals xs its.toList
noncomputable def i7 (K:Frag)(H:Hp)(a:Addr)(xs:List V):Prop:=
 Rd H a (.tup xs) \/
  ∃(o:Obj) (its:Array Lg) (n:Nat),K.lookup a=some o/\o.cls=.type "tuple"/\o.data=.seq its n/\its.size<=sizeLine/\Vals xs its.toList
noncomputable def JP:Lg->Option V
 | .none=>some .non
 | .bool b=>some (.bl b)
 | .int i _=>some (.int i)
 | .str x _=>some (.str x)
 | .bytes b _=>some (.byt b)
 | .float b _=>some (.flt b)
 | .ref a=>some (.ref a)
 | .type n=>some (.ty n)
 | _=>none
theorem RelV.abs {x:V}{u:Lg}(r:RelV x u):JP u=some x:=by
 cases x with
 | non=>cases r;rfl
 | bl _=>cases r;rfl
 | int _=>obtain ⟨t,rfl⟩:=r;rfl
 | str _=>obtain ⟨t,rfl⟩:=r;rfl
 | byt _=>obtain ⟨t,rfl⟩:=r;rfl
 | flt _=>obtain ⟨t,rfl⟩:=r;rfl
 | ref _=>cases r;rfl
 | ty _=>cases r;rfl
theorem RelV.inj {x y:V}{u:Lg}(r:RelV x u)(q:RelV y u):x=y:=Option.some.inj (r.abs.symm.trans q.abs)
theorem Vals.inj:∀{xs ys:List V} {us:List Lg},Vals xs us->Vals ys us->xs=ys
 | _,_,_,.nil,.nil=>rfl
 | _,_,_,.cons r t,.cons r' t'=>by rw[r.inj r',Vals.inj t t']
section
variable {X:Cx} {pins:List (Addr×Obj)} {σ:St} {H:Hp} {s:Li} {a:Addr} {xs ys:List V}
theorem dA.of {K:Frag}(h:H a=some (.lst xs)):dA K H a xs:=.inl (.inl h)
theorem Inv.list (I:Inv X pins σ H s)(h:dA X.K H a xs):∃its:List Lg,Vals xs its/\PlainL s.heap a its.toArray/\xs.length<=sizeLine:=by
  rcases h with h | ⟨o,its,n,hk,hc,hd,hs,hz,r⟩
  · obtain ⟨z,its,n,r,e⟩:=h.ok I.bC;exact ⟨its,r,⟨_,n,e,rfl,rfl,rfl⟩,z⟩
  · refine ⟨its.toList, r, ⟨o, n, I.qx a o hk, hc, hd, by simpa using hs⟩, ?_⟩;have e:=r.length;simp only[Lw] at e;lia
theorem Inv.tuple (I:Inv X pins σ H s)(h:i7 X.K H a xs):∃its:List Lg,Vals xs its/\IsTup s.heap a its.toArray/\xs.length<=sizeLine:=by
  rcases h with h | ⟨o,its,n,hk,hc,hs,hz,r⟩
  · obtain ⟨z,its,r,p⟩:=h.ok I.bC;exact ⟨its,r,p,z⟩
  · refine ⟨its.toList, r, ⟨o, I.qx a o hk, hc, n, by simpa using hs⟩, ?_⟩;have e:=r.length;simp only[Lw] at e;lia
theorem Inv.BX (I:Inv X pins σ H s)(h:dA X.K H a xs)(h':dA X.K H a ys):xs=ys:=by
 obtain ⟨its,r,⟨o,n,e,_,_,d⟩,_⟩:=I.list h;obtain ⟨its',r',⟨o',n',e',_,_,d'⟩,_⟩:=I.list h';rw[e] at e';cases e';rw[d] at d';injection d' with d1 _
 have:its=its':=by simpa using congrArg Array.toList d1
 subst this;exact r.inj r'
theorem Inv.AK (I:Inv X pins σ H s)(h:i7 X.K H a xs)(h':i7 X.K H a ys):xs=ys:=by
 obtain ⟨its,r,⟨o,e,_,n,d⟩,_⟩:=I.tuple h;obtain ⟨its',r',⟨o',e',_,n',d'⟩,_⟩:=I.tuple h';rw[e] at e';cases e';rw[d] at d';injection d' with d1 _
 have:its=its':=by simpa using congrArg Array.toList d1
 subst this;exact r.inj r'
end
noncomputable abbrev Cx.qK (X:Cx)(E:Lg->Li->Prop):Cx:={ X with xe:=E }
noncomputable abbrev Cx.E7 (X:Cx):Cx:=X.qK λ_ _=>False
theorem Cx.Ok.qK {X:Cx}(ok:X.Ok)(E:Lg->Li->Prop):(X.qK E).Ok:=
 ⟨ok.mod,ok.kind,ok.glob,ok.blt,ok.above,ok.inj,ok.has,ok.HE,ok.hd,ok.frames,ok.JA,ok.Jt,ok.bs,ok.ET,ok.Cc,ok.Bv,ok.o9,ok.Ho⟩
theorem Cx.Ok.j5 {X:Cx}{E:Lg->Li->Prop}(ok:(X.qK E).Ok):X.Ok:=
 ⟨ok.mod,ok.kind,ok.glob,ok.blt,ok.above,ok.inj,ok.has,ok.HE,ok.hd,ok.frames,ok.JA,ok.Jt,ok.bs,ok.ET,ok.Cc,ok.Bv,ok.o9,ok.Ho⟩
section
variable {X:Cx} {pins:List (Addr×Obj)} {σ:St} {H:Hp} {s:Li} {E:Lg->Li->Prop}
theorem Inv.qK (I:Inv X pins σ H s)(E:Lg->Li->Prop):Inv (X.qK E) pins σ H s:=⟨I.ok.qK E,I.os,I.bare,I.base,I.loc,I.cell,I.free,I.kO,I.pin,I.bC,I.len⟩
theorem Inv.j5 (I:Inv (X.qK E) pins σ H s):Inv X pins σ H s:=⟨I.ok.j5,I.os,I.bare,I.base,I.loc,I.cell,I.free,I.kO,I.pin,I.bC,I.len⟩
theorem SP.j5 {D:Ends}{f:Flow}{s':Li}(h:SP (X.qK E) pins D f s'):SP X pins D f s':=by
 cases f with
 | next=>obtain ⟨σ',H',I,q⟩:=h;exact ⟨σ',H',I.j5,q⟩
 | brk=>obtain ⟨σ',H',I,q⟩:=h;exact ⟨σ',H',I.j5,q⟩
 | cont=>obtain ⟨σ',H',I,q⟩:=h;exact ⟨σ',H',I.j5,q⟩
 | ret u=>obtain ⟨v,σ',H',I,r,q⟩:=h;exact ⟨v,σ',H',I.j5,r,q⟩
theorem oH.E7 {st:List Stmt}{t:TS}(h:oH X.E7 st t):oH X st t:=λpins s σ H D I hw =>
 wpAny_mono (h pins s σ H D (I.qK _) hw) (λ_ _ q=>q.j5) λ_ _ z=>False.elim z
end
section
variable {X:Cx} {st:Stmt} {rest:List Stmt} {t u:TS} {e:Expr} {te:TE} {pos:Pos}
noncomputable def Jf:TS:=λD σ H=>D.nx σ H
noncomputable def Kt (t u:TS):TS:=λD σ H=>t { D with nx:=u D } σ H
theorem yT:oH X [] Jf:=λ_ _ σ H _ I h=>wpAny_execs_nil ⟨σ,H,I,h⟩
theorem vG (h1:PS X st t)(h2:oH X rest u):oH X (st::rest) (Kt t u):=by
 intro pins s σ H D I h;refine wpAny_execs_cons (cj (h1 pins s σ H { D with nx:=u D } I h) λf s1 q=>?_);cases f with
 | next =>
  obtain ⟨σ',H',I',q⟩:=q;exact h2 pins s1 σ' H' D I' q
 | ret v=>exact q
 | brk=>exact q
 | cont=>exact q
theorem yU (h1:PS X st t):oH X [st] t:=by
 intro pins s σ H D I h;refine wpAny_execs_cons (cj (h1 pins s σ H D I h) λf s1 q=>?_);cases f with
 | next=>exact wpAny_execs_nil q
 | ret v=>exact q
 | brk=>exact q
 | cont=>exact q
theorem Inv.quiet {pins:List (Addr×Obj)}{σ:St}{H:Hp}{s:Li}(I:Inv X pins σ H s):interactive X.env=false:=by simp[interactive,I.ok.kind]
noncomputable def Je (te:TE):TS:=λD σ H=>te σ H λ_ H1=>D.nx σ H1
theorem oz (he:PE X e te)(hs:autoParam (swapsWith e none pos.line X.env=pure false) aZa._auto_1):PS X (.Expr e pos) (Je te):=by
 intro pins s σ H D I h;exact wpAny_Expr_any (cj (he pins s σ H _ I h) (by rintro v s1 ⟨x,H1,I1,r1,q1⟩;exact ⟨σ,H1,I1,q1⟩)) I.quiet hs
noncomputable def Ks (te:TE):TS:=λD σ H=>te σ H D.rt
theorem xf (he:PE X e te):PS X (.Return (some e) pos) (Ks te):=by
 intro pins s σ H D I h;exact wpAny_Return_some (cj (he pins s σ H _ I h) (by rintro v s1 ⟨x,H1,I1,r1,q1⟩;exact ⟨x,σ,H1,I1,r1,q1⟩))
noncomputable def Kn (c:TT)(t u:TS):TS:=λD σ H=>c σ H λb H1=>if b=true then t D σ H1 else u D σ H1
theorem E9 {c:Expr}{a b:List Stmt}{tc:TT}(hc:PT X c tc)(ha:oH X a t)(hb:oH X b u):PS X (.If c a b pos) (Kn tc t u):=by
 intro pins s σ H D I h;refine wpAny_If (cj (hc pins s σ H _ I h) ?_);rintro d s1 ⟨H1,I1,q1⟩;cases d with
 | true=>exact ha pins s1 σ H1 D I1 q1
 | false=>exact hb pins s1 σ H1 D I1 q1
end
noncomputable abbrev TG:=V->St->Hp->(St->Hp->Prop)->Prop
noncomputable abbrev ER:=List V->St->Hp->(St->Hp->Prop)->Prop
noncomputable def PG (X:Cx)(target:Expr)(t:TG):Prop:=
 ∀(pins:List (Addr×Obj)) (s:Li) (σ:St) (H:Hp) (v:V) (u:Lg) (Q:St->Hp->Prop),Inv X pins σ H s->RelV v u->t v σ H Q ->
  wpAny (model X.prog X.w) X.A (assign target X.env u) (λ_ s'=>∃σ' H',Inv X pins σ' H' s'/\Q σ' H') X.xe s
noncomputable def Jp (X:Cx)(ts:List Expr)(t:ER):Prop:=
 ∀(pins:List (Addr×Obj)) (s:Li) (σ:St) (H:Hp) (vs:List V) (us:List Lg) (Q:St->Hp->Prop),Inv X pins σ H s->Vals vs us->t vs σ H Q ->
  wpAny (model X.prog X.w) X.A (assignInOrder ((assignEach ts X.env).map (·.2)) us) (λ_ s'=>∃σ' H',Inv X pins σ' H' s'/\Q σ' H') X.xe s
noncomputable abbrev g9:=V->V->V->Hp->(Hp->Prop)->Prop
noncomputable def Dd (X:Cx)(t:g9):Prop:=
 ∀(pins:List (Addr×Obj)) (s:Li) (σ:St) (H:Hp) (o i v:V) (ov iv u:Lg) (Q:Hp->Prop),Inv X pins σ H s->RelV o ov->RelV i iv->RelV v u->t o i v H Q ->
  wpAny (model X.prog X.w) X.A (setItem ov iv u) (λ_ s'=>∃H',Inv X pins σ H' s'/\Q H') X.xe s
noncomputable abbrev Hn:=V->V->Hp->VK->Prop
noncomputable def Hx (X:Cx)(op:Operator)(t:Hn):Prop:=
 ∀(pins:List (Addr×Obj)) (s:Li) (σ:St) (H:Hp) (x y:V) (v u:Lg) (Q:VK),Inv X pins σ H s->RelV x v->RelV y u->t x y H Q ->
  wpAny (model X.prog X.w) X.A (inplaceOp op v u) (EP X pins σ Q) X.xe s
section
variable {X:Cx} {pos:Pos}
noncomputable def uP (i:Nat):TG:=λv σ H Q=>Q (σ.set i (some v)) H
theorem au {i:Nat}{x:Str}(hN:X.N.Nodup)(hi:X.N[i]?=some x)(hx:Loc X.env.scope x)(hf:autoParam (X.fn x=true\/X.env.scope.names.lookup x=some .local) aZd._auto_1):PG X (.Name x pos) (uP i):=by
 intro pins s σ H v u Q I r h;exact wpAny_assign_Name (qc I hN hi hx r (λs' I'=>⟨_,H,I',h⟩) hf)
noncomputable def HS:ER:=λvs σ H Q=>vs = []/\Q σ H
noncomputable def E3 (t:TG)(u:ER):ER:=λvs σ H Q=>∃v r,vs=v::r/\t v σ H λσ' H'=>u r σ' H' Q
theorem dS:Jp X [] HS:=by
 intro pins s σ H vs us Q I r h;obtain ⟨e,h⟩:=h;subst e;cases r;exact assignInOrder_nil ⟨σ,H,I,h⟩
theorem az {e:Expr}{es:List Expr}{t:TG}{u:ER}(h1:PG X e t)(h2:Jp X es u)
  (hs:autoParam ((assignEach (e::es) X.env).map (·.2)=assign e X.env::(assignEach es X.env).map (·.2)) aZa._auto_1):Jp X (e::es) (E3 t u):=by
 intro pins s σ H vs us Q I r h;obtain ⟨v,vr,e1,h⟩:=h;subst e1;cases r with
 | cons r rr =>
  rw[hs];refine assignInOrder_cons (cj (h1 pins s σ H _ _ _ I r h) ?_);rintro _ s1 ⟨σ1,H1,I1,q1⟩;exact h2 pins s1 σ1 H1 _ _ Q I1 rr q1
noncomputable def JS (to ti:TE)(t:g9):TG:=λv σ H Q=>to σ H λo H1=>ti σ H1 λi H2=>t o i v H2 λH3=>Q σ H3
theorem wZ {o i:Expr}{to ti:TE}{t:g9}(ho:PE X o to)(hi:PE X i ti)(hs:Dd X t)
    (ha:autoParam (∀v,assign (.Subscript o i pos) X.env v=(do
      let ov <-holding [v] (eval o X.env)
      let iv <-holding [v,ov] (eval i X.env)
      standAt pos
      holding [v,ov,iv] (setItem ov iv v)
      release [v,ov,iv] [])) aZc._auto_1):PG X (.Subscript o i pos) (JS to ti t):=by
  intro pins s σ H v u Q I r h;rw[ha];refine Lh (wpAny_holding (cj (ho pins s σ H _ I h) ?_));rintro ov s1 ⟨x,H1,I1,r1,q1⟩;refine Lh (wpAny_holding (cj (hi pins s1 σ H1 _ I1 q1) ?_));rintro iv s2 ⟨y,H2,I2,r2,q2⟩;refine Lh (wpAny_standAt (Lh (wpAny_holding (cj (hs pins s2 σ H2 x y v ov iv u _ I2 r1 r2 r q2) ?_))));rintro _ s3 ⟨H3,I3,q3⟩;exact wpAny_release ⟨σ,H3,I3,q3⟩
noncomputable def Jd (te:TE)(g:TG):TS:=λD σ H=>te σ H λx H1=>g x σ H1 D.nx
theorem tN {tg e:Expr}{te:TE}{g:TG}(he:PE X e te)(hg:PG X tg g)(hs:autoParam (swapsWithSole [tg] e pos.line X.env=pure false) aZa._auto_1)(hw:autoParam (swappedStores [tg] e X.env=pure none) aZa._auto_1)
  (h1:autoParam ((assignEach [tg] X.env).map (·.2) = [assign tg X.env]) aZa._auto_1):PS X (.Assign [tg] e pos) (Jd te g):=by
 intro pins s σ H D I h;refine wpAny_Assign_stores (cj (he pins s σ H _ I h) ?_) hs hw;rintro v s1 ⟨x,H1,I1,r1,q1⟩;rw[h1];exact cj (hg pins s1 σ H1 x v _ I1 r1 q1) λ_ s2 q=>q
theorem lu {i:Nat}{x:Str}{e:Expr}{te:TE}{pos':Pos}(hN:X.N.Nodup)(hi:X.N[i]?=some x)(hx:Loc X.env.scope x)(he:PE X e te)(hs:autoParam (swapsWith e (some (.Name x pos')) pos.line X.env=pure false) aZa._auto_1)(hf:autoParam (X.fn x=true\/X.env.scope.names.lookup x=some .local) aZd._auto_1) :
  PS X (.Assign [.Name x pos'] e pos) (Jd te (uP i)):=by
 intro pins s σ H D I h;refine wpAny_Assign_Name (cj (he pins s σ H _ I h) ?_) hs;rintro v s1 ⟨y,H1,I1,r1,q1⟩;exact qc I1 hN hi hx r1 (λs2 I2=>⟨_,H1,I2,q1⟩) hf
noncomputable def Kl (i:Nat)(te:TE)(ti:Hn):TS:=λD σ H=>∃x,σ[i]?=some (some x)/\te σ H λy H1=>ti x y H1 λz H2=>D.nx (σ.set i (some z)) H2
theorem GG {i:Nat}{x:Str}{e:Expr}{te:TE}{op:Operator}{ti:Hn}{pos':Pos}(hN:X.N.Nodup)(hi:X.N[i]?=some x)(hx:Loc X.env.scope x)(he:PE X e te)(ho:Hx X op ti)(hf:autoParam (X.fn x=true\/X.env.scope.names.lookup x=some .local) aZd._auto_1) :
  PS X (.AugAssign (.Name x pos') op e pos) (Kl i te ti):=by
 intro pins s σ H D I h;obtain ⟨v,e1,h⟩:=h;obtain ⟨m,hn,hl⟩:=I.loc;have vis:uk X.env.scope x:=by rcases hx with k | k;exact .inl k;exact .inr (.inl k)
 obtain ⟨u,r,l⟩:=hl i x v hi e1 vis;refine wpAny_AugAssign_Name ?_;have go:wpAny (model X.prog X.w) X.A (eval e X.env) (λw s₂=>wpAny (model X.prog X.w) X.A (inplaceOp op u w) (λr s₃=>wpAny (model X.prog X.w) X.A (storeName X.env x r) (λ_=>SP X pins D .next) X.xe s₃) X.xe s₂) X.xe s:=by
  refine cj (he pins s σ H _ I h) ?_;rintro w s1 ⟨y,H1,I1,r1,q1⟩;refine cj (ho pins s1 σ H1 v y u w _ I1 r r1 q1) ?_;rintro z s2 ⟨zv,H2,I2,r2,q2⟩;exact qc I2 hN hi hx r2 (λs3 I3=>⟨_,H2,I3,q2⟩) hf
 rcases l with ⟨hk,hm⟩ | ⟨hk,c,hc,hcell⟩
 .exact wpAny_loadName_local I.ok.kind hk hn hm go
 .rcases hk with hk | hk
  .exact wpAny_loadName_cell I.ok.kind hk hc hcell go
  .rcases hx with k | k
   .have:X.env.scope.names.lookup x=some .free:=hk;rw[k] at this;cases this
   .have:X.env.scope.names.lookup x=some .free:=hk;rw[k] at this;cases this
noncomputable def Fi (to ti te:TE)(tget:V->V->Hp->VK->Prop)(tip:Hn)(tset:g9):TS:=λD σ H=>to σ H λo H1=>ti σ H1 λi H2=>tget o i H2 λx H3=>te σ H3 λy H4=>tip x y H4 λz H5=>tset o i z H5 λH6=>D.nx σ H6
noncomputable def Hw (X:Cx)(t:V->V->Hp->VK->Prop):Prop:=
 ∀(pins:List (Addr×Obj)) (s:Li) (σ:St) (H:Hp) (o i:V) (ov iv:Lg) (Q:VK),Inv X pins σ H s->RelV o ov->RelV i iv->t o i H Q ->
  wpAny (model X.prog X.w) X.A (getItem ov iv) (EP X pins σ Q) X.xe s
theorem Eu {o i e:Expr}{to ti te:TE}{tget:V->V->Hp->VK->Prop}{tip:Hn}{tset:g9}{op:Operator}{tpos:Pos}(ho:PE X o to)(hi:PE X i ti)(hg:Hw X tget)(he:PE X e te)(hp:Hx X op tip)(hs:Dd X tset)
    (ha:∀ov iv new,augStore i ov iv new=(do holding [new,ov,iv] (setItem ov iv new);release [new,ov,iv] [];pure .next):=by intros;rfl):PS X (.AugAssign (.Subscript o i tpos) op e pos) (Fi to ti te tget tip tset):=by
  intro pins s σ H D I h;refine wpAny_AugAssign_SubscriptAny (cj (ho pins s σ H _ I h) ?_) ha;rintro ov s1 ⟨x1,H1,I1,r1,q1⟩;refine cj (hi pins s1 σ H1 _ I1 q1) ?_;rintro iv s2 ⟨x2,H2,I2,r2,q2⟩;refine cj (hg pins s2 σ H2 x1 x2 ov iv _ I2 r1 r2 q2) ?_;rintro old s3 ⟨x3,H3,I3,r3,q3⟩;refine cj (he pins s3 σ H3 _ I3 q3) ?_;rintro v s4 ⟨x4,H4,I4,r4,q4⟩;refine cj (hp pins s4 σ H4 x3 x4 old v _ I4 r3 r4 q4) ?_;rintro new s5 ⟨x5,H5,I5,r5,q5⟩;exact cj (hs pins s5 σ H5 x1 x2 x5 ov iv new _ I5 r1 r2 r5 q5) (by rintro _ s6 ⟨H6,I6,q6⟩;exact ⟨σ,H6,I6,q6⟩)
noncomputable def Ju (f:Int->Int->Int):Hn:=λx y H Q=>∃i j,x=.int i/\y=.int j/\Q (.int (f i j)) H
theorem FU:Hx X .Add (Ju λi j=>i+j):=by
 intro pins s σ H x y v u Q I r1 r2 h;obtain ⟨i,j,e1,e2,q⟩:=h;subst e1;subst e2;obtain ⟨t,rfl⟩:=r1;obtain ⟨t',rfl⟩:=r2;exact iadd_int ⟨.int _,H,I.tok _,⟨_,rfl⟩,q⟩
theorem BK:Hx X .Sub (Ju λi j=>i - j):=by
 intro pins s σ H x y v u Q I r1 r2 h;obtain ⟨i,j,e1,e2,q⟩:=h;subst e1;subst e2;obtain ⟨t,rfl⟩:=r1;obtain ⟨t',rfl⟩:=r2;exact isub_int ⟨.int _,H,I.tok _,⟨_,rfl⟩,q⟩
end
section
variable {X:Cx} {pos:Pos}
noncomputable def He (c:TT)(tb:TS):TS:=λD σ H=>∃W:Nat->St->Hp->Prop,(∃m,W m σ H)/\∀m σ H,W m σ H ->
 c σ H λb H1=>if b=true then ∃N:St->Hp->Prop,(∀σ' H',N σ' H'->∃m',m'<m/\W m' σ' H')/\tb { D with nx:=N,ct:=N,bk:=D.nx } σ H1 else D.nx σ H1
theorem Cw {c:Expr}{body:List Stmt}{tc:TT}{tb:TS}(hp:PassesOwn (model X.prog X.w) X.A X.env X.xe)(hc:PT X c tc)(hb:oH X body tb):PS X (.While c body [] pos) (He tc tb):=by
 intro pins s σ H D I h;obtain ⟨W,⟨m0,w0⟩,turn⟩:=h;refine wpAny_While (codeAny_whileLoop (λn s'=>∃σ' H',Inv X pins σ' H' s'/\W n σ' H') ?_ m0 ⟨σ,H,I,w0⟩);rintro n s1 ⟨σ1,H1,I1,w1⟩;refine wpAny_passesOwn hp (cj (hc pins s1 σ1 H1 _ I1 (turn n σ1 H1 w1)) ?_);rintro b s2 ⟨H2,I2,q2⟩;cases b with
 | true =>
  obtain ⟨N,hN,q2⟩:=q2;rw[if_pos rfl];refine wpAny_passesOwn hp (cj (hb pins s2 σ1 H2 _ I2 q2) λf s3 q3=>?_);cases f with
  | next =>
   obtain ⟨σ3,H3,I3,n3⟩:=q3;obtain ⟨m',hm,w3⟩:=hN σ3 H3 n3;exact ⟨m',hm,σ3,H3,I3,w3⟩
  | cont =>
   obtain ⟨σ3,H3,I3,n3⟩:=q3;obtain ⟨m',hm,w3⟩:=hN σ3 H3 n3;exact ⟨m',hm,σ3,H3,I3,w3⟩
  | brk=>exact q3
  | ret v=>exact q3
 | false =>
  rw[if_neg LM];exact wpAny_execs_nil ⟨σ1,H2,I2,q2⟩
end
structure It where
 go:Nat->Hp->Prop
 C3:Nat->Hp->V->Hp->Prop
 stop:Nat->Hp->Prop
noncomputable def lG (X:Cx)(pins:List (Addr×Obj))(H:Hp)(b:Addr):Prop:=
 H b=none/\b≠X.env.locals/\b∉X.fs/\(b∈X.ex\/X.s₀.heap.objs.size<=b)/\(∀x c,X.env.cells.lookup x=some c->c≠b)/\∀p∈X.pn++pins,p.1≠b
theorem Inv.DH {X:Cx}{pins:List (Addr×Obj)}{σ:St}{H H':Hp}{s:Li}{b:Addr}(I:Inv X pins σ H s)(hb:s.heap.objs.size<=b)(hn:H' b=none):lG X pins H' b:=by
 refine ⟨hn,Nat.ne_of_gt (LJ I.lt hb),I.J7 hb,.inr (Nat.le_trans I.sz hb),λx c e z=>?_,λp hp z=>?_⟩
 .obtain ⟨v,q⟩:=I.cell x c e;exact absurd (LJ q.lt (by rw[z];exact hb)) (Nat.lt_irrefl _)
 .exact absurd (LJ (Lv (I.pin p hp).1) (by rw[z];exact hb)) (Nat.lt_irrefl _)
structure Turn (P:LH)(w:LR)(K:Frag)(tg:Expr)(J:It)(fp:List Addr)(it:Addr)(tn:Nat->Heap->Prop):Prop where
 mem:it∈fp
 obj:∀i h,tn i h->∀b∈fp,∃o,h.get? b=some o/\∀v,o.data≠.cell v
 keep:∀i h h',tn i h->(∀b∈fp,∀o,h.get? b=some o->h'.get? b=some o)->tn i h'
 item:∀(X:Cx),X.prog=P->X.w=w->X.K=K->X.calm=true->∀(i:Nat) (pins:List (Addr×Obj)) (s:Li) (σ:St) (H:Hp) (E:Lg->Li->Prop),Inv X pins σ H s->(∀b∈fp,lG X pins H b)->tn i s.heap->J.go i H ->
  wpAny (model P w) X.A (pyNext (.ref it)) (λr s1=>∃u,r=some u /\
   wpAny (model P w) X.A (letOwnedTupleGo tg (.ref it) u) (λ_ s2=>∃x H',Inv X pins σ H' s2/\RelV x u/\J.C3 i H x H'/\tn (i+1) s2.heap/\∀b∈fp,H' b=none) E s1) E s
 done:∀(X:Cx),X.prog=P->X.w=w->X.K=K->X.calm=true->∀(i:Nat) (pins:List (Addr×Obj)) (s:Li) (σ:St) (H:Hp) (E:Lg->Li->Prop),Inv X pins σ H s->(∀b∈fp,lG X pins H b)->tn i s.heap->J.stop i H ->
  wpAny (model P w) X.A (pyNext (.ref it)) (λr s1=>r=none/\Inv X pins σ H s1) E s
 self:∀(A:LQ) (i:Nat) (s:Li) (Q:Lg->Li->Prop) (E:Lg->Li->Prop),tn i s.heap->Q (.ref it) s->wpAny (model P w) A (pyIter (.ref it)) Q E s
noncomputable abbrev TI:=St->Hp->(It->Hp->Prop)->Prop
noncomputable def KC (X:Cx)(pins:List (Addr×Obj))(σ:St)(tg:Expr)(R:It->Hp->Prop)(itv:Lg)(s2:Li):Prop:=
 ∃(it:Addr) (fp:List Addr) (tn:Nat->Heap->Prop) (J:It) (H':Hp),itv=.ref it/\Inv X pins σ H' s2/\Turn X.prog X.w X.K tg J fp it tn/\tn 0 s2.heap/\(∀b∈fp,lG X pins H' b)/\R J H'
noncomputable def PI (X:Cx)(tg iter:Expr)(wi:TI):Prop:=
 ∀(pins:List (Addr×Obj)) (s:Li) (σ:St) (H:Hp) (R:It->Hp->Prop),Inv X pins σ H s->wi σ H R ->
  wpAny (model X.prog X.w) X.A (eval iter X.env) (λv s1=>wpAny (model X.prog X.w) X.A (pyIter v) (KC X pins σ tg R) X.xe s1) X.xe s
theorem E4 {M:Model}{A:LQ}{E:Lg->Li->Prop}{s:Li}{tg:Expr}{it:Addr}{u:Lg}{o:Obj}{n:String}{vs:Array Lg}{Q:Unit->Li->Prop}(ho:s.heap.get? it=some o)(hc:o.cls=.type n)(hd:o.data=.fields vs)
    (hn:["enumerate","zip","dict_itemiterator","dict_reverseitemiterator","odict_iterator","itertools.zip_longest","itertools.pairwise"].contains n=false) (hQ:Q () s):wpAny M A (letOwnedTupleGo tg (.ref it) u) Q E s:=by
  unfold letOwnedTupleGo;cases tg<;>first
    | exact Lj hQ
    | (cases u<;>first
        | exact Lj hQ
        | (refine Lh (wpAny_load ho ?_)
           rw[hc,hd];show wpAny M A (if (["enumerate","zip","dict_itemiterator","dict_reverseitemiterator","odict_iterator","itertools.zip_longest","itertools.pairwise"].contains n && vs[0]? == some (rawInt _))=true then _ else _) Q E s;rw[if_neg (by intro h;rw[hn,Bool.false_and] at h;cases h)];exact Lj hQ))
noncomputable def JG (K:Frag)(a:Addr):It:=
 ⟨λi H=>∃xs x,dA K H a xs/\xs[i]?=some x,λi H x H'=>H'=H/\∀xs,dA K H a xs->xs[i]?=some x,λi H=>∃xs,dA K H a xs/\xs.length<=i⟩
noncomputable def Ht (lo:Int)(n:Nat):It:=⟨λi _=>i<n,λi H x H'=>H'=H/\x=.int (lo+i),λi _=>n<=i⟩
theorem AM {P:LH}{w:LR}{K:Frag}{tg:Expr}(a it:Addr):Turn P w K tg (JG K a) [it] it (λi h=>h.IsListIter it a i) where
 mem:=by simp
 obj:=λi h st b hb=>by
  have e:b=it:=by simpa using hb
  subst e;obtain ⟨o,e,c,d⟩:=st;exact ⟨o,e,λv z=>by rw[d] at z;cases z⟩
 keep:=λi h h' st k=>st.at λo e=>k it (by simp) o e
 item:=by
  intro X hP hw hK hc i pins s σ H E I hf st hg;subst hP hw hK;obtain ⟨xs,x,hq,hx⟩:=hg;obtain ⟨its,rv,p,hz⟩:=I.list hq;obtain ⟨u,hu,ru⟩:=rv.get hx;obtain ⟨f0,f1,f2,f3,f4,f5⟩:=hf it (by simp);refine wpAny_pyNext_list_item st p.isList (x:=u) (by simpa using hu) λh' st' sb=>?_;have I1:Inv X pins σ H { s with heap:=h' }:=I.turned (t':=s.toks) (λb o hb e=>(sb.2 b hb).trans e) f0 f1 f3 f4 f5;obtain ⟨o,e,c,d⟩:=id st';exact ⟨u,rfl,E4 (s:={ s with heap:=h' }) e c d (by decide) ⟨x,H,I1,ru,⟨rfl,λys hy=>by rw[I.BX hy hq];exact hx⟩,st',λb hb=>(hf b hb).1⟩⟩
 done:=by
  intro X hP hw hK hc i pins s σ H E I hf st hg;subst hP hw hK;obtain ⟨xs,hq,hx⟩:=hg;obtain ⟨its,rv,p,hz⟩:=I.list hq;obtain ⟨f0,f1,f2,f3,f4,f5⟩:=hf it (by simp);have hl:=rv.length;exact wpAny_pyNext_list_end (I.ok.hd hc) st p.isList (by simp;lia) λh' eb=>⟨rfl,I.turned (t':=s.toks) (λb o hb e=>eb b o hb e) f0 f1 f3 f4 f5⟩
 self:=λ_ _ _ _ _ st h=>wpAny_pyIter_listiter st h
theorem xp {P:LH}{w:LR}{K:Frag}{tg:Expr}(it:Addr)(lo:Int)(n:Nat):Turn P w K tg (Ht lo n) [it] it (λi h=>IsRangeIter h it (lo+(i:Nat)*1) ((n:Int) - (i:Nat)) 1) where
 mem:=by simp
 obj:=λi h st b hb=>by
  have e:b=it:=by simpa using hb
  subst e;exact ⟨_,st,λv z=>by
   have z':Data.fields _=Data.cell v:=z;cases z'⟩
 keep:=λi h h' st k=>k it (by simp) _ st
 item:=by
  intro X hP hw hK hc i pins s σ H E I hf st hg;subst hP hw hK;obtain ⟨f0,f1,f2,f3,f4,f5⟩:=hf it (by simp);have W:=Walks.range (prog:=X.prog) (w:=X.w) (I.ok.hd hc) it lo 1 n;refine W.item i s _ _ hg st λv h' tk hv st' kk=>?_;obtain ⟨t,rfl⟩:=hv;have I1:Inv X pins σ H { s with heap:=h',toks:=tk }:=I.turned (λb o hb e=>kk b o (by simpa using hb) e) f0 f1 f3 f4 f5;refine ⟨_,rfl,E4 (s:={ s with heap:=h',toks:=tk }) (n:="range_iterator") st' rfl rfl (by decide) ⟨.int (lo+i),H,I1,⟨t,?_⟩,⟨rfl,rfl⟩,st',λb hb=>(hf b hb).1⟩⟩;rw[Int.mul_one]
 done:=by
  intro X hP hw hK hc i pins s σ H E I hf st hg;subst hP hw hK;obtain ⟨f0,f1,f2,f3,f4,f5⟩:=hf it (by simp);exact wpAny_pyNext_range_end (I.ok.hd hc) st (by have:n<=i:=hg;lia) λh' eb=>⟨rfl,I.turned (t':=s.toks) (λb o hb e=>eb b o hb e) f0 f1 f3 f4 f5⟩
 self:=λ_ _ _ _ _ st h=>wpAny_pyIter_rangeiter st h
end L2
namespace L2
open PySem PySem.Spec PyProof.Rows
section
variable {X:Cx} {tg:Expr}
noncomputable def HX (K:Frag)(tl:TE):TI:=λσ H R=>tl σ H λx H1=>∃a,x=.ref a/\(∃xs,dA K H1 a xs)/\R (JG K a) H1
theorem yQ {l:Expr}{tl:TE}(hl:PE X l tl):PI X tg l (HX X.K tl):=by
 intro pins s σ H R I h;refine cj (hl pins s σ H _ I h) ?_;rintro v s1 ⟨x,H1,I1,r1,q1⟩;obtain ⟨a,e,⟨xs,hq⟩,q⟩:=q1;subst e;cases r1;obtain ⟨its,rv,p,hz⟩:=I1.list hq;refine wpAny_pyIter_list p.isList ?_;refine ⟨s1.heap.objs.size,[s1.heap.objs.size],_,_,H1,rfl,I1.kept (t':=s1.toks) λb o e=>Ln _ e,AM a _,⟨_,LP _ rfl,rfl,rfl⟩,λb hb=>?_,q⟩;have e:b=s1.heap.objs.size:=by simpa using hb
 subst e;exact I1.DH (Ll _) (I1.bC.fresh (Ll _))
theorem vI {pins:List (Addr×Obj)}{σ:St}{H:Hp}{s:Li}{R:It->Hp->Prop}{E:Lg->Li->Prop}{lo hi:Int}{t u v:Tok}{tk:Nat}(I:Inv X pins σ H s)(h1 : -(2 ^ 62)<=lo)(h2:lo<2 ^ 62)(h3 : -(2 ^ 62)<=hi)(h4:hi<2 ^ 62)
    (q:R (Ht lo (hi - lo).toNat) H):wpAny (model X.prog X.w) X.A (pyIter (.ref s.heap.objs.size)) (KC X pins σ tg R) E { s with heap:=s.heap.push { cls:=.type "range",data:=.fields #[.int lo t,.int hi u,.int 1 v] },toks:=tk }:=by
  refine wpAny_pyIter_range (IsRange.new ..) (small_one h1 h2 h3 h4) ?_;have I1:Inv X pins σ H { s with heap:=s.heap.push { cls:=.type "range",data:=.fields #[.int lo t,.int hi u,.int 1 v] },toks:=tk }:=I.kept λb o e=>Ln _ e;refine ⟨(s.heap.push { cls:=.type "range",data:=.fields #[.int lo t,.int hi u,.int 1 v] }).objs.size,[(s.heap.push { cls:=.type "range",data:=.fields #[.int lo t,.int hi u,.int 1 v] }).objs.size],_,_,H,rfl,
    I1.kept (t':=tk) λb o e=>Ln _ e,xp _ lo (hi - lo).toNat,?_,λb hb=>?_,q⟩
  · have e1 : lo + ((0 : Nat):Int) * 1 = lo := by simp
    have e2:(((hi - lo).toNat:Nat):Int) - ((0:Nat):Int)=Builtin.Range.rangeSize lo hi 1:=by rw[rangeSize_one];split<;>lia
    show IsRangeIter _ _ (lo+((0:Nat):Int)*1) ((((hi - lo).toNat:Nat):Int) - ((0:Nat):Int)) 1;rw[e1,e2];exact LP _ rfl
  · have e : b = (s.heap.push { cls := .type "range", data := .fields #[.int lo t, .int hi u, .int 1 v] }).objs.size := by simpa using hb
    subst e;exact I1.DH (Ll _) (I1.bC.fresh (Ll _))
noncomputable def HY (ta:TA):TI:=λσ H R=>ta σ H λvs H1=>∃j:Int,vs = [.int j]/\-(2 ^ 62)<=j/\j<2 ^ 62/\R (Ht 0 j.toNat) H1
noncomputable def HZ (ta:TA):TI:=λσ H R=>ta σ H λvs H1=>∃i j:Int,vs = [.int i,.int j]/\(-(2 ^ 62)<=i/\i<2 ^ 62/\-(2 ^ 62)<=j/\j<2 ^ 62)/\R (Ht i (j - i).toNat) H1
theorem An {a:Expr}{ta:TA}{p pos:Pos}(hg:Gl X "range")(hm:X.mg "range" = none)(ha:PA X [a] ta)(hs:autoParam (starEach [a] X.env = [(false,eval a X.env)]) aZa._auto_1):PI X tg (.Call (.Name "range" p) [a] [] pos) (HY ta):=by
 intro pins s σ H R I h;refine Call_ (iG I hg hm boot_range (PyProof.Rows.callWith_type1 (cj (ha pos pins s σ H _ I h) ?_) hs rfl));rintro us s1 ⟨vs,H1,I1,r1,q1⟩;obtain ⟨j,e,q1,q2,q⟩:=q1;subst e;cases r1 with
 | cons r rr =>
  cases rr;obtain ⟨t,rfl⟩:=r;exact call_range_1 (vI I1 (by lia) (by lia) q1 q2 (by simpa using q))
theorem Ao {a b:Expr}{ta:TA}{p pos:Pos}(hg:Gl X "range")(hm:X.mg "range" = none)(ha:PA X [a,b] ta)(hs:autoParam (starEach [a,b] X.env = [(false,eval a X.env),(false,eval b X.env)]) aZa._auto_1)(hs2:autoParam (starEach [b] X.env = [(false,eval b X.env)]) aZa._auto_1) :
  PI X tg (.Call (.Name "range" p) [a,b] [] pos) (HZ ta):=by
 intro pins s σ H R I h;refine Call_ (iG I hg hm boot_range (PyProof.Rows.callWith_type1 (cj (ha pos pins s σ H _ I h) ?_) (by rw[hs,hs2]) (by rw[hs2];rfl)));rintro us s1 ⟨vs,H1,I1,r1,q1⟩;obtain ⟨i,j,e,⟨q1,q2,q3,q4⟩,q⟩:=q1;subst e;cases r1 with
 | cons r rr =>
  cases rr with
  | cons r' rr =>
   cases rr;obtain ⟨t,rfl⟩:=r;obtain ⟨t',rfl⟩:=r';exact call_range_2 (vI I1 q1 q2 q3 q4 q)
noncomputable def Km (wi:TI)(g:TG)(tb:TS):TS:=λD σ H=>wi σ H λJ H1=>∃W:Nat->Nat->St->Hp->Prop,(∃m,W 0 m σ H1)/\∀i m σ H,W i m σ H ->
 (J.stop i H/\D.nx σ H)\/(J.go i H/\∃N:St->Hp->Prop,(∀σ' H',N σ' H'->∃m',m'<m/\W (i+1) m' σ' H')/\∀x H',J.C3 i H x H'->g x σ H' λσ2 H2=>tb { D with nx:=N,ct:=N,bk:=D.nx } σ2 H2)
noncomputable def pO (fp:List Addr)(h:Heap):List (Addr×Obj):=fp.filterMap λb=>(h.get? b).map λo=>(b,o)
theorem iH {fp:List Addr}{h:Heap}{b:Addr}{o:Obj}(hb:b∈fp)(e:h.get? b=some o):(b,o)∈pO fp h:=List.mem_filterMap.mpr ⟨b,hb,by rw[e];rfl⟩
theorem Ai {fp:List Addr}{h:Heap}{p:Addr×Obj}(hp:p∈pO fp h):p.1∈fp/\h.get? p.1=some p.2:=by
 obtain ⟨b,hb,e⟩:=List.mem_filterMap.mp hp;cases q:h.get? b with
 | none=>rw[q] at e;cases e
 | some o =>
  rw[q] at e;have e':(b,o)=p:=Option.some.inj e;subst e';exact ⟨hb,q⟩
theorem Inv.pinned {pins:List (Addr×Obj)}{σ:St}{H:Hp}{s:Li}{fp:List Addr}(I:Inv X pins σ H s)(hf:∀b∈fp,lG X pins H b)(ho:∀b∈fp,∃o,s.heap.get? b=some o/\∀v,o.data≠.cell v):Inv X (pins++pO fp s.heap) σ H s:=
 I.yR λp hp=>(mem_append.mp hp).elim (λz=>I.pin p (mem_append_right _ z)) λz=>by
  obtain ⟨hb,e⟩:=Ai z;obtain ⟨f0,f1,f2,_⟩:=hf p.1 hb;obtain ⟨o,e',d⟩:=ho p.1 hb;rw[e] at e';cases e';exact ⟨e,f0,f1,f2,d⟩
theorem Inv.mL {pins pl:List (Addr×Obj)}{σ:St}{H:Hp}{s:Li}(I:Inv X (pins++pl) σ H s):Inv X pins σ H s:=I.yR λp hp=>I.pin p (mem_append_right _ (mem_append_left _ hp))
theorem xc {iter:Expr}{body:List Stmt}{wi:TI}{g:TG}{tb:TS}{pos:Pos}(hp:PassesOwn (model X.prog X.w) X.A X.env X.xe)(hc:X.calm=true)(hi:PI X tg iter wi)(hg:PG X tg g)(hb:oH X body tb)
  (hs:autoParam (∀x,foldedSetIterable iter X.env x=pure x) aZc._auto_1):PS X (.For tg iter body [] pos) (Km wi g tb):=by
 intro pins s σ H D I h;refine wpAny_For (cj (hi pins s σ H _ I h) λv s1 h1=>cj h1 λitv s2 h2=>?_) hs;obtain ⟨it,fp,tn,J,H2,e,I2,T,st2,f2,W,⟨m0,w0⟩,turn⟩:=h2;subst e;have stat:∀{H':Hp},(∀b∈fp,H' b=none)->∀b∈fp,lG X pins H' b:=λhn b hb=>⟨hn b hb,(f2 b hb).2⟩
 refine codeAny_forLoop_any (λn s'=>∃i σ' H',Inv X pins σ' H' s'/\tn i s'.heap/\(∀b∈fp,H' b=none)/\W i n σ' H') ?_ m0 ⟨0,σ,H2,I2,st2,λb hb=>(f2 b hb).1,w0⟩;rintro n s3 ⟨i,σ3,H3,I3,st3,fr3,w3⟩;rcases turn i n σ3 H3 w3 with ⟨stop,qn⟩ | ⟨go,N,hN,step⟩
 .refine wpAny_passesOwn hp (cj (T.done X rfl rfl rfl hc i pins s3 σ3 H3 X.xe I3 (stat fr3) st3 stop) ?_);rintro r s4 ⟨hr,I4⟩;subst hr;exact wpAny_execs_nil ⟨σ3,H3,I4,qn⟩
 .refine wpAny_passesOwn hp (cj (T.item X rfl rfl rfl hc i pins s3 σ3 H3 X.xe I3 (stat fr3) st3 go) ?_);rintro r s4 ⟨u,hr,h4⟩;subst hr;refine wpAny_passesOwn hp (cj h4 ?_);rintro _ s5 ⟨x,H5,I5,r5,y5,st5,fr5⟩;have I5':=I5.pinned (stat fr5) (T.obj _ _ st5);refine wpAny_passesOwn hp (cj (hg _ s5 σ3 H5 x u _ I5' r5 (step x H5 y5)) ?_);rintro _ s6 ⟨σ6,H6,I6,q6⟩;refine wpAny_passesOwn hp (cj (hb _ s6 σ6 H6 _ I6 q6) λf s7 q7=>?_);have again:∀{σ7:St} {H7:Hp},Inv X (pins++pO fp s5.heap) σ7 H7 s7->N σ7 H7->∃m,m<n/\∃i σ' H',Inv X pins σ' H' s7/\tn i s7.heap/\(∀b∈fp,H' b=none)/\W i m σ' H':=λ{σ7 H7} I7 n7=>by
   obtain ⟨m',hm,w7⟩:=hN σ7 H7 n7;refine ⟨m',hm,i+1,σ7,H7,I7.mL,T.keep _ _ _ st5 λb hb o e=>(I7.pin (b,o) (mem_append_right _ (mem_append_right _ (iH hb e)))).1,λb hb=>?_,w7⟩;obtain ⟨o,e,d⟩:=T.obj _ _ st5 b hb;exact (I7.pin (b,o) (mem_append_right _ (mem_append_right _ (iH hb e)))).2.1
  cases f with
  | next=>obtain ⟨σ7,H7,I7,n7⟩:=q7;exact again I7 n7
  | cont=>obtain ⟨σ7,H7,I7,n7⟩:=q7;exact again I7 n7
  | brk=>obtain ⟨σ7,H7,I7,q7⟩:=q7;exact ⟨σ7,H7,I7.mL,q7⟩
  | ret v=>obtain ⟨x7,σ7,H7,I7,r7,q7⟩:=q7;exact ⟨x7,σ7,H7,I7.mL,r7,q7⟩
end
end L2
namespace L2
open PySem PySem.Spec PyProof.Rows
noncomputable abbrev R2:=V->V->Hp->VK->Prop
noncomputable def kG (X:Cx)(f:Lg->Lg->Sem Lg)(r:R2):Prop:=
 ∀(pins:List (Addr×Obj)) (s:Li) (σ:St) (H:Hp) (x y:V) (v u:Lg) (Q:VK),Inv X pins σ H s->RelV x v->RelV y u->r x y H Q ->
  wpAny (model X.prog X.w) X.A (f v u) (EP X pins σ Q) X.xe s
noncomputable def JN (X:Cx)(f:Lg->Sem Lg)(r:V->Hp->VK->Prop):Prop:=
 ∀(pins:List (Addr×Obj)) (s:Li) (σ:St) (H:Hp) (x:V) (v:Lg) (Q:VK),Inv X pins σ H s->RelV x v->r x H Q ->
  wpAny (model X.prog X.w) X.A (f v) (EP X pins σ Q) X.xe s
noncomputable def fK (X:Cx)(f:Lg)(r:List V->Hp->VK->Prop):Prop:=
 ∀(pins:List (Addr×Obj)) (s:Li) (σ:St) (H:Hp) (xs:List V) (us:List Lg) (Q:VK),Inv X pins σ H s->Vals xs us->r xs H Q ->
  wpAny (model X.prog X.w) X.A (call f us) (EP X pins σ Q) X.xe s
noncomputable def JL (X:Cx)(r:V->Hp->(Bool->Hp->Prop)->Prop):Prop:=
 ∀(pins:List (Addr×Obj)) (s:Li) (σ:St) (H:Hp) (x:V) (v:Lg) (Q:Bool->Hp->Prop),Inv X pins σ H s->RelV x v->r x H Q ->
  wpAny (model X.prog X.w) X.A (truthy v) (TP X pins σ Q) X.xe s
noncomputable def GZ (r:R2)(ta tb:TE):TE:=λσ H Q=>ta σ H λx H1=>tb σ H1 λy H2=>r x y H2 Q
noncomputable def Lc (r:V->Hp->VK->Prop)(ta:TE):TE:=λσ H Q=>ta σ H λx H1=>r x H1 Q
noncomputable def rI (C:Int->Int->Prop)(g:Int->Int->V):R2:=λx y H Q=>∃i j,x=.int i/\y=.int j/\C i j/\Q (g i j) H
noncomputable def Fd (g:Int->Int->V):R2:=λx y H Q=>∃i j,x=.int i/\y=.int j/\Q (g i j) H
noncomputable def rU (g:Int->V):V->Hp->VK->Prop:=λx H Q=>∃i,x=.int i/\Q (g i) H
section
variable {X:Cx} {a b c:Expr} {ta tb tc:TE} {pos:Pos}
theorem FD (ha:PE X a ta)(hb:PE X b tb){pins:List (Addr×Obj)}{s:Li}{σ:St}{H:Hp}{R:V->V->Hp->Prop}(I:Inv X pins σ H s)
  (h:ta σ H λx H1=>tb σ H1 λy H2=>R x y H2) {Q:Lg->Li->Prop} {f:Lg->Lg->Sem Lg}
  (hf:∀v u s2 x y H2,Inv X pins σ H2 s2->RelV x v->RelV y u->R x y H2->wpAny (model X.prog X.w) X.A (f v u) Q X.xe s2) :
  wpAny (model X.prog X.w) X.A (eval a X.env) (λv s₁=>wpAny (model X.prog X.w) X.A (eval b X.env) (λu s₂=>wpAny (model X.prog X.w) X.A (f v u) Q X.xe s₂) X.xe s₁) X.xe s:=by
 refine cj (ha pins s σ H _ I h) ?_;rintro v s1 ⟨x,H1,I1,r1,q1⟩;refine cj (hb pins s1 σ H1 _ I1 q1) ?_;rintro u s2 ⟨y,H2,I2,r2,q2⟩;exact hf v u s2 x y H2 I2 r1 r2 q2
theorem yP {op:Operator}{r:R2}(ho:kG X (binaryOp op) r)(ha:PE X a ta)(hb:PE X b tb):PE X (.BinOp a op b pos) (GZ r ta tb):=by
 intro pins s σ H Q I h;exact wpAny_BinOp (FD ha hb I h λv u s2 x y H2 I2 rx ry q=>ho pins s2 σ H2 x y v u Q I2 rx ry q)
theorem ID {op:UnaryOp}{r:V->Hp->VK->Prop}(ho:JN X (unaryOp op) r)(ha:PE X a ta):PE X (.UnaryOp op a pos) (Lc r ta):=by
 intro pins s σ H Q I h;exact UnaryOp_ (cj (ha pins s σ H _ I h) (by rintro v s1 ⟨x,H1,I1,r1,q1⟩;exact ho pins s1 σ H1 x v Q I1 r1 q1))
theorem Jx {f:Lg->Lg->Sem Lg}{C:Int->Int->Prop}{g:Int->Int->Int}
  (rule:∀(i j:Int) (t u:Tok) (s:Li) (Q:Lg->Li->Prop) (E:Lg->Li->Prop),C i j->Q (.int (g i j) s.toks) { s with toks:=s.toks+1 }->wpAny (model X.prog X.w) X.A (f (.int i t) (.int j u)) Q E s) :
  kG X f (rI C λi j=>.int (g i j)):=by
 intro pins s σ H x y v u Q I rx ry h;obtain ⟨i,j,rfl,rfl,hc,q⟩:=h;obtain ⟨t,rfl⟩:=rx;obtain ⟨t',rfl⟩:=ry;exact rule i j t t' s _ _ hc ⟨.int (g i j),H,I.tok _,⟨_,rfl⟩,q⟩
theorem Ip {f:Lg->Lg->Sem Lg}{g:Int->Int->Int}
  (rule:∀(i j:Int) (t u:Tok) (s:Li) (Q:Lg->Li->Prop) (E:Lg->Li->Prop),Q (.int (g i j) s.toks) { s with toks:=s.toks+1 }->wpAny (model X.prog X.w) X.A (f (.int i t) (.int j u)) Q E s) :
  kG X f (Fd λi j=>.int (g i j)):=by
 intro pins s σ H x y v u Q I rx ry h;obtain ⟨i,j,rfl,rfl,q⟩:=h;obtain ⟨t,rfl⟩:=rx;obtain ⟨t',rfl⟩:=ry;exact rule i j t t' s _ _ ⟨.int (g i j),H,I.tok _,⟨_,rfl⟩,q⟩
theorem Gp {f:Lg->Lg->Sem Lg}{g:Int->Int->Bool}
  (rule:∀(i j:Int) (t u:Tok) (s:Li) (Q:Lg->Li->Prop) (E:Lg->Li->Prop),Q (.bool (g i j)) s->wpAny (model X.prog X.w) X.A (f (.int i t) (.int j u)) Q E s) :
  kG X f (Fd λi j=>.bl (g i j)):=by
 intro pins s σ H x y v u Q I rx ry h;obtain ⟨i,j,rfl,rfl,q⟩:=h;obtain ⟨t,rfl⟩:=rx;obtain ⟨t',rfl⟩:=ry;exact rule i j t t' s _ _ ⟨.bl (g i j),H,I,rfl,q⟩
noncomputable def Hq (i j:Int):Prop:=0<j/\j<1073741824
noncomputable def Hr (i j:Int):Prop:=0<=j/\j<=1000000/\i.natAbs<2 ^ 64
noncomputable def v7 (i j:Int):Prop:=(-(2 ^ 64)<i/\i<2 ^ 64)\/(-(2 ^ 64)<j/\j<2 ^ 64)
theorem v7.ok {i j:Int}(h:v7 i j):IntMulOk i j:=by
 rcases h with ⟨h1,h2⟩ | ⟨h1,h2⟩
 .exact .of_left (intBits_le_64 h1 h2)
 .exact .of_right (intBits_le_64 h1 h2)
theorem Gq:kG X (binaryOp .Add) (Fd λi j=>.int (i+j)):=Ip λ_ _ _ _ _ _ _ q=>add_int q
theorem GD:kG X (binaryOp .Sub) (Fd λi j=>.int (i - j)):=Ip λ_ _ _ _ _ _ _ q=>sub_int q
theorem Gy:kG X (binaryOp .Mult) (rI v7 λi j=>.int (i*j)):=Jx λ_ _ _ _ _ _ _ hc q=>mul_int q hc.ok
theorem En:kG X (binaryOp .FloorDiv) (rI Hq λi j=>.int (i / j)):=Jx λi j _ _ _ _ _ hc q=>by
 have h1:(0:Int)<j:=hc.1;have h2:j<1073741824:=hc.2;exact floordiv_int (by lia) (by rw[Int.fdiv_eq_ediv_of_nonneg i (by lia)];exact q) (.inl (PyProof.noPylong_small (by lia)))
theorem Gx:kG X (binaryOp .Mod) (rI (λ_ j=>0<j) λi j=>.int (i % j)):=Jx λi j _ _ _ _ _ hc q=>by
 have h1:(0:Int)<j:=hc;exact mod_int' (by lia) (by rw[Int.fmod_eq_emod_of_nonneg i (by lia)];exact q)
theorem GB:kG X (binaryOp .Pow) (rI Hr λi j=>.int (i ^ j.toNat)):=Jx λ_ _ _ _ _ _ _ hc q=>pow_int_small hc.1 hc.2.1 hc.2.2 q
theorem Le {f:Lg->Sem Lg}{g:Int->Int}
  (rule:∀(i:Int) (t:Tok) (s:Li) (Q:Lg->Li->Prop) (E:Lg->Li->Prop),Q (.int (g i) s.toks) { s with toks:=s.toks+1 }->wpAny (model X.prog X.w) X.A (f (.int i t)) Q E s) :
  JN X f (rU λi=>.int (g i)):=by
 intro pins s σ H x v Q I rx h;obtain ⟨i,rfl,q⟩:=h;obtain ⟨t,rfl⟩:=rx;exact rule i t s _ _ ⟨.int (g i),H,I.tok _,⟨_,rfl⟩,q⟩
theorem Hj:JN X (unaryOp .USub) (rU λi=>.int (-i)):=Le λ_ _ _ _ _ q=>neg_int q
end
noncomputable def IT:V->V->Bool
 | .non,.non=>true | .non,.int _=>true | .int _,.non=>true | .non,.bl _=>true | .bl _,.non=>true | .non,.str _=>true | .str _,.non=>true
 | .int _,.int _=>true | .bl _,.bl _=>true | .str _,.str _=>true | .byt _,.byt _=>true
 | .int _,.str _=>true | .str _,.int _=>true | .bl _,.str _=>true | .str _,.bl _=>true
 | _,_=>false
noncomputable def K7:R2:=λx y H Q=>IT x y=true/\Q (.bl (decide (x=y))) H
noncomputable def K9:R2:=λx y H Q=>IT x y=true/\Q (.bl (!decide (x=y))) H
theorem xY {i j:Int}:decide (V.int i=V.int j)=(i == j):=by
 rw[Bool.eq_iff_iff];simp
theorem Bi {i j:Bool}:decide (V.bl i=V.bl j)=(i == j):=by
 rw[Bool.eq_iff_iff];simp
theorem xZ {i j:Str}:decide (V.str i=V.str j)=(i == j):=by
 rw[Bool.eq_iff_iff];simp
theorem xX {i j:Array UInt8}:decide (V.byt i=V.byt j)=(i.toList == j.toList):=by
 rw[Bool.eq_iff_iff];cases i;cases j;simp
section
variable {X:Cx} {a b c:Expr} {ta tb tc:TE} {pos:Pos}
theorem bj {pins:List (Addr×Obj)}{σ:St}{H:Hp}{s:Li}{Q:VK}{k k':Bool}(I:Inv X pins σ H s)(q:Q (.bl k) H)(e:k=k'):EP X pins σ Q (.bool k') s:=by
 subst e;exact ⟨.bl k,H,I,rfl,q⟩
theorem Iq:kG X (compareOp .Eq) K7:=by
 intro pins s σ H x y v u Q I rx ry h;obtain ⟨hs,q⟩:=h;cases x with
 | non =>
  cases rx;cases y with
  | non=>cases ry;exact PySem.EqNone.eq_none_none (bj I q (by simp))
  | bl j=>cases ry;exact PySem.EqNone.eq_none_bool (bj I q (by simp))
  | int j=>obtain ⟨t',rfl⟩:=ry;exact PySem.EqNone.eq_none_int (bj I q (by simp))
  | str j=>obtain ⟨t',rfl⟩:=ry;exact PySem.EqNone.eq_none_str (bj I q (by simp))
  | _=>exact absurd (show false=true from hs) LM
 | bl i =>
  cases rx;cases y with
  | non=>cases ry;exact PySem.EqNone.eq_bool_none (bj I q (by simp))
  | bl j=>cases ry;exact eq_bool (bj I q Bi)
  | str j=>obtain ⟨t',rfl⟩:=ry;exact PySem.EqMixed.eq_bool_str (bj I q (by simp))
  | _=>exact absurd (show false=true from hs) LM
 | int i =>
  obtain ⟨t,rfl⟩:=rx;cases y with
  | non=>cases ry;exact PySem.EqNone.eq_int_none (bj I q (by simp))
  | int j=>obtain ⟨t',rfl⟩:=ry;exact eq_int (bj I q xY)
  | str j=>obtain ⟨t',rfl⟩:=ry;exact PySem.EqMixed.eq_int_str (bj I q (by simp))
  | _=>exact absurd (show false=true from hs) LM
 | str i =>
  obtain ⟨t,rfl⟩:=rx;cases y with
  | non=>cases ry;exact PySem.EqNone.eq_str_none (bj I q (by simp))
  | bl j=>cases ry;exact PySem.EqMixed.eq_str_bool (bj I q (by simp))
  | int j=>obtain ⟨t',rfl⟩:=ry;exact PySem.EqMixed.eq_str_int (bj I q (by simp))
  | str j=>obtain ⟨t',rfl⟩:=ry;exact eq_str (bj I q xZ)
  | _=>exact absurd (show false=true from hs) LM
 | byt i =>
  obtain ⟨t,rfl⟩:=rx;cases y with
  | byt j=>obtain ⟨t',rfl⟩:=ry;exact PySem.W.eq_bytes (bj I q xX)
  | _=>exact absurd (show false=true from hs) LM
 | _=>cases y<;>exact absurd (show false=true from hs) LM
theorem Iw:kG X (compareOp .NotEq) K9:=by
 intro pins s σ H x y v u Q I rx ry h;obtain ⟨hs,q⟩:=h;cases x with
 | non =>
  cases rx;cases y with
  | non=>cases ry;exact PySem.EqNone.ne_none_none (bj I q (by simp))
  | bl j=>cases ry;exact PySem.EqNone.ne_none_bool (bj I q (by simp))
  | int j=>obtain ⟨t',rfl⟩:=ry;exact PySem.EqNone.ne_none_int (bj I q (by simp))
  | str j=>obtain ⟨t',rfl⟩:=ry;exact PySem.EqNone.ne_none_str (bj I q (by simp))
  | _=>exact absurd (show false=true from hs) LM
 | bl i =>
  cases rx;cases y with
  | non=>cases ry;exact PySem.EqNone.ne_bool_none (bj I q (by simp))
  | bl j=>cases ry;exact ne_bool (bj I q (congrArg not Bi))
  | str j=>obtain ⟨t',rfl⟩:=ry;exact PySem.EqMixed.ne_bool_str (bj I q (by simp))
  | _=>exact absurd (show false=true from hs) LM
 | int i =>
  obtain ⟨t,rfl⟩:=rx;cases y with
  | non=>cases ry;exact PySem.EqNone.ne_int_none (bj I q (by simp))
  | int j=>obtain ⟨t',rfl⟩:=ry;exact ne_int (bj I q (congrArg not xY))
  | str j=>obtain ⟨t',rfl⟩:=ry;exact PySem.EqMixed.ne_int_str (bj I q (by simp))
  | _=>exact absurd (show false=true from hs) LM
 | str i =>
  obtain ⟨t,rfl⟩:=rx;cases y with
  | non=>cases ry;exact PySem.EqNone.ne_str_none (bj I q (by simp))
  | bl j=>cases ry;exact PySem.EqMixed.ne_str_bool (bj I q (by simp))
  | int j=>obtain ⟨t',rfl⟩:=ry;exact PySem.EqMixed.ne_str_int (bj I q (by simp))
  | str j=>obtain ⟨t',rfl⟩:=ry;exact ne_str (bj I q (congrArg not xZ))
  | _=>exact absurd (show false=true from hs) LM
 | byt i =>
  obtain ⟨t,rfl⟩:=rx;cases y with
  | byt j=>obtain ⟨t',rfl⟩:=ry;exact PySem.W.ne_bytes (bj I q (congrArg not xX))
  | _=>exact absurd (show false=true from hs) LM
 | _=>cases y<;>exact absurd (show false=true from hs) LM
theorem Iv:kG X (compareOp .Lt) (Fd λi j=>.bl (decide (i<j))):=Gp λ_ _ _ _ _ _ _ q=>lt_int q
theorem Iu:kG X (compareOp .Gt) (Fd λi j=>.bl (decide (j<i))):=Gp λ_ _ _ _ _ _ _ q=>gt_int q
theorem Ir:kG X (compareOp .GtE) (Fd λi j=>.bl (decide (j<=i))):=Gp λ_ _ _ _ _ _ _ q=>ge_int q
theorem Gv:kG X (compareOp .Is) (λx y H Q=>y=.non/\Q (.bl (decide (x=.non))) H):=by
 intro pins s σ H x y v u Q I rx ry h;obtain ⟨rfl,q⟩:=h;cases ry;refine is_none_gen (bj I q ?_);cases x<;>first
  | (cases rx;rfl)
  | (obtain ⟨t,rfl⟩:=rx;rfl)
theorem kG.or {f:Lg->Lg->Sem Lg}{r r':R2}(h:kG X f r)(h':kG X f r'):kG X f (λx y H Q=>r x y H Q\/r' x y H Q):=by
 intro pins s σ H x y v u Q I rx ry q;rcases q with q | q
 .exact h pins s σ H x y v u Q I rx ry q
 .exact h' pins s σ H x y v u Q I rx ry q
theorem aF (b:Expr){op:CmpOp}(h:autoParam (op≠.In) aZb._auto_1)(h2:autoParam (op≠.NotIn) aZb._auto_1):behindInMarks op b=false:=by
 have e1:(op == CmpOp.In)=false:=by cases op<;>first | rfl | exact absurd rfl h
 have e2:(op == CmpOp.NotIn)=false:=by cases op<;>first | rfl | exact absurd rfl h2
 cases b<;>simp[behindInMarks,e1,e2]
theorem Er {op:CmpOp}{r:R2}(ho:kG X (compareOp op) r)(ha:PE X a ta)(hb:PE X b tb)(hm:behindInMarks op b=false):PE X (.Compare a [op] [b] pos) (GZ r ta tb):=by
 intro pins s σ H Q I h;exact wpAny_Compare1 (FD ha hb I h λv u s2 x y H2 I2 rx ry q=>ho pins s2 σ H2 x y v u Q I2 rx ry q) hm
noncomputable def Ji (t:TE):TT:=λσ H Q=>t σ H λx H'=>∃k,x=.bl k/\Q k H'
theorem yV {op:CmpOp}{r:R2}(ho:kG X (compareOp op) r)(ha:PE X a ta)(hb:PE X b tb)(hm:behindInMarks op b=false):PT X (.Compare a [op] [b] pos) (Ji (GZ r ta tb)):=by
 intro pins s σ H Q I h;refine wpAny_isTrue_Compare1 (cj (ha pins s σ H _ I h) λv s1 ⟨x,H1,I1,r1,q1⟩=>cj (hb pins s1 σ H1 _ I1 q1) λu s2 ⟨y,H2,I2,r2,q2⟩ =>
  cj (ho pins s2 σ H2 x y v u _ I2 r1 r2 q2) λc s3 ⟨z,H3,I3,r3,k,e,q3⟩=>?_) hm
 subst e;cases r3;exact wpAny_truthy_bool ⟨H3,I3,q3⟩
noncomputable def JM (K:Frag)(x:V)(H:Hp)(k:Bool):Prop:=
 match x with
 | .non=>k=false
 | .bl b=>k=b
 | .int i=>k=(i != 0)
 | .str y=>y.length<=sizeLine/\k=((y.length:Int) != 0)
 | .byt y=>y.size<=sizeLine/\k=((y.size:Int) != 0)
 | .ref p=>(∃xs,dA K H p xs/\k = !xs.isEmpty)\/(∃xs,i7 K H p xs/\k = !xs.isEmpty)\/∃kvs,H p=some (.dK kvs)/\k = !kvs.isEmpty
 | _=>False
theorem wK {κ:Type}{kvs:List (κ×V)}{vs:List (κ×Lg)}(r:KV kvs vs):(!vs.isEmpty) = !kvs.isEmpty:=by
 cases r<;>rfl
theorem pB {xs:List V}{its:List Lg}(r:Vals xs its):(!its.toArray.isEmpty) = !xs.isEmpty:=by
 cases r<;>simp
theorem lj:(sizeLine:Nat)<2 ^ 63:=by rw[sizeLine_eq];decide
theorem Kw:JL X (λx H Q=>∃k,JM X.K x H k/\Q k H):=by
 intro pins s σ H x v Q I rx h;obtain ⟨k,e,q⟩:=h;have hl:=lj;have hs:sizeLine=16777216:=sizeLine_eq;cases x with
 | non =>
  cases rx;have e':k=false:=e;subst e';exact truthy_none ⟨H,I,q⟩
 | bl b =>
  cases rx;have e':k=b:=e;subst e';exact wpAny_truthy_bool ⟨H,I,q⟩
 | int i =>
  obtain ⟨t,rfl⟩:=rx;have e':k=(i != 0):=e;subst e';exact PySem.P.truthy_int ⟨H,I,q⟩
 | str y =>
  obtain ⟨t,rfl⟩:=rx;obtain ⟨hy,e'⟩ : y.length<=sizeLine/\k=((y.length:Int) != 0):=e;subst e';exact PySem.P.truthy_str (by lia) ⟨H,I.tok _,q⟩
 | byt y =>
  obtain ⟨t,rfl⟩:=rx;obtain ⟨hy,e'⟩ : y.size<=sizeLine/\k=((y.size:Int) != 0):=e;subst e';exact PySem.W.truthy_bytes (by lia) ⟨H,I.tok _,q⟩
 | ref p =>
  cases rx;have e':(∃xs,dA X.K H p xs/\k = !xs.isEmpty)\/(∃xs,i7 X.K H p xs/\k = !xs.isEmpty)\/∃kvs,H p=some (.dK kvs)/\k = !kvs.isEmpty:=e;rcases e' with ⟨xs,hx,e'⟩ | ⟨xs,hx,e'⟩ | ⟨kvs,hx,e'⟩
  .subst e';obtain ⟨its,r,pl,hz⟩:=I.list hx;have hlen:=r.length;exact wpAny_truthy_list pl.isList (by simp only[LG];lia) ⟨H,I.tok _,by rw[pB r];exact q⟩
  .subst e';obtain ⟨its,r,pl,hz⟩:=I.tuple hx;have hlen:=r.length;exact truthy_tuple pl (by simp only[LG];lia) ⟨H,I.tok _,by rw[pB r];exact q⟩
  .subst e';obtain ⟨hz,hS,vs,r,m⟩ : kvs.length<=sizeLine/\(p == sysModules)=false/\∃vs,KV kvs vs/\s.heap.DictOf (bx X.prog X.w) p vs:=I.bC p _ hx;have hlen:kvs.length=vs.length:=Paired.length r;exact wpAny_truthy_dict hS m (by lia) ⟨H,I.tok _,by rw[wK r];exact q⟩
 | _=>exact (show False from e).elim
theorem wW:kG X (binaryOp .Add) (λx y H Q=>∃i j,x=.str i/\y=.str j/\i.length+j.length<=sizeLine/\Q (.str (i++j)) H):=by
 intro pins s σ H x y v u Q I rx ry h;obtain ⟨i,j,rfl,rfl,hz,q⟩:=h;obtain ⟨t,rfl⟩:=rx;obtain ⟨t',rfl⟩:=ry;exact add_str (λt' tk=>⟨.str (i++j),H,I.tok _,⟨_,rfl⟩,q⟩) hz
theorem vals1 {x:V}{us:List Lg}(r:Vals [x] us):∃u,us = [u]/\RelV x u:=by
 cases r with
 | cons r1 r2=>cases r2;exact ⟨_,rfl,r1⟩
theorem vals2 {x y:V}{us:List Lg}(r:Vals [x,y] us):∃u w',us = [u,w']/\RelV x u/\RelV y w':=by
 cases r with
 | cons r1 r2 =>
  cases r2 with
  | cons r3 r4=>cases r4;exact ⟨_,_,rfl,r1,r3⟩
theorem zu (hc:X.calm=true):fK X (.builtin "max") (λxs H Q=>∃i j,xs = [.int i,.int j]/\Q (.int (if j>i then j else i)) H):=by
 intro pins s σ H xs us Q I r h;obtain ⟨i,j,rfl,q⟩:=h;obtain ⟨u,w',rfl,⟨t,rfl⟩,⟨t',rfl⟩⟩:=vals2 r;refine max_two_ints (I.ok.hd hc) λh' tk k=>⟨_,H,I.kept k,?_,q⟩
 by_cases hj:j>i
 .rw[if_pos hj,if_pos hj];exact ⟨_,rfl⟩
 .rw[if_neg hj,if_neg hj];exact ⟨_,rfl⟩
theorem zA (hc:X.calm=true):fK X (.builtin "min") (λxs H Q=>∃i j,xs = [.int i,.int j]/\Q (.int (if j<i then j else i)) H):=by
 intro pins s σ H xs us Q I r h;obtain ⟨i,j,rfl,q⟩:=h;obtain ⟨u,w',rfl,⟨t,rfl⟩,⟨t',rfl⟩⟩:=vals2 r;refine min_two_ints (I.ok.hd hc) λh' tk k=>⟨_,H,I.kept k,?_,q⟩
 by_cases hj:j<i
 .rw[if_pos hj,if_pos hj];exact ⟨_,rfl⟩
 .rw[if_neg hj,if_neg hj];exact ⟨_,rfl⟩
noncomputable def Hu (K:Frag)(x:V)(H:Hp)(n:Nat):Prop:=
 match x with
 | .str y=>y.length<=sizeLine/\n=y.length
 | .byt y=>y.size<=sizeLine/\n=y.size
 | .ref p=>(∃xs,dA K H p xs/\n=xs.length)\/∃xs,i7 K H p xs/\n=xs.length
 | _=>False
theorem A2:fK X (.builtin "len") (λxs H Q=>∃x n,xs = [x]/\Hu X.K x H n/\Q (.int n) H):=by
 intro pins s σ H xs us Q I r h;obtain ⟨x,n,rfl,e,q⟩:=h;obtain ⟨u,rfl,rx⟩:=vals1 r;have hl:=lj;have hs:sizeLine=16777216:=sizeLine_eq;cases x with
 | str y =>
  obtain ⟨t,rfl⟩:=rx;obtain ⟨hy,e'⟩ : y.length<=sizeLine/\n=y.length:=e;subst e';exact len_str (by lia) ⟨.int _,H,I.tok _,⟨_,rfl⟩,q⟩
 | byt y =>
  obtain ⟨t,rfl⟩:=rx;obtain ⟨hy,e'⟩ : y.size<=sizeLine/\n=y.size:=e;subst e';exact PySem.W.len_bytes (by lia) ⟨.int _,H,I.tok _,⟨_,rfl⟩,q⟩
 | ref p =>
  cases rx;have e':(∃xs,dA X.K H p xs/\n=xs.length)\/∃xs,i7 X.K H p xs/\n=xs.length:=e;rcases e' with ⟨xs,hx,e'⟩ | ⟨xs,hx,e'⟩
  .subst e';obtain ⟨its,r',pl,hz⟩:=I.list hx;have hlen:=r'.length;exact Calls.call_len_list pl.isList (by simp only[LG];lia) ⟨.int xs.length,H,I.tok _,⟨_,by simp only[LG];rw[hlen]⟩,q⟩
  .subst e';obtain ⟨its,r',pl,hz⟩:=I.tuple hx;have hlen:=r'.length;exact len_tuple pl (by simp only[LG];lia) ⟨.int xs.length,H,I.tok _,⟨_,by simp only[LG];rw[hlen]⟩,q⟩
 | _=>exact (show False from e).elim
end
end L2
namespace L2
open PySem PySem.Spec PyProof.Rows
structure Fv (h:Heap)(x dx C:Addr)(mA:Str->Option Lg):Prop where
 obj:h.get? x=some (instObj C dx)
 ns:h.Ns1 dx mA
 ne:dx≠x
theorem Ac {h:Heap}{dx:Addr}{mA:Str->Option Lg}(n:h.Ns1 dx mA):∃od,h.get? dx=some od/\∀name,lookIn name od=some (mA name):=by
 obtain ⟨o,es,ep,ho,hd,hk,_,hm⟩:=n;refine ⟨o,ho,λname=>?_⟩;have e:=hm name;unfold nsFind findBy at e;rw[<-Array.find?_toList] at e;unfold lookIn;rw[hd];dsimp only;split
 .rename_i y q;rw[q] at e;exact congrArg some e
 .rename_i q;rw[q] at e;have a:es.toList.any (·.refKey)=false:=by
   rw[List.any_eq_false];intro y hy;obtain ⟨z,t,hkey⟩:=hk y (Array.mem_toList_iff.mp hy);simp[DictEntry.refKey,hkey]
  have a':¬es.toList.any (·.refKey)=true:=by rw[a];exact LM
  rw[if_neg a'];exact congrArg some e
theorem Fv.look {h:Heap}{x dx C:Addr}{mA:Str->Option Lg}(I:Fv h x dx C mA):∃od,PySem.W.InstAt h x (instObj C dx) C (some od)/\∀name,lookIn name od=some (mA name):=
 let ⟨od,ho,hl⟩:=Ac I.ns
 ⟨od,⟨I.obj,rfl,rfl,ho⟩,hl⟩
section
variable {prog:LH} {w:LR} {A:LQ} {E:Lg->Li->Prop} {s:Li} {K:Frag} {x dx C f:Addr} {mA:Str->Option Lg} {name:Str} {v:Lg}
end
theorem oI.some_of {v:V}{o:Option Lg}(r:oI (some v) o):∃u,o=some u/\RelV v u:=by
 cases o with
 | none=>exact (show False from r).elim
 | some u=>exact ⟨u,rfl,r⟩
section
variable {P:LH} {w:LR} {H H':Hp} {h h':Heap} {a C dx:Addr} {fs fs':List (Str×V)}
theorem iF (bC:kF P w H h)(e:H a=some (.ins C dx fs)):∃mA,Fv h a dx C mA/\(∀f,oI (fs.lookup f) (mA f))/\PySem.Within mA (fs.map (·.1))/\fs.length<=1000/\H dx=some (.own a):=by
 obtain ⟨d,z,ne,ob,mA,n,r,q⟩:=(show cM P w H h a (.ins C dx fs) from bC a _ e)
 exact ⟨mA,⟨ob,n,ne⟩,r,q,z,d⟩
end
structure JD (K:Frag)(C:Addr):Prop where
 pg:plainGet K C Str.empty=true
 hd:PySem.W.hasDictIn K C=true
 po:PySem.W.plainOver K C=true
 sa:findIn K (.ref C) "__setattr__" = some (some (.builtin "object.__setattr__"))
theorem JD.get {K:Frag}{C:Addr}(c:JD K C)(f:Str):plainGet K C f=true:=c.pg
structure Lf (K:Frag)(C:Addr)(f:Str)(v:V)(u:Lg):Prop where
 at_:findIn K (.ref C) f=some (some u)
 rel:RelV v u
 get:specialIn K u "__get__" = some none
 cp:PySem.W.copiedNames.contains f=false
structure Meth (K:Frag)(C:Addr)(m:Str)(f:Addr):Prop where
 at_:findIn K (.ref C) m=some (some (.ref f))
 fn:isFn K (.ref f)=true
 kp:keepIn K (.ref f)=true
section
variable {X:Cx} {pins:List (Addr×Obj)} {σ:St} {H:Hp} {s:Li} {a C dx:Addr} {fs:List (Str×V)} {f:Str} {v:V} {A:LQ} {E:Lg->Li->Prop}
end
section
variable {X:Cx} {o e value:Expr} {f:Str} {pos pos' tpos:Pos} {ta tv:TE}
end
section
variable {X:Cx} {pins:List (Addr×Obj)} {σ:St} {H:Hp} {s:Li} {A:LQ} {E:Lg->Li->Prop} {Q:Lg->Li->Prop} {c:Lg} {b:Bool}
inductive nS (K:Frag)(H:Hp):V->Lg->Prop where
 | non:nS K H .non (.type "NoneType")
 | bl (x:Bool):nS K H (.bl x) (.type "bool")
 | int (i:Int):nS K H (.int i) (.type "int")
 | str (x:Str):nS K H (.str x) (.type "str")
 | flt (x:UInt64):nS K H (.flt x) (.type "float")
 | lst {a:Addr} {xs:List V} (e:H a=some (.lst xs)):nS K H (.ref a) (.type "list")
 | cc {a:Addr} {o:Obj} {xs:List V} (e:H a=some (.cc o (.lst xs))):nS K H (.ref a) (.type "list")
 | tup {a:Addr} {xs:List V} (e:H a=some (.tup xs)):nS K H (.ref a) (.type "tuple")
 | dK {a:Addr} {kvs:List (Key×V)} (e:H a=some (.dK kvs)):nS K H (.ref a) (.type "dict")
 | dT {a:Addr} {kvs:List (List Key×V)} (e:H a=some (.dT kvs)):nS K H (.ref a) (.type "dict")
 | ins {a C dx:Addr} {fs:List (Str×V)} (e:H a=some (.ins C dx fs)) (cl:JD K C) (ha:findIn K (.ref C) "__class__" = some (some (.builtin "object.__class__")))
   (hn:specialIn K (.builtin "object.__class__") "__get__" = some (some (.builtin "getset_descriptor.__get__"))) (htk:PySem.W.takesIn K (.builtin "object.__class__")=some true)
   (hm:PySem.W.mroIn K C (.type "object")=some true):nS K H (.ref a) (.ref C)
theorem ki {x:V}{u t:Lg}(I:Inv X pins σ H s)(rx:RelV x u)(ty:nS X.K H x t)(e:kitOne X.K t c=some b)(h:∀tk,Q (.bool b) { s with toks:=tk }) :
  wpAny (model X.prog X.w) A (call (.builtin "isinstance") [u,c]) Q E s:=by
 cases ty with
 | non=>cases (show u=Value.none from rx);exact kia_one PySem.W.kitx_none I.qx True.intro e (λz=>nomatch z) h
 | bl y=>cases (show u=Value.bool y from rx);exact kia_one PySem.W.kitx_bool I.qx True.intro e (λz=>nomatch z) h
 | int i=>obtain ⟨t,q⟩:=(show ∃t,u=Value.int i t from rx);cases q;exact kia_one PySem.W.kitx_int I.qx True.intro e (λz=>nomatch z) h
 | str y=>obtain ⟨t,q⟩:=(show ∃t,u=Value.str y t from rx);cases q;exact kia_one PySem.W.kitx_str I.qx True.intro e (λz=>nomatch z) h
 | flt y=>obtain ⟨t,q⟩:=(show ∃t,u=Value.float y t from rx);cases q;exact kia_one PySem.W.kitx_float I.qx True.intro e (λz=>nomatch z) h
 | @lst a xs ea =>
  cases (show u=Value.ref a from rx);obtain ⟨_,_,n,_,h1⟩:=(show cM X.prog X.w H s.heap a (.lst xs) from I.bC a _ ea)
  exact kia_one kitx_list I.qx ⟨_,h1,rfl⟩ e (λz=>nomatch z) h
 | @cc a ob xs ea =>
  cases (show u=Value.ref a from rx);obtain ⟨_,_,_,n,_,h1⟩:=(show cM X.prog X.w H s.heap a (.cc ob (.lst xs)) from I.bC a _ ea)
  exact kia_one kitx_list I.qx ⟨_,h1,rfl⟩ e (λz=>nomatch z) h
 | @tup a xs ea =>
  cases (show u=Value.ref a from rx);obtain ⟨_,_,_,p⟩:=(show cM X.prog X.w H s.heap a (.tup xs) from I.bC a _ ea)
  obtain ⟨o,h1,h2,_⟩:=p;exact kia_one kitx_tuple I.qx ⟨o,h1,h2⟩ e (λz=>nomatch z) h
 | @dK a kvs ea =>
  cases (show u=Value.ref a from rx);obtain ⟨_,_,vs,_,p⟩:=(show cM X.prog X.w H s.heap a (.dK kvs) from I.bC a _ ea)
  obtain ⟨o,es,ep,h1,h2,_⟩:=p;exact kia_one kitx_dict I.qx ⟨o,h1,h2.1⟩ e (λz=>nomatch z) h
 | @dT a kvs ea =>
  cases (show u=Value.ref a from rx);obtain ⟨_,_,xs,_,o,es,ep,h1,h2,_⟩:=(show cM X.prog X.w H s.heap a (.dT kvs) from I.bC a _ ea)
  exact kia_one kitx_dict I.qx ⟨o,h1,h2.1⟩ e (λz=>nomatch z) h
 | @ins a C dx fs ea cl ha hn htk hm =>
  cases (show u=Value.ref a from rx);obtain ⟨mA,O,_⟩:=iF I.bC ea;obtain ⟨od,J,_⟩:=O.look;exact kia_one (PySem.W.kitx_own (cl.get _) cl.hd ha hn htk hm) I.qx J e (λz=>nomatch z) h
end
end L2
namespace L2
open PySem PySem.Spec PyProof.Rows
structure cN (k:Nat)(A:LQ):Prop where
 hd:A.handled=none
 dp:A.depth+3*k+5<recursionLimit
 un:A.units+16*k+200<cLine
 gs:A.guards=some []
theorem cN.mono {j k:Nat}{A:LQ}(r:cN k A)(h:j<=k):cN j A:=⟨r.hd,by have:=r.dp;lia,by have:=r.un;lia,r.gs⟩
theorem cN.deeper {k:Nat}{A:LQ}(r:cN (k+1) A)(env:Env):cN k (A.deeper env):=
 ⟨r.hd,by have:=r.dp;show A.depth+1+3*k+5<_;lia,by have:=r.un;show A.units+3+16*k+200<_;lia,r.gs⟩
theorem cN.depth {k:Nat}{A:LQ}(r:cN k A):A.depth<recursionLimit:=by have:=r.dp;lia
theorem cN.units {k:Nat}{A:LQ}(r:cN k A):A.units+64<cLine:=by have:=r.un;lia
noncomputable def Jg:TA:=λ_ H Q=>Q [] H
noncomputable def Fl (ta:TE)(tr:TA):TA:=λσ H Q=>ta σ H λx H1=>tr σ H1 λxs H2=>Q (x::xs) H2
section
variable {X:Cx} {e:Expr} {es:List Expr} {te:TE} {t:TA} {pos:Pos}
theorem iI:PA X [] Jg:=λ_ _ _ _ H Q I h=>Calls.spliced_nil ⟨[],H,I,.nil,h⟩
theorem fu (ha:PE X e te)(hr:PA X es t)(hs:autoParam (starEach (e::es) X.env=(false,eval e X.env)::starEach es X.env) aZa._auto_1):PA X (e::es) (Fl te t):=by
 intro pos pins s σ H Q I h;rw[hs];show wpAny _ _ (spliced ((false,eval e X.env)::backTo pos (starEach es X.env))) _ _ s;refine Calls.spliced_cons (cj (ha pins s σ H _ I h) ?_);rintro u s1 ⟨x,H1,I1,r1,q1⟩;exact cj (hr pos pins s1 σ H1 _ I1 q1) (by rintro us s2 ⟨xs,H2,I2,r2,q2⟩;exact ⟨x::xs,H2,I2,.cons r1 r2,q2⟩)
noncomputable def Kv (t:TA):TE:=λσ H Q=>t σ H λxs H1=>xs.length<=sizeLine/\∀p,H1 p=none->Q (.ref p) (upd H1 p (.tup xs))
noncomputable def Kp (t:TA):TE:=λσ H Q=>t σ H λxs H1=>xs.length<=sizeLine/\∀p,H1 p=none->Q (.ref p) (upd H1 p (.lst xs))
theorem Cp {x1}(h:PA X es t):PE X (.Tuple es x1 pos) (Kv t):=by
 intro pins s σ H Q I hq;refine wpAny_Tuple_spliced (cj (h pos pins s σ H _ I hq) λus s1 ⟨xs,H1,I1,r,z,q⟩=>⟨by rw[<-r.length];exact z,?_⟩);have hf:H1 s1.heap.objs.size=none:=I1.bC.fresh (Ll _);refine ⟨.ref s1.heap.objs.size,upd H1 s1.heap.objs.size (.tup xs),I1.laid (t':=s1.toks) (λb u e=>Ln _ e) (Ll _) ?_,rfl,q _ hf⟩;exact ⟨z,us,r,⟨_,LP _ rfl,rfl,_,rfl⟩⟩
theorem Cm (h:PA X es t):PE X (.List es pos) (Kp t):=by
 intro pins s σ H Q I hq;refine wpAny_List_spliced (cj (h pos pins s σ H _ I hq) λus s1 ⟨xs,H1,I1,r,z,q⟩=>⟨by rw[<-r.length];exact z,?_⟩);have hf:H1 s1.heap.objs.size=none:=I1.bC.fresh (Ll _);refine ⟨.ref s1.heap.objs.size,upd H1 s1.heap.objs.size (.lst xs),I1.laid (t':=s1.toks) (λb u e=>Ln _ e) (Ll _) ?_,rfl,q _ hf⟩;exact ⟨z,us,0,r,LP _ rfl⟩
end
noncomputable abbrev Sp:=List V->Hp->VK->XK->Prop
noncomputable abbrev C4:=List Env->Hp->Li->XK->Lg->Li->Prop
structure C7 (P:LH)(w:LR)(K:Frag)(mg:Str->Option Lg)(base:Heap)(A:LQ)(outer:List Env)(s:Li)(H:Hp):Prop where
 frames:A.frames=some outer
 mod:Mod K mg base
 bs:∀b o,base.get? b=some o->s.heap.get? b=some o/\H b=none
 ET:base.objs.size<=s.heap.objs.size
 o9:s.heap.FunFrames base outer
 Ho:∀b∈AS outer,H b=none
 bC:kF P w H s.heap
 bare:AllBare s.gens
noncomputable def CE (outer:List Env)(P:LH)(w:LR)(H:Hp)(s:Li)(Q:VK)(u:Lg)(s':Li):Prop:=
 ∃v H',s'.os=s.os/\AllBare s'.gens/\Un (AS outer) [] H H' s.heap s'.heap/\kF P w H' s'.heap/\RelV v u/\Q v H'
noncomputable def CR (CX:C4)(outer:List Env)(P:LH)(w:LR)(H:Hp)(s:Li)(Q:VK)(E:XK)(r:Result)(s':Li):Prop:=
 match r with
 | .ok (.ret u)=>CE outer P w H s Q u s'
 | .ok _=>False
 | .error e=>CX outer H s E e s'
structure cH (P:LH)(w:LR)(K:Frag)(mg:Str->Option Lg)(base:Heap)(CX:C4)(k:Nat)(f:Addr)(fd:FuncData)(ps:List Str)(sp:Sp):Prop where
 len:∀vs H Q E,sp vs H Q E->vs.length=ps.length
 run:∀(A:LQ) (outer:List Env) (s:Li) (H:Hp) (args:Args) (us:List Lg) (vs:List V) (Q:VK) (E:XK),cN k A->C7 P w K mg base A outer s H->BindsTo s fd args (ps.zip us)->Vals vs us->sp vs H Q E ->
  codeAny (model P w) A (.call (.ref f) args) (CR CX outer P w H s Q E) s
theorem cH.imp {P:LH}{w:LR}{K:Frag}{mg:Str->Option Lg}{base:Heap}{CX:C4}{k:Nat}{f:Addr}{fd:FuncData}{ps:List Str}{sp sp':Sp}(F:cH P w K mg base CX k f fd ps sp)
  (h:∀vs H Q E,sp' vs H Q E->sp vs H Q E):cH P w K mg base CX k f fd ps sp':=
 ⟨λvs H Q E q=>F.len vs H Q E (h _ _ _ _ q),λA outer s H args us vs Q E hr he hb hv hs=>F.run A outer s H args us vs Q E hr he hb hv (h _ _ _ _ hs)⟩
section
variable {X:Cx} {pins:List (Addr×Obj)} {σ:St} {H:Hp} {s s':Li}
theorem Inv.JR (I:Inv X pins σ H s):C7 X.prog X.w X.K X.mg X.base X.A X.stack s H:=
 ⟨I.ok.frames,I.ok.mod,I.bs,Nat.le_trans I.ok.ET I.sz,I.stack,I.zf,I.bC,I.bare⟩
theorem Inv.after {Q:VK}{u:Lg}(I:Inv X pins σ H s)(h:CE X.stack X.prog X.w H s Q u s'):EP X pins σ Q u s':=by
 obtain ⟨v,H',os,bare,un,bC,r,q⟩:=h;obtain ⟨hh,g,d,t,os'⟩:=s';obtain rfl:os'=s.os:=os;exact ⟨v,H',I.call (h':=hh) (g':=g) (d':=d) (t':=t) (ch:=[]) un bC bare (λb z=>absurd z (by simp)),r,q⟩
end
noncomputable def Fj (sp:Sp)(dvs:List V)(E:XK)(t:TA):TE:=λσ H Q=>t σ H λvs H1=>sp (vs++dvs) H1 Q E
noncomputable def Binds (K:Frag)(fd:FuncData)(ps:List Str)(ds:List Lg):Prop:=
 ∀(s:Li) (us:List Lg),K.In s.heap->(us++ds).length=ps.length->BindsTo s fd ⟨us,[]⟩ (ps.zip (us++ds))
theorem Binds.all {K:Frag}{fd:FuncData}{ps:List Str}(h:∀us:List Lg,us.length=ps.length->bindArgs fd ⟨us,[]⟩=pure (ps.zip us)):Binds K fd ps []:=λs us _ hl=>by
 rw[append_nil] at hl ⊢;exact .of_eq (h us hl)
noncomputable def Passes (CX:C4)(X:Cx)(E:XK):Prop:=∀(pins:List (Addr×Obj)) (σ:St) (H:Hp) (s:Li) (e:Lg) (s':Li),Inv X pins σ H s->CX X.stack H s E e s'->X.xe e s'
section
variable {X:Cx} {CX:C4} {k:Nat} {f C:Addr} {fd:FuncData} {ps:List Str} {sp:Sp} {dvs:List V} {ds:List Lg} {E:XK} {x m:Str} {p pos apos:Pos} {e o:Expr} {es:List Expr} {ta:TE} {t:TA}
theorem GP {pins:List (Addr×Obj)}{σ:St}{H:Hp}{s:Li}{Q:VK}{us:List Lg}{vs:List V}(F:cH X.prog X.w X.K X.mg X.base CX k f fd ps sp)(hr:cN k X.A)(hb:Binds X.K fd ps ds)(hd:Vals dvs ds)(hx:Passes CX X E)
  (I:Inv X pins σ H s) (r:Vals vs us) (h:sp (vs++dvs) H Q E):wpAny (model X.prog X.w) X.A (call (.ref f) us) (EP X pins σ Q) X.xe s:=by
 have r2:Vals (vs++dvs) (us++ds):=r.append hd;have hl:(us++ds).length=ps.length:=by rw[<-r2.length];exact F.len _ _ _ _ h
 refine wpAny_call (codeAny_mono (F.run X.A X.stack s H ⟨us,[]⟩ (us++ds) (vs++dvs) Q E hr I.JR (hb s us I.qx hl) r2 h) λr s' hq=>?_);cases r with
 | error e=>exact hx pins σ H s e s' I hq
 | ok fl =>
  cases fl with
  | ret u=>exact I.after hq
  | next=>exact False.elim hq
  | brk=>exact False.elim hq
  | cont=>exact False.elim hq
theorem Ep (F:cH X.prog X.w X.K X.mg X.base CX k f fd ps sp)(hr:cN k X.A)(hg:Gl X x)(hm:X.mg x=some (.ref f))(hk:keepIn X.K (.ref f)=true)(hb:Binds X.K fd ps ds)(hd:Vals dvs ds)(hx:Passes CX X E)
  (ha:PA X (e::es) t) (hdb:autoParam ((x == ("__debug__" : Str))=false) aZb._auto_1) (he:autoParam (starEach (e::es) X.env=(false,eval e X.env)::starEach es X.env) aZa._auto_1) (hpl:autoParam ((backTo pos (starEach es X.env)).any (·.1)=false) aZa._auto_1) :
  PE X (.Call (.Name x p) (e::es) [] pos) (Fj sp dvs E t):=by
 intro pins s σ H Q I h;refine wpAny_Call_Name_kw (yB I hg hm ?_ hdb);refine PySem.W.callWith_K (h₀:=X.base) I.ok.mod.Ih hk (cj (ha pos pins s σ H _ I h) λus s1 ⟨vs,H1,I1,r,q⟩=>⟨I1.qx,?_⟩) he hpl;exact GP F hr hb hd hx I1 r q
structure Mk (K:Frag)(C f:Addr):Prop where
 makes:PySem.W.makesIn K C=true
 init:findIn K (.ref C) "__init__" = some (some (.ref f))
 fn:isFn K (.ref f)=true
 kp:keepIn K (.ref C)=true
end
section
variable {X:Cx} {CX:C4} {k:Nat} {f C:Addr} {fd:FuncData} {ps ks:List Str} {sp:Sp} {E:XK} {x m:Str} {p pos apos kpos:Pos} {e o:Expr} {es:List Expr} {kws:List Keyword} {te ta:TE} {t tk:TA} {nm:Option Str}
structure JH (K:Frag)(fd:FuncData)(ps ks:List Str)(g:List Lg->List Lg->List Lg)(gV:List V->List V->List V):Prop where
 to:∀(s:Li) (us ws:List Lg),K.In s.heap->(g us ws).length=ps.length->BindsTo s fd ⟨us,ks.zip ws⟩ (ps.zip (g us ws))
 rel:∀{vs:List V} {us:List Lg} {zs:List V} {ws:List Lg},Vals vs us->Vals zs ws->Vals (gV vs zs) (g us ws)
variable {g:List Lg->List Lg->List Lg} {gV:List V->List V->List V}
end
structure aX (N P:List Str)(sc:Scope):Prop where
 kind:sc.kind=.function
 co:sc.isCoroutine=false
 gen:sc.isGenerator=false
 nd:N.Nodup
 pre:N.take P.length=P
 par:∀x∈P,sc.names.lookup x=some .local\/sc.names.lookup x=some .cell
 Gh:∀y∈sc.names,y.2≠.free
theorem qU {kindOf:Str->Option NameKind}{x:Str}:∀{binds:List (Str×Lg)} {m:Str->Option Lg},(∀v,(x,v)∉binds)->bindL kindOf binds m x=m x
  | [],_,_=>rfl
  | (n,v)::r,m,h=>by
    unfold bindL;rw[qU λw hw=>h w (LO _ hw)];split
    · have : x ≠ n := by rintro rfl;exact h v mem_cons_self
      simp[this]
    · rfl
theorem qS {kindOf:Str->Option NameKind}{x:Str}:∀{binds:List (Str×Lg)} {m:Str->Option Lg},(∀v,(x,v)∉binds)->bindC kindOf binds m x=m x
  | [],_,_=>rfl
  | (n,v)::r,m,h=>by
    unfold bindC;rw[qS λw hw=>h w (LO _ hw)];split
    · rfl
    · have : x ≠ n := by rintro rfl;exact h v mem_cons_self
      simp[this]
theorem qT {kindOf:Str->Option NameKind}{x:Str}{v:Lg}:∀{P:List Str} {vs:List Lg} {i:Nat} {m:Str->Option Lg},P.Nodup->P[i]?=some x->vs[i]?=some v->kindOf x=some .local ->
  bindL kindOf (P.zip vs) m x=some v
 | [],_,_,_,_,h,_,_=>by simp at h
 | _::_,[],_,_,_,_,h,_=>by simp at h
 | p::P,w::vs,0,m,nd,h1,h2,hk=>by
  simp at h1 h2;subst h1;subst h2;show bindL kindOf ((p,w)::P.zip vs) m p=_;unfold bindL;rw[qU λv hv=>(nodup_cons.mp nd).1 (List.of_mem_zip hv).1,if_pos hk];simp
 | p::P,w::vs,i+1,m,nd,h1,h2,hk=>by
  show bindL kindOf ((p,w)::P.zip vs) m x=_;unfold bindL;exact qT (i:=i) (nodup_cons.mp nd).2 (by simpa using h1) (by simpa using h2) hk
theorem qR {kindOf:Str->Option NameKind}{x:Str}{v:Lg}:∀{P:List Str} {vs:List Lg} {i:Nat} {m:Str->Option Lg},P.Nodup->P[i]?=some x->vs[i]?=some v->kindOf x≠some .local ->
  bindC kindOf (P.zip vs) m x=some v
 | [],_,_,_,_,h,_,_=>by simp at h
 | _::_,[],_,_,_,_,h,_=>by simp at h
 | p::P,w::vs,0,m,nd,h1,h2,hk=>by
  simp at h1 h2;subst h1;subst h2;show bindC kindOf ((p,w)::P.zip vs) m p=_;unfold bindC;rw[qS λv hv=>(nodup_cons.mp nd).1 (List.of_mem_zip hv).1,if_neg hk];simp
 | p::P,w::vs,i+1,m,nd,h1,h2,hk=>by
  show bindC kindOf ((p,w)::P.zip vs) m x=_;unfold bindC;exact qR (i:=i) (nodup_cons.mp nd).2 (by simpa using h1) (by simpa using h2) hk
noncomputable def start (N:List Str)(vs:List V):St:=vs.map some++LW (N.length - vs.length) none
noncomputable def sA (CX:C4)(P:LH)(w:LR)(K:Frag)(mg:Str->Option Lg)(base:Heap)(N:List Str)(qual:Str)(scope:Scope)(f:Addr)(cd:Lg)(A:LQ)(outer:List Env)(s:Li)(H:Hp)(E:XK):Cx where
 prog:=P
 w:=w
 K:=K
 mg:=mg
 base:=base
 A:=A.deeper (envOfC qual scope s.heap.objs.size f cd)
 N:=N
 s₀:=s
 H₀:=H
 env:=envOfC qual scope s.heap.objs.size f cd
 outer:=outer
 stack:=envOfC qual scope s.heap.objs.size f cd::outer
 ex:=[]
 calm:=true
 fn:=λ_=>true
 pn:=[]
 xe:=λe s'=>wpAny (model P w) (A.deeper (envOfC qual scope s.heap.objs.size f cd)) (leaving (envOfC qual scope s.heap.objs.size f cd) e) (λ_ s''=>CX outer H s E e s'') (λe' s''=>CX outer H s E e' s'') s'
theorem ur {sc:Scope}{n:Nat}{x:Str}(h:sc.names.lookup x=some .cell):∃c,(cellsFrom n sc.names []).lookup x=some c:=by
 have q:=cellsFrom_some sc.names n [] (.inl h);exact Option.isSome_iff_exists.mp q
theorem zS {CX:C4}{P:LH}{w:LR}{K:Frag}{mg:Str->Option Lg}{base:Heap}{N ps:List Str}{qual:Str}{scope:Scope}{f:Addr}{cd:Lg}{A:LQ}{outer:List Env}{s s1:Li}{H:Hp}{E:XK}{us:List Lg}{vs:List V}
    (S:aX N ps scope) (hd:A.handled=none) (e0:C7 P w K mg base A outer s H) (hl:vs.length=ps.length) (r:Vals vs us)
    (x:InCallC s s.heap.objs.size (bindL (envOfC qual scope s.heap.objs.size f cd).kindOf (ps.zip us) λ_=>none) (cellsFrom (s.heap.objs.size+1) scope.names []) (bindC (envOfC qual scope s.heap.objs.size f cd).kindOf (ps.zip us) λ_=>none) s1) :
    Inv (sA CX P w K mg base N qual scope f cd A outer s H E) [] (start N vs) H s1:=by
  have hpl:ps.length<=N.length:=by have:=congrArg List.length S.pre;rw[length_take] at this;lia
  obtain ⟨h1,tk,rfl,hk⟩:=x.done;have E6:∀b:Addr,b∉(sA CX P w K mg base N qual scope f cd A outer s H E).ex:=λb z=>absurd (show b∈([]:List Addr) from z) (by simp);refine ⟨⟨e0.mod,S.kind,rfl,rfl,Ll _,λy z c h1 h2=>?_,λy hy=>?_,λy c _ h=>?_,λ_=>hd,Around.frames_deeper e0.frames,.inr ⟨rfl,rfl⟩,λb z=>absurd z (E6 b),e0.bs,e0.ET,λb _ _=>E6 b,λb z=>absurd z (E6 b),e0.o9,e0.Ho⟩,
    rfl,e0.bare,Un.kept hk,⟨_,x.toInCall.ns,λi y v h1 h2 h3=>?_⟩,λy c h=>⟨_,x.cell y c h⟩,e0.bC.fresh (Ll _),λy c h=>?_,λp hp=>absurd (show p∈([]:List (Addr×Obj)) from hp) (by simp),e0.bC.kept hk,?_⟩
  · exact name_of_addr x.apart (PySem.mem_of_lookup h1) (PySem.mem_of_lookup h2)
  · have hy:scope.names.lookup y=some .cell\/scope.names.lookup y=some .free:=hy;rcases hy with hy | hy
    · exact ur hy
    · exact absurd rfl (S.Gh _ (PySem.mem_of_lookup hy))
  · exact Nat.le_of_lt (x.above y c (PySem.mem_of_lookup h))
  · have hi:i<vs.length:=by
      unfold start at h2;by_cases hi:i<vs.length
      · exact hi
      · rw [List.getElem?_append_right (by simpa using hi)] at h2;rw[List.getElem?_replicate] at h2;split at h2<;>cases h2
    have ha:vs[i]?=some v:=by
      unfold start at h2;rw[List.getElem?_append_left (by simpa using hi),LC] at h2;cases e:vs[i]? with
      | none=>rw[e] at h2;cases h2
      | some a=>rw[e] at h2;cases h2;rfl
    obtain ⟨u,hu,rv⟩:=r.get ha;have hp:ps[i]?=some y:=by
      rw[<-S.pre,List.getElem?_take_of_lt (by lia)];exact h1
    have ndP:ps.Nodup:=by rw[<-S.pre];exact S.nd.sublist (List.take_sublist _ _)
    refine ⟨u,rv,?_⟩;rcases S.par y (Ls hp) with k | k
    · exact .inl ⟨k,qT ndP hp hu k⟩
    · obtain ⟨c,e⟩:=ur (n:=s.heap.objs.size+1) k;refine .inr ⟨.inl k,c,e,?_⟩;have q:=x.cell y c e;rw[qR ndP hp hu (by show scope.names.lookup y≠_;rw[k];decide)] at q;exact q
  · exact e0.bC.fresh (Nat.le_of_lt (x.above y c (PySem.mem_of_lookup h)))
  · unfold start;show _=N.length;rw[LA,Lk,List.length_replicate];lia
theorem E2 {CX:C4}{P:LH}{w:LR}{K:Frag}{mg:Str->Option Lg}{base:Heap}{k:Nat}{f:Addr}{name qual:Str}{params:Arguments}{body:List Stmt}{scope:Scope}{dV kV doc pm cdv ct oc:Lg}{an od:Option Addr}
  {osl:Array (Option Lg)} {N ps:List Str} {sp:Sp} (lk:K.lookup f=some ⟨oc,od,.func (fnOf name qual params body scope dV kV doc pm an cdv ct),osl⟩) (hcd:codeIn K cdv qual=true) (S:aX N ps scope)
  (len:∀vs H Q E,sp vs H Q E->vs.length=ps.length)
  (hbody:∀(A:LQ) (outer:List Env) (s:Li) (H:Hp) (vs:List V) (Q:VK) (E:XK),cN k (A.deeper (envOfC qual scope s.heap.objs.size f cdv))->sp vs H Q E ->
   ∃t,oH (sA CX P w K mg base N qual scope f cdv A outer s H E) body t/\t { nx:=λ_ H'=>Q .non H',rt:=Q } (start N vs) H) :
  cH P w K mg base CX (k+1) f (fnOf name qual params body scope dV kV doc pm an cdv ct) ps sp:=by
 refine ⟨len,λA outer s H args us vs Q E hr e0 hb r hsp=>?_⟩;have hl:=len _ _ _ _ hsp;have KX:K.In s.heap:=e0.mod.Ih.keeps λb o e=>(e0.bs b o e).1;have lim:s.heap.NoLimit:=e0.mod.nolimit.keeps λb o e=>(e0.bs b o e).1;have hkind:∀y∈ps.zip us,scope.names.lookup y.1=some .local\/(scope.names.lookup y.1=some .cell/\((cellsFrom (s.heap.objs.size+1) scope.names []).lookup y.1).isSome=true):= by
  rintro ⟨n,v⟩ hy;rcases S.par n (List.of_mem_zip hy).1 with q | q
  .exact .inl q
  .exact .inr ⟨q,cellsFrom_some _ _ _ (.inl q)⟩
 refine codeAny_call_function hr.depth (KX _ _ lk) rfl S.co S.gen rfl (PySem.W.codeRec_of KX hcd) (hb _ _ _ _ ?_);refine wpAny_newFunctionEnv_cells S.kind hkind λenv he s1 x=>?_;subst he;refine ⟨lim.keeps x.toInCall.keep,codeAny_func ?_⟩;obtain ⟨t,ht,hq⟩:=hbody A outer s H vs Q E (hr.deeper _) hsp;have I:Inv (sA CX P w K mg base N qual scope f cdv A outer s H E) [] (start N vs) H s1:=zS S hr.hd e0 hl r x;refine wpAny_mono (ht [] s1 (start N vs) H _ I hq) (λfl s' hs=>?_) λe s' hs=>hs;have fin:∀{σ':St} {H':Hp} {v:V} {u:Lg},Inv (sA CX P w K mg base N qual scope f cdv A outer s H E) [] σ' H' s'->RelV v u->Q v H'->CE outer P w H s Q u s':=
  λ{σ' H' v u} J rv q=>⟨v,H',J.os,J.bare,J.base,J.bC,rv,q⟩
 cases fl with
 | ret u =>
  obtain ⟨v,σ',H',J,rv,q⟩:=hs;exact fin J rv q
 | next =>
  obtain ⟨σ',H',J,q⟩:=hs;exact fin (v:=V.non) (u:=Value.none) J rfl q
 | brk =>
  obtain ⟨_,_,_,q⟩:=hs;exact False.elim q
 | cont =>
  obtain ⟨_,_,_,q⟩:=hs;exact False.elim q
end L2
namespace L2
open PySem PySem.Spec PyProof.Rows
section
variable {X:Cx} {x:Str} {p pos:Pos} {e:Expr} {es:List Expr} {t:TA} {id T:String} {r:List V->Hp->VK->Prop}
noncomputable def JB (r:List V->Hp->VK->Prop)(t:TA):TE:=λσ H Q=>t σ H λvs H1=>r vs H1 Q
theorem vB (hc:fK X (.builtin id) r)(hg:Gl X x)(hm:X.mg x=none)(hv:bootBuiltins x=some (.builtin id))(ha:PA X (e::es) t)(hn:autoParam (x≠"__name__") aZb._auto_1)(hdb:autoParam ((x == ("__debug__" : Str))=false) aZb._auto_1)
  (he:autoParam (starEach (e::es) X.env=(false,eval e X.env)::starEach es X.env) aZa._auto_1) (hpl:autoParam ((backTo pos (starEach es X.env)).any (·.1)=false) aZa._auto_1):PE X (.Call (.Name x p) (e::es) [] pos) (JB r t):=by
 intro pins s σ H Q I h;refine wpAny_Call_Name_kw (iG I hg hm hv ?_ hn hdb);exact PyProof.Rows.callWith_builtin1 (cj (ha pos pins s σ H _ I h) (by rintro us s1 ⟨vs,H1,I1,r1,q1⟩;exact hc pins s1 σ H1 vs us Q I1 r1 q1)) he hpl
theorem Ak (hc:fK X (.type T) r)(hg:Gl X x)(hm:X.mg x=none)(hv:bootBuiltins x=some (.type T))(ha:PA X (e::es) t)(hn:autoParam (x≠"__name__") aZb._auto_1)(hdb:autoParam ((x == ("__debug__" : Str))=false) aZb._auto_1)
  (he:autoParam (starEach (e::es) X.env=(false,eval e X.env)::starEach es X.env) aZa._auto_1) (hpl:autoParam ((backTo pos (starEach es X.env)).any (·.1)=false) aZa._auto_1):PE X (.Call (.Name x p) (e::es) [] pos) (JB r t):=by
 intro pins s σ H Q I h;refine wpAny_Call_Name_kw (iG I hg hm hv ?_ hn hdb);exact PyProof.Rows.callWith_type1 (cj (ha pos pins s σ H _ I h) (by rintro us s1 ⟨vs,H1,I1,r1,q1⟩;exact hc pins s1 σ H1 vs us Q I1 r1 q1)) he hpl
end
end L2
namespace HT
open PySem PyProof.Rows
section
open PySem.SeqAt
open PySem.AutoSeq1 (wpAny_loadPart')
open PySem.MeetsSeq PySem.MeetsSeq2 PySem.MeetsSeq3
end
section
variable {prog:LH} {w:LR} {A:LQ} {E:Lg->Li->Prop} {s:Li}
theorem Dl {t b:Addr}{vs ws:List Lg}{Q:Lg->Li->Prop}(ht:IsTup s.heap t vs.toArray)(hb:IsTup s.heap b ws.toArray)(hv:vs≠[])
  (h1:ws = []->Q (.ref t) s) (h2:ws≠[]->Q (.ref s.heap.objs.size) { s with heap:=s.heap.push { cls:=.type "tuple",data:=.seq (vs++ws).toArray } })
  (hsz:vs.length+ws.length<=sizeLine):wpAny (model prog w) A (binaryOp .Add (.ref t) (.ref b)) Q E s:=by
 obtain ⟨⟨cls,dd,data,sl⟩,ho,hc,n,hd⟩:=id ht;obtain ⟨⟨cls2,dd2,data2,sl2⟩,ho2,hc2,n2,hd2⟩:=id hb;simp only at hc hd hc2 hd2;subst hc hd hc2 hd2;have e:vs.toArray++ws.toArray=(vs++ws).toArray:=by simp
 by_cases hw:ws = []
 .exact concat_meets ⟨_,ho,rfl⟩ ⟨_,ho2,rfl⟩ noFill_tuple_add seq_tuple_add PySem.F.slot_tuple_add PySem.F.entry_tuple_add (PySem.F.args_tuple_add_2 _ _)
   (tuple_addW1 t b vs.toArray ws.toArray n n2 dd dd2 sl sl2 (by simpa using hv) (by simp[hw])) ⟨ho,ho2,h1 hw⟩
 .refine concat_meets ⟨_,ho,rfl⟩ ⟨_,ho2,rfl⟩ noFill_tuple_add seq_tuple_add PySem.F.slot_tuple_add PySem.F.entry_tuple_add (PySem.F.args_tuple_add_2 _ _)
   (tuple_addW2 t b vs.toArray ws.toArray n n2 dd dd2 sl sl2 (by simpa using hv) (by simpa using hw) (by rw[LG,LG];exact hsz)) ⟨ho,ho2,?_⟩
  rw[e];exact h2 hw
noncomputable def eC (n d:Nat):Option Int->Nat
 | none=>d
 | some v=>if v<0 then (v+(n:Int)).toNat else min v.toNat n
theorem vQ (n d:Nat):eC n d none=d:=rfl
theorem y6 (n d k:Nat):eC n d (some (k:Int))=min k n:=by
 show (if (k:Int)<0 then ((k:Int)+(n:Int)).toNat else min (k:Int).toNat n)=min k n;rw[if_neg (by lia),Int.toNat_natCast]
theorem GQ (n d:Nat)(hd:d<=n)(o:Option Int):eC n d o<=n:=by
 cases o with
 | none=>exact hd
 | some v =>
  show (if v<0 then (v+(n:Int)).toNat else min v.toNat n)<=n;by_cases hv:v<0
  .rw[if_pos hv];lia
  .rw[if_neg hv];exact Nat.min_le_right _ _
theorem xF (v:Int)(n d:Nat):(if v<0 then max (v+(n:Int)) 0 else min v (n:Int))=((eC n d (some v):Nat):Int):=by
 show (if v<0 then max (v+(n:Int)) 0 else min v (n:Int))=(((if v<0 then (v+(n:Int)).toNat else min v.toNat n):Nat):Int)
 by_cases hv:v<0
 .simp only[if_pos hv];lia
 .simp only[if_neg hv];lia
theorem wd (lo hi:Option Int)(n:Nat):Builtin.Slice.sliceAdjust lo hi 1 (n:Int)=(((eC n 0 lo:Nat):Int),((eC n n hi:Nat):Int)):=by
 have h1:¬((1:Int)<0):=by lia
 unfold Builtin.Slice.sliceAdjust;simp only[h1,if_false];refine Prod.ext ?_ ?_
 .cases lo with
  | none=>rfl
  | some v=>exact xF v n 0
 .cases hi with
  | none=>rfl
  | some v=>exact xF v n n
theorem xb (i j:Nat):Builtin.Slice.slicePlaces (i:Int) (j:Int) 1=j - i:=by
 unfold Builtin.Slice.slicePlaces;have h1:(1:Int)>0:=by lia
 simp only[h1,if_true,Int.ediv_one];split<;>lia
theorem p9 {v:Lg}{o:Option Int}{Q:Option Int->Li->Prop}(p:IsPart v o)(h:Q o s):wpAny (model prog w) A (Builtin.Slice.slicePartIndex v) Q E s:=by
 cases p with
 | none=>exact slicePart_none h
 | int i t=>exact slicePart_int h
theorem nt {sl:Addr}{vl vu:Lg}{lo hi:Option Int}{n:Nat}{Q:Int×Int×Nat->Li->Prop}(hs:s.heap.IsSliceOf sl vl vu .none)(pl:IsPart vl lo)(pu:IsPart vu hi)
  (h:Q (((eC n 0 lo:Nat):Int),1,eC n n hi - eC n 0 lo) s):wpAny (model prog w) A (Builtin.Slice.sliceApplied (.ref sl) (pure (n:Int))) Q E s:=by
 obtain ⟨os,hos,hcs,hds⟩:=id hs;unfold Builtin.Slice.sliceApplied Builtin.Slice.sliceFields;refine Lh (Lh (wpAny_field hos hds (x:=vl) rfl (Lh (wpAny_field hos hds (x:=vu) rfl (Lh (wpAny_field hos hds (x:=.none) rfl (Lj ?_)))))));refine Lh (slicePart_none ?_);show wpAny _ _ (if ((1:Int) == 0)=true then _ else _) _ _ s;rw[if_neg (by decide)];refine Lh (p9 pl (Lh (p9 pu (Lh (Lj ?_)))));show wpAny _ _ (match Builtin.Slice.sliceAdjust lo hi 1 (n:Int) with | (lo,hi)=>pure (lo,(1:Int),Builtin.Slice.slicePlaces lo hi 1)) _ _ s;rw[wd lo hi n];show wpAny _ _ (pure (((eC n 0 lo:Nat):Int),(1:Int),Builtin.Slice.slicePlaces ((eC n 0 lo:Nat):Int) ((eC n n hi:Nat):Int) 1)) _ _ s;rw[xb];exact Lj h
theorem Cr (xs:Array Lg)(i k:Nat):((LD k).filterMap λ(m:Nat)=>xs[((i:Int)+(m:Int)*1).toNat]?).toArray=((xs.toList.drop i).take k).toArray:=by
 have e:(λ(m:Nat)=>xs[((i:Int)+(m:Int)*1).toNat]?)=λm=>xs[i+m]?:=by
  funext m
  have:((i:Int)+(m:Int)*1).toNat=i+m:=by lia
  rw[this]
 rw[e];have:=pick_run xs i k;rw[List.filterMap_map] at this;have e2:((λx=>xs[x]?)∘λx=>i+x)=λm=>xs[i+m]?:=rfl;rw[e2] at this;rw[this]
theorem ml {t sl:Addr}{items:Array Lg}{vl vu:Lg}{lo hi:Option Int}{Q:Lg->Li->Prop}(ht:IsTup s.heap t items)(hs:s.heap.IsSliceOf sl vl vu .none)(pl:IsPart vl lo)(pu:IsPart vu hi)
  (hw:¬(eC items.size 0 lo=0/\eC items.size items.size hi=items.size))
  (h:Q (.ref s.heap.objs.size) { s with heap:=s.heap.push { cls:=.type "tuple",data:=.seq ((items.toList.drop (eC items.size 0 lo)).take (eC items.size items.size hi - eC items.size 0 lo)).toArray } })
  (hsz:items.size<=sizeLine):wpAny (model prog w) A (getItem (.ref t) (.ref sl)) Q E s:=by
 have htake:sizeOk (.seq ((items.toList.drop (eC items.size 0 lo)).take (eC items.size items.size hi - eC items.size 0 lo)).toArray):=by
  show ((items.toList.drop (eC items.size 0 lo)).take (eC items.size items.size hi - eC items.size 0 lo)).toArray.size<=sizeLine;rw[LG,length_take,length_drop,Lw];lia
 have hj:eC items.size items.size hi<=items.size:=GQ _ _ (Ll _) hi;obtain ⟨os,hos,hcs,hds⟩:=id hs;have hTs:s.TypeIs (.ref sl) "slice":=⟨os,hos,hcs⟩
 unfold getItem;try with_reducible refine wpAny_holding ?_
 first | refine Lh (Lj ?_) | skip
 refine Lh (wpAny_sequenceKey ht.typeIs (by decide) ?_);refine Lh (wpAny_callSpecial?_slot (name:=Str.ofString "__getitem__") ht.typeIs PyProof.Rows.slot_tuple_getitem
  (wpAny_call_entry PyProof.Rows.slot_tuple_getitem ht.typeIs entry_tuple_getitem ?_ (args_tuple_getitem _ _)))
 show wpAny _ _ (Builtin.Tuple.tupleItemsOf (.ref t) >>= _) _ _ s;refine Lh (tupleItemsOf_ ht ?_);refine Lh (wpAny_typeOf hTs ?_);rw[if_pos (by decide)];refine Lh (nt hs pl pu ?_);have hno:¬((((eC items.size 0 lo:Nat):Int) == 0 && (1:Int) == 1 && (eC items.size items.size hi - eC items.size 0 lo) == items.size)=true):=by
  intro q;rw[LV,LV] at q;have q1:((eC items.size 0 lo:Nat):Int)=0:=eq_of_beq q.1.1;have q2:eC items.size items.size hi - eC items.size 0 lo=items.size:=eq_of_beq q.2;exact hw ⟨by lia,by lia⟩
 show wpAny _ _ (if (((eC items.size 0 lo:Nat):Int) == 0 && (1:Int) == 1 && (eC items.size items.size hi - eC items.size 0 lo) == items.size)=true then _ else _) _ _ s;rw[if_neg hno,Cr];first
  | exact Lh (m:=Builtin.Tuple.tupleExact _) (wpAny_newObj_type (Lj ⟨_,rfl,Lj h⟩) htake)
  | exact Lh (m:=Builtin.Tuple.tupleExact _) (wpAny_newObj_type (Lh (Lj (Lj ⟨_,rfl,Lj h⟩))) htake)
  | exact Lh (Lh (m:=Builtin.Tuple.tupleExact _) (wpAny_newObj_type (Lj (Lj ⟨_,rfl,Lj h⟩)) htake))
  | exact Lh (Lh (m:=Builtin.Tuple.tupleExact _) (wpAny_newObj_type (Lj ⟨_,rfl,Lj h⟩) htake))
end
end HT
namespace L2
open PySem PySem.Spec PyProof.Rows
noncomputable abbrev TO:=St->Hp->(Option Int->Hp->Prop)->Prop
noncomputable def PO (X:Cx)(e:Option Expr)(t:TO):Prop:=
 ∀(pins:List (Addr×Obj)) (s:Li) (σ:St) (H:Hp) (Q:Option Int->Hp->Prop),Inv X pins σ H s->t σ H Q ->
  wpAny (model X.prog X.w) X.A (evalPart e X.env) (λu s'=>∃o H',Inv X pins σ H' s'/\IsPart u o/\Q o H') X.xe s
noncomputable def EF:TO:=λ_ H Q=>Q none H
noncomputable def Jh (t:TE):TO:=λσ H Q=>t σ H λx H1=>∃i,x=.int i/\Q (some i) H1
theorem intsAre_of {ns:List Int}:∀{us:List Lg},Vals (ns.map V.int) us->IntsAre us ns:=by
 induction ns with
 | nil=>intro us r;rw[List.map_nil] at r;cases r;exact .nil
 | cons n ns ih =>
  intro us r;rw[LK] at r;cases r with
  | cons r1 r2 =>
   obtain ⟨t,e⟩:=r1;subst e;exact .cons n t (ih r2)
section
variable {X:Cx} {e:Expr} {te:TE} {lo hi:Option Expr} {tl th:TO} {pos p2:Pos}
theorem tL:PO X none EF:=by
 intro pins s σ H Q I h;rw[evalPart_none];exact Lj ⟨none,H,I,.none,h⟩
theorem tM (h:PE X e te):PO X (some e) (Jh te):=by
 intro pins s σ H Q I hw;rw[evalPart_some];refine cj (h pins s σ H _ I hw) ?_;rintro u s1 ⟨x,H1,I1,r1,q1⟩;obtain ⟨i,rfl,q⟩:=q1;obtain ⟨t,rfl⟩:=r1;exact ⟨some i,H1,I1,.int i t,q⟩
noncomputable def Fx (X:Cx)(r:V->Option Int->Option Int->Hp->VK->Prop):Prop:=
 ∀(pins:List (Addr×Obj)) (s:Li) (σ:St) (H:Hp) (x:V) (v vl vu:Lg) (lo hi:Option Int) (sl:Addr) (Q:VK),Inv X pins σ H s->RelV x v->s.heap.IsSliceOf sl vl vu .none->IsPart vl lo->IsPart vu hi->r x lo hi H Q ->
  ∃T id,typeLookup (.type T) "__getitem__" = pure (some (.builtin id))/\s.TypeIs v T/\wpAny (model X.prog X.w) X.A (getItem v (.ref sl)) (EP X pins σ Q) X.xe s
theorem Fx.or {r r':V->Option Int->Option Int->Hp->VK->Prop}(h:Fx X r)(h':Fx X r'):Fx X (λx lo hi H Q=>r x lo hi H Q\/r' x lo hi H Q):=by
 intro pins s σ H x v vl vu lo hi sl Q I rx hs pl pu q;rcases q with q | q
 .exact h pins s σ H x v vl vu lo hi sl Q I rx hs pl pu q
 .exact h' pins s σ H x v vl vu lo hi sl Q I rx hs pl pu q
noncomputable def Lb (r:V->Option Int->Option Int->Hp->VK->Prop)(te:TE)(tl th:TO):TE:=λσ H Q=>te σ H λx H1=>tl σ H1 λl H2=>th σ H2 λu H3=>r x l u H3 Q
theorem pM {r:V->Option Int->Option Int->Hp->VK->Prop}(hr:Fx X r)(he:PE X e te)(hl:PO X lo tl)(hu:PO X hi th):PE X (.Subscript e (.Slice lo hi none p2) pos) (Lb r te tl th):=by
 intro pins s σ H Q I h;refine Subscript_ (cj (he pins s σ H _ I h) ?_);rintro v s1 ⟨x,H1,I1,r1,q1⟩;refine wpAny_Slice (cj (hl pins s1 σ H1 _ I1 q1) λvl s2 ⟨l,H2,I2,pl,q2⟩=>cj (hu pins s2 σ H2 _ I2 q2) ?_);rintro vu s3 ⟨u,H3,I3,pu,q3⟩;rw[evalPart_none];refine Lj ?_;have I4:Inv X pins σ H3 { s3 with heap:=s3.heap.push { cls:=.type "slice",data:=.fields #[vl,vu,.none] } }:=I3.kept (t':=s3.toks) λb ob q=>Ln _ q;obtain ⟨T,id,hT,ht,hg⟩:=hr pins { s3 with heap:=s3.heap.push { cls:=.type "slice",data:=.fields #[vl,vu,.none] } } σ H3 x v vl vu l u s3.heap.objs.size Q I4 r1 (Heap.IsSliceOf.new ..) pl pu q3;show wpAny (model X.prog X.w) X.A (subscriptTail e (.Slice lo hi none p2) v (.ref s3.heap.objs.size)) (EP X pins σ Q) X.xe { s3 with heap:=s3.heap.push { cls:=.type "slice",data:=.fields #[vl,vu,.none] } };exact tail_any (ops:=[.ref s3.heap.objs.size,v]) ht hT hg (by with_unfolding_all rfl)
noncomputable def fc (xs:List V)(lo hi:Option Int):List V:=(xs.drop (HT.eC xs.length 0 lo)).take (HT.eC xs.length xs.length hi - HT.eC xs.length 0 lo)
theorem nD (xs:List V)(lo hi:Option Int):(fc xs lo hi).length<=xs.length:=by
 unfold fc;rw[length_take,length_drop];lia
noncomputable def Kg (K:Frag):V->Option Int->Option Int->Hp->VK->Prop:=λx lo hi H Q=>∃a xs,x=.ref a/\i7 K H a xs /\
 ¬(HT.eC xs.length 0 lo=0/\HT.eC xs.length xs.length hi=xs.length)/\∀p,H p=none->Q (.ref p) (upd H p (.tup (fc xs lo hi)))
theorem GV:Fx X (Kg X.K):=by
 intro pins s σ H x v vl vu lo hi sl Q I rx hs pl pu h;obtain ⟨a,xs,rfl,hx,hw,q⟩:=h;cases rx;obtain ⟨its,r,ht,hz⟩:=I.tuple hx;have hlen:its.toArray.size=xs.length:=by rw[LG];exact r.length.symm
 refine ⟨"tuple",_,PyProof.Rows.slot_tuple_getitem.lookup,ht.typeIs,?_⟩;refine HT.ml ht hs pl pu (by rw[hlen];exact hw) ?_ (by rw[hlen];exact hz);rw[hlen];refine ⟨.ref s.heap.objs.size,_,I.laid (t':=s.toks) (o:=.tup (fc xs lo hi)) (λb ob q=>Ln _ q) (Ll _) ?_,rfl,q _ (I.bC.fresh (Ll _))⟩;exact ⟨Nat.le_trans (nD xs lo hi) hz,_,(r.drop (HT.eC xs.length 0 lo)).take (HT.eC xs.length xs.length hi - HT.eC xs.length 0 lo),IsTup.new _ _⟩
noncomputable def IG (K:Frag):R2:=λx y H Q=>∃a b xs ys,x=.ref a/\y=.ref b/\i7 K H a xs/\i7 K H b ys/\xs≠[]/\xs.length+ys.length<=sizeLine /\
 (ys = []->Q (.ref a) H)/\(ys≠[]->∀p,H p=none->Q (.ref p) (upd H p (.tup (xs++ys))))
theorem Vals.tu {xs:List V}{us:List Lg}(r:Vals xs us):us = []↔xs = []:=by
 cases r with
 | nil=>simp
 | cons _ _=>simp
theorem tK:kG X (binaryOp .Add) (IG X.K):=by
 intro pins s σ H x y v u Q I rx ry h;obtain ⟨a,b,xs,ys,rfl,rfl,ha,hb,hx,hz,q1,q2⟩:=h;cases rx;cases ry;obtain ⟨its,r1,p1,_⟩:=I.tuple ha;obtain ⟨its2,r2,p2,_⟩:=I.tuple hb;refine HT.Dl p1 p2 (λz=>hx (r1.tu.mp z)) (λz=>⟨.ref a,H,I,rfl,q1 (r2.tu.mp z)⟩) (λz=>?_) (by rw[<-r1.length,<-r2.length];exact hz);refine ⟨.ref s.heap.objs.size,_,I.laid (t':=s.toks) (o:=.tup (xs++ys)) (λb ob q=>Ln _ q) (Ll _) ?_,rfl,q2 (λw=>z (r2.tu.mpr w)) _ (I.bC.fresh (Ll _))⟩;exact ⟨by rw[LA];exact hz,_,r1.append r2,IsTup.new _ _⟩
end
end L2
namespace L2
open PySem PySem.Spec PyProof.Rows
noncomputable def yt (n:Nat)(i:Int):Option Nat:=if 0<=i then (if i<n then some i.toNat else none) else if -(n:Int)<=i then some (i+n).toNat else none
noncomputable def jk {α:Type}(xs:List α)(i:Int):Option α:=(yt xs.length i).bind λj=>xs[j]?
theorem yu {n:Nat}{i:Int}{j:Nat}(h:yt n i=some j):seqIndex? i n=some j/\j<n/\-(n:Int)<=i/\i<n:=by
 unfold yt at h;by_cases h0:0<=i
 .rw[if_pos h0] at h;by_cases h1:i<n
  .rw[if_pos h1] at h;have e:i.toNat=j:=Option.some.inj h;exact ⟨by rw[seqIndex_of h0 h1,e],by lia,by lia,h1⟩
  .rw[if_neg h1] at h;cases h
 .rw[if_neg h0] at h;by_cases h1 : -(n:Int)<=i
  .rw[if_pos h1] at h;have e:(i+n).toNat=j:=Option.some.inj h;exact ⟨by rw[seqIndex_neg (by lia) h1,e],by lia,h1,by lia⟩
  .rw[if_neg h1] at h;cases h
theorem oj {α:Type}{xs:List α}{i:Int}{v:α}(h:jk xs i=some v):∃j,seqIndex? i xs.length=some j/\xs[j]?=some v/\j<xs.length/\-(xs.length:Int)<=i/\i<xs.length:=by
 unfold jk at h;cases e:yt xs.length i with
 | none=>rw[e] at h;cases h
 | some j =>
  rw[e] at h;obtain ⟨h1,h2,h3,h4⟩:=yu e;exact ⟨j,h1,h,h2,h3,h4⟩
theorem lJ {α:Type}{xs:List α}{j:Nat}{v:α}(h:xs[j]?=some v):jk xs (j:Int)=some v:=by
 have hj:j<xs.length:=(Lp.mp h).1;have e:yt xs.length (j:Int)=some j:=by
  unfold yt;rw[if_pos (by lia),if_pos (by lia)];simp
 unfold jk;rw[e];exact h
noncomputable def xu (b:Expr):Prop:=∀o i,subscripted b false o i=operate [o,i] (getItem o i)
noncomputable def C9 (X:Cx)(r:R2):Prop:=
 ∀(value slice:Expr) (pins:List (Addr×Obj)) (s:Li) (σ:St) (H:Hp) (x y:V) (v u:Lg) (Q:VK),Inv X pins σ H s->RelV x v->RelV y u->r x y H Q ->
  subscripted slice false v u=operate [v,u] (getItem v u)->wpAny (model X.prog X.w) X.A (subscriptTail value slice v u) (EP X pins σ Q) X.xe s
noncomputable def KY (X:Cx)(id:String)(r:V->List V->Hp->VK->Prop):Prop:=
 ∀(pins:List (Addr×Obj)) (s:Li) (σ:St) (H:Hp) (x:V) (xs:List V) (v:Lg) (us:List Lg) (Q:VK),Inv X pins σ H s->RelV x v->Vals xs us->r x xs H Q ->
  wpAny (model X.prog X.w) X.A (call (.builtin id) (v::us)) (EP X pins σ Q) X.xe s
section
variable {X:Cx} {a b:Expr} {ta tb:TE} {pos:Pos}
theorem C9.or {r r':R2}(h:C9 X r)(h':C9 X r'):C9 X (λx y H Q=>r x y H Q\/r' x y H Q):=by
 intro value slice pins s σ H x y v u Q I rx ry q hs;rcases q with q | q
 .exact h value slice pins s σ H x y v u Q I rx ry q hs
 .exact h' value slice pins s σ H x y v u Q I rx ry q hs
theorem IB {r:R2}(hr:C9 X r)(ha:PE X a ta)(hb:PE X b tb)(hs:xu b):PE X (.Subscript a b pos) (GZ r ta tb):=by
 intro pins s σ H Q I h;exact Subscript_ (FD ha hb I h λv u s2 x y H2 I2 rx ry q=>hr a b pins s2 σ H2 x y v u Q I2 rx ry q (hs _ _))
noncomputable def IJ (K:Frag):R2:=λx y H Q=>∃p xs i v,x=.ref p/\y=.int i/\dA K H p xs/\jk xs i=some v/\Q v H
noncomputable def IL (K:Frag):R2:=λx y H Q=>∃p xs i v,x=.ref p/\y=.int i/\i7 K H p xs/\jk xs i=some v/\Q v H
noncomputable def IK:R2:=λx y H Q=>∃z i c,x=.str z/\y=.int i/\z.length<=sizeLine/\jk z.cps.toList i=some c/\Q (.str ⟨#[c]⟩) H
theorem DZ:C9 X (IJ X.K):=by
 intro value slice pins s σ H x y v u Q I rx ry h hs;obtain ⟨p,xs,i,z,rfl,rfl,hq,he,q⟩:=h;cases rx;obtain ⟨t,rfl⟩:=ry;obtain ⟨its,r,pl,hz⟩:=I.list hq;obtain ⟨j,h1,h2,h3,h4,h5⟩:=oj he;obtain ⟨w,ew,rw'⟩:=r.get h2;have hl:=r.length;have hn:=lj;have fin:EP X pins σ Q w s:=⟨z,H,I,rw',q⟩
 by_cases h0:0<=i
 .have hj:i.toNat=j:=by
   rw[seqIndex_of h0 h5] at h1;exact Option.some.inj h1
  exact item_listR pl.isList h0 (by lia) (by rw[hj];simpa using ew) fin hs
 .have hj:(i+(its.toArray.size:Int)).toNat=j:=by
   rw[seqIndex_neg (by lia) h4] at h1;rw[LG,<-hl];exact Option.some.inj h1
  exact subscriptTail_builtinR (x:=w) pl.isList.typeIs slot_list_getitem.lookup
   (wpAny_getItem_list_neg (Q:=λr s'=>r=w/\EP X pins σ Q r s') pl.isList (by lia) (by rw[LG]<;>lia) (by lia) (by rw[hj];simpa using ew) ⟨rfl,fin⟩) hs
theorem FX:C9 X (IL X.K):=by
 intro value slice pins s σ H x y v u Q I rx ry h hs;obtain ⟨p,xs,i,z,rfl,rfl,hq,he,q⟩:=h;cases rx;obtain ⟨t,rfl⟩:=ry;obtain ⟨its,r,pl,hz⟩:=I.tuple hq;obtain ⟨j,h1,h2,h3,h4,h5⟩:=oj he;obtain ⟨w,ew,rw'⟩:=r.get h2;have hl:=r.length;have hn:=lj;have fin:EP X pins σ Q w s:=⟨z,H,I,rw',q⟩
 exact subscriptTail_builtinR (x:=w) pl.typeIs slot_tuple_getitem.lookup
  (getItem_tuple (j:=j) (Q:=λr s'=>r=w/\EP X pins σ Q r s') pl (by lia) (by lia) (by rw[LG,<-hl];exact h1) (by simpa using ew) ⟨rfl,fin⟩) hs
theorem FW:C9 X IK:=by
 intro value slice pins s σ H x y v u Q I rx ry h hs;obtain ⟨z,i,c,rfl,rfl,hz,he,q⟩:=h;obtain ⟨t,rfl⟩:=rx;obtain ⟨t',rfl⟩:=ry;obtain ⟨j,h1,h2,h3,h4,h5⟩:=oj he;have hl:z.cps.toList.length=z.length:=by simp[Str.length]
 rw[hl] at h1 h4 h5;have hn:=lj;exact tail_any (typeIs_str s z t) slot_str_getitem.lookup (getItem_str (c:=c) (by
  have e1:decide (i < -(2 ^ 63:Int))=false:=decide_eq_false (by lia);have e2:decide (i>=2 ^ 63)=false:=decide_eq_false (by lia);rw[e1,e2,Bool.or_false]) (by rw[h1];simpa using h2) ⟨.str ⟨#[c]⟩,H,I.tok _,⟨_,rfl⟩,q⟩) hs
noncomputable def K8 (K:Frag):R2:=λx y H Q=>IJ K x y H Q\/IL K x y H Q\/IK x y H Q
theorem FV:C9 X (K8 X.K):=DZ.or (FX.or FW)
theorem wQ (its:List Lg)(n j:Nat)(u:Lg):LU (·.setIfInBounds j u) { cls:=.type "list",data:=.seq its.toArray n } = { cls:=.type "list",data:=.seq (its.set j u).toArray n }:=by
 simp[LU]
theorem Inv.lst {pins:List (Addr×Obj)}{σ:St}{H:Hp}{s:Li}{p:Addr}{xs:List V}(I:Inv X pins σ H s)(h:H p=some (.lst xs)) :
  ∃(its:List Lg) (n:Nat),Vals xs its/\s.heap.get? p=some { cls:=.type "list",data:=.seq its.toArray n }/\xs.length<=sizeLine:=by
 obtain ⟨z,its,n,r,e⟩:=I.bC p _ h;exact ⟨its,n,r,e,z⟩
theorem Inv.Gg {pins:List (Addr×Obj)}{σ:St}{H:Hp}{s:Li}{p:Addr}{xs ys:List V}{its its':List Lg}{n n':Nat}{f:Obj->Obj}(I:Inv X pins σ H s)(h:H p=some (.lst xs))
  (ho:s.heap.get? p=some { cls:=.type "list",data:=.seq its.toArray n }) (hf:f { cls:=.type "list",data:=.seq its.toArray n } = { cls:=.type "list",data:=.seq its'.toArray n' }) (r:Vals ys its') (hz:ys.length<=sizeLine) (t:Nat) :
  Inv X pins σ (upd H p (.lst ys)) { s with heap:=s.heap.update p f,toks:=t }:=by
 have e:(s.heap.update p f).get? p=some { cls:=.type "list",data:=.seq its'.toArray n' }:=by
  rw[Heap.get?_update_self f ho (by rw[hf]<;>rfl),hf]
 refine I.write (x:=p) (e:=p) (by rw[h];trivial) (.inl rfl) (λb u hb q=>(Heap.get?_update_other _ _ (Ne.symm hb)).trans q) ⟨_,e⟩ ?_;exact ⟨hz,its',n',r,e⟩
noncomputable def IP:V->V->V->Hp->(Hp->Prop)->Prop:=λo i v H Q=>∃p xs k j,o=.ref p/\i=.int k/\H p=some (.lst xs)/\yt xs.length k=some j/\Q (upd H p (.lst (xs.set j v)))
theorem set_list:Dd X IP:=by
 intro pins s σ H o i v ov iv u Q I ro ri rv h;obtain ⟨p,xs,k,j,rfl,rfl,hp,hj,q⟩:=h;cases ro;obtain ⟨t,rfl⟩:=ri;obtain ⟨its,n,r,ho,hz⟩:=I.lst hp;obtain ⟨h1,h2,h3,h4⟩:=yu hj;have hl:=r.length;have hn:=lj;have I':Inv X pins σ (upd H p (.lst (xs.set j v))) { s with heap:=s.heap.update p (LU (·.setIfInBounds j u)) }:=
  I.Gg hp ho (wQ its n j u) (r.set rv j) (by rw[length_set];exact hz) s.toks
 by_cases h0:0<=k
 .have hk:k.toNat=j:=by
   rw[seqIndex_of h0 h4] at h1;exact Option.some.inj h1
  exact PySem.W.ki_setAt ho h0 (by lia) (by rw[LG,<-hl];exact h4) (by rw[hk];exact ⟨_,I',q⟩)
 .have hk:(k+(its.toArray.size:Int)).toNat=j:=by
   rw[seqIndex_neg (by lia) h3] at h1;rw[LG,<-hl];exact Option.some.inj h1
  exact PySem.W.ki_setBack ho (by lia) (by rw[LG,<-hl];exact h3) (by lia) (by rw[hk];exact ⟨_,I',q⟩)
theorem tY (lo hi:Option Int)(n:Nat):(sliceBounds lo hi none n).1=((HT.eC n 0 lo:Nat):Int)/\(sliceBounds lo hi none n).2.1=((HT.eC n n hi:Nat):Int)/\(sliceBounds lo hi none n).2.2=1:=by
 refine ⟨?_,?_,rfl⟩
 .cases lo with
  | none=>simp[sliceBounds,HT.eC]
  | some i =>
   simp only[sliceBounds,HT.eC,Option.getD_none,show (1:Int)>0 by decide,if_true];by_cases h:i<0
   .simp only[h,if_true]<;>lia
   .simp only[h,if_false]<;>lia
 .cases hi with
  | none=>simp[sliceBounds,HT.eC]
  | some i =>
   simp only[sliceBounds,HT.eC,Option.getD_none,show (1:Int)>0 by decide,if_true];by_cases h:i<0
   .simp only[h,if_true]<;>lia
   .simp only[h,if_false]<;>lia
theorem qJ (its:List Lg)(lo hi:Option Int):slicePick its.toArray lo hi none=((its.drop (HT.eC its.length 0 lo)).take (HT.eC its.length its.length hi - HT.eC its.length 0 lo)).toArray:=by
 obtain ⟨h1,h2,h3⟩:=tY lo hi its.toArray.size;unfold slicePick;rw[h1,h2,h3];simp only[sliceRange_one,pick_run,LG]<;>rfl
noncomputable def Kf (K:Frag):V->Option Int->Option Int->Hp->VK->Prop:=λx lo hi H Q=>∃a xs,x=.ref a/\dA K H a xs/\∀p,H p=none->Q (.ref p) (upd H p (.lst (fc xs lo hi)))
theorem tX:Fx X (Kf X.K):=by
 intro pins s σ H x v vl vu lo hi sl Q I rx hs pl pu h;obtain ⟨a,xs,rfl,hx,q⟩:=h;cases rx;obtain ⟨its,r,ht,hz⟩:=I.list hx;have hlen:=r.length;refine ⟨"list",_,slot_list_getitem.lookup,ht.isList.typeIs,?_⟩;refine wpAny_getItem_list_slice ht.isList hs pl pu .none (by simp) ?_ (by rw[LG]<;>lia);rw[qJ,<-hlen];refine ⟨.ref s.heap.objs.size,_,I.laid (t':=s.toks) (o:=.lst (fc xs lo hi)) (λb ob q=>Ln _ q) (Ll _) ?_,rfl,q _ (I.bC.fresh (Ll _))⟩;exact ⟨Nat.le_trans (nD xs lo hi) hz,_,0,(r.drop (HT.eC xs.length 0 lo)).take (HT.eC xs.length xs.length hi - HT.eC xs.length 0 lo),LP _ rfl⟩
noncomputable def HR:V->Bool
 | .non=>true
 | .bl _=>true
 | .int _=>true
 | .str _=>true
 | _=>false
noncomputable def KS (K:Frag)(T:String)(x:V)(H:Hp):Prop:=match x with
 | .str _=>T = "str"
 | .int _=>T = "int"
 | .ref p=>(T = "list"/\∃xs,dA K H p xs)\/(T = "tuple"/\∃o,K.lookup p=some o/\o.cls=.type "tuple"/\o.dict=none) \/
   (T = "dict"/\((∃kvs,H p=some (.dK kvs))\/∃kvs,H p=some (.dT kvs)))\/(T = "set"/\∃S n,H p=some (.set S n))
 | _=>False
theorem Hi {pins:List (Addr×Obj)}{σ:St}{H:Hp}{s:Li}{T:String}{x:V}{v:Lg}(I:Inv X pins σ H s)(r:RelV x v)(ty:KS X.K T x H) :
  s.TypeIs v T/\∀a,v=.ref a->∃ob,s.heap.get? a=some ob/\ob.dict=none:=by
 cases x with
 | str z =>
  obtain ⟨t,rfl⟩:=r;cases (show T = "str" from ty);exact ⟨typeIs_str s z t,λ_ e=>nomatch e⟩
 | int i =>
  obtain ⟨t,rfl⟩:=r;cases (show T = "int" from ty);exact ⟨typeIs_int s i t,λ_ e=>nomatch e⟩
 | ref p =>
  cases r;rcases ty with ⟨rfl,xs,hq⟩ | ⟨rfl,o,hk,hc,hd⟩ | ⟨rfl,hk⟩ | ⟨rfl,S,n,hk⟩
  .obtain ⟨its,_,pl,_⟩:=I.list hq;refine ⟨pl.isList.typeIs,λa e=>?_⟩;cases e;obtain ⟨o,n,e,c,hd,_⟩:=pl;exact ⟨o,e,hd⟩
  .refine ⟨⟨o,I.qx p o hk,hc⟩,λa e=>?_⟩;cases e;exact ⟨o,I.qx _ o hk,hd⟩
  .have z:∃o,s.heap.get? p=some o/\o.ExactDict:=by
    rcases hk with ⟨kvs,hk⟩ | ⟨kvs,hk⟩
    .obtain ⟨_,_,_,_,o,_,_,e,ex,_⟩:=I.bC p _ hk;exact ⟨o,e,ex⟩
    .obtain ⟨_,_,_,_,o,_,_,e,ex,_⟩:=I.bC p _ hk;exact ⟨o,e,ex⟩
   obtain ⟨o,e,ex⟩:=z;refine ⟨⟨o,e,ex.1⟩,λa e2=>?_⟩;cases e2;exact ⟨o,e,ex.2.1⟩
  .obtain ⟨o,_,_,_,e,ex,_⟩:=I.bC p _ hk;refine ⟨⟨o,e,ex.1⟩,λa e2=>?_⟩;cases e2;exact ⟨o,e,ex.2.1⟩
 | _=>exact False.elim ty
noncomputable def La (K:Frag)(T:String)(r:V->List V->Hp->VK->Prop)(to:TE)(t:TA):TE:=λσ H Q=>to σ H λx H1=>KS K T x H1/\t σ H1 λxs H2=>r x xs H2 Q
variable {o e:Expr} {es:List Expr} {to:TE} {t:TA} {name:Str} {apos cpos:Pos} {T id:String} {r:V->List V->Hp->VK->Prop}
theorem yO (pa:PlainAttrs T)(slot:Slot T name id)(hty:typeOf (.builtin id)=pure (.type "method_descriptor"))(hm:KY X id r)(ho:PE X o to)(ha:PA X (e::es) t)
  (hbase:autoParam (attributeBase o name X.env (eval o X.env)=eval o X.env) aZa._auto_1)
  (hfew:autoParam (((backTo cpos (starEach (e::es) X.env)).all (λx=>!x.1) && (backToKw cpos (keywordEach [] X.env)).all (λx=>x.1.isSome)
   && decide ((e::es).length+([]:List Keyword).length+(if ([]:List Keyword).isEmpty then 0 else 1)<30))=true) aZa._auto_1)
  (hline:autoParam ((apos.endLine == cpos.line)=true) aZa._auto_1) (hs:autoParam (starEach (e::es) X.env=(false,eval e X.env)::starEach es X.env) aZa._auto_1) (hplain:autoParam ((backTo cpos (starEach es X.env)).any (·.1)=false) aZa._auto_1) :
  PE X (.Call (.Attribute o name apos) (e::es) [] cpos) (La X.K T r to t):=by
 intro pins s σ H Q I h;refine wpAny_Call_method_late hbase hfew hline rfl (cj (ho pins s σ H _ I h) ?_);rintro v s1 ⟨x,H1,I1,r1,ty,q1⟩;obtain ⟨h1,h2⟩:=Hi I1 r1 ty;refine ⟨T,id,pa,slot,hty,h1,h2,?_⟩;have hA:=ha cpos pins s1 σ H1 _ I1 q1;rw[hs] at hA ⊢;refine Calls.callWith_builtin (by show (false || (backTo cpos (starEach es X.env)).any (·.1))=false;rw[hplain]<;>rfl) (Calls.evalArgs_plain ?_);exact cj hA (by rintro us s2 ⟨vs,H2,I2,r2,q2⟩;exact hm pins s2 σ H2 x vs v us Q I2 r1 r2 q2)
end
end L2
namespace L2
open PySem PySem.Spec PyProof.Rows
noncomputable def KA (X:Cx)(id:String)(r:V->List V->Hp->VK->Prop):Prop:=
 ∀(pins:List (Addr×Obj)) (s:Li) (σ:St) (H:Hp) (x:V) (xs:List V) (v:Lg) (us:List Lg) (Q:VK),Inv X pins σ H s->RelV x v->Vals xs us->r x xs H Q ->
  wpAny (model X.prog X.w) X.A (call (.builtin id) (v::us)) (EP X pins σ Q) X.xe s
theorem Vals.one:∀{x:V} {us:List Lg},Vals [x] us->∃u,us = [u]/\RelV x u
 | _,_,.cons r .nil=>⟨_,rfl,r⟩
theorem Vals.rep {xs:List V}{us:List Lg}(h:Vals xs us):∀k:Nat,Vals (LW k xs).flatten (LW k us).flatten
 | 0=>.nil
 | k+1=>by
  rw[List.replicate_succ,List.replicate_succ,List.flatten_cons,List.flatten_cons];exact Vals.append h (Vals.rep h k)
theorem foldl_rep (its:List Lg):∀(k:Nat) (acc:List Lg),
  List.foldl (λx1 x2=>x1++x2) acc.toArray (LW k its.toArray)=(acc++(LW k its).flatten).toArray
 | 0,acc=>by simp
 | k+1,acc=>by
  have e:acc.toArray++its.toArray=(acc++its).toArray:=by simp
  have e2:(acc++its)++(LW k its).flatten=acc++(LW (k+1) its).flatten:=by
   rw[List.replicate_succ,List.flatten_cons,LX]
  rw[<-e2,<-foldl_rep its k (acc++its),<-e,List.replicate_succ,List.foldl_cons]
section
variable {X:Cx} {pins:List (Addr×Obj)} {σ:St} {H:Hp} {s:Li} {l b:Addr} {xs ys zs:List V}
theorem Inv.Ij {its its':List Lg}{n:Nat}{f:Array Lg->Array Lg}{t':Nat}(I:Inv X pins σ H s)(hH:H l=some (.lst xs))
  (e:s.heap.get? l=some { cls:=.type "list",data:=.seq its.toArray n }) (hf:f its.toArray=its'.toArray) (hv:Vals ys its') (hz:ys.length<=sizeLine) :
  Inv X pins σ (upd H l (.lst ys)) { s with heap:=s.heap.update l (LU f),toks:=t' }:=by
 have q:=PySem.IsL.update e f;rw[hf] at q;refine I.write (x:=l) (e:=l) (by rw[hH];exact trivial) (.inl rfl) (λb' u hb hu=>(Heap.get?_update_other s.heap (LU f) (Ne.symm hb)).trans hu) ⟨_,q⟩ ?_;exact ⟨hz,its',_,hv,q⟩
theorem Inv.Gf {its:List Lg}{t':Nat}(I:Inv X pins σ H s)(hv:Vals ys its)(hz:ys.length<=sizeLine) :
  Inv X pins σ (upd H s.heap.objs.size (.lst ys)) { s with heap:=s.heap.push { cls:=.type "list",data:=.seq its.toArray },toks:=t' }:=
 I.laid (λ_ _ q=>Ln _ q) (Ll _) ⟨hz,its,0,hv,LP _ rfl⟩
theorem Inv.fresh (I:Inv X pins σ H s):H s.heap.objs.size=none:=I.bC.fresh (Ll _)
theorem Inv.Ad (I:Inv X pins σ H s)(hH:H l=some (.lst xs)):xs.length<=sizeLine/\∃(its:List Lg) (n:Nat),Vals xs its/\xs.length=its.length/\s.heap.get? l=some { cls:=.type "list",data:=.seq its.toArray n }:=by
 obtain ⟨z,its,n,r,e⟩:=I.bC l _ hH;exact ⟨z,its,n,r,r.length,e⟩
theorem vw {n:Nat}(h:n<=sizeLine):Builtin.List.listTooLong n=false:=by
 unfold Builtin.List.listTooLong;exact decide_eq_false (by lia)
end
section
variable {X:Cx}
noncomputable def yX:V->List V->Hp->VK->Prop:=λx vs H Q=>∃l xs y,x=.ref l/\vs = [y]/\H l=some (.lst xs)/\xs.length<sizeLine/\Q .non (upd H l (.lst (xs++[y])))
theorem ku:KA X "list.append" yX:=by
 intro pins s σ H x vs v us Q I rx rv h;obtain ⟨l,xs,y,rfl,rfl,hH,hz,q⟩:=h;cases rx;obtain ⟨u,rfl,ru⟩:=rv.one;obtain ⟨z,its,n,r,hl,e⟩:=I.Ad hH;refine call_meets F.slot_list_append ⟨_,e,rfl⟩ F.entry_list_append (F.args_list_append_2 _ _) (PySem.list_append l its.toArray n u (by rw[LG];lia)) ⟨e,?_⟩;refine ⟨.non,_,I.Ij (its':=its++[u]) hH e (by simp) (r.append (.cons ru .nil)) ?_,rfl,q⟩;rw[LA,List.length_singleton];lia
noncomputable def Ez:V->List V->Hp->VK->Prop:=λx vs H Q=>∃l b xs zs,x=.ref l/\vs = [.ref b]/\H l=some (.lst xs)/\H b=some (.lst zs)/\xs.length+zs.length<=sizeLine/\Q .non (upd H l (.lst (xs++zs)))
theorem Ah:KA X "list.extend" Ez:=by
 intro pins s σ H x vs v us Q I rx rv h;obtain ⟨l,b,xs,zs,rfl,rfl,hH,hB,hz,q⟩:=h;cases rx;obtain ⟨u,rfl,ru⟩:=rv.one;cases ru;obtain ⟨z,its,n,r,hl,e⟩:=I.Ad hH;obtain ⟨z2,its2,n2,r2,hl2,e2⟩:=I.Ad hB;have hsz:its.toArray.size+its2.toArray.size<=sizeLine:=by rw[LG,LG];lia
 have hlong:¬(!its.toArray.isEmpty && Builtin.List.listTooLong (its.toArray.size+its2.toArray.size))=true:=by
  rw[vw hsz,Bool.and_false];exact LM
 refine call_meets F.slot_list_extend ⟨_,e,rfl⟩ F.entry_list_extend (F.args_list_extend_2 _ _)
  (AutoSeq1.list_extend_list_list_0 l its.toArray n b its2.toArray n2 hlong (by rw[LG];lia) (by lia)) ⟨e,e2,?_⟩
 refine ⟨.non,_,I.Ij (its':=its++its2) hH e (by simp) (r.append r2) ?_,rfl,q⟩;rw[LA];lia
noncomputable def Kc:R2:=λx y H Q=>∃l b xs zs,x=.ref l/\y=.ref b/\H l=some (.lst xs)/\H b=some (.lst zs)/\xs.length+zs.length<=sizeLine/\∀p,H p=none->Q (.ref p) (upd H p (.lst (xs++zs)))
theorem Cf:kG X (binaryOp .Add) Kc:=by
 intro pins s σ H x y v u Q I rx ry h;obtain ⟨l,b,xs,zs,rfl,rfl,hH,hB,hz,q⟩:=h;cases rx;cases ry;obtain ⟨z,its,n,r,hl,e⟩:=I.Ad hH;obtain ⟨z2,its2,n2,r2,hl2,e2⟩:=I.Ad hB;refine PySem.P.add_list e e2 ?_ (by rw[LG,LG];lia);have ea:its.toArray++its2.toArray=(its++its2).toArray:=by simp
 rw[ea];exact ⟨.ref _,_,I.Gf (t':=s.toks) (r.append r2) (by rw[LA];lia),rfl,q _ I.fresh⟩
noncomputable def Ke:R2:=λx y H Q=>∃l k xs,x=.ref l/\y=.int k/\H l=some (.lst xs)/\-(2 ^ 63)<=k/\k<2 ^ 63/\xs.length*k.toNat<=sizeLine /\
 ∀p,H p=none->Q (.ref p) (upd H p (.lst (LW k.toNat xs).flatten))
theorem len_rep {α:Type}(xs:List α)(k:Nat):(LW k xs).flatten.length=k*xs.length:=by
 induction k with
 | zero=>simp
 | succ k ih=>rw[List.replicate_succ,List.flatten_cons,LA,ih,Nat.succ_mul,Nat.add_comm]
theorem GC:kG X (binaryOp .Mult) Ke:=by
 intro pins s σ H x y v u Q I rx ry h;obtain ⟨l,k,xs,rfl,rfl,hH,h1,h2,hz,q⟩:=h;cases rx;obtain ⟨t,rfl⟩:=ry;obtain ⟨z,its,n,r,hl,e⟩:=I.Ad hH;have hlen:its.toArray.size*k.toNat<=sizeLine:=by rw[LG,<-hl];exact hz
 have hcap:¬its.toArray.size*k.toNat>(2 ^ 63 - 1) / 8:=by
  have:(sizeLine:Nat)<=(2 ^ 63 - 1) / 8:=by decide
  lia
 have hfit:¬(!Builtin.List.listFitsIndex k)=true:=by
  rw[fitsIndex_both h1 h2];exact LM
 have hlong:¬Builtin.List.listTooLong (its.toArray.size*k.toNat)=true:=by
  rw[vw hlen];exact LM
 have hnew:List.foldl (λx1 x2=>x1++x2) #[] (LW (if its.toArray.isEmpty=true then 0 else k.toNat) its.toArray)=(LW k.toNat its).flatten.toArray:=by
  have f0:∀m:Nat,List.foldl (λx1 x2=>x1++x2) #[] (LW m its.toArray)=(LW m its).flatten.toArray:=λm=>by
   have:=foldl_rep its m [];rw[List.nil_append] at this;exact this
  rw[f0];cases its with
  | nil=>simp
  | cons a r'=>rw[if_neg (by simp)]
 refine wpAny_binaryOp_repeat_ref (T:="list") (U:="int") (by decide) ⟨_,e,rfl⟩ (λs'=>typeIs_int s' k t) noFill_list_mul F.fills_int_mul F.slot_int_rmul repeat_list F.slot_int_index.lookup
  (call_meets F.slot_int_rmul (typeIs_int s k t) F.entry_int_rmul (F.args_int_rmul_2 _ _) (int___rmul___int_list k t l its.toArray n)
   ⟨e,rfl,⟨_,e,rfl⟩,call_meets F.slot_list_mul ⟨_,e,rfl⟩ F.entry_list_mul (F.args_list_mul_2 _ _) (AutoListH.list___mul___list_int_3 l its.toArray n k t hfit hcap hlong) ⟨e,?_⟩⟩)
 rw[hnew];exact ⟨.ref _,_,I.Gf (t':=s.toks) (r.rep k.toNat) (by rw[len_rep,Nat.mul_comm];exact hz),rfl,q _ I.fresh⟩
end
section
variable {prog:LH} {w:LR} {A:LQ} {E:Lg->Li->Prop} {s:Li}
end
section
variable {X:Cx}
end
end L2
namespace Att
open PySem PySem.W PySem.Calls PyProof.Rows
theorem nY {P:Params}{h:Heap}:∀(ns:List Int) (vs:List Lg),WellAll P h vs (ns.map WData.int)->IntsAre vs ns:=by
 intro ns;induction ns with
 | nil =>
  intro vs w;rw[List.map_nil] at w;cases w;exact .nil
 | cons n ns ih =>
  intro vs w;rw[LK] at w;cases w with
  | cons a b =>
   cases a;exact .cons _ _ (ih _ b)
theorem Az {l:OpenLaw}{n:Nat}(hn:l.most=some n){P:Params}{h:Heap}{args:List WData}{vals:List Lg}
  (hpre:l.row.toRowW.claim.pre args=true) (hwl:WellAll P h vals args) :
  ∃a vs ns,vals = [Value.ref a]/\args = [WData.list (ns.map WData.int)]/\h.get? a=some { cls:=.type "list",data:=.seq vs.toArray }/\IntsAre vs ns/\ns.length<=n:=by
 have hsh:WShape.hasAll [] args [.list .int]=true:=(pre_splitW hpre).1;have hc:l.pre.holds [] { args:=args }=true:=(pre_splitW hpre).2;obtain ⟨d,r,rfl,h1,h2⟩:=hasAllW_cons hsh;obtain rfl:=hasAllW_nil h2;obtain ⟨xs,rfl,h3⟩:=hasW_list h1;obtain ⟨ns,rfl⟩:=items_int h3;have hlen:ns.length<=n:=by
  unfold OpenLaw.pre at hc;have h4:(WTm.not (.lt (.lit (.int (n:Int))) (.len (.arg 0)))).holds [] { args:=[.list (ns.map .int)] }=true:=by
   have h4:=(holds_andW hc).1;rw[hn] at h4;exact h4
  have h5:=condW_of h4 (w_not (w_lt w_lit (w_len_list (w_arg rfl))));rw[Lk] at h5;refine Nat.le_of_not_lt λq=>?_;have q':(n:Int)<((ns.length:Nat):Int):=by lia
  first
   | (rw[decide_eq_true q'] at h5;exact absurd h5 (by decide))
   | (simp at h5;lia)
 cases hwl with
 | cons w1 w2 =>
  cases w2;cases w1 with
  | list ho hall=>exact ⟨_,_,ns,rfl,rfl,ho,nY ns _ hall,hlen⟩
theorem Ap (l:OpenLaw)(args:List WData):l.row.toRowW.claim.post args (.bool true) args=true:=
 postW_of (r:=l.row.toRowW) (X:=(true == true))
  (show WShape.has [] (.bool true) .bool=true by first | rfl | decide | simp[WShape.has,WShape.arms,WShape.armsAll])
  (show (WTm.eq .res (.lit (.bool true))).value [] { args:=args,res:=some (.bool true),after:=args }=some (.bool (true == true)) from w_eq_bool (w_res rfl) w_lit) rfl
theorem um {l:OpenLaw}{n:Nat}{q:LH}{loose:List Str}{XP:(Str->Option Lg)->Heap->Prop}{YP:LR->Heap->Prop}{d:DefRec}
  (hn:l.most=some n) (hdf:d.params.defaults = [])
  (call:∀(w:LR) (s₀ s₁:Li) (mg mb:Str->Option Lg) (fa:Addr) (o:Obj) (pm cd doc:Lg) (a:Addr) (vs:List Lg) (ns:List Int),
   Ground q loose [] XP w s₀ mg mb s₁.heap->YP w s₁.heap ->
   s₁.heap.get? fa=some o->o.data=.func (docDef d.name d.params d.body d.scope pm cd doc)->s₁.heap.CodeRec cd d.name->mg d.name=some (.ref fa) ->
   s₁.heap.get? a=some { cls:=.type "list",data:=.seq vs.toArray }->IntsAre vs ns->ns.length<=n->s₁.gens = #[] ->
   codeAny (model l.prog w) callerA (.call (.ref fa) ⟨[.ref a],[]⟩) (λr s'=>r=.ok (.ret (.bool true))/\OldK s₁.heap s'.heap/\s'.os=s₁.os/\AllBare s'.gens) s₁) :
  WalkO q loose XP YP l.row.toRowW d [] (λf vs=>PySem.call f vs):=by
 intro w s₀ s₁ mg mb G Y fa o pm cd doc dV kV ho hd hcd hD hmg hg args vals as hpre hlay hrd hwl hlo;obtain rfl:dV=.none:=Dflts.none hD hdf;obtain rfl:kV=.none:=Dflts.noKw hD;obtain ⟨a,vs,ns,rfl,rfl,hobj,hints,hlen⟩:=Az hn hpre hwl;refine enter_call (codeAny_mono (call w s₀ s₁ mg mb fa o pm cd doc a vs ns G Y ho (fd_plain hd) hcd hmg hobj hints hlen hg) λr s' hq=>?_);obtain ⟨rfl,h2,h3,h4⟩:=hq;exact ⟨.inl ⟨.bool true,.bool true,[],rfl,λ_=>rfl,.bool true,Ap l _,λ_=>⟨List.Pairwise.nil,λ_ hm=>(nomatch hm)⟩⟩,h2,h3,h4⟩
section
variable {prog:LH} {w:LR} {A:LQ} {E:Lg->Li->Prop} {s:Li} {K:Frag}
end
end Att
namespace L2
open PySem PySem.Spec PyProof.Rows
theorem sd:∀{vs:List Lg} {ns:List Int},IntsAre vs ns->Vals (ns.map V.int) vs
 | _,_,.nil=>.nil
 | _,_,.cons n t h=>.cons ⟨t,rfl⟩ (sd h)
end L2
namespace L2
open PySem PySem.Spec PyProof.Rows
end L2
namespace L2
open PySem PySem.Spec PyProof.Rows
noncomputable def aR (s:Stmt):Arguments:=match s with
 | .FunctionDef _ a _ _ _ _ _ _ _ _=>a
 | _=>{ posonlyargs:=[],args:=[],vararg:=none,kwonlyargs:=[],kw_defaults:=[],kwarg:=none,defaults:=[] }
noncomputable def aI (s:Stmt):List Stmt:=match s with
 | .FunctionDef _ _ b _ _ _ _ _ _ _=>b
 | _=>[]
noncomputable def af (s:Stmt):Scope:=match s with
 | .FunctionDef _ _ _ _ _ _ sc _ _ _=>sc
 | _=>{ kind:=.function,names:=[],isGenerator:=false,isCoroutine:=false }
noncomputable abbrev iX:C4:=λ_ _ _ _ _ _=>False
noncomputable abbrev E0:XK:=λ_ _ _=>False
theorem Iy {X:Cx}:Passes iX X E0:=λ_ _ _ _ _ _ _ h=>h.elim
structure lH (K:Frag)(x qual:Str)(st:Stmt)(f:Addr)(fd:FuncData):Prop where
 ex:∃(oc:Lg) (od:Option Addr) (kV doc pm:Lg) (an:Option Addr) (cdv ct:Lg) (osl:Array (Option Lg)),
  fd=fnOf x qual (aR st) (aI st) (af st) .none kV doc pm an cdv ct/\K.lookup f=some ⟨oc,od,.func fd,osl⟩/\codeIn K cdv qual=true
 kp:keepIn K (.ref f)=true
section
variable {P:LH} {w:LR} {K:Frag} {mg:Str->Option Lg} {base:Heap}
theorem lH.ok {x qual:Str}{st:Stmt}{f:Addr}{fd:FuncData}{N ps:List Str}{k:Nat}{sp:Sp}(F:lH K x qual st f fd)(S:aX N ps (af st))(len:∀vs H Q E,sp vs H Q E->vs.length=ps.length)
  (hbody:∀(cdv:Lg) (A:LQ) (outer:List Env) (s:Li) (H:Hp) (vs:List V) (Q:VK) (E:XK),cN k (A.deeper (envOfC qual (af st) s.heap.objs.size f cdv))->sp vs H Q E ->
   ∃t,oH (sA iX P w K mg base N qual (af st) f cdv A outer s H E).E7 (aI st) t/\t { nx:=λ_ H'=>Q .non H',rt:=Q } (start N vs) H):cH P w K mg base iX (k+1) f fd ps sp:=by
 obtain ⟨oc,od,kV,doc,pm,an,cdv,ct,osl,rfl,lk,hcd⟩:=F.ex;refine E2 lk hcd S len λA outer s H vs Q E hr hsp=>?_;obtain ⟨t,h,q⟩:=hbody cdv A outer s H vs Q E hr hsp;exact ⟨t,h.E7,q⟩
theorem lH.binds {x qual:Str}{st:Stmt}{f:Addr}{fd:FuncData}{ps:List Str}(F:lH K x qual st f fd)
  (h:∀(kV doc pm:Lg) (an:Option Addr) (cdv ct:Lg) (us:List Lg),us.length=ps.length->bindArgs (fnOf x qual (aR st) (aI st) (af st) .none kV doc pm an cdv ct) ⟨us,[]⟩=pure (ps.zip us)):Binds K fd ps []:=by
 obtain ⟨oc,od,kV,doc,pm,an,cdv,ct,osl,rfl,lk,hcd⟩:=F.ex;exact .all (h kV doc pm an cdv ct)
theorem bP {x qual:Str}{st:Stmt}{f:Addr}{oc:Lg}{od an:Option Addr}{osl:Array (Option Lg)}{kV doc pm cdv ct:Lg}(l:K.lookup f=some ⟨oc,od,.func (fnOf x qual (aR st) (aI st) (af st) .none kV doc pm an cdv ct),osl⟩)
  (c:codeIn K cdv qual=true) (k:keepIn K (.ref f)=true):lH K x qual st f (fnOf x qual (aR st) (aI st) (af st) .none kV doc pm an cdv ct):=⟨⟨oc,od,kV,doc,pm,an,cdv,ct,osl,rfl,l,c⟩,k⟩
end
theorem mq {A:LQ}{k:Nat}(hr:cN k A):A.units+1<cLine:=Nat.lt_of_le_of_lt (Nat.add_le_add_left (by decide:1<=64) _) hr.units
theorem AB {n:Nat}(h:n<=1000):n<sizeLine:=Nat.lt_of_le_of_lt h (by decide)
section
variable {X:Cx}
theorem pv (i:Nat){x:Str}{pos:Pos}(hN:autoParam (X.N[i]?=some x) aZa._auto_1)(hv:autoParam (uk X.env.scope x) aZf._auto_1)(hd:autoParam ((x == ("__debug__" : Str))=false) aZb._auto_1)
  (hcd:autoParam ((x == ("__classdict__" : Str))=false) aZb._auto_1):PE X (.Name x pos) (Hd i):=dF hN hv hd hcd
end
theorem zT {A B:Prop}(h:B):if false=true then A else B:=by
 rw[if_neg LM];exact h
theorem zU {A B:Prop}(h:A):if true=true then A else B:=by
 rw[if_pos rfl];exact h
noncomputable def ao (H H':Hp):Prop:=∀b o,H b=some o->H' b=some o
theorem ao.refl (H:Hp):ao H H:=λ_ _ h=>h
theorem ao.trans {H H1 H2:Hp}(a:ao H H1)(b:ao H1 H2):ao H H2:=λc o h=>b c o (a c o h)
theorem ao.free {H H':Hp}(e:ao H H'){l:Addr}(h:H' l=Option.none):H l=Option.none:=by
 cases q:H l with
 | none=>rfl
 | some o =>
  rw[e l o q] at h;cases h
theorem ao.seq {K:Frag}{H H':Hp}{a:Addr}{xs:List V}(e:ao H H')(h:dA K H a xs):dA K H' a xs:=by
 rcases h with (h | ⟨o,h⟩) | h
 .exact .inl (.inl (e _ _ h))
 .exact .inl (.inr ⟨o,e _ _ h⟩)
 .exact .inr h
end L2
namespace L2
open PySem PySem.Spec PyProof.Rows
noncomputable def ug (X:Cx)(scope:Scope)(N':List Str)(cl:List (Str×Addr))(fp:List Addr)(C:Addr)(s:Li)(H:Hp):Cx:=
 { X with N:=N',s₀:=s,H₀:=H,env:=compEnvC scope cl C X.env,outer:=X.stack,stack:=X.stack,ex:=fp,fn:=λ_=>false,pn:=[],xe:=λ_ _=>False }
noncomputable def j8 (sc0:Scope)(N0:List Str)(scope:Scope)(N':List Str)(fr:List (Option Nat)):Bool:=
 decide (scope.kind=.function) && scope.names.all (λy=>decide (y.2≠.cell)) && scope.names.all (λy=>decide (y.2=.local->scope.names.lookup y.1=some .local)) &&
 scope.names.all (λy=>decide (y.2=.free->(sc0.names.lookup y.1=some .cell\/sc0.names.lookup y.1=some .free))) && decide (fr.length=N'.length) &&
 (LD N'.length).all (λi=>match fr[i]?,N'[i]? with
  | some (some j),some x=>decide (N0[j]?=some x) && decide (scope.names.lookup x=some .free) && decide (sc0.names.lookup x=some .cell\/sc0.names.lookup x=some .free)
  | _,_=>true)
structure mP (sc0:Scope)(N0:List Str)(scope:Scope)(N':List Str)(fr:List (Option Nat)):Prop where
 kind:scope.kind=.function
 Cb:∀y∈scope.names,y.2≠.cell
 names:∀y∈scope.names,y.2=.local->scope.names.lookup y.1=some .local
 frees:∀y∈scope.names,y.2=.free->(sc0.names.lookup y.1=some .cell\/sc0.names.lookup y.1=some .free)
 len:fr.length=N'.length
 fix:∀(i j:Nat) (x:Str),fr[i]?=some (some j)->N'[i]?=some x->N0[j]?=some x/\scope.names.lookup x=some .free/\(sc0.names.lookup x=some .cell\/sc0.names.lookup x=some .free)
theorem qW {sc0:Scope}{N0:List Str}{scope:Scope}{N':List Str}{fr:List (Option Nat)}(h:j8 sc0 N0 scope N' fr=true):mP sc0 N0 scope N' fr:=by
 unfold j8 at h;rw[LV,LV,LV,LV,LV] at h;obtain ⟨⟨⟨⟨⟨h1,h2⟩,h3⟩,h4⟩,h5⟩,h6⟩:=h;refine ⟨of_decide_eq_true h1,λy hy=>of_decide_eq_true (List.all_eq_true.mp h2 y hy),λy hy=>of_decide_eq_true (List.all_eq_true.mp h3 y hy),λy hy=>of_decide_eq_true (List.all_eq_true.mp h4 y hy),of_decide_eq_true h5,λi j x e1 e2=>?_⟩;have hi:i<N'.length:=(Lp.mp e2).1;have q:=List.all_eq_true.mp h6 i (mem_range.mpr hi);rw[e1,e2] at q;dsimp only at q;rw[LV,LV] at q;exact ⟨of_decide_eq_true q.1.1,of_decide_eq_true q.1.2,of_decide_eq_true q.2⟩
noncomputable def uh (env:Env):List (Str×NameKind)->List (Str×Addr)->List (Str×Addr)
 | [],cs=>cs
 | (n,k)::r,cs=>if k=.free then uh env r ((n,(env.cells.lookup n).getD 0)::cs) else uh env r cs
theorem mem_of_lookup {α:Type}:∀{l:List (Str×α)} {x:Str} {v:α},l.lookup x=some v->(x,v)∈l
 | [],_,_,h=>by simp at h
 | (y,w)::r,x,v,h=>by
  cases hx:x == y with
  | true =>
   simp only[lookup_cons,hx] at h;cases h;rw[beq_iff_eq.mp hx];exact mem_cons_self
  | false =>
   simp only[lookup_cons,hx] at h;exact LO _ (mem_of_lookup h)
theorem su {env:Env}:∀{l:List (Str×NameKind)} {cs:List (Str×Addr)} {p:Str×Addr},p∈uh env l cs->p∈cs\/(∃y∈l,y.2=.free/\p=(y.1,(env.cells.lookup y.1).getD 0))
 | [],_,_,h=>.inl h
 | (n,k)::r,cs,p,h=>by
  unfold uh at h;by_cases hk:k=.free
  .rw[if_pos hk] at h;rcases su h with q | ⟨y,hy,e1,e2⟩
   .rcases Lz.mp q with q | q
    .exact .inr ⟨(n,k),mem_cons_self,hk,q⟩
    .exact .inl q
   .exact .inr ⟨y,LO _ hy,e1,e2⟩
  .rw[if_neg hk] at h;rcases su h with q | ⟨y,hy,e1,e2⟩
   .exact .inl q
   .exact .inr ⟨y,LO _ hy,e1,e2⟩
theorem oR {env:Env}:∀{l:List (Str×NameKind)} {cs:List (Str×Addr)} {p:Str×Addr},p∈cs->p∈uh env l cs
 | [],_,_,h=>h
 | (n,k)::r,cs,p,h=>by
  unfold uh;by_cases hk:k=.free
  .rw[if_pos hk];exact oR (LO _ h)
  .rw[if_neg hk];exact oR h
theorem om {env:Env}:∀{l:List (Str×NameKind)} {cs:List (Str×Addr)} {x:Str},(x,NameKind.free)∈l->(x,(env.cells.lookup x).getD 0)∈uh env l cs
 | [],_,_,h=>nomatch h
 | (n,k)::r,cs,x,h=>by
  unfold uh;rcases Lz.mp h with q | q
  .cases q;rw[if_pos rfl];exact oR mem_cons_self
  .by_cases hk:k=.free
   .rw[if_pos hk];exact om q
   .rw[if_neg hk];exact om q
theorem g6 {α:Type}:∀{l:List (Str×α)} {x:Str} {v:α},(x,v)∈l->∃w,l.lookup x=some w
 | [],_,_,h=>nomatch h
 | (y,w)::r,x,v,h=>by
  cases hx:x == y with
  | true=>exact ⟨w,by simp[lookup_cons,hx]⟩
  | false =>
   rcases Lz.mp h with q | q
   .cases q;simp at hx
   .obtain ⟨w',e⟩:=g6 q;exact ⟨w',by simp[lookup_cons,hx,e]⟩
theorem kU {env:Env}:∀(l:List (Str×NameKind)) (cs:List (Str×Addr)),(∀y∈l,y.2=.free->∃c,env.cells.lookup y.1=some c) ->
    (forIn l cs λ(x:Str×NameKind) (r:List (Str×Addr))=>(if (x.2 == NameKind.free)=true then do let a <-cellOf env x.1;pure (ForInStep.yield ((x.1,a)::r)) else pure (ForInStep.yield r):Sem (ForInStep (List (Str×Addr)))))=pure (uh env l cs)
  | [],cs,_=>rfl
  | (n,k)::r,cs,h=>by
    rw[List.forIn_cons];by_cases hk:k=.free
    · subst hk;obtain ⟨c,e⟩:=h (n,.free) mem_cons_self rfl;have hc:cellOf env n=pure c:=by unfold cellOf;rw[e]
      have ih:=kU r ((n,c)::cs) λy hy=>h y (LO _ hy);simp only[beq_self_eq_true,if_true,hc];unfold uh;rw[if_pos rfl,e];exact ih
    · have hb : (k == NameKind.free) = false := by simpa using hk
      have ih:=kU r cs λy hy=>h y (LO _ hy);simp only[hb,LB,if_false];unfold uh;rw[if_neg hk];exact ih
theorem oS {scope:Scope}{env:Env}(h:∀y∈scope.names,y.2=.free->∃c,env.cells.lookup y.1=some c):closureFor scope env=pure (uh env scope.names []):=by
 unfold closureFor;have:=kU scope.names [] h;first
  | (rw[this];rfl)
  | (refine Eq.trans ?_ this;rfl)
  | (simp only[this];rfl)
theorem j7 {env:Env}{l:List (Str×NameKind)}(h:∀y∈l,y.2=.free->∃c,env.cells.lookup y.1=some c){x:Str}{c:Addr}(e:(uh env l []).lookup x=some c):env.cells.lookup x=some c:=by
 rcases su (mem_of_lookup e) with q | ⟨y,hy,e1,e2⟩
 .exact nomatch q
 .obtain ⟨c',ec⟩:=h y hy e1;have e3:x=y.1:=congrArg Prod.fst e2;have e4:c=(env.cells.lookup y.1).getD 0:=congrArg Prod.snd e2;rw[ec] at e4;rw[e3,ec,e4];rfl
theorem tV {scope:Scope}{env:Env}{x:Str}:scope.names.lookup x=some .free->(relabel scope env).names.lookup x=some .cell\/(relabel scope env).names.lookup x=some .free:=by
 show scope.names.lookup x=some .free->(scope.names.map _).lookup x=_\/(scope.names.map _).lookup x=_;induction scope.names with
 | nil=>intro h;simp at h
 | cons p r ih =>
  intro h;obtain ⟨n,k⟩:=p;rw[LK];cases hx:x == n with
  | true =>
   simp only[lookup_cons,hx] at h;cases h;dsimp only;split
   .exact .inl (by simp[lookup_cons,hx])
   .exact .inr (by simp[lookup_cons,hx])
  | false =>
   simp only[lookup_cons,hx] at h;dsimp only;split<;>(simp only[lookup_cons,hx];exact ih h)
theorem tU {scope:Scope}{env:Env}{x:Str}(nc:∀y∈scope.names,y.2≠.cell):((relabel scope env).names.lookup x=some .cell\/(relabel scope env).names.lookup x=some .free)->scope.names.lookup x=some .free:=by
 show ((scope.names.map _).lookup x=_\/(scope.names.map _).lookup x=_)->_;revert nc;induction scope.names with
 | nil=>intro _ h;simp at h
 | cons p r ih =>
  intro nc h;obtain ⟨n,k⟩:=p;rw[LK] at h;have ih':=ih (λy hy=>nc y (LO _ hy));cases hx:x == n with
  | true =>
   simp only[lookup_cons,hx];dsimp only at h;by_cases hc:(k == NameKind.free && env.scope.kind == .function && env.kindOf n == some .cell)=true
   .simp only[LV] at hc;have:k=.free:=by simpa using hc.1.1
    rw[this]
   .rw[if_neg hc] at h;simp only[lookup_cons,hx] at h;rcases h with h | h
    .cases h;exact absurd rfl (nc (n,.cell) mem_cons_self)
    .exact h
  | false =>
   simp only[lookup_cons,hx];dsimp only at h;refine ih' ?_;by_cases hc:(k == NameKind.free && env.scope.kind == .function && env.kindOf n == some .cell)=true
   .rw[if_pos hc] at h;simpa only[lookup_cons,hx] using h
   .rw[if_neg hc] at h;simpa only[lookup_cons,hx] using h
theorem Un.but {fs ex:List Addr}{H H':Hp}{h h1 h2:Heap}{C:Addr}(u:Un fs ex H H' h h1)(sb:Heap.SameBut C h1 h2)(hC:h.objs.size<=C):Un fs ex H H' h h2:=by
 have ne:∀b o,h.get? b=some o->b≠C:=λb o e=>LF (LJ (Lv e) hC);refine ⟨λb o e n hb hx=>(sb.2 b (ne b o e)).trans (u.keep b o e n hb hx),λb o e n hb hx=>?_,u.free,λb o e hx=>?_,u.ue,u.qv,u.qg⟩
 .obtain ⟨sl,q⟩:=u.slot b o e n hb hx;exact ⟨sl,(sb.2 b (ne b o e)).trans q⟩
 .obtain ⟨o',q⟩:=u.there b o e hx;exact ⟨o',(sb.2 b (ne b o e)).trans q⟩
theorem kF.but {P:LH}{w:LR}{H:Hp}{h1 h2:Heap}{C:Addr}(x:kF P w H h1)(hC:H C=none)(sb:Heap.SameBut C h1 h2):kF P w H h2:=λb ob e=>by
 refine (x b ob e).d7 (λc w' hc q=>(sb.2 c ?_).trans q) (λ_ q=>q) λ_ _ q=>q;rintro rfl;rcases hc with rfl | hc
 .rw[hC] at e;cases e
 .rw[hC] at hc;cases hc
noncomputable def nX (fr:List (Option Nat))(σ:St):St:=fr.map λo=>match o with | none=>none | some j=>(σ[j]?).getD none
theorem BA {fr:List (Option Nat)}{σ:St}{i:Nat}{v:V}(e:(nX fr σ)[i]?=some (some v)):∃j,fr[i]?=some (some j)/\σ[j]?=some (some v):=by
 unfold nX at e;rw[LC] at e;cases q:fr[i]? with
 | none=>rw[q] at e;cases e
 | some o =>
  rw[q] at e;cases o with
  | none=>cases e
  | some j =>
   refine ⟨j,rfl,?_⟩;have e':(σ[j]?).getD none=some v:=Option.some.inj e;cases r:σ[j]? with
   | none=>rw[r] at e';cases e'
   | some y=>rw[r] at e';rw[<-e'];rfl
section
variable {X:Cx} {pins:List (Addr×Obj)} {σ:St} {H:Hp} {s:Li}
theorem FE {scope:Scope}{N':List Str}{fr:List (Option Nat)}{fp:List Addr}(I:Inv X pins σ H s)(S:mP X.env.scope X.N scope N' fr)(hf:∀b∈fp,lG X pins H b)(ho:∀b∈fp,∃o,s.heap.get? b=some o) :
  (ug X scope N' (uh X.env scope.names []) fp s.heap.objs.size s H).Ok:=by
 have has:∀y∈scope.names,y.2=.free->∃c,X.env.cells.lookup y.1=some c:=λy hy hk=>I.ok.has y.1 (S.frees y hy hk);refine ⟨I.ok.mod,S.kind,I.ok.glob,I.ok.blt,Ll _,λx y c e1 e2=>I.ok.inj x y c (j7 has e1) (j7 has e2),λx hx=>?_,λx c hx=>(nomatch hx),I.ok.hd,I.ok.frames,.inl rfl,λb hb=>⟨?_,λx c e=>(hf b hb).2.2.2.2.1 x c (j7 has e)⟩,I.bs,Nat.le_trans I.ok.ET I.sz,λb o e hb=>?_,λb hb hz=>?_,I.stack,I.zf⟩
 .have q:=tU (env:=X.env) S.Cb (x:=x) hx;exact g6 (om (mem_of_lookup q))
 .obtain ⟨o,e⟩:=ho b hb;exact LF (Lv e)
 .rcases (hf b hb).2.2.2.1 with z | z
  .exact I.ok.Cc b o e z
  .exact absurd (LJ (Lv e) (Nat.le_trans I.ok.ET z)) (Nat.lt_irrefl _)
 .rcases Lz.mp (I.xl b hz) with z | z
  .exact (hf b hb).2.1 z
  .exact (hf b hb).2.2.1 z
theorem zq {scope:Scope}{N':List Str}{fr:List (Option Nat)}{fp:List Addr}{h₁:Heap}{m₁:Str->Option Lg}{tk:Nat}(I:Inv X pins σ H s)(S:mP X.env.scope X.N scope N' fr)(hf:∀b∈fp,lG X pins H b)(ho:∀b∈fp,∃o,s.heap.get? b=some o)
  (hn:h₁.Ns s.heap.objs.size m₁) (hk:∀b o,s.heap.get? b=some o->h₁.get? b=some o) :
  Inv (ug X scope N' (uh X.env scope.names []) fp s.heap.objs.size s H) [] (nX fr σ) H { s with heap:=h₁,toks:=tk }:=by
 have has:∀y∈scope.names,y.2=.free->∃c,X.env.cells.lookup y.1=some c:=λy hy hk=>I.ok.has y.1 (S.frees y hy hk);have cellK:∀c v,s.heap.IsCell c v->h₁.IsCell c v:=by rintro c v ⟨o,e,d⟩;exact ⟨o,hk c o e,d⟩
 refine ⟨FE I S hf ho,rfl,I.bare,Un.kept hk,⟨m₁,hn,λi x v e1 e2 e3=>?_⟩,λx c e=>?_,I.bC.fresh (Ll _),λx c e=>I.kO x c (j7 has e),λp hp=>(nomatch hp),I.bC.kept hk,?_⟩
 .obtain ⟨j,q1,q2⟩:=BA e2;obtain ⟨z1,z2,z3⟩:=S.fix i j x q1 e1;obtain ⟨m,hm,hl⟩:=I.loc;obtain ⟨u,ru,lk⟩:=hl j x v z1 q2 (.inr z3);refine ⟨u,ru,.inr ⟨tV (env:=X.env) z2,?_⟩⟩;rcases lk with ⟨k,_⟩ | ⟨k,c,e,z⟩
  .have k':X.env.scope.names.lookup x=some .local:=k;rcases z3 with z3 | z3<;>(rw[z3] at k';cases k')
  .obtain ⟨c',ec⟩:=g6 (om (env:=X.env) (cs:=[]) (mem_of_lookup z2));have:=j7 has ec;rw[e] at this;cases this;exact ⟨c,ec,cellK c _ z⟩
 .obtain ⟨v,z⟩:=I.cell x c (j7 has e);exact ⟨v,cellK c v z⟩
 .show (nX fr σ).length=N'.length;unfold nX;rw[Lk];exact S.len
end
noncomputable def v8 (X:Cx)(ifs:List Expr)(t:TT):Prop:=
  ∀(pins:List (Addr×Obj)) (s:Li) (σ:St) (H:Hp) (Q:Bool->Hp->Prop),Inv X pins σ H s->t σ H Q ->
    wpAny (model X.prog X.w) X.A (forIn ifs true λc r=>if r=true then do let ok <-isTrue c X.env (eval c X.env);pure (ForInStep.yield ok) else pure (ForInStep.yield r)) (TP X pins σ Q) X.xe s
noncomputable def Jj:TT:=λ_ H Q=>Q true H
theorem Cs {X:Cx}:v8 X [] Jj:=λ_ _ _ H _ I h=>wpAny_tests_nil ⟨H,I,h⟩
theorem Ct {X:Cx}{c:Expr}{t:TT}(h:PT X c t):v8 X [c] t:=λpins s σ H Q I q=>wpAny_tests_one (h pins s σ H Q I q)
section
variable {prog:LH} {w:LR} {A:LQ} {R:Result->Li->Prop} {s:Li}
theorem uv {elt target iter:Expr}{ifs:List Expr}{scope:Scope}{pos:Pos}{it acc:Lg}{env:Env}(I:Nat->Li->Prop)
    (turn:∀n s,I n s->wpAny (model prog w) A (pyNext it) (λr s₁=>match r with
      | none=>R (.ok .next) s₁
      | some v=>wpAny (model prog w) A (letOwnedTupleGo target it v) (λ_ s₁'=>wpAny (model prog w) A (assign target env v) (λ_ s₂ =>
          wpAny (model prog w) A (forIn ifs true λc r=>if r=true then do let ok <-isTrue c env (eval c env);pure (ForInStep.yield ok) else pure (ForInStep.yield r)) (λok s₃ =>
            if ok=true then wpAny (model prog w) A (eval elt env) (λx s₄ =>
              wpAny (model prog w) A (call (.builtin "list.append") [acc,x]) (λ_ s₅=>∃m,m<n/\I m s₅) (λ_ _=>False) s₄) (λ_ _=>False) s₃
            else ∃m,m<n/\I m s₃) (λ_ _=>False) s₂) (λ_ _=>False) s₁') (λ_ _=>False) s₁) (λ_ _=>False) s)
    (n:Nat) (h:I n s) :
    codeAny (model prog w) A (.compLoop (.ListComp elt [⟨target,iter,ifs,0⟩] scope pos) 0 it acc env) R s:=by
  refine codeAny_loop rfl I (λn s hI=>?_) n h;show wpAny _ A ((compTurn (.ListComp elt [⟨target,iter,ifs,0⟩] scope pos) 0 it acc env).onRaise (λx=>do noteFrame x env;theTreesLotGoes x)) _ _ s;refine wpAny_noted ?_;rw[compTurn_list];refine wpAny_mono (E:=λ_ _=>False) ?_ (λ_ _ q=>q) (λ_ _ f=>f.elim);refine Lh (wpAny_standAt (Lh (wpAny_mono (turn n s hI) (λr s₁ h₁=>?_) λ_ _ h'=>h')));cases r with
  | none=>exact Lj h₁
  | some v =>
    refine Lh (wpAny_mono h₁ (λ_ s₁' h₁'=>?_) λ_ _ h'=>h');refine Lh (wpAny_mono h₁' (λ_ s₂ h₂=>Lh (wpAny_mono h₂ (λok s₃ h₃=>?_) λ_ _ h'=>h')) λ_ _ h'=>h');cases ok with
    | false=>exact Lj ⟨rfl,h₃⟩
    | true =>
      exact Lh (Lh (wpAny_mono h₃ (λx s₄ h₄=>Lh (wpAny_mono h₄ (λ_ s₅ h₅=>Lj (Lj ⟨rfl,h₅⟩)) λ_ _ h'=>h')) λ_ _ h'=>h'))
end
noncomputable def JI (J:It)(D:Addr)(g:TG)(tc:TT)(te:TE)(Q:Hp->Prop)(σ0:St)(H0:Hp):Prop:=
 ∃W:Nat->Nat->List V->St->Hp->Prop,(∃m,W 0 m [] σ0 H0)/\∀i m ys σ H,W i m ys σ H ->
  ((J.stop i H/\Q H)\/(J.go i H/\∃N:List V->St->Hp->Prop,(∀ys' σ' H',N ys' σ' H'->∃m',m'<m/\W (i+1) m' ys' σ' H')/\∀x H',J.C3 i H x H'->g x σ H' λσ2 H2=>tc σ2 H2 λb H3 =>
   if b=true then te σ2 H3 λv H4=>H4 D=some (.lst ys)/\ys.length<sizeLine/\N (ys++[v]) σ2 (upd H4 D (.lst (ys++[v])))
   else N ys σ2 H3))
noncomputable def Ko (wi:TI)(fr:List (Option Nat))(g:TG)(tc:TT)(te:TE):TE:=λσ H Q=>wi σ H λJ H1=>∀D,H1 D=none->JI J D g tc te (Q (.ref D)) (nX fr σ) (upd H1 D (.lst []))
theorem A0 {X:Cx}{tg iter elt:Expr}{ifs:List Expr}{scope:Scope}{pos:Pos}{g:TG}{tc:TT}{te:TE}{fp:List Addr}{it D:Addr}{tn:Nat->Heap->Prop}{J:It}{Q:Hp->Prop}{σ0:St}{H0:Hp}{s:Li}{R:Result->Li->Prop}
  (hxe:X.xe=λ_ _=>False) (hc:X.calm=true) (hpn:X.pn = []) (hex:X.ex=fp) (hg:PG X tg g) (ht:v8 X ifs tc) (he:PE X elt te) (T:Turn X.prog X.w X.K tg J fp it tn)
  (hf:∀b∈fp,b≠X.env.locals/\b∉X.fs/\∀x c,X.env.cells.lookup x=some c->c≠b) (hW:JI J D g tc te Q σ0 H0) (B:Inv X [] σ0 H0 s) (st:tn 0 s.heap) (fr:∀b∈fp,H0 b=none)
  (fin:∀σ H s',Inv X [] σ H s'->Q H->R (.ok .next) s') :
  codeAny (model X.prog X.w) X.A (.compLoop (.ListComp elt [⟨tg,iter,ifs,0⟩] scope pos) 0 (.ref it) (.ref D) X.env) R s:=by
 obtain ⟨W,⟨m0,w0⟩,turn⟩:=hW;have stat:∀{H':Hp},(∀b∈fp,H' b=none)->∀b∈fp,lG X [] H' b:=λ{H'} hn b hb =>
  ⟨hn b hb,(hf b hb).1,(hf b hb).2.1,.inl (by rw[hex];exact hb),(hf b hb).2.2,λp hp=>by rw[hpn] at hp;exact nomatch hp⟩
 refine uv (λn s'=>∃i ys σ' H',Inv X [] σ' H' s'/\tn i s'.heap/\(∀b∈fp,H' b=none)/\W i n ys σ' H') ?_ m0 ⟨0,[],σ0,H0,B,st,fr,w0⟩;rintro n s3 ⟨i,ys,σ3,H3,I3,st3,fr3,w3⟩;rcases turn i n ys σ3 H3 w3 with ⟨stop,qn⟩ | ⟨go,N,hN,step⟩
 .refine cj (T.done X rfl rfl rfl hc i [] s3 σ3 H3 _ I3 (stat fr3) st3 stop) ?_;rintro r s4 ⟨hr,I4⟩;subst hr;exact fin σ3 H3 s4 I4 qn
 .refine cj (T.item X rfl rfl rfl hc i [] s3 σ3 H3 _ I3 (stat fr3) st3 go) ?_;rintro r s4 ⟨u,hr,h4⟩;subst hr;refine cj h4 ?_;rintro _ s5 ⟨x,H5,I5,r5,y5,st5,fr5⟩;have I5':=I5.pinned (stat fr5) (T.obj _ _ st5);have q1:=hg _ s5 σ3 H5 x u _ I5' r5 (step x H5 y5);rw[hxe] at q1;refine cj q1 ?_;rintro _ s6 ⟨σ6,H6,I6,q6⟩;have q2:=ht _ s6 σ6 H6 _ I6 q6;rw[hxe] at q2;refine cj q2 ?_;rintro ok s7 ⟨H7,I7,q7⟩;have again:∀{ys':List V} {σ8:St} {H8:Hp} {s8:Li},Inv X ([]++pO fp s5.heap) σ8 H8 s8->N ys' σ8 H8->∃m,m<n/\∃i ys σ' H',Inv X [] σ' H' s8/\tn i s8.heap/\(∀b∈fp,H' b=none)/\W i m ys σ' H':=λ{ys' σ8 H8 s8} I8 n8=>by
   obtain ⟨m',hm,w8⟩:=hN ys' σ8 H8 n8;refine ⟨m',hm,i+1,ys',σ8,H8,I8.mL,T.keep _ _ _ st5 λb hb o e=>(I8.pin (b,o) (mem_append_right _ (mem_append_right _ (iH hb e)))).1,λb hb=>?_,w8⟩;obtain ⟨o,e,d⟩:=T.obj _ _ st5 b hb;exact (I8.pin (b,o) (mem_append_right _ (mem_append_right _ (iH hb e)))).2.1
  cases ok with
  | false=>exact again I7 q7
  | true =>
   have q3:=he _ s7 σ6 H7 _ I7 q7;rw[hxe] at q3;show wpAny _ _ (eval elt X.env) _ _ s7;refine cj q3 ?_;rintro xv s8 ⟨v,H8,I8,r8,hD8,hz8,n8⟩;have q4:=ku (X:=X) _ s8 σ6 H8 (.ref D) [v] (.ref D) [xv] (λ_ H9=>N (ys++[v]) σ6 H9) I8 rfl (.cons r8 .nil) ⟨D,ys,v,rfl,rfl,hD8,hz8,n8⟩;rw[hxe] at q4;refine cj q4 ?_;rintro _ s9 ⟨_,H9,I9,_,n9⟩;exact again I9 n9
section
variable {X:Cx} {tg iter elt:Expr} {ifs:List Expr} {scope:Scope} {pos:Pos} {wi:TI} {g:TG} {tc:TT} {te:TE}
theorem xB {pins:List (Addr×Obj)}{σ:St}{H2:Hp}{s2:Li}{it:Addr}{fp:List Addr}{tn:Nat->Heap->Prop}{J:It}{Q:Addr->Hp->Prop}{N':List Str}{fr:List (Option Nat)}{RR:Lg->Addr->Result->Li->Prop}
  (hc:X.calm=true) (S:mP X.env.scope X.N scope N' fr)
  (hg:∀cl fp C s H,PG (ug X scope N' cl fp C s H) tg g) (ht:∀cl fp C s H,v8 (ug X scope N' cl fp C s H) ifs tc) (he:∀cl fp C s H,PE (ug X scope N' cl fp C s H) elt te)
  (I2:Inv X pins σ H2 s2) (T:Turn X.prog X.w X.K tg J fp it tn) (st2:tn 0 s2.heap) (f2:∀b∈fp,lG X pins H2 b)
  (h:∀D,H2 D=none->JI J D g tc te (Q D) (nX fr σ) (upd H2 D (.lst [])))
  (fin:∀D C s' m' H',s2.heap.objs.size<=C->C≠D->H' C=none->s'.heap.Ns C m'->(∀h',Heap.SameBut C s'.heap h'->Inv X pins σ H' { s' with heap:=h' })->Q D H'->RR (.ref D) C (.ok .next) s') {E:Lg->Li->Prop} :
  wpAny (model X.prog X.w) X.A (newList []) (λacc s₃=>wpAny (model X.prog X.w) X.A (newFunctionEnv scope X.env.globals (uh X.env scope.names []) [] X.env.qual none .none (some X.env)) (λcenv s₄ =>
   codeAny (model X.prog X.w) X.A (.compStart (.ListComp elt [⟨tg,iter,ifs,0⟩] scope pos) 0 (.ref it) acc { cenv with scope:=relabel scope X.env }) (RR acc cenv.locals) s₄) E s₃) E s2:=by
 refine wpAny_newObj_type (wpAny_newFunctionEnv S.Cb (by intro y hy;simp at hy) (λh₁ hns₁ hsb₁=>?_) S.kind);dsimp only at hns₁ hsb₁ ⊢;have hD:H2 s2.heap.objs.size=none:=I2.bC.fresh (Ll _);have I3:Inv X pins σ (upd H2 s2.heap.objs.size (.lst [])) { s2 with heap:=s2.heap.push { cls:=.type "list",dict:=none,data:=.seq ([]:List Lg).toArray },toks:=s2.toks }:=I2.Gf (its:=[]) .nil (LS _);generalize hH2:s2.heap.push { cls:=.type "list",dict:=none,data:=.seq ([]:List Lg).toArray }=HH at hns₁ hsb₁ I3 ⊢;have hC:HH.objs.size=s2.heap.objs.size+1:=by rw[<-hH2,Heap.size_push]
 have old:∀b o,HH.get? b=some o->h₁.get? b=some o:=λb o e=>hsb₁.extBut b o (LF (Lv e)) (Ln _ e);have old2:∀b o,s2.heap.get? b=some o->HH.get? b=some o:=λb o e=>hH2 ▸ Ln _ e;have ofp:∀b∈fp,∃o,s2.heap.get? b=some o:=λb hb=>by
  obtain ⟨o,e,_⟩:=T.obj _ _ st2 b hb;exact ⟨o,e⟩
 have neD:∀b∈fp,b≠s2.heap.objs.size:=λb hb=>by
  obtain ⟨o,e⟩:=ofp b hb;exact LF (Lv e)
 have f3:∀b∈fp,lG X pins (upd H2 s2.heap.objs.size (.lst [])) b:=λb hb=>⟨by rw[aq (neD b hb)];exact (f2 b hb).1,(f2 b hb).2⟩
 have ofp3:∀b∈fp,∃o,HH.get? b=some o:=λb hb=>by
  obtain ⟨o,e⟩:=ofp b hb;exact ⟨o,old2 b o e⟩
 have B:=zq (h₁:=h₁) (tk:=s2.toks+([]:List (Str×Lg)).length) I3 S f3 ofp3 hns₁ old;have st1:tn 0 h₁:=T.keep _ _ _ st2 λb hb o e=>old b o (old2 b o e);have loop:codeAny (model X.prog X.w) X.A (.compLoop (.ListComp elt [⟨tg,iter,ifs,0⟩] scope pos) 0 (.ref it) (.ref s2.heap.objs.size) (compEnvC scope (uh X.env scope.names []) HH.objs.size X.env))
   (RR (.ref s2.heap.objs.size) HH.objs.size) { s2 with heap:=h₁,toks:=s2.toks+([]:List (Str×Lg)).length }:=by
  refine A0 (X:=ug X scope N' (uh X.env scope.names []) fp HH.objs.size { s2 with heap:=HH,toks:=s2.toks } (upd H2 s2.heap.objs.size (.lst []))) (fp:=fp) rfl hc rfl rfl (hg _ _ _ _ _) (ht _ _ _ _ _) (he _ _ _ _ _) T
   (λb hb=>⟨(B.ok.Jt b hb).1,B.ok.Bv b hb,(B.ok.Jt b hb).2⟩) (h _ hD) B st1 (λb hb=>(f3 b hb).1) λσ4 H4 s4 I4 q4=>?_
  obtain ⟨m4,hn4,_⟩:=I4.loc;refine fin _ HH.objs.size s4 m4 H4 (by rw[hC];exact Nat.le_succ _) (by rw[hC];exact Nat.succ_ne_self _) I4.free hn4 (λh' sb=>?_) q4;have u4:Un (AS X.stack) fp (upd H2 s2.heap.objs.size (.lst [])) H4 HH s4.heap:=I4.base;exact I3.HF (s':={ s4 with heap:=h' }) I4.os (u4.but sb (Ll _)) (I4.bC.but I4.free sb) I4.bare λb hb=>⟨(f2 b hb).2.2.2.1,(f2 b hb).2.1,(f2 b hb).2.2.2.2.1,(f2 b hb).2.2.2.2.2⟩
 exact codeAny_compStart_list loop (T.self _ 0 _ _ _ st1 loop)
theorem IC (N':List Str)(fr:List (Option Nat))(hc:X.calm=true)(hi:PI X tg iter wi)
  (hg:∀cl fp C s H,PG (ug X scope N' cl fp C s H) tg g) (ht:∀cl fp C s H,v8 (ug X scope N' cl fp C s H) ifs tc) (he:∀cl fp C s H,PE (ug X scope N' cl fp C s H) elt te)
  {sc0:Scope} {N0:List Str} (hsc:autoParam (X.env.scope=sc0) aZa._auto_1) (hN:autoParam (X.N=N0) aZa._auto_1) (bC:autoParam (j8 sc0 N0 scope N' fr=true) aZe._auto_1) (hs:autoParam (∀x,foldedSetIterable iter X.env x=pure x) aZc._auto_1) :
  PE X (.ListComp elt [⟨tg,iter,ifs,0⟩] scope pos) (Ko wi fr g tc te):=by
 intro pins s σ H Q I h;have S:mP X.env.scope X.N scope N' fr:=by rw[hsc,hN];exact qW bC
 have has:∀y∈scope.names,y.2=.free->∃c,X.env.cells.lookup y.1=some c:=λy hy hk=>I.ok.has y.1 (S.frees y hy hk);rw[eval_ListComp];refine wpAny_comprehension_free (use:=none) rfl hs (oS has) S.kind S.names (cj (hi pins s σ H _ I h) λv s1 h1=>cj h1 λitv s2 h2=>?_);obtain ⟨it,fp,tn,J,H2,rfl,I2,T,st2,f2,w2⟩:=h2;refine xB (Q:=λD=>Q (.ref D)) (RR:=λacc C=>compPost (model X.prog X.w) X.A X.xe none (EP X pins σ Q) acc C) hc S hg ht he I2 T st2 f2 w2 λD C s' m' H' h1 h2 h3 h4 h5 q=>?_;exact ⟨m',h4,λh' sb=>⟨.ref D,H',h5 h' sb,rfl,q⟩⟩
noncomputable def Hb (i:Nat)(t:TE):TS:=λD σ H=>t σ H λv H1=>D.nx (σ.set i (some v)) H1
theorem Cv {i:Nat}{y:Str}{py spos:Pos}(hNd:X.N.Nodup)(hy:X.N[i]?=some y)(hly:Loc X.env.scope y)(N':List Str)(fr:List (Option Nat))(hc:X.calm=true)(hi:PI X tg iter wi)
    (hg:∀cl fp C s H,PG (ug X scope N' cl fp C s H) tg g) (ht:∀cl fp C s H,v8 (ug X scope N' cl fp C s H) ifs tc) (he:∀cl fp C s H,PE (ug X scope N' cl fp C s H) elt te)
    {sc0:Scope} {N0:List Str} (hsw:autoParam (swapsWith (.ListComp elt [⟨tg,iter,ifs,0⟩] scope pos) (some (.Name y py)) spos.line X.env=pure true) aZa._auto_1)
    (hsc:autoParam (X.env.scope=sc0) aZa._auto_1) (hN:autoParam (X.N=N0) aZa._auto_1) (bC:autoParam (j8 sc0 N0 scope N' fr=true) aZe._auto_1) (hs:autoParam (∀x,foldedSetIterable iter X.env x=pure x) aZc._auto_1)
    (hf:autoParam (X.fn y=true\/X.env.scope.names.lookup y=some .local) aZg._auto_1) :
    PS X (.Assign [.Name y py] (.ListComp elt [⟨tg,iter,ifs,0⟩] scope pos) spos) (Hb i (Ko wi fr g tc te)):=by
  intro pins s σ H D I h;have S:mP X.env.scope X.N scope N' fr:=by rw[hsc,hN];exact qW bC
  have has:∀y∈scope.names,y.2=.free->∃c,X.env.cells.lookup y.1=some c:=λy hy hk=>I.ok.has y.1 (S.frees y hy hk);rw[exec_Assign_Name_used _ _ _ _ hsw];refine Lh (wpAny_standAt (Lh ?_));show wpAny _ X.A (do let _ <-comprehension (.ListComp elt [⟨tg,iter,ifs,0⟩] scope pos) scope X.env _ (newList []) false (eval iter X.env) (some (assign (.Name y py) X.env))) _ _ s;refine Lh (wpAny_mono (wpAny_comprehension_free (use:=some (assign (.Name y py) X.env)) (Q:=λ_ s'=>SP X pins D .next s') rfl hs (oS has) S.kind S.names
    (cj (hi pins s σ H _ I h) λv s1 h1=>cj h1 λitv s2 h2=>?_)) (λ_ s' hq=>Lj (Lj hq)) λ_ _ e=>e)
  obtain ⟨it,fp,tn,J,H2,rfl,I2,T,st2,f2,w2⟩:=h2;refine xB (Q:=λB H1=>D.nx (σ.set i (some (.ref B))) H1) (RR:=λacc C=>compPost (model X.prog X.w) X.A X.xe (some (assign (.Name y py) X.env)) (λ_ s'=>SP X pins D .next s') acc C) hc S hg ht he I2 T st2 f2 w2 λB C s' m' H' h1 h2 h3 h4 h5 q=>?_;have I5:Inv X pins σ H' { s' with heap:=s'.heap }:=h5 s'.heap (.refl ..);show wpAny _ X.A (assign (.Name y py) X.env (.ref B)) _ _ s';refine wpAny_assign_Name (rY (v:=.ref B) I5 hNd hy hly rfl ?_ hf);rintro s6 I6 ⟨a,sb,ha⟩;have nL:C≠X.env.locals:=Nat.ne_of_gt (LJ I2.lt h1);have nC:∀x c,X.env.cells.lookup x=some c->c≠C:=λx c e=>by
    obtain ⟨v,o,ho,_⟩:=I2.cell x c e;exact LF (LJ (Lv ho) h1)
  have nP:∀p∈X.pn++pins,p.1≠C:=λp hp=>by
    have e:=(I2.pin p hp).1;exact LF (LJ (Lv e) h1)
  have na:a≠C:=by
    rcases ha with e | e
    · rw[e];exact nL.symm
    · exact nC _ _ e
  refine ⟨m',h4.sameBut sb (Ne.symm na),λh' sb'=>⟨σ.set i (some (.ref B)),H',?_,q⟩⟩;exact I6.turned (t':=s6.toks) (λb o hb e=>(sb'.2 b hb).trans e) h3 nL (.inr (Nat.le_trans I2.sz h1)) nC nP
end
end L2
namespace L2
open PySem PySem.Spec PyProof.Rows
section
variable {X:Cx}
noncomputable def Kh (K:Frag):List V->Hp->VK->Prop:=λxs H Q=>∃(p:Addr) (ns:List Int),xs = [.ref p]/\dA K H p (ns.map V.int)/\Q (.int ns.sum) H
theorem zC (hc:X.calm=true):fK X (.builtin "sum") (Kh X.K):=by
 intro pins s σ H xs us Q I r h;obtain ⟨p,ns,rfl,hp,q⟩:=h;obtain ⟨u,rfl,ru⟩:=vals1 r;cases ru;obtain ⟨its,rv,pl,hz⟩:=I.list hp;have hi:IntsAre its ns:=intsAre_of rv;obtain ⟨zs,e⟩:=hi.allInts.items;refine sum_intListG (I.ok.hd hc) (xs:=zs) (e ▸ pl.isList) λh' tk t' hk=>⟨.int ns.sum,H,I.kept hk,⟨t',?_⟩,q⟩
 have e2:=congrArg Array.toList e;have e3:numsOf (intItems zs).toList=ns:=by rw[<-e];exact hi.numsOf
 rw[nums_intItems] at e3;rw[preSum_eq,take_of_length_le (by simp),e3]
noncomputable def Kd (K:Frag):List V->Hp->VK->Prop:=λxs H Q=>∃x n,xs = [x]/\Hu K x H n/\Q (.int n) H
theorem zt:fK X (.builtin "len") (Kd X.K):=A2
theorem fW {n:Nat}(h:n<=1000):n<=sizeLine:=Nat.le_of_lt (AB h)
noncomputable def e7 {α:Type}(xs:List α)(lo hi st:Option Int):List α:=(sliceRange (sliceBounds lo hi st xs.length).1 (sliceBounds lo hi st xs.length).2.1 (sliceBounds lo hi st xs.length).2.2).filterMap (λj=>xs[j]?)
theorem kE {xs:List V}{its:List Lg}(r:Vals xs its):∀js:List Nat,Vals (js.filterMap λj=>xs[j]?) (js.filterMap λj=>its[j]?)
 | []=>.nil
 | j::js=>by
  rw[filterMap_cons,filterMap_cons];cases e:xs[j]? with
  | none=>rw[r.none_of e];exact kE r js
  | some x =>
   obtain ⟨u,e1,e2⟩:=r.get e;rw[e1];exact .cons e2 (kE r js)
theorem AF {α β:Type}(f:α->β)(xs:List α)(lo hi st:Option Int):e7 (xs.map f) lo hi st=(e7 xs lo hi st).map f:=by
 unfold e7;rw[Lk];generalize sliceRange _ _ _=js;induction js with
 | nil=>rfl
 | cons j js ih =>
  rw[filterMap_cons,filterMap_cons,LC];cases xs[j]? with
  | none=>simpa using ih
  | some x=>simpa using ih
theorem AE {xs:List V}{its:List Lg}(r:Vals xs its)(lo hi st:Option Int):(e7 xs lo hi st).length<=xs.length:=by
 have h:=slicePick_size_le its.toArray lo hi st;have e:Vals (e7 xs lo hi st) (slicePick its.toArray lo hi st).toList:=by
  unfold e7 slicePick;rw[show its.toArray.size=xs.length from r.length.symm];have:=kE r (sliceRange (sliceBounds lo hi st xs.length).1 (sliceBounds lo hi st xs.length).2.1 (sliceBounds lo hi st xs.length).2.2);simpa using this
 have e1:=e.length;have e2:=r.length;rw[e1,Lw];have h3:its.toArray.size=its.length:=LG;lia
noncomputable def Ku (K:Frag)(te:TE)(tl th ts:TO):TE:=λσ H Q=>te σ H λx H1=>tl σ H1 λl H2=>th σ H2 λu H3=>ts σ H3 λst H4 =>
 ∃a xs,x=.ref a/\dA K H4 a xs/\st≠some 0/\∀p,H4 p=none->Q (.ref p) (upd H4 p (.lst (e7 xs l u st)))
theorem Am {e:Expr}{te:TE}{lo hi:Option Expr}{st:Expr}{tl th ts:TO}{p2 pos:Pos}(he:PE X e te)(hl:PO X lo tl)(hu:PO X hi th)(hs:PO X (some st) ts):PE X (.Subscript e (.Slice lo hi (some st) p2) pos) (Ku X.K te tl th ts):=by
 intro pins s σ H Q I h;refine Subscript_ (cj (he pins s σ H _ I h) ?_);rintro v s1 ⟨x,H1,I1,r1,q1⟩;refine wpAny_Slice (cj (hl pins s1 σ H1 _ I1 q1) λvl s2 ⟨l,H2,I2,pl,q2⟩=>cj (hu pins s2 σ H2 _ I2 q2) λvu s3 ⟨u,H3,I3,pu,q3⟩=>cj (hs pins s3 σ H3 _ I3 q3) ?_);rintro vs s4 ⟨sv,H4,I4,ps,q4⟩;obtain ⟨a,xs,rfl,hx,h0,q⟩:=q4;cases r1;have I5:Inv X pins σ H4 { s4 with heap:=s4.heap.push { cls:=.type "slice",data:=.fields #[vl,vu,vs] } }:=I4.kept (t':=s4.toks) λb ob q=>Ln _ q;obtain ⟨its,r,ht,hz⟩:=I5.list hx;have hlen:=r.length;have hg:wpAny (model X.prog X.w) X.A (getItem (.ref a) (.ref s4.heap.objs.size)) (EP X pins σ Q) X.xe { s4 with heap:=s4.heap.push { cls:=.type "slice",data:=.fields #[vl,vu,vs] } }:=by
  refine wpAny_getItem_list_slice ht.isList (Heap.IsSliceOf.new ..) pl pu ps h0 ?_ (by rw[LG]<;>lia);refine ⟨.ref _,_,I5.laid (t':=s4.toks) (o:=.lst (e7 xs l u sv)) (λb ob q=>Ln _ q) (Ll _) ?_,rfl,q _ (I5.bC.fresh (Ll _))⟩;refine ⟨Nat.le_trans (AE r l u sv) hz,(slicePick its.toArray l u sv).toList,0,?_,?_⟩
  .unfold e7 slicePick;rw[show its.toArray.size=xs.length from r.length.symm];have:=kE r (sliceRange (sliceBounds l u sv xs.length).1 (sliceBounds l u sv xs.length).2.1 (sliceBounds l u sv xs.length).2.2);simpa using this
  .rw[Array.toArray_toList];exact LP _ rfl
 show wpAny (model X.prog X.w) X.A (subscriptTail e (.Slice lo hi (some st) p2) (.ref a) (.ref s4.heap.objs.size)) (EP X pins σ Q) X.xe { s4 with heap:=s4.heap.push { cls:=.type "slice",data:=.fields #[vl,vu,vs] } };exact tail_any (ops:=[.ref a,.ref s4.heap.objs.size]) ht.isList.typeIs slot_list_getitem.lookup hg (by with_unfolding_all rfl)
inductive Hl (K:Frag)(H:Hp):Nat->V->V->Prop where
 | sc {n:Nat} {x:V} (f:HR x=true):Hl K H n x x
 | rf {n:Nat} {a:Addr}:Hl K H n (.ref a) (.ref a)
 | tup {n:Nat} {a b:Addr} {xs ys:List V} (h1:i7 K H a xs) (h2:i7 K H b ys) (hl:xs.length=ys.length) (h:∀(i:Nat) (x y:V),xs[i]?=some x->ys[i]?=some y->Hl K H n x y):Hl K H (n+1) (.ref a) (.ref b)
 | lst {n:Nat} {a b:Addr} {xs ys:List V} (h1:dA K H a xs) (h2:dA K H b ys) (hl:xs.length=ys.length) (h:∀(i:Nat) (x y:V),xs[i]?=some x->ys[i]?=some y->Hl K H n x y):Hl K H (n+1) (.ref a) (.ref b)
end
end L2
namespace WS
noncomputable abbrev S3:=Int×Int×Int
noncomputable def mx (i j:Int):Int:=if j>i then j else i
noncomputable def jn (b:S3)(L:Int):Int:=b.2.2*mx 0 (b.2.1 - mx b.1 L)
noncomputable def above (bs:List S3)(L:Int):Int:=(bs.map λb=>jn b L).sum
noncomputable def mW (hs:List S3):List S3:=hs.map λx=>(x.2.1,x.1,x.2.2)
noncomputable def fZ (g:Int)(cs:List S3):List S3:=cs.map λx=>(x.1+g,x.2.1+g,x.2.2)
theorem mS {L:Int}:∀{bs:List S3},(∀b∈bs,b.2.1<=L)->above bs L=0
 | [],_=>rfl
 | b::bs,h=>by
  have ih:=mS (L:=L) (bs:=bs) λx hx=>h x (LO _ hx);have hb:=h b mem_cons_self;have e:jn b L=0:=by
   unfold jn mx;have:(if b.2.1 - (if L>b.1 then L else b.1)>0 then b.2.1 - (if L>b.1 then L else b.1) else 0)=0:=by split<;>split at *<;>lia
   rw[this,Int.mul_zero]
  unfold above at *;rw[LK,sum_cons,ih,e];rfl
noncomputable def bD (g:Int)(hs cs:List S3)(L:Int):Int:=above (fZ g cs) L - above (mW hs) L
structure g8 (x:S3):Prop where
 lo:0<=x.2.1
 lt:x.2.1<x.1
 hi:x.1<=200
 r0:1<=x.2.2
 r1:x.2.2<=1000000000
structure dB (x:S3):Prop where
 lo:0<=x.1
 lt:x.1<x.2.1
 hi:x.2.1<=200
 r0:1<=x.2.2
 r1:x.2.2<=1000000000
theorem BJ {hs:List S3}(h:∀x∈hs,g8 x):∀b∈mW hs,b.2.1<=250:=λb hb=>by
 obtain ⟨x,hx,rfl⟩:=Lx.mp hb;have:=(h x hx).hi;show x.1<=250;lia
theorem zE {g:Int}{cs:List S3}(hg:g<=50)(h:∀x∈cs,dB x):∀b∈fZ g cs,b.2.1<=250:=λb hb=>by
 obtain ⟨x,hx,rfl⟩:=Lx.mp hb;have:=(h x hx).hi;show x.2.1+g<=250;lia
theorem zX {g:Int}{hs cs:List S3}(hg:g<=50)(h1:∀x∈hs,g8 x)(h2:∀x∈cs,dB x):bD g hs cs 250=0:=by
 unfold bD;rw[mS (zE hg h2),mS (BJ h1)];rfl
end WS
namespace L2
open PySem PySem.Spec PyProof.Rows
structure Fn (P:LH)(w:LR)(K:Frag)(mg:Str->Option Lg)(base:Heap)(x:Str)(k:Nat)(ps:List Str)(sp:Sp):Prop where
 ex:∃f fd,cH P w K mg base iX k f fd ps sp/\mg x=some (.ref f)/\keepIn K (.ref f)=true/\Binds K fd ps []
theorem E8 {X:Cx}{x:Str}{k:Nat}{ps:List Str}{sp:Sp}{p pos:Pos}{e:Expr}{es:List Expr}{t:TA}(F:Fn X.prog X.w X.K X.mg X.base x k ps sp)(hr:cN k X.A)(hg:Gl X x)(ha:PA X (e::es) t)
  (hdb:autoParam ((x == ("__debug__" : Str))=false) aZb._auto_1) (he:autoParam (starEach (e::es) X.env=(false,eval e X.env)::starEach es X.env) aZa._auto_1) (hpl:autoParam ((backTo pos (starEach es X.env)).any (·.1)=false) aZa._auto_1) :
  PE X (.Call (.Name x p) (e::es) [] pos) (Fj sp [] E0 t):=by
 obtain ⟨f,fd,G,hm,hk,hb⟩:=F.ex;exact Ep G hr hg hm hk hb .nil Iy ha hdb he hpl
theorem dJ {P:LH}{w:LR}{K:Frag}{mg:Str->Option Lg}{base:Heap}{x qual:Str}{st:Stmt}{f:Addr}{fd:FuncData}{k:Nat}{ps:List Str}{sp:Sp}(F:lH K x qual st f fd)(hm:mg x=some (.ref f))(hb:Binds K fd ps [])(ok:cH P w K mg base iX k f fd ps sp) :
  Fn P w K mg base x k ps sp:=⟨f,fd,ok,hm,F.kp,hb⟩
theorem eZ {H:Hp}{a:Addr}{o:HO}(h:H a=none):ao H (upd H a o):=λb u e=>by
 rw[aq (bo e h)];exact e
theorem ao.upd {H H':Hp}{a:Addr}{o:HO}(s:ao H H')(h:H a=none):ao H (upd H' a o):=λb u e=>by
 rw[aq (bo e h)];exact s b u e
end L2
namespace WS
open PySem L2
theorem lq {α β:Type}{F:α->β->Prop}:∀{l:List α} {r:List β} {i:Nat} {a:α},Paired F l r->l[i]?=some a->∃b,r[i]?=some b/\F a b
 | _,_,_,_,.nil,e=>by simp at e
 | _,_,0,_,.cons h _,e=>by simp at e;subst e;exact ⟨_,rfl,h⟩
 | _,_,i+1,a,.cons _ t,e=>by
  obtain ⟨b,h1,h2⟩:=lq (i:=i) (a:=a) t (by simpa using e);exact ⟨b,by simpa using h1,h2⟩
theorem take_snoc {α:Type}{l:List α}{i:Nat}{x:α}(e:l[i]?=some x):l.take (i+1)=l.take i++[x]:=by
 rw[List.take_add_one,e];rfl
end WS
namespace L2
open PySem PySem.Spec PyProof.Rows
section
variable {X:Cx}
theorem uq:∀{bs:List Bool} {its:List Lg},Vals (bs.map V.bl) its->its=bs.map Value.bool
 | [],_,.nil=>rfl
 | b::r,_,.cons e h=>by
  rw[show _=Value.bool b from e,uq h];rfl
theorem all_range (bs:List Bool):(LD bs.length).all (λi=>bs.getD i true)=bs.all id:=by
 rw[Bool.eq_iff_iff,List.all_eq_true,List.all_eq_true];constructor
 .intro h b hb;obtain ⟨i,hi,e⟩:=List.mem_iff_getElem.mp hb;have:=h i (mem_range.mpr hi);rw[getD_eq_getElem?_getD,Lm hi] at this;rw[<-e];exact this
 .intro h i hi;have hi':=mem_range.mp hi;rw[getD_eq_getElem?_getD,Lm hi'];exact h _ (List.getElem_mem hi')
noncomputable def Kb (K:Frag):List V->Hp->VK->Prop:=λxs H Q=>∃(p:Addr) (bs:List Bool),xs = [.ref p]/\dA K H p (bs.map V.bl)/\Q (.bl (bs.all id)) H
theorem zr (hc:X.calm=true):fK X (.builtin "all") (Kb X.K):=by
 intro pins s σ H xs us Q I r h;obtain ⟨p,bs,rfl,hp,q⟩:=h;obtain ⟨u,rfl,ru⟩:=vals1 r;cases ru;obtain ⟨its,rv,pl,hz⟩:=I.list hp;have e:=uq rv;subst e;have hlt:p<s.heap.objs.size:=by obtain ⟨_,e,_⟩:=pl.isList;exact Lv e
 have hh:X.A.in1.handled=none:=I.ok.hd hc;refine call_all_walk (wpAny_pyIter_list pl.isList ?_);refine ⟨_,_,_,_,_,_,λi=>bs.getD i true,rfl,Walks.list (A:=X.A.in1) hh s.heap.objs.size p (LF hlt) (bs.map Value.bool).toArray,⟨⟨_,LP _ rfl,rfl,rfl⟩,pl.isList.push _⟩,?_,λh' tk hk=>?_⟩
 .intro i v s' Q' E' hv hq;have hv':(bs.map Value.bool)[i]?=some v:=by simpa using hv
  rw[LC] at hv';cases z:bs[i]? with
  | none=>rw[z] at hv';cases hv'
  | some b =>
   rw[z] at hv';have e:v=Value.bool b:=(Option.some.inj hv').symm;subst e;have hq':Q' (bs.getD i true) s':=hq;rw[getD_eq_getElem?_getD,z] at hq';exact wpAny_truthy_bool hq'
 .have e:(LD (bs.map Value.bool).toArray.size).all (λi=>bs.getD i true)=bs.all id:=by
   rw[LG,Lk];exact all_range bs
  rw[e];refine ⟨.bl (bs.all id),H,I.kept (t':=tk) λb o eb=>hk b o ?_ (Ln _ eb),rfl,q⟩;have:b≠s.heap.objs.size:=LF (Lv eb);simpa using this
theorem IA {x:Str}{i:Int}{pos:Pos}(hg:Gl X x)(h:∃t,X.mg x=some (.int i t))(hd:autoParam ((x == ("__debug__" : Str))=false) aZb._auto_1):PE X (.Name x pos) (tC (.int i)):=by
 obtain ⟨t,e⟩:=h;exact mC hg e ⟨t,rfl⟩ hd
end
end L2
namespace L2
open PySem PySem.Spec PyProof.Rows
section
variable {X:Cx} {pins:List (Addr×Obj)} {σ:St} {H:Hp} {s:Li} {h':Heap}
theorem Inv.Jm {t':Nat}{wr:List Addr}{T:Addr}{us:List Lg}{vs:List V}(I:Inv X pins σ H s)(hf:∀b∈wr,lG X pins H b)(k:∀b o,b∉wr->s.heap.get? b=some o->h'.get? b=some o)(hT:s.heap.objs.size<=T)(ht:h'.IsTuple T us.toArray)(r:Vals vs us)(hz:vs.length<=sizeLine) :
  Inv X pins σ (upd H T (.tup vs)) { s with heap:=h',toks:=t' }:=by
 have hn:H T=none:=I.bC.fresh hT;have nit:∀b u,H b=some u->b∉wr:=λb u e z=>by
  have:=(hf b z).1;rw[this] at e;cases e
 refine I.step (g':=s.gens) (d':=s.drawn) (ch:=wr) (λb hb=>⟨(hf b hb).2.2.2.1,(hf b hb).2.1,(hf b hb).2.2.2.2.1,(hf b hb).2.2.2.2.2⟩) (λb o _ _ hc e _=>k b o hc e) (λb o _ _ hc e _=>⟨o.slots,k b o hc e⟩)
  (λb o hc e n=>?_) (λb o hc e=>⟨o,k b o hc e⟩) (λb xs e=>?_) (λb o u e=>?_) (λb ps e=>⟨#[],?_⟩) (λm hm=>?_) (λb u e=>?_) I.bare
 .rw[aq (LF (LJ (Lv e) hT))];exact n
 .rw[aq (bo e hn)];exact e
 .rw[aq (bo e hn)];exact e
 .rw[aq (bo e hn)];simpa using e
 .obtain ⟨o,es,ep,ho,r⟩:=hm;exact ⟨o,es,ep,k _ o (λz=>(hf _ z).2.1 rfl) ho,r⟩
 .by_cases hb:b=T
  .subst hb;rw[aA] at e;cases e;exact ⟨hz,us,r,ht⟩
  .rw[aq hb] at e;refine (I.bC b u e).d7 (λc v hc q=>k c v ?_ q) (λc q=>by rw[aq (bo q hn)];exact q) λc xs q=>by rw[aq (bo q hn)];exact q
   rcases hc with z | z
   .rw[z];exact nit b u e
   .exact nit c _ z
theorem Inv.EI {t':Nat}{wr:List Addr}(I:Inv X pins σ H s)(hf:∀b∈wr,lG X pins H b)(k:∀b o,b∉wr->s.heap.get? b=some o->h'.get? b=some o):Inv X pins σ H { s with heap:=h',toks:=t' }:=by
 have nit:∀b u,H b=some u->b∉wr:=λb u e z=>by
  have:=(hf b z).1;rw[this] at e;cases e
 refine I.step (g':=s.gens) (d':=s.drawn) (ch:=wr) (λb hb=>⟨(hf b hb).2.2.2.1,(hf b hb).2.1,(hf b hb).2.2.2.2.1,(hf b hb).2.2.2.2.2⟩) (λb o _ _ hc e _=>k b o hc e) (λb o _ _ hc e _=>⟨o.slots,k b o hc e⟩)
  (λb o hc e n=>n) (λb o hc e=>⟨o,k b o hc e⟩) (λb xs e=>e) (λb o u e=>e) (λb ps e=>⟨#[],by rw[e];simp⟩) (λm hm=>?_) (λb u e=>?_) I.bare
 .obtain ⟨o,es,ep,ho,r⟩:=hm;exact ⟨o,es,ep,k _ o (λz=>(hf _ z).2.1 rfl) ho,r⟩
 .refine (I.bC b u e).d7 (λc v hc q=>k c v ?_ q) (λ_ q=>q) λ_ _ q=>q;rcases hc with z | z
  .rw[z];exact nit b u e
  .exact nit c _ z
end
noncomputable def Jo (Src:Hp->List (List V)->Prop):It:=
 ⟨λi H=>∃rows row,Src H rows/\rows[i]?=some row,λi H x H'=>∀rows,Src H rows->∃row p,rows[i]?=some row/\H p=none/\x=.ref p/\H'=upd H p (.tup row),λi H=>∃rows,Src H rows/\i=rows.length⟩
theorem Hh {P:LH}{w:LR}{K:Frag}{elts:List Expr}{kx:Nat}{pos:Pos}{e:Addr}{fp wr fpw:List Addr}{Src:Hp->List (List V)->Prop}{core:Nat->Heap->Prop}
  (me:e∈fp) (hwr:∀b∈wr,b∈fp) (src1:∀H r r',Src H r->Src H r'->r=r')
  (obj:∀i h,core i h->∀b∈fp,∃o,h.get? b=some o/\∀v,o.data≠.cell v)
  (keep:∀i h h',core i h->(∀b∈fp,∀o,h.get? b=some o->h'.get? b=some o)->core i h')
  (self:∀(A:LQ) (i:Nat) (s:Li) (Q:Lg->Li->Prop) (E:Lg->Li->Prop),core i s.heap->Q (.ref e) s->wpAny (model P w) A (pyIter (.ref e)) Q E s)
  (W:∀(X:Cx),X.prog=P->X.w=w->X.K=K->X.calm=true->∀(i:Nat) (pins:List (Addr×Obj)) (s:Li) (σ:St) (H:Hp),Inv X pins σ H s->(∀b∈fp,lG X pins H b)->core i s.heap->∀rows,Src H rows ->
   ∃(n:Nat) (Pt:Nat->Array Lg->Prop) (St':Nat->Heap->Prop) (Mid:Nat->Addr->Heap->Prop),WalksT P w X.A e fpw wr n Pt St' Mid/\n=rows.length/\St' i s.heap/\(∀j vals,Pt j vals->∃row us,rows[j]?=some row/\vals=us.toArray/\Vals row us/\row.length<=sizeLine)/\∀j h,St' j h->core j h) :
  Turn P w K (.Tuple elts kx pos) (Jo Src) fp e core where
 mem:=me
 obj:=obj
 keep:=keep
 self:=self
 item:=by
  intro X hP hw hK hc i pins s σ H E I hf st hg;obtain ⟨rows,row,hs,hr⟩:=hg;obtain ⟨n,Pt,St',Mid,V,hn,st',hp,back⟩:=W X hP hw hK hc i pins s σ H I hf st rows hs;have hi:i<n:=by rw[hn];exact (Lp.mp hr).1
  refine V.item i s _ E hi st' λT vals h' tk pt hT ht mid kk=>?_;obtain ⟨row',us,hr',rfl,rv,hz⟩:=hp i vals pt;refine ⟨.ref T,rfl,?_⟩;refine V.go elts kx pos i T { s with heap:=h',toks:=tk } _ E mid λh2 st2 k2=>?_;have nT:=V.apart i T h' mid;have ht2:h2.IsTuple T us.toArray:=ht.at λo q=>k2 T o nT q;have I2:Inv X pins σ (upd H T (.tup row')) { s with heap:=h2,toks:=tk }:=I.Jm (λb hb=>hf b (hwr b hb)) (λb o hb q=>k2 b o hb (kk b o hb q)) hT ht2 rv hz;refine ⟨.ref T,_,I2,rfl,λrows2 hs2=>?_,back _ _ st2,λb hb=>?_⟩
  .rw[src1 _ _ _ hs2 hs];exact ⟨row',T,hr',I.bC.fresh hT,rfl,rfl⟩
  .have hbT:b≠T:=by
    rintro rfl;obtain ⟨o,ho,_⟩:=obj _ _ st b hb;exact absurd (LJ (Lv ho) hT) (Nat.lt_irrefl _)
   rw[aq hbT];exact (hf b hb).1
 done:=by
  intro X hP hw hK hc i pins s σ H E I hf st hg;obtain ⟨rows,hs,hr⟩:=hg;obtain ⟨n,Pt,St',Mid,V,hn,st',hp,back⟩:=W X hP hw hK hc i pins s σ H I hf st rows hs;rw[hr,<-hn] at st';exact V.done s _ E st' λh' tk kk=>⟨rfl,I.EI (λb hb=>hf b (hwr b hb)) kk⟩
section
variable {X:Cx}
noncomputable def IM (K:Frag):List V->Hp->VK->Prop:=λxs H Q=>∃(p:Addr) (ns:List Int),xs = [.ref p]/\dA K H p (ns.map V.int)/\ns≠[]/\∀m:Int,m∈ns->(∀n∈ns,n<=m)->Q (.int m) H
theorem sk {zs:Array (Int×Tok)}{k:Nat}{v:Lg}(h:(intItems zs)[k]?=some v):(∃t,v=.int (numAt zs k) t)/\numAt zs k∈zs.toList.map (·.1):=by
 refine ⟨intItems_at h,?_⟩;simp only[intItems,Array.getElem?_map,Option.map_eq_some_iff] at h;obtain ⟨p,hp,rfl⟩:=h;rw[numAt_eq];have hp':zs.toList[k]?=some p:=by rw[<-hp];simp
 rw[getD_eq_getElem?_getD,LC,hp'];exact Lx.mpr ⟨p,Ls hp',rfl⟩
theorem ll {zs:Array (Int×Tok)}{n:Int}(h:n∈zs.toList.map (·.1)):∃j,j<=zs.size - 1/\numAt zs j=n:=by
 obtain ⟨j,hj⟩:=List.getElem?_of_mem h;have hl:j<zs.size:=by have:=(Lp.mp hj).1;simpa using this
 exact ⟨j,by lia,by rw[numAt_eq,getD_eq_getElem?_getD,hj];rfl⟩
theorem zw (hc:X.calm=true):fK X (.builtin "max") (IM X.K):=by
 intro pins s σ H xs us Q I r h;obtain ⟨p,ns,rfl,hp,hne,q⟩:=h;obtain ⟨u,rfl,ru⟩:=vals1 r;cases ru;obtain ⟨its,rv,pl,hz⟩:=I.list hp;have hi:IntsAre its ns:=intsAre_of rv;obtain ⟨zs,e⟩:=hi.allInts.items;have e3:zs.toList.map (·.1)=ns:=by rw[<-nums_intItems,<-e];exact hi.numsOf
 have hsz:0<zs.size:=by
  have:ns.length=zs.size:=by rw[<-e3];simp
  have:ns.length≠0:=λz=>hne (length_eq_zero_iff.mp z);lia
 refine max_intList (I.ok.hd hc) (xs:=zs) (e ▸ pl.isList) hsz λv h' tk hv hk=>?_;obtain ⟨⟨t,rfl⟩,hm⟩:=sk hv;refine ⟨.int _,H,I.kept hk,⟨t,rfl⟩,q _ (e3 ▸ hm) λn hn=>?_⟩;obtain ⟨j,hj,ej⟩:=ll (e3 ▸ hn);rw[<-ej];exact (argBest_gt (numAt zs) (zs.size - 1)).2 j hj
noncomputable def hV (xs:List V):List (List V):=(LD xs.length).map λi=>[V.int (i:Nat),(xs[i]?).getD .non]
theorem md {xs:List V}{i:Nat}{x:V}(h:xs[i]?=some x):(hV xs)[i]?=some [.int (i:Nat),x]:=by
 unfold hV;rw[LC,List.getElem?_range (Lp.mp h).1,Option.map_some,h];rfl
theorem mf (xs:List V):(hV xs).length=xs.length:=by unfold hV;simp
noncomputable def ze (a:Addr)(H:Hp)(rows:List (List V)):Prop:=∃xs,H a=some (.lst xs)/\rows=hV xs
theorem AL {P:LH}{w:LR}{K:Frag}{elts:List Expr}{kx:Nat}{pos:Pos}(a e it:Addr)(hei:e≠it) :
    Turn P w K (.Tuple elts kx pos) (Jo (ze a)) [e,it] e (λi h=>(∃old,IsEnum h e it i old)/\h.IsListIter it a i):=by
  refine Hh (fpw:=[e,it,a]) (wr:=[e,it]) (by simp) (λb hb=>hb) (λH r r' ⟨xs,h1,h2⟩ ⟨ys,h3,h4⟩=>?_) (λi h ⟨⟨old,he⟩,hit⟩ b hb=>?_) (by rintro i h h' ⟨⟨old,he⟩,hit⟩ k;exact ⟨⟨old,k e (by simp) _ he⟩,hit.at λo q=>k it (by simp) o q⟩) (by rintro A i s Q E ⟨⟨old,he⟩,hit⟩ q;exact wpAny_pyIter_enum he q) ?_
  · rw[h1] at h3;cases h3;rw[h2,h4]
  · rcases Lz.mp hb with rfl | hb
    · exact ⟨_,he,λv z=>by have z':Data.fields _=Data.cell v:=z;cases z'⟩
    · have : b = it := by simpa using hb
      subst this;obtain ⟨o,ho,_,hd⟩:=hit;exact ⟨o,ho,λv z=>by rw[hd] at z;cases z⟩
  · intro X hP hw hK hc i pins s σ H I hf st rows ⟨xs,hx,hr⟩;subst hP hw hK;obtain ⟨z,its,n,rv,hl⟩:=I.bC a _ hx;have hlist:s.heap.IsList a its.toArray:=⟨_,hl,rfl,n,rfl⟩
    have nae:a≠e:=λq=>by have:=(hf e (by simp)).1;rw[<-q,hx] at this;cases this
    have nai:a≠it:=λq=>by have:=(hf it (by simp)).1;rw[<-q,hx] at this;cases this
    refine ⟨its.toArray.size,_,_,_,WalksT.enumerate (I.ok.hd hc) e it a hei nae nai its.toArray,by rw[hr,mf,LG,rv.length],⟨st.1,st.2,hlist⟩,?_,λj h ⟨h1,h2,_⟩=>⟨h1,h2⟩⟩;rintro j vals ⟨t,x,h1,h2⟩;have h1':its[j]?=some x:=by simpa using h1
    have hj:j<xs.length:=by rw[rv.length];exact (Lp.mp h1').1
    obtain ⟨u,g1,g2⟩:=rv.get (Lm hj);rw[h1'] at g1;cases g1;exact ⟨[.int (j:Nat),xs[j]],[.int j t,x],by rw[hr];exact md (Lm hj),h2,.cons ⟨t,rfl⟩ (.cons g2 .nil),fW (Nat.le_of_ble_eq_true rfl)⟩
noncomputable def HW (ta:TA):TI:=λσ H R=>ta σ H λvs H1=>∃a xs,vs = [.ref a]/\H1 a=some (.lst xs)/\R (Jo (ze a)) H1
theorem Et {elts:List Expr}{kx:Nat}{tpos:Pos}{l:Expr}{ta:TA}{p pos:Pos}(hg:Gl X "enumerate")(hm:X.mg "enumerate" = none)(ha:PA X [l] ta)(hs:autoParam (starEach [l] X.env = [(false,eval l X.env)]) aZa._auto_1):PI X (.Tuple elts kx tpos) (.Call (.Name "enumerate" p) [l] [] pos) (HW ta):=by
  intro pins s σ H R I h;refine Call_ (iG I hg hm boot_enumerate (PyProof.Rows.callWith_type1 (cj (ha pos pins s σ H _ I h) ?_) hs rfl));rintro us s1 ⟨vs,H1,I1,r1,q1⟩;obtain ⟨a,xs,rfl,hx,q⟩:=q1;obtain ⟨u,rfl,ru⟩:=vals1 r1;cases ru;obtain ⟨z,its,n,rv,hl⟩:=I1.bC a _ hx;refine call_enumerate_list (items:=its.toArray) ⟨_,hl,rfl,n,rfl⟩ λh' he hit hsz hk=>?_;refine wpAny_pyIter_enum he ?_;have I2:Inv X pins σ H1 { s1 with heap:=h' }:=I1.kept (t':=s1.toks) hk;refine ⟨s1.heap.objs.size+1,[s1.heap.objs.size+1,s1.heap.objs.size],_,_,H1,rfl,I2,AL a _ _ (Nat.succ_ne_self _),⟨⟨_,he⟩,hit⟩,λb hb=>?_,q⟩;rcases Lz.mp hb with rfl | hb
  · exact I1.DH (Nat.le_succ _) (I1.bC.fresh (Nat.le_succ _))
  · have e : b = s1.heap.objs.size := by simpa using hb
    subst e;exact I1.DH (Ll _) (I1.bC.fresh (Ll _))
section
variable {prog:LH} {w:LR} {A:LQ} {E:Lg->Li->Prop} {s:Li}
theorem rp {it t:Addr}{items:Array Lg}(hne:t≠it):∀(n i:Nat) (s:Li) (Q:List Lg->Li->Prop),s.heap.IsListIter it t i->s.heap.IsList t items->i+n<=items.size ->
  (∀h',h'.IsListIter it t (i+n)->Heap.SameBut it s.heap h'->Q ((items.toList.drop i).take n) { s with heap:=h' })->wpAny (model prog w) A (draw (.ref it) n) Q E s
 | 0,i,s,Q,hit,_,_,hQ=>by
  show wpAny _ _ (pure []) Q E s;exact Lj (by simpa using hQ s.heap hit (Heap.SameBut.refl ..))
 | n+1,i,s,Q,hit,ht,hle,hQ=>by
  have hlt:i<items.size:=by lia
  show wpAny _ _ (pyNext (.ref it) >>= _) Q E s;refine Lh (wpAny_pyNext_list_item hit ht (x:=items[i]) (by simp[hlt]) λh₁ hit₁ hs₁=>?_);refine Lh (wpAny_holding (rp hne n (i+1) _ _ hit₁ (ht.extBut hs₁.extBut hne) (by lia) λh₂ hit₂ hs₂=>Lj ?_));have hd:items.toList.drop i=items[i]::items.toList.drop (i+1):=by simp[drop_eq_getElem_cons,hlt]
  have:=hQ h₂ (by rw[show i+(n+1)=i+1+n by lia];exact hit₂) (hs₁.trans hs₂);rw[hd,List.take_succ_cons] at this;exact this
theorem nz {t:Addr}{items:Array Lg}{Q:List Lg->Li->Prop}(hh:A.handled=none)(ht:s.heap.IsList t items)
  (hQ:∀h',Heap.ExtBut s.heap.objs.size s.heap h'->Q items.toList { s with heap:=h' }):wpAny (model prog w) A (unpackItems (.ref t) items.size none) Q E s:=by
 have hlt:t≠s.heap.objs.size:=by obtain ⟨o,ho,_⟩:=ht;exact LF (Lv ho)
 unfold unpackItems;refine Lh ?_;unfold notIterableAtAll;refine Lh (wpAny_specialOf ht.typeIs slot_list_iter.lookup ?_);refine Lj ?_;simp only[LB,if_false];refine Lh (wpAny_holding (wpAny_pyIter_list ht ?_));refine Lh (wpAny_holding (rp hlt items.size 0 _ _ ⟨_,LP _ rfl,rfl,rfl⟩ (ht.at λo e=>Ln _ e) (by lia) λh₁ hit₁ hs₁=>?_));have hall:List.take items.size (List.drop 0 items.toList)=items.toList:=by
  rw[List.drop_zero];exact take_of_length_le (by simp)
 rw[hall];rw[if_neg (by simp)];have ht₁:h₁.IsList t items:=(ht.at λo e=>Ln _ e).extBut hs₁.extBut hlt;refine Lh (wpAny_holding (wpAny_pyNext_list_end hh hit₁ ht₁ (by simp) λh₂ he₂=>?_));simp only[Option.isSome_none,LB,if_false];refine Lj (hQ h₂ λb o hb e=>he₂ b o hb (hs₁.extBut b o hb (Ln _ e)))
theorem lI {env:Env}{elts:List Expr}{x1}{pos:Pos}{t:Addr}{items:Array Lg}{Q:Unit->Li->Prop}(hh:A.handled=none)(ht:s.heap.IsList t items)
  (hn:(assignEach elts env).length=items.size) (hstar:(assignEach elts env).findIdx? (·.1)=none)
  (h:∀h',Heap.ExtBut s.heap.objs.size s.heap h'->wpAny (model prog w) A (assignInOrder ((assignEach elts env).map (·.2)) items.toList) Q E { s with heap:=h' }) :
  wpAny (model prog w) A (assign (.Tuple elts x1 pos) env (.ref t)) Q E s:=by
 rw[assign_Tuple];refine Lh (wpAny_standAt ?_);unfold unpack;rw[hn,hstar];exact Lh (wpAny_holding (nz hh ht h))
end
noncomputable def HU (K:Frag)(n:Nat)(t:ER):TG:=λv σ H Q=>∃a xs,v=.ref a/\(i7 K H a xs\/dA K H a xs)/\xs.length=n/\t xs σ H Q
theorem fI {es:List Expr}{k:Nat}{t:ER}{n:Nat}{pos:Pos}(hc:X.calm=true)(h:Jp X es t)
  (hn:autoParam ((assignEach es X.env).length=n) aZa._auto_1) (hst:autoParam ((assignEach es X.env).findIdx? (·.1)=none) aZa._auto_1):PG X (.Tuple es k pos) (HU X.K n t):=by
 intro pins s σ H v u Q I r hw;obtain ⟨a,xs,e1,hq,hl,hw⟩:=hw;subst e1;cases r;rcases hq with hq | hq
 .obtain ⟨its,rv,ht,hz⟩:=I.tuple hq;refine assign_Tuple_tuple (I.ok.hd hc) ht (by simp[hn,<-hl,rv.length]) hst λh' hx=>?_;have I1:Inv X pins σ H { s with heap:=h' }:=I.kept (t':=s.toks) λb o e=>hx b o (LF (Lv e)) e;exact h pins _ σ H xs _ Q I1 (by simpa using rv) hw
 .obtain ⟨its,rv,ht,hz⟩:=I.list hq;refine lI (I.ok.hd hc) ht.isList (by simp[hn,<-hl,rv.length]) hst λh' hx=>?_;have I1:Inv X pins σ H { s with heap:=h' }:=I.kept (t':=s.toks) λb o e=>hx b o (LF (Lv e)) e;exact h pins _ σ H xs _ Q I1 (by simpa using rv) hw
end
end L2
namespace DL
open PySem L2
inductive D where
 | non | bl (b:Bool) | int (i:Int) | str (x:Str) | tup (xs:List D) | lst (xs:List D) | scr (ns:List Int)
 | dct (kvs:List ((Int×Int)×Int))
noncomputable def encD (kvs:List ((Int×Int)×Int)):List (List Key×V):=kvs.map λp=>([Sum.inl p.1.1,Sum.inl p.1.2],V.int p.2)
inductive Rep (K:Frag)(G:Hp):V->D->Prop where
 | non:Rep K G .non .non
 | bl (b:Bool):Rep K G (.bl b) (.bl b)
 | int (i:Int):Rep K G (.int i) (.int i)
 | str (x:Str):Rep K G (.str x) (.str x)
 | tup {a:Addr} {vs:List V} {ds:List D} (h:G a=some (.tup vs)) (l:vs.length=ds.length) (r:∀(i:Nat) (v:V) (d:D),vs[i]?=some v->ds[i]?=some d->Rep K G v d):Rep K G (.ref a) (.tup ds)
 | scr {a:Addr} {ns:List Int} (h:dA K G a (ns.map V.int)):Rep K G (.ref a) (.scr ns)
 | dct {a:Addr} {kvs:List ((Int×Int)×Int)} (h:Rd G a (.dT (encD kvs))):Rep K G (.ref a) (.dct kvs)
 | lst {a:Addr} {vs:List V} {ds:List D} (h:G a=some (.lst vs)) (l:vs.length=ds.length) (r:∀(i:Nat) (v:V) (d:D),vs[i]?=some v->ds[i]?=some d->Rep K G v d):Rep K G (.ref a) (.lst ds)
noncomputable abbrev aY (K:Frag)(G:Hp):List V->List D->Prop:=Paired (Rep K G)
theorem aC {α β:Type}{F:α->β->Prop}:∀{l:List α} {r:List β},l.length=r.length->(∀(i:Nat) (a:α) (b:β),l[i]?=some a->r[i]?=some b->F a b)->Paired F l r
 | [],[],_,_=>.nil
 | a::l,b::r,e,h=>.cons (h 0 a b rfl rfl) (aC (by simpa using e) λi x y h1 h2=>h (i+1) x y (by simpa using h1) (by simpa using h2))
theorem ik {α β:Type}{F:α->β->Prop}:∀{l:List α} {r:List β},Paired F l r->∀(i:Nat) (a:α) (b:β),l[i]?=some a->r[i]?=some b->F a b
 | _,_,.nil,_,_,_,h,_=>by simp at h
 | _,_,.cons h _,0,_,_,h1,h2=>by simp at h1 h2;subst h1;subst h2;exact h
 | _,_,.cons _ t,i+1,a,b,h1,h2=>ik t i a b (by simpa using h1) (by simpa using h2)
theorem bE {α β:Type}{F:α->β->Prop}:∀{l:List α} {r:List β} {i:Nat} {b:β},Paired F l r->r[i]?=some b->∃a,l[i]?=some a/\F a b
 | _,_,_,_,.nil,e=>by simp at e
 | _,_,0,_,.cons h _,e=>by simp at e;subst e;exact ⟨_,rfl,h⟩
 | _,_,i+1,b,.cons _ t,e=>by
  obtain ⟨a,h1,h2⟩:=bE (i:=i) (b:=b) t (by simpa using e);exact ⟨a,by simpa using h1,h2⟩
section
variable {K:Frag} {G G' H H':Hp} {v:V} {d:D} {ds:List D} {vs:List V}
theorem Rep.uc {a:Addr}(h:G a=some (.tup vs))(r:aY K G vs ds):Rep K G (.ref a) (.tup ds):=.tup h (Paired.length r) (ik r)
theorem Rep.Ef {a:Addr}(h:G a=some (.lst vs))(r:aY K G vs ds):Rep K G (.ref a) (.lst ds):=.lst h (Paired.length r) (ik r)
theorem Rep.d4 (h:Rep K G v (.tup ds)):∃a vs,v=.ref a/\i7 K G a vs/\aY K G vs ds:=by
 cases h with | tup h l r=>exact ⟨_,_,rfl,.inl (.inl h),aC l r⟩
theorem Rep.ud (h:Rep K G v (.tup ds)):∃a vs,v=.ref a/\G a=some (.tup vs)/\aY K G vs ds:=by
 cases h with | tup h l r=>exact ⟨_,_,rfl,h,aC l r⟩
theorem Rep.lst_inv (h:Rep K G v (.lst ds)):∃a vs,v=.ref a/\G a=some (.lst vs)/\aY K G vs ds:=by
 cases h with | lst h l r=>exact ⟨_,_,rfl,h,aC l r⟩
theorem Rep.int_inv {i:Int}(h:Rep K G v (.int i)):v=.int i:=by cases h;rfl
theorem Rep.we {b:Bool}(h:Rep K G v (.bl b)):v=.bl b:=by cases h;rfl
theorem fS {a:Addr}{u:HO}(e:ao G G')(h:Rd G a u):Rd G' a u:=h.elim (λz=>.inl (e _ _ z)) λ⟨o,z⟩=>.inr ⟨o,e _ _ z⟩
theorem aw {a:Addr}{xs:List V}(e:ao G G')(h:i7 K G a xs):i7 K G' a xs:=by
 rcases h with (h | ⟨o,h⟩) | h
 .exact .inl (.inl (e _ _ h))
 .exact .inl (.inr ⟨o,e _ _ h⟩)
 .exact .inr h
theorem Rep.mono (s:ao G G')(h:Rep K G v d):Rep K G' v d:=by
 induction h with
 | non=>exact .non
 | bl b=>exact .bl b
 | int i=>exact .int i
 | str x=>exact .str x
 | tup h l r ih=>exact .tup (s _ _ h) l ih
 | lst h l r ih=>exact .lst (s _ _ h) l ih
 | scr h=>exact .scr (s.seq h)
 | dct h=>exact .dct (fS s h)
theorem aY.mono (s:ao G G')(h:aY K G vs ds):aY K G' vs ds:=Paired.imp' (λ_ _=>Rep.mono s) h
noncomputable def D.sc:D->Bool
 | .tup _=>false
 | .lst _=>false
 | .scr _=>false
 | .dct _=>false
 | _=>true
theorem Rep.sc (h:Rep K G v d)(e:d.sc=true):Rep K G' v d:=by
 cases h with
 | non=>exact .non
 | bl b=>exact .bl b
 | int i=>exact .int i
 | str x=>exact .str x
 | tup h l r=>cases e
 | lst h l r=>cases e
 | scr h=>cases e
 | dct h=>cases e
end
inductive B where
 | p (d:D) | o (d:D) | n (t:Bool) (ds:List D)
noncomputable def B.val:B->D
 | .p d=>d
 | .o d=>d
 | .n true ds=>.tup ds
 | .n false ds=>.lst ds
noncomputable abbrev ax:=List (Option B)
noncomputable def aG:ax->Nat->Option B
 | [],_=>none
 | b::_,0=>b
 | _::r,n+1=>aG r n
noncomputable def dput:ax->Nat->B->ax
 | [],_,_=>[]
 | _::r,0,b=>some b::r
 | c::r,n+1,b=>c::dput r n b
noncomputable def jH:Option B->Option B
 | none=>none
 | some b=>some (.p b.val)
noncomputable def cc:ax->ax
 | []=>[]
 | c::r=>jH c::cc r
theorem eP (b:B):∀(ρ:ax) (i:Nat),(dput ρ i b).length=ρ.length
 | [],_=>rfl
 | _::_,0=>rfl
 | _::r,n+1=>by show (dput r n b).length+1=r.length+1;rw[eP b r n]
theorem yk:∀(ρ:ax),(cc ρ).length=ρ.length
 | []=>rfl
 | _::r=>by show (cc r).length+1=_;rw[yk r];rfl
theorem aN {b:B}:∀{ρ:ax} {i j:Nat} {c:B},aG (dput ρ i b) j=some c->(i=j/\j<ρ.length/\c=b)\/(i≠j/\aG ρ j=some c)
 | [],_,_,_,h=>by cases h
 | _::_,0,0,_,h=>.inl ⟨rfl,Nat.succ_pos _,(Option.some.inj h).symm⟩
 | _::_,0,j+1,_,h=>.inr ⟨Nat.succ_ne_zero j |>.symm,h⟩
 | _::_,i+1,0,_,h=>.inr ⟨Nat.succ_ne_zero i,h⟩
 | _::r,i+1,j+1,_,h=>by
  rcases aN (ρ:=r) (i:=i) (j:=j) h with ⟨h1,h2,h3⟩ | ⟨h1,h2⟩
  .exact .inl ⟨by rw[h1],Nat.succ_lt_succ h2,h3⟩
  .exact .inr ⟨λe=>h1 (Nat.succ.inj e),h2⟩
theorem oX:∀{ρ:ax} {i:Nat} {c:B},aG (cc ρ) i=some c->∃b,aG ρ i=some b/\c=.p b.val
 | [],_,_,h=>by cases h
 | none::_,0,_,h=>by cases h
 | some b::_,0,_,h=>⟨b,rfl,(Option.some.inj h).symm⟩
 | _::r,i+1,_,h=>oX (ρ:=r) h
theorem x6:∀{ρ:ax} {i:Nat} {c:B},aG ρ i=some c->i<ρ.length
 | [],_,_,h=>by cases h
 | _::_,0,_,_=>Nat.succ_pos _
 | _::r,i+1,_,h=>Nat.succ_lt_succ (x6 (ρ:=r) h)
noncomputable def cm (K:Frag)(G H:Hp)(a:Addr)(d:D):Prop:=G a=none/\match d with
 | .lst ds=>∃vs,H a=some (.lst vs)/\aY K G vs ds
 | .dct kvs=>H a=some (.dT (encD kvs))
 | _=>False
noncomputable def Fo (H:Hp)(a:Addr):Prop:=∃o,H a=some o/\∀xs,o≠.tup xs
theorem Fo.there {H:Hp}{a:Addr}(h:Fo H a):H a≠none:=by obtain ⟨o,e,_⟩:=h;rw[e];simp
structure Wd (H0 G0 H G:Hp):Prop where
 hh:ao H0 H
 gg:ao G0 G
 gh:ao G H
 old:∀a,Fo H0 a->G a=G0 a
theorem Wd.refl {H G:Hp}(s:ao G H):Wd H G H G:=⟨ao.refl _,ao.refl _,s,λ_ _=>rfl⟩
theorem Wd.trans {H0 G0 H1 G1 H2 G2:Hp}(a:Wd H0 G0 H1 G1)(b:Wd H1 G1 H2 G2):Wd H0 G0 H2 G2:=
 ⟨a.hh.trans b.hh,a.gg.trans b.gg,b.gh,λx h=>by
  have h1:Fo H1 x:=by obtain ⟨o,e,n⟩:=h;exact ⟨o,a.hh _ _ e,n⟩
  rw[b.old x h1,a.old x h]⟩
theorem Wd.new {H0 G0 H G:Hp}{p:Addr}{o:HO}(w:Wd H0 G0 H G)(h:H p=none):Wd H0 G0 (upd H p o) (upd G p o):=
 ⟨w.hh.upd (w.hh.free h),w.gg.upd (w.gg.free (w.gh.free h)),λb u e=>by
  by_cases z:b=p
  .subst z;rw[aA] at e ⊢;exact e
  .rw[aq z] at e ⊢;exact w.gh b u e,λa ha=>by
  have z:a≠p:=λe=>ha.there (e ▸ w.hh.free h);rw[aq z,w.old a ha]⟩
theorem Wd.own {H0 G0 H G:Hp}{p:Addr}{o:HO}(w:Wd H0 G0 H G)(h0:H0 p=none)(h:G p=none):Wd H0 G0 (upd H p o) G:=
 ⟨w.hh.upd h0,w.gg,w.gh.upd h,w.old⟩
theorem Wd.give {H0 G0 H G:Hp}{p:Addr}{o:HO}(w:Wd H0 G0 H G)(h0:H0 p=none\/∃xs,o=.tup xs)(h:G p=none)(e:H p=some o):Wd H0 G0 H (upd G p o):=
 ⟨w.hh,w.gg.upd (w.gg.free h),λb u k=>by
  by_cases z:b=p
  .subst z;rw[aA] at k;rw[e,k]
  .rw[aq z] at k;exact w.gh b u k,λa ha=>by
  have z:a≠p:=λz=>by
   subst z;obtain ⟨u,e1,n⟩:=ha;rcases h0 with h0 | ⟨xs,h0⟩
   .rw[h0] at e1;cases e1
   .have:=w.hh _ _ e1;rw[e] at this;cases this;exact n xs h0
  rw[aq z,w.old a ha]⟩
theorem cm.rep {K:Frag}{G H G2:Hp}{a:Addr}{d:D}(h:cm K G H a d)(s:ao G G2)(e:∀o,H a=some o->G2 a=some o):Rep K G2 (.ref a) d:=by
 obtain ⟨g,k⟩:=h;cases d with
 | lst ds =>
  obtain ⟨vs,e',r⟩:=k;exact Rep.Ef (e _ e') (aY.mono s r)
 | dct kvs=>exact .dct (.inl (e _ k))
 | non=>exact k.elim
 | bl _=>exact k.elim
 | int _=>exact k.elim
 | str _=>exact k.elim
 | tup _=>exact k.elim
 | scr _=>exact k.elim
noncomputable def gY (K:Frag)(H G' H':Hp)(v:V):B->Prop
 | .p d=>Rep K G' v d
 | .o d=>∃a,v=.ref a/\H a=none/\cm K G' H' a d
 | .n true ds=>∃a as,v=.ref a/\G' a=some (.tup (as.map V.ref))/\as.Nodup/\Paired (λx d=>H x=none/\cm K G' H' x d) as ds
 | .n false ds=>∃a as,v=.ref a/\H a=none/\G' a=none/\H' a=some (.lst (as.map V.ref))/\a∉as/\as.Nodup/\Paired (λx d=>H x=none/\cm K G' H' x d) as ds
theorem gY.ahead {K:Frag}{H0 H G' H':Hp}{v:V}{b:B}(s:ao H0 H)(h:gY K H G' H' v b):gY K H0 G' H' v b:=by
 cases b with
 | p d=>exact h
 | o d=>obtain ⟨a,e,n,o⟩:=h;exact ⟨a,e,s.free n,o⟩
 | n t ds =>
  cases t with
  | false =>
   obtain ⟨a,as,e,n,g,q,na,nd,pr⟩:=h;exact ⟨a,as,e,s.free n,g,q,na,nd,Paired.imp' (λ_ _ z=>⟨s.free z.1,z.2⟩) pr⟩
  | true =>
   obtain ⟨a,as,e,q,nd,pr⟩:=h;exact ⟨a,as,e,q,nd,Paired.imp' (λ_ _ z=>⟨s.free z.1,z.2⟩) pr⟩
theorem Wd.all {H G H' G':Hp}(w:Wd H G H' G'):∃G2,Wd H G H' G2/\ao G' G2/\∀a,H a=none->G' a=none->G2 a=H' a:=by
 classical
 have sG:ao G' (λa=>if H a=none/\G' a=none then H' a else G' a):=λa o h=>by
  show (if _ then H' a else G' a)=_;rw[if_neg λq=>by rw[q.2] at h;cases h];exact h
 refine ⟨λa=>if H a=none/\G' a=none then H' a else G' a,⟨w.hh,w.gg.trans sG,λa o h=>?_,λa h=>?_⟩,sG,λa h1 h2=>if_pos ⟨h1,h2⟩⟩
 .have h':(if H a=none/\G' a=none then H' a else G' a)=some o:=h;split at h'
  .exact h'
  .exact w.gh _ _ h'
 .show (if H a=none/\G' a=none then H' a else G' a)=_;rw[if_neg λq=>h.there q.1];exact w.old a h
theorem gY.give {K:Frag}{H G H' G':Hp}{v:V}{b:B}(w:Wd H G H' G')(h:gY K H G' H' v b):∃G2,Wd H G H' G2/\Rep K G2 v b.val:=by
 cases b with
 | p d=>exact ⟨G',w,h⟩
 | n t ds =>
  cases t with
  | false =>
   obtain ⟨a,as,rfl,n,g,q,na,nd,pr⟩:=h;obtain ⟨G2,w2,s2,k2⟩:=w.all;refine ⟨G2,w2,Rep.Ef (by rw[k2 _ n g];exact q) ?_⟩;clear q nd na;induction pr with
   | nil=>exact .nil
   | cons f _ ih=>exact .cons (f.2.rep s2 λo z=>by rw[k2 _ f.1 f.2.1];exact z) ih
  | true =>
   obtain ⟨a,as,rfl,q,nd,pr⟩:=h;obtain ⟨G2,w2,s2,k2⟩:=w.all;refine ⟨G2,w2,Rep.uc (s2 _ _ q) ?_⟩;clear q nd;induction pr with
   | nil=>exact .nil
   | cons f _ ih=>exact .cons (f.2.rep s2 λo z=>by rw[k2 _ f.1 f.2.1];exact z) ih
 | o d =>
  obtain ⟨a,rfl,n,k⟩:=h;obtain ⟨G2,w2,s2,k2⟩:=w.all;exact ⟨G2,w2,k.rep s2 λo z=>by rw[k2 _ n k.1];exact z⟩
noncomputable abbrev DT:=ax->(B->Prop)->Prop
noncomputable abbrev iY:=ax->(Bool->Prop)->Prop
noncomputable abbrev fq:=ax->(List D->Prop)->Prop
noncomputable def eF (K:Frag)(G:Hp)(σ:St)(ρ:ax):Prop:=∀i d,aG ρ i=some (.p d)->∃v,σ[i]?=some (some v)/\Rep K G v d
theorem eF.mono {K:Frag}{G G':Hp}{σ:St}{ρ:ax}(s:ao G G')(h:eF K G σ ρ):eF K G' σ ρ:=λi d e=>by
 obtain ⟨v,h1,h2⟩:=h i d e;exact ⟨v,h1,h2.mono s⟩
noncomputable def cE (K:Frag)(t:DT):TE:=λσ H Q=>∃(G:Hp) (ρ:ax) (P:B->Prop),ao G H/\eF K G σ ρ/\t ρ P/\∀b v H' G',P b->Wd H G H' G'->gY K H G' H' v b->Q v H'
noncomputable def cT (K:Frag)(t:iY):TT:=λσ H Q=>∃(G:Hp) (ρ:ax) (P:Bool->Prop),ao G H/\eF K G σ ρ/\t ρ P/\∀b H' G',P b->Wd H G H' G'->Q b H'
noncomputable def cA (K:Frag)(n:Nat)(t:fq):TA:=λσ H Q=>∃(G:Hp) (ρ:ax) (P:List D->Prop),ao G H/\eF K G σ ρ/\t ρ P/\∀ds vs H' G',P ds->ds.length=n->Wd H G H' G'->aY K G' vs ds->Q vs H'
structure DE (X:Cx)(e:Expr)(t:DT):Prop where
 pe:PE X e (cE X.K t)
structure qL (X:Cx)(e:Expr)(t:iY):Prop where
 pt:PT X e (cT X.K t)
structure DW (X:Cx)(e:Expr)(t:iY):Prop where
 pw:PW X e (cT X.K t)
structure DA (X:Cx)(es:List Expr)(t:fq):Prop where
 pa:PA X es (cA X.K es.length t)
theorem PE.imp {X:Cx}{e:Expr}{t t':TE}(h:PE X e t)(i:∀σ H Q,t' σ H Q->t σ H Q):PE X e t':=λpins s σ H Q I q=>h pins s σ H Q I (i σ H Q q)
theorem PT.imp {X:Cx}{e:Expr}{t t':TT}(h:PT X e t)(i:∀σ H Q,t' σ H Q->t σ H Q):PT X e t':=λpins s σ H Q I q=>h pins s σ H Q I (i σ H Q q)
theorem PW.imp {X:Cx}{e:Expr}{t t':TT}(h:PW X e t)(i:∀σ H Q,t' σ H Q->t σ H Q):PW X e t':=λwh pins s σ H Q I q=>h wh pins s σ H Q I (i σ H Q q)
theorem PA.imp {X:Cx}{es:List Expr}{t t':TA}(h:PA X es t)(i:∀σ H Q,t' σ H Q->t σ H Q):PA X es t':=λpos pins s σ H Q I q=>h pos pins s σ H Q I (i σ H Q q)
theorem PS.imp {X:Cx}{st:Stmt}{t t':TS}(h:PS X st t)(i:∀D σ H,t' D σ H->t D σ H):PS X st t':=λpins s σ H D I q=>h pins s σ H D I (i D σ H q)
theorem oH.imp {X:Cx}{st:List Stmt}{t t':TS}(h:oH X st t)(i:∀D σ H,t' D σ H->t D σ H):oH X st t':=λpins s σ H D I q=>h pins s σ H D I (i D σ H q)
theorem DE.of {X:Cx}{e:Expr}{t:TE}{t':DT}(h:PE X e t)(i:∀σ H Q,cE X.K t' σ H Q->t σ H Q):DE X e t':=⟨PE.imp h i⟩
theorem qL.of {X:Cx}{e:Expr}{t:TT}{t':iY}(h:PT X e t)(i:∀σ H Q,cT X.K t' σ H Q->t σ H Q):qL X e t':=⟨PT.imp h i⟩
theorem DW.of {X:Cx}{e:Expr}{t:TT}{t':iY}(h:PW X e t)(i:∀σ H Q,cT X.K t' σ H Q->t σ H Q):DW X e t':=⟨PW.imp h i⟩
theorem DA.of {X:Cx}{es:List Expr}{t:TA}{t':fq}(h:PA X es t)(i:∀σ H Q,cA X.K es.length t' σ H Q->t σ H Q):DA X es t':=⟨PA.imp h i⟩
section
variable {X:Cx} {a b e:Expr} {ta tb te:DT} {pos:Pos}
noncomputable def bq (i:Nat):DT:=λρ Q=>match aG ρ i with
 | some (.p d)=>Q (.p d)
 | _=>False
theorem dv (i:Nat){x:Str}(hN:autoParam (X.N[i]?=some x) aZa._auto_1)(hv:autoParam (uk X.env.scope x) aZf._auto_1)(hd:autoParam ((x == ("__debug__" : Str))=false) aZb._auto_1)
  (hcd:autoParam ((x == ("__classdict__" : Str))=false) aZb._auto_1):DE X (.Name x pos) (bq i):=
 DE.of (dF hN hv hd hcd)<|by
  rintro σ H Q ⟨G,ρ,P,s,r,h,k⟩;unfold bq at h;split at h
  .rename_i d e;obtain ⟨v,h1,h2⟩:=r _ _ e;exact ⟨v,h1,k _ v H G h (Wd.refl s) h2⟩
  .exact h.elim
noncomputable def dC (d:D):DT:=λ_ Q=>Q (.p d)
noncomputable def Fm (K:Frag)(v:V)(d:D):Prop:=∀G,Rep K G v d
theorem Du {v:V}{d:D}(h:PE X e (tC v))(r:Fm X.K v d):DE X e (dC d):=
 DE.of h (by rintro σ H Q ⟨G,ρ,P,s,_,h,k⟩;exact k _ v H G h (Wd.refl s) (r G))
theorem ae {i:Int}{j}:DE X (.Constant (.int i) j pos) (dC (.int i)):=Du Ck λ_=>.int i
theorem nE {b:Bool}{j}:DE X (.Constant (.bool b) j pos) (dC (.bl b)):=Du Iz λ_=>.bl b
theorem mT {j}:DE X (.Constant .none j pos) (dC .non):=Du GF λ_=>.non
theorem yl {K:Frag}{H G H1 G1:Hp}{P:B->Prop}{Q:VK}(k:∀b v H' G',P b->Wd H G H' G'->gY K H G' H' v b->Q v H')(w:Wd H G H1 G1):∀b v H' G',P b->Wd H1 G1 H' G'->gY K H1 G' H' v b->Q v H':=
 λb v H' G' p w' r=>k b v H' G' p (w.trans w') (r.ahead w.hh)
noncomputable abbrev D2:=D->D->(B->Prop)->Prop
noncomputable def qN (X:Cx)(f:Lg->Lg->Sem Lg)(r:D2):Prop:=∃rv:R2,kG X f rv /\
 ∀(H G:Hp) (x y:V) (dx dy:D) (P:B->Prop) (Q:VK),ao G H->Rep X.K G x dx->Rep X.K G y dy->r dx dy P->(∀b v H' G',P b->Wd H G H' G'->gY X.K H G' H' v b->Q v H')->rv x y H Q
noncomputable def i6 (r:D2)(ta tb:DT):DT:=λρ Q=>ta ρ λx=>tb ρ λy=>r x.val y.val Q
theorem oO {K:Frag}{ta tb:DT}{r:D2}{rv:R2}(hr:∀(H G:Hp) (x y:V) (dx dy:D) (P:B->Prop) (Q:VK),ao G H->Rep K G x dx->Rep K G y dy->r dx dy P->(∀b v H' G',P b->Wd H G H' G'->gY K H G' H' v b->Q v H')->rv x y H Q)
  (σ:St) (H:Hp) (Q:VK):cE K (i6 r ta tb) σ H Q->GZ rv (cE K ta) (cE K tb) σ H Q:=by
 rintro ⟨G,ρ,P,s,re,h,k⟩;refine ⟨G,ρ,_,s,re,h,λb v H1 G1 p1 w1 r1=>?_⟩;obtain ⟨G1',w1',r1'⟩:=r1.give w1;refine ⟨G1',ρ,_,w1'.gh,re.mono w1'.gg,p1,λb2 v2 H2 G2 p2 w2 r2=>?_⟩;obtain ⟨G2',w2',r2'⟩:=r2.give w2;exact hr H2 G2' v v2 b.val b2.val P Q w2'.gh (r1'.mono w2'.gg) r2' p2 (yl k (w1'.trans w2'))
theorem ar {op:Operator}{r:D2}(ho:qN X (binaryOp op) r)(ha:DE X a ta)(hb:DE X b tb):DE X (.BinOp a op b pos) (i6 r ta tb):=by
 obtain ⟨rv,h1,h2⟩:=ho;exact DE.of (yP h1 ha.pe hb.pe) (oO h2)
theorem oW {op:CmpOp}{r:D2}(ho:qN X (compareOp op) r)(ha:DE X a ta)(hb:DE X b tb)(hm:behindInMarks op b=false):DE X (.Compare a [op] [b] pos) (i6 r ta tb):=by
 obtain ⟨rv,h1,h2⟩:=ho;exact DE.of (Er h1 ha.pe hb.pe hm) (oO h2)
noncomputable def dI (g:Int->Int->D):D2:=λx y Q=>match x,y with
 | .int i,.int j=>Q (.p (g i j))
 | _,_=>False
noncomputable def qr (C:Int->Int->Prop)(g:Int->Int->D):D2:=λx y Q=>match x,y with
 | .int i,.int j=>C i j/\Q (.p (g i j))
 | _,_=>False
theorem yM {f:Lg->Lg->Sem Lg}{g:Int->Int->D}{gv:Int->Int->V}(h:kG X f (Fd gv))(hg:∀i j,Fm X.K (gv i j) (g i j)):qN X f (dI g):=by
 refine ⟨_,h,λH G x y dx dy P Q s rx ry hr k=>?_⟩;unfold dI at hr;split at hr
 .cases rx;cases ry;exact ⟨_,_,rfl,rfl,k _ _ H G hr (Wd.refl s) (hg _ _ _)⟩
 .exact hr.elim
theorem wX {f:Lg->Lg->Sem Lg}{C:Int->Int->Prop}{g:Int->Int->D}{gv:Int->Int->V}(h:kG X f (rI C gv))(hg:∀i j,Fm X.K (gv i j) (g i j)):qN X f (qr C g):=by
 refine ⟨_,h,λH G x y dx dy P Q s rx ry hr k=>?_⟩;unfold qr at hr;split at hr
 .cases rx;cases ry;exact ⟨_,_,rfl,rfl,hr.1,k _ _ H G hr.2 (Wd.refl s) (hg _ _ _)⟩
 .exact hr.elim
theorem jM:qN X (binaryOp .Sub) (dI λi j=>.int (i - j)):=yM GD λ_ _ _=>.int _
theorem dj:qN X (binaryOp .FloorDiv) (qr Hq λi j=>.int (i / j)):=wX En λ_ _ _=>.int _
theorem bK:qN X (binaryOp .Mod) (qr (λ_ j=>0<j) λi j=>.int (i % j)):=wX Gx λ_ _ _=>.int _
theorem Gk:qN X (binaryOp .Pow) (qr Hr λi j=>.int (i ^ j.toNat)):=wX GB λ_ _ _=>.int _
theorem pH:qN X (compareOp .Lt) (dI λi j=>.bl (decide (i<j))):=yM Iv λ_ _ _=>.bl _
theorem nK:qN X (compareOp .Gt) (dI λi j=>.bl (decide (j<i))):=yM Iu λ_ _ _=>.bl _
theorem yJ:qN X (compareOp .GtE) (dI λi j=>.bl (decide (j<=i))):=yM Ir λ_ _ _=>.bl _
noncomputable def iA:D2:=λx y Q=>match x,y with
 | .int i,.int j=>Q (.p (.bl (decide (i=j))))
 | .str i,.str j=>Q (.p (.bl (decide (i=j))))
 | .bl i,.bl j=>Q (.p (.bl (decide (i=j))))
 | _,_=>False
noncomputable def iC:D2:=λx y Q=>match x,y with
 | .int i,.int j=>Q (.p (.bl (!decide (i=j))))
 | .str i,.str j=>Q (.p (.bl (!decide (i=j))))
 | .bl i,.bl j=>Q (.p (.bl (!decide (i=j))))
 | _,_=>False
theorem zH {α:Type}[DecidableEq α]{f:α->V}(hf:∀a b,f a=f b->a=b)(i j:α):decide (f i=f j)=decide (i=j):=by
 by_cases h:i=j
 .rw[h,decide_eq_true rfl,decide_eq_true rfl]
 .rw[decide_eq_false h,decide_eq_false λe=>h (hf _ _ e)]
theorem gf:qN X (compareOp .Eq) iA:=by
 refine ⟨_,Iq,λH G x y dx dy P Q s rx ry hr k=>?_⟩;unfold iA at hr;split at hr
 .cases rx;cases ry;exact ⟨rfl,by rw[zH (λ_ _ e=>V.int.inj e)];exact k _ _ H G hr (Wd.refl s) (.bl _)⟩
 .cases rx;cases ry;exact ⟨rfl,by rw[zH (λ_ _ e=>V.str.inj e)];exact k _ _ H G hr (Wd.refl s) (.bl _)⟩
 .cases rx;cases ry;exact ⟨rfl,by rw[zH (λ_ _ e=>V.bl.inj e)];exact k _ _ H G hr (Wd.refl s) (.bl _)⟩
 .exact hr.elim
theorem Im:qN X (compareOp .NotEq) iC:=by
 refine ⟨_,Iw,λH G x y dx dy P Q s rx ry hr k=>?_⟩;unfold iC at hr;split at hr
 .cases rx;cases ry;exact ⟨rfl,by rw[zH (λ_ _ e=>V.int.inj e)];exact k _ _ H G hr (Wd.refl s) (.bl _)⟩
 .cases rx;cases ry;exact ⟨rfl,by rw[zH (λ_ _ e=>V.str.inj e)];exact k _ _ H G hr (Wd.refl s) (.bl _)⟩
 .cases rx;cases ry;exact ⟨rfl,by rw[zH (λ_ _ e=>V.bl.inj e)];exact k _ _ H G hr (Wd.refl s) (.bl _)⟩
 .exact hr.elim
noncomputable def jb:D2:=λx y Q=>match y with
 | .non=>Q (.p (.bl (match x with | .non=>true | _=>false)))
 | _=>False
noncomputable def gK:D2:=λx y Q=>match y with
 | .non=>Q (.p (.bl (match x with | .non=>false | _=>true)))
 | _=>False
theorem Cd:qN X (compareOp .Is) jb:=by
 refine ⟨_,Gv,λH G x y dx dy P Q s rx ry hr k=>?_⟩;unfold jb at hr;split at hr
 .cases ry;refine ⟨rfl,k _ _ H G hr (Wd.refl s) ?_⟩;cases rx<;>exact .bl _
 .exact hr.elim
noncomputable def rj (r:D->(B->Prop)->Prop)(ta:DT):DT:=λρ Q=>ta ρ λx=>r x.val Q
noncomputable def gZ:D->(B->Prop)->Prop:=λx Q=>match x with
 | .int i=>Q (.p (.int (-i)))
 | _=>False
theorem jB (ha:DE X a ta):DE X (.UnaryOp .USub a pos) (rj gZ ta):=
 DE.of (ID Hj ha.pe)<|by
  rintro σ H Q ⟨G,ρ,P,s,re,h,k⟩;refine ⟨G,ρ,_,s,re,h,λb v H1 G1 p1 w1 r1=>?_⟩;obtain ⟨G1',w1',r1'⟩:=r1.give w1;unfold gZ at p1;split at p1
  .rename_i i e;rw[e] at r1';cases r1';exact ⟨_,rfl,k _ _ H1 G1' p1 w1' (.int _)⟩
  .exact p1.elim
noncomputable def fN (ta:DT):DT:=λρ Q=>ta ρ λx=>match x.val with
 | .bl c=>Q (.p (.bl (!c)))
 | _=>False
theorem sq {K:Frag}{H G H' G':Hp}{v:V}{b:B}{c:Bool}(w:Wd H G H' G')(r:gY K H G' H' v b)(e:b.val=.bl c):v=.bl c:=by
 obtain ⟨G1,_,r1⟩:=r.give w;rw[e] at r1;exact r1.we
noncomputable def gG (ta tb:DT):DT:=λρ Q=>ta ρ λx=>match x.val with
 | .bl c=>(c=true->tb ρ Q)/\(c=false->Q (.p (.bl false)))
 | _=>False
noncomputable def lS (ta tb:DT):DT:=λρ Q=>ta ρ λx=>match x.val with
 | .bl c=>(c=true->Q (.p (.bl true)))/\(c=false->tb ρ Q)
 | _=>False
noncomputable def gc (t:DT):iY:=λρ P=>t ρ λx=>match x.val with
 | .bl c=>P c
 | _=>False
theorem aO {op:CmpOp}{r:D2}(ho:qN X (compareOp op) r)(ha:DE X a ta)(hb:DE X b tb)(hm:behindInMarks op b=false):qL X (.Compare a [op] [b] pos) (gc (i6 r ta tb)):=by
 obtain ⟨rv,h1,h2⟩:=ho;refine qL.of (yV h1 ha.pe hb.pe hm) ?_;rintro σ H Q ⟨G,ρ,P,s,re,h,k⟩;refine oO h2 σ H _ ⟨G,ρ,_,s,re,h,λb v H1 G1 p1 w1 r1=>?_⟩;split at p1
 .rename_i c e;exact ⟨c,sq w1 r1 e,k _ H1 G1 p1 w1⟩
 .exact p1.elim
theorem oZ (ha:DE X a ta)(he:autoParam (∀whole,isTrue a X.env whole=(do let v <-whole;standAt a.pos;holding [v] (truthy v))) aZc._auto_1):qL X a (gc ta):=
  qL.of (GI ha.pe he)<|by
    rintro σ H Q ⟨G,ρ,P,s,re,h,k⟩;refine ⟨G,ρ,_,s,re,h,λb v H1 G1 p1 w1 r1=>?_⟩;split at p1
    · rename_i c e;exact ⟨c,sq w1 r1 e,k _ H1 G1 p1 w1⟩
    · exact p1.elim
noncomputable def jy (t:iY):iY:=λρ P=>t ρ λc=>P (!c)
theorem Br {t:iY}(ha:qL X a t):qL X (.UnaryOp .Not a pos) (jy t):=
 qL.of (GH ha.pt) (by rintro σ H Q ⟨G,ρ,P,s,re,h,k⟩;exact ⟨G,ρ,_,s,re,h,λb H1 G1 p1 w1=>k _ H1 G1 p1 w1⟩)
noncomputable def i8 (t u:iY):iY:=λρ P=>t ρ λc=>(c=true->u ρ P)/\(c=false->P false)
noncomputable def ui (t u:iY):iY:=λρ P=>t ρ λc=>(c=true->P true)/\(c=false->u ρ P)
theorem BF {K:Frag}{H G H1 G1:Hp}{P:Bool->Prop}{Q:Bool->Hp->Prop}(k:∀b H' G',P b->Wd H G H' G'->Q b H')(w:Wd H G H1 G1):∀b H' G',P b->Wd H1 G1 H' G'->Q b H':=
 λb H' G' p w'=>k b H' G' p (w.trans w')
theorem FF {K:Frag}{t u:iY}(σ:St)(H:Hp)(Q:Bool->Hp->Prop):cT K (i8 t u) σ H Q->Jc (cT K t) (cT K u) σ H Q:=by
 rintro ⟨G,ρ,P,s,re,h,k⟩;refine ⟨G,ρ,_,s,re,h,λc H1 G1 p1 w1=>?_⟩;cases c with
 | true=>exact zU ⟨G1,ρ,P,w1.gh,re.mono w1.gg,p1.1 rfl,BF (K:=K) k w1⟩
 | false=>exact zT (k _ H1 G1 (p1.2 rfl) w1)
theorem HD {K:Frag}{t u:iY}(σ:St)(H:Hp)(Q:Bool->Hp->Prop):cT K (ui t u) σ H Q->KR (cT K t) (cT K u) σ H Q:=by
 rintro ⟨G,ρ,P,s,re,h,k⟩;refine ⟨G,ρ,_,s,re,h,λc H1 G1 p1 w1=>?_⟩;cases c with
 | true=>exact zU (k _ H1 G1 (p1.1 rfl) w1)
 | false=>exact zT ⟨G1,ρ,P,w1.gh,re.mono w1.gg,p1.2 rfl,BF (K:=K) k w1⟩
end
end DL
namespace DL
open PySem L2
section
variable {X:Cx} {a b c e:Expr} {ta tb tc te:DT} {pos:Pos} {es:List Expr}
noncomputable def lQ (t:iY)(ta tb:DT):DT:=λρ Q=>t ρ λc=>(c=true->ta ρ Q)/\(c=false->tb ρ Q)
noncomputable def dD (r r':D2)(ta tb tc:DT):DT:=λρ Q=>ta ρ λx=>tb ρ λy=>r x.val y.val λz=>match z.val with
 | .bl c=>(c=true->tc ρ λw=>r' y.val w.val Q)/\(c=false->Q (.p (.bl false)))
 | _=>False
theorem j9 {t:iY}(ha:qL X a t):DW X (.BoolOp .And [a] pos) t:=⟨Ex ha.pt⟩
theorem mU {t:iY}(ha:qL X a t):DW X (.BoolOp .Or [a] pos) t:=⟨GL ha.pt⟩
theorem jE {t u:iY}{rest:List Expr}(ha:qL X a t)(hb:DW X (.BoolOp .And (b::rest) pos) u):DW X (.BoolOp .And (a::b::rest) pos) (i8 t u):=DW.of (GJ ha.pt hb.pw) FF
theorem nI {t u:iY}{rest:List Expr}(ha:qL X a t)(hb:DW X (.BoolOp .Or (b::rest) pos) u):DW X (.BoolOp .Or (a::b::rest) pos) (ui t u):=DW.of (IF ha.pt hb.pw) HD
theorem DW.dt {t:iY}(h:DW X e t):qL X e t:=⟨PW.pt h.pw⟩
noncomputable def eN:fq:=λ_ P=>P []
noncomputable def aV (te:DT)(t:fq):fq:=λρ P=>te ρ λb=>t ρ λds=>P (b.val::ds)
theorem aj:DA X [] eN:=DA.of iI λσ H Q ⟨G,ρ,P,s,re,h,k⟩=>k [] [] H G h rfl (Wd.refl s) .nil
theorem aa {t:fq}(ha:DE X e te)(hr:DA X es t)(hs:autoParam (starEach (e::es) X.env=(false,eval e X.env)::starEach es X.env) aZa._auto_1):DA X (e::es) (aV te t):=
 DA.of (fu ha.pe hr.pa hs)<|by
  rintro σ H Q ⟨G,ρ,P,s,re,h,k⟩;refine ⟨G,ρ,_,s,re,h,λb v H1 G1 p1 w1 r1=>?_⟩;obtain ⟨G1',w1',r1'⟩:=r1.give w1;refine ⟨G1',ρ,_,w1'.gh,re.mono w1'.gg,p1,λds vs H2 G2 p2 l2 w2 r2=>?_⟩;exact k _ _ H2 G2 p2 (by show ds.length+1=es.length+1;rw[l2]) (w1'.trans w2) (.cons (r1'.mono w2.gg) r2)
noncomputable def fP (t:fq):DT:=λρ Q=>t ρ λds=>Q (.p (.tup ds))
noncomputable def jw (t:fq):DT:=λρ Q=>t ρ λds=>Q (.o (.lst ds))
theorem gP {K:Frag}{H G H1 G1:Hp}{vs:List V}{ds:List D}{p:Addr}(w:Wd H G H1 G1)(hp:H1 p=none)(r:aY K G1 vs ds):Wd H G (upd H1 p (.lst vs)) G1/\gY K H G1 (upd H1 p (.lst vs)) (.ref p) (.o (.lst ds)):=
 ⟨w.own (w.hh.free hp) (w.gh.free hp),p,rfl,w.hh.free hp,w.gh.free hp,vs,aA,r⟩
theorem mK {K:Frag}{H G H1 G1:Hp}{vs:List V}{ds:List D}{p:Addr}(w:Wd H G H1 G1)(hp:H1 p=none)(r:aY K G1 vs ds):Wd H G (upd H1 p (.tup vs)) (upd G1 p (.tup vs))/\gY K H (upd G1 p (.tup vs)) (upd H1 p (.tup vs)) (.ref p) (.p (.tup ds)):=
 ⟨w.new hp,Rep.uc aA (aY.mono (eZ (w.gh.free hp)) r)⟩
theorem d6 {t:fq}{x1}(h:DA X es t)(hn:autoParam (es.length<=1000) aZh._auto_1):DE X (.Tuple es x1 pos) (fP t):=
 DE.of (Cp h.pa)<|by
  rintro σ H Q ⟨G,ρ,P,s,re,h,k⟩;refine ⟨G,ρ,_,s,re,h,λds vs H1 G1 p1 l1 w1 r1=>⟨fW (by rw[Paired.length r1,l1];exact hn),λp hp=>?_⟩⟩;obtain ⟨w2,r2⟩:=mK w1 hp r1;exact k _ _ _ _ p1 w2 r2
theorem fH {t:fq}(h:DA X es t)(hn:autoParam (es.length<=1000) aZh._auto_1):DE X (.List es pos) (jw t):=
 DE.of (Cm h.pa)<|by
  rintro σ H Q ⟨G,ρ,P,s,re,h,k⟩;refine ⟨G,ρ,_,s,re,h,λds vs H1 G1 p1 l1 w1 r1=>⟨fW (by rw[Paired.length r1,l1];exact hn),λp hp=>?_⟩⟩;obtain ⟨w2,r2⟩:=gP w1 hp r1;exact k _ _ _ _ p1 w2 r2
noncomputable abbrev DR:=List D->(B->Prop)->Prop
noncomputable def dN (K:Frag)(R:DR):Sp:=λvs H Q _=>∃(ds:List D) (G:Hp) (P:B->Prop),ao G H/\aY K G vs ds/\R ds P/\∀b v H' G',P b->Wd H G H' G'->gY K H G' H' v b->Q v H'
noncomputable abbrev KW (P:LH)(w:LR)(K:Frag)(mg:Str->Option Lg)(base:Heap)(x:Str)(k:Nat)(ps:List Str)(R:DR):Prop:=Fn P w K mg base x k ps (dN K R)
noncomputable def dG (R:DR)(t:fq):DT:=λρ Q=>t ρ λds=>R ds Q
theorem br {x:Str}{k:Nat}{ps:List Str}{R:DR}{p:Pos}{t:fq}(F:KW X.prog X.w X.K X.mg X.base x k ps R)(hr:cN k X.A)(hg:Gl X x)(ha:DA X (e::es) t)
  (hdb:autoParam ((x == ("__debug__" : Str))=false) aZb._auto_1) (he:autoParam (starEach (e::es) X.env=(false,eval e X.env)::starEach es X.env) aZa._auto_1) (hpl:autoParam ((backTo pos (starEach es X.env)).any (·.1)=false) aZa._auto_1) :
  DE X (.Call (.Name x p) (e::es) [] pos) (dG R t):=
 DE.of (E8 F hr hg ha.pa hdb he hpl)<|by
  rintro σ H Q ⟨G,ρ,P,s,re,h,k⟩;refine ⟨G,ρ,_,s,re,h,λds vs H1 G1 p1 l1 w1 r1=>?_⟩;show dN X.K R (vs++[]) H1 Q E0;rw[append_nil];exact ⟨ds,G1,P,w1.gh,r1,p1,yl k w1⟩
noncomputable def CallD (X:Cx)(f:Lg)(r:DR):Prop:=∃rv,fK X f rv/\∀(H G:Hp) (vs:List V) (ds:List D) (P:B->Prop) (Q:VK),ao G H->aY X.K G vs ds->r ds P->(∀b v H' G',P b->Wd H G H' G'->gY X.K H G' H' v b->Q v H')->rv vs H Q
noncomputable def qZ (r:DR)(t:fq):DT:=λρ Q=>t ρ λds=>r ds Q
theorem HC {K:Frag}{n:Nat}{t:fq}{r:DR}{rv:List V->Hp->VK->Prop}(hr:∀(H G:Hp) (vs:List V) (ds:List D) (P:B->Prop) (Q:VK),ao G H->aY K G vs ds->r ds P->(∀b v H' G',P b->Wd H G H' G'->gY K H G' H' v b->Q v H')->rv vs H Q)
  (σ:St) (H:Hp) (Q:VK):cE K (qZ r t) σ H Q->JB rv (cA K n t) σ H Q:=by
 rintro ⟨G,ρ,P,s,re,h,k⟩;exact ⟨G,ρ,_,s,re,h,λds vs H1 G1 p1 l1 w1 r1=>hr H1 G1 vs ds P Q w1.gh r1 p1 (yl k w1)⟩
theorem aD {id:String}{x:Str}{p:Pos}{t:fq}{r:DR}(hc:CallD X (.builtin id) r)(hg:Gl X x)(hm:X.mg x=none)(hv:bootBuiltins x=some (.builtin id))(ha:DA X (e::es) t)(hn:autoParam (x≠"__name__") aZb._auto_1)(hdb:autoParam ((x == ("__debug__" : Str))=false) aZb._auto_1)
  (he:autoParam (starEach (e::es) X.env=(false,eval e X.env)::starEach es X.env) aZa._auto_1) (hpl:autoParam ((backTo pos (starEach es X.env)).any (·.1)=false) aZa._auto_1):DE X (.Call (.Name x p) (e::es) [] pos) (qZ r t):=by
 obtain ⟨rv,h1,h2⟩:=hc;exact DE.of (vB h1 hg hm hv ha.pa hn hdb he hpl) (HC h2)
theorem gw {K:Frag}{G:Hp}{vs:List V}{d:D}(h:aY K G vs [d]):∃v,vs = [v]/\Rep K G v d:=by
 cases h with | cons h t=>cases t;exact ⟨_,rfl,h⟩
theorem Fg {K:Frag}{G:Hp}{vs:List V}{d d':D}(h:aY K G vs [d,d']):∃v v',vs = [v,v']/\Rep K G v d/\Rep K G v' d':=by
 cases h with | cons h t=>obtain ⟨v',rfl,h'⟩:=gw t;exact ⟨_,_,rfl,h,h'⟩
theorem ff {K:Frag}{G:Hp}:∀{ns:List Int} {vs:List V},aY K G vs (ns.map D.int)->vs=ns.map V.int
 | [],_,h=>by cases h;rfl
 | n::ns,_,h=>by cases h with | cons h t=>rw[h.int_inv,ff t];rfl
theorem vL {K:Frag}{G:Hp}:∀{ns:List Bool} {vs:List V},aY K G vs (ns.map D.bl)->vs=ns.map V.bl
 | [],_,h=>by cases h;rfl
 | n::ns,_,h=>by cases h with | cons h t=>rw[h.we,vL t];rfl
theorem ic {K:Frag}{G:Hp}:∀(ns:List Int),aY K G (ns.map V.int) (ns.map D.int)
 | []=>.nil
 | n::ns=>.cons (.int n) (ic ns)
noncomputable def iB:DR:=λds P=>match ds with
 | [.lst xs]=>P (.p (.int xs.length))
 | [.tup xs]=>P (.p (.int xs.length))
 | [.scr ns]=>P (.p (.int ns.length))
 | [.str x]=>x.length<=sizeLine/\P (.p (.int x.length))
 | _=>False
theorem kT:CallD X (.builtin "len") iB:=by
 refine ⟨_,zt,λH G vs ds P Q s r h k=>?_⟩;unfold iB at h;split at h
 .obtain ⟨v,rfl,rv⟩:=gw r;obtain ⟨a,us,rfl,e,rr⟩:=rv.lst_inv;exact ⟨_,us.length,rfl,.inl ⟨us,dA.of (s _ _ e),rfl⟩,by rw[Paired.length rr];exact k _ _ H G h (Wd.refl s) (.int _)⟩
 .obtain ⟨v,rfl,rv⟩:=gw r;obtain ⟨a,us,rfl,e,rr⟩:=rv.d4;exact ⟨_,us.length,rfl,.inr ⟨us,aw s e,rfl⟩,by rw[Paired.length rr];exact k _ _ H G h (Wd.refl s) (.int _)⟩
 .rename_i ns;obtain ⟨v,rfl,rv⟩:=gw r;cases rv with
  | scr e=>exact ⟨_,ns.length,rfl,.inl ⟨_,s.seq e,by simp⟩,k _ _ H G h (Wd.refl s) (.int _)⟩
 .rename_i x;obtain ⟨v,rfl,rv⟩:=gw r;cases rv;exact ⟨_,x.length,rfl,⟨h.1,rfl⟩,k _ _ H G h.2 (Wd.refl s) (.int _)⟩
 .exact h.elim
noncomputable def Dq:DR:=λds P=>match ds with
 | [.lst xs]=>∃ns:List Int,xs=ns.map D.int/\P (.p (.int ns.sum))
 | _=>False
theorem wm (hc:X.calm=true):CallD X (.builtin "sum") Dq:=by
 refine ⟨_,zC hc,λH G vs ds P Q s r h k=>?_⟩;unfold Dq at h;split at h
 .obtain ⟨ns,rfl,h⟩:=h;obtain ⟨v,rfl,rv⟩:=gw r;obtain ⟨a,us,rfl,e,rr⟩:=rv.lst_inv;rw[ff rr] at e;exact ⟨a,ns,rfl,dA.of (s _ _ e),k _ _ H G h (Wd.refl s) (.int _)⟩
 .exact h.elim
noncomputable def HI:DR:=λds P=>match ds with
 | [.lst xs]=>∃ns:List Bool,xs=ns.map D.bl/\P (.p (.bl (ns.all id)))
 | _=>False
noncomputable def rh (g:Int->Int->Int):DR:=λds P=>match ds with
 | [.int i,.int j]=>P (.p (.int (g i j)))
 | _=>False
theorem EU {f:Lg}{g:Int->Int->Int}(h:fK X f (λxs H Q=>∃i j,xs = [.int i,.int j]/\Q (.int (g i j)) H)):CallD X f (rh g):=by
 refine ⟨_,h,λH G vs ds P Q s r h k=>?_⟩;unfold rh at h;split at h
 .obtain ⟨v,v',rfl,r1,r2⟩:=Fg r;cases r1;cases r2;exact ⟨_,_,rfl,k _ _ H G h (Wd.refl s) (.int _)⟩
 .exact h.elim
theorem iy (hc:X.calm=true):CallD X (.builtin "max") (rh λi j=>if j>i then j else i):=EU (zu hc)
theorem lM (hc:X.calm=true):CallD X (.builtin "min") (rh λi j=>if j<i then j else i):=EU (zA hc)
noncomputable def lP:DR:=λds P=>match ds with
 | [.int i]=>P (.p (.int (if i<0 then -i else i)))
 | _=>False
noncomputable def kH:DR:=λds P=>match ds with
 | [.int i]=>P (.p (.int i))
 | [.bl c]=>P (.p (.int (if c then 1 else 0)))
 | _=>False
noncomputable def fz:DR:=λds P=>match ds with
 | [.lst xs]=>P (.o (.lst xs))
 | [.tup xs]=>P (.o (.lst xs))
 | [.scr ns]=>P (.o (.lst (ns.map D.int)))
 | _=>False
noncomputable def Ld:D->String
 | .non=>"NoneType"
 | .bl _=>"bool"
 | .int _=>"int"
 | .str _=>"str"
 | .tup _=>"tuple"
 | .lst _=>"list"
 | .scr _=>"list"
 | .dct _=>"dict"
noncomputable def Jv (T:String)(d:D):Bool:=match T with
 | "int"=>(match d with | .int _=>true | .bl _=>true | _=>false)
 | "bool"=>(match d with | .bl _=>true | _=>false)
 | "str"=>(match d with | .str _=>true | _=>false)
 | "tuple"=>(match d with | .tup _=>true | _=>false)
 | "list"=>(match d with | .lst _=>true | .scr _=>true | _=>false)
 | _=>false
noncomputable def nW:D2:=λx y Q=>match x,y with
 | .lst xs,.int i=>∃d,jk xs i=some d/\Q (.p d)
 | .tup xs,.int i=>∃d,jk xs i=some d/\Q (.p d)
 | .scr ns,.int i=>∃n,jk ns i=some n/\Q (.p (.int n))
 | .str z,.int i=>∃c,z.length<=sizeLine/\jk z.cps.toList i=some c/\Q (.p (.str ⟨#[c]⟩))
 | _,_=>False
theorem xA {K:Frag}{G:Hp}{vs:List V}{ds:List D}{i:Int}{d:D}(r:aY K G vs ds)(h:jk ds i=some d):∃v,jk vs i=some v/\Rep K G v d:=by
 unfold jk at *;rw[Paired.length r];cases e:yt ds.length i with
 | none=>rw[e] at h;cases h
 | some j =>
  rw[e] at h;exact bE r h
theorem Dk {α β:Type}(f:α->β){xs:List α}{i:Int}{x:α}(h:jk xs i=some x):jk (xs.map f) i=some (f x):=by
 unfold jk at *;rw[Lk];cases e:yt xs.length i with
 | none=>rw[e] at h;cases h
 | some j =>
  rw[e] at h;have h':xs[j]?=some x:=h;show (xs.map f)[j]?=_;rw[LC,h'];rfl
theorem aP (ha:DE X a ta)(hb:DE X b tb)(hs:autoParam (xu b) aZi._auto_1):DE X (.Subscript a b pos) (i6 nW ta tb):=
 DE.of (IB FV ha.pe hb.pe hs) (oO λH G x y dx dy P Q s rx ry h k=>by
  unfold nW at h;split at h
  .cases ry;obtain ⟨d,h1,h2⟩:=h;obtain ⟨a,us,rfl,e,rr⟩:=rx.lst_inv;obtain ⟨v,h3,h4⟩:=xA rr h1;exact .inl ⟨a,us,_,v,rfl,rfl,dA.of (s _ _ e),h3,k _ _ H G h2 (Wd.refl s) h4⟩
  .cases ry;obtain ⟨d,h1,h2⟩:=h;obtain ⟨a,us,rfl,e,rr⟩:=rx.d4;obtain ⟨v,h3,h4⟩:=xA rr h1;exact .inr (.inl ⟨a,us,_,v,rfl,rfl,aw s e,h3,k _ _ H G h2 (Wd.refl s) h4⟩)
  .cases ry;obtain ⟨n,h1,h2⟩:=h;cases rx with
   | scr e=>exact .inl ⟨_,_,_,.int n,rfl,rfl,s.seq e,Dk _ h1,k _ _ H G h2 (Wd.refl s) (.int _)⟩
  .cases rx;cases ry;obtain ⟨c,h0,h1,h2⟩:=h;exact .inr (.inr ⟨_,_,c,rfl,rfl,h0,h1,k _ _ H G h2 (Wd.refl s) (.str _)⟩)
  .exact h.elim)
noncomputable abbrev AV:=ax->(Option Int->Prop)->Prop
noncomputable def cO (K:Frag)(t:AV):TO:=λσ H Q=>∃(G:Hp) (ρ:ax) (P:Option Int->Prop),ao G H/\eF K G σ ρ/\t ρ P/\∀o H' G',P o->Wd H G H' G'->Q o H'
structure DO (X:Cx)(e:Option Expr)(t:AV):Prop where
 po:PO X e (cO X.K t)
noncomputable def bV:AV:=λ_ P=>P none
noncomputable def cx (t:DT):AV:=λρ P=>t ρ λb=>match b.val with
 | .int i=>P (some i)
 | _=>False
theorem eK {K:Frag}{H G H' G':Hp}{v:V}{b:B}{c:Int}(w:Wd H G H' G')(r:gY K H G' H' v b)(e:b.val=.int c):v=.int c:=by
 obtain ⟨G1,_,r1⟩:=r.give w;rw[e] at r1;exact r1.int_inv
theorem PO.imp {e:Option Expr}{t t':TO}(h:PO X e t)(i:∀σ H Q,t' σ H Q->t σ H Q):PO X e t':=λpins s σ H Q I q=>h pins s σ H Q I (i σ H Q q)
theorem DO.of {e:Option Expr}{t:TO}{t':AV}(h:PO X e t)(i:∀σ H Q,cO X.K t' σ H Q->t σ H Q):DO X e t':=⟨PO.imp h i⟩
theorem iD:DO X none bV:=DO.of tL λσ H Q ⟨G,ρ,P,s,re,h,k⟩=>k _ H G h (Wd.refl s)
theorem bh (he:DE X e te):DO X (some e) (cx te):=DO.of (tM he.pe)<|by
 rintro σ H Q ⟨G,ρ,P,s,re,h,k⟩;refine ⟨G,ρ,_,s,re,h,λb v H1 G1 p1 w1 r1=>?_⟩;split at p1
 .rename_i i e;exact ⟨i,eK w1 r1 e,k _ H1 G1 p1 w1⟩
 .exact p1.elim
noncomputable def iz {α:Type}(xs:List α)(lo hi:Option Int):List α:=(xs.drop (HT.eC xs.length 0 lo)).take (HT.eC xs.length xs.length hi - HT.eC xs.length 0 lo)
theorem jN {α β:Type}{F:α->β->Prop}:∀{l:List α} {r:List β} (n:Nat),Paired F l r->Paired F (l.drop n) (r.drop n)
 | _,_,0,h=>h
 | _,_,n+1,.nil=>by rw[List.drop_nil,List.drop_nil];exact .nil
 | _,_,n+1,.cons _ t=>jN n t
theorem jO {α β:Type}{F:α->β->Prop}:∀{l:List α} {r:List β} (n:Nat),Paired F l r->Paired F (l.take n) (r.take n)
 | _,_,0,h=>by rw[List.take_zero,List.take_zero];exact .nil
 | _,_,n+1,.nil=>by rw[List.take_nil,List.take_nil];exact .nil
 | _,_,n+1,.cons h t=>.cons h (jO n t)
theorem vM {K:Frag}{G:Hp}{vs:List V}{ds:List D}(r:aY K G vs ds)(lo hi:Option Int):aY K G (fc vs lo hi) (iz ds lo hi):=by
 unfold fc iz;rw[Paired.length r];exact jO _ (jN _ r)
noncomputable def qt (te:DT)(tl th:AV):DT:=λρ Q=>te ρ λb=>tl ρ λlo=>th ρ λhi=>match b.val with
 | .lst xs=>Q (.o (.lst (iz xs lo hi)))
 | .scr ns=>Q (.o (.lst ((iz ns lo hi).map D.int)))
 | .tup xs=>¬(HT.eC xs.length 0 lo=0/\HT.eC xs.length xs.length hi=xs.length)/\Q (.p (.tup (iz xs lo hi)))
 | _=>False
theorem jq {α:Type}(f:α->V)(xs:List α)(lo hi:Option Int):fc (xs.map f) lo hi=(iz xs lo hi).map f:=by
 unfold fc iz;rw[Lk,map_take,map_drop]
theorem cy {lo hi:Option Expr}{tl th:AV}{p2:Pos}(he:DE X e te)(hl:DO X lo tl)(hu:DO X hi th):DE X (.Subscript e (.Slice lo hi none p2) pos) (qt te tl th):=
 DE.of (pM (tX.or GV) he.pe hl.po hu.po)<|by
  rintro σ H Q ⟨G,ρ,P,s,re,h,k⟩;refine ⟨G,ρ,_,s,re,h,λb v H1 G1 p1 w1 r1=>?_⟩;obtain ⟨G1',w1',r1'⟩:=r1.give w1;refine ⟨G1',ρ,_,w1'.gh,re.mono w1'.gg,p1,λl H2 G2 p2 w2=>?_⟩;have w12:=w1'.trans w2;refine ⟨G2,ρ,_,w2.gh,re.mono w12.gg,p2,λu H3 G3 p3 w3=>?_⟩;have w13:=w12.trans w3;have r3:=r1'.mono (w2.trans w3).gg;split at p3
  .rename_i xs e;rw[e] at r3;obtain ⟨a,us,rfl,e,rr⟩:=r3.lst_inv;refine .inl ⟨a,us,rfl,dA.of (w3.gh _ _ e),λp hp=>?_⟩;obtain ⟨w4,r4⟩:=gP w13 hp (vM rr l u);exact k _ _ _ _ p3 w4 r4
  .rename_i ns e;rw[e] at r3;cases r3 with
   | scr e =>
    refine .inl ⟨_,_,rfl,w3.gh.seq e,λp hp=>?_⟩;rw[jq];obtain ⟨w4,r4⟩:=gP w13 hp (ic (K:=X.K) (iz ns l u));exact k _ _ _ _ p3 w4 r4
  .rename_i xs e;rw[e] at r3;obtain ⟨a,us,rfl,e,rr⟩:=r3.d4;refine .inr ⟨a,us,rfl,aw w3.gh e,by rw[Paired.length rr];exact p3.1,λp hp=>?_⟩;obtain ⟨w4,r4⟩:=mK w13 hp (vM rr l u);exact k _ _ _ _ p3.2 w4 r4
  .exact p3.elim
theorem m8 {K:Frag}{G:Hp}{vs:List V}{ds:List D}(r:aY K G vs ds):∀js:List Nat,aY K G (js.filterMap λj=>vs[j]?) (js.filterMap λj=>ds[j]?)
 | []=>.nil
 | j::js=>by
  rw[filterMap_cons,filterMap_cons];cases e:ds[j]? with
  | none =>
   have:vs[j]?=none:=by
    rw[List.getElem?_eq_none_iff] at e ⊢;rw[Paired.length r];exact e
   rw[this];exact m8 r js
  | some d =>
   obtain ⟨v,h1,h2⟩:=bE r e;rw[h1];exact .cons h2 (m8 r js)
theorem Ar {K:Frag}{G:Hp}{vs:List V}{ds:List D}(r:aY K G vs ds)(lo hi st:Option Int):aY K G (e7 vs lo hi st) (e7 ds lo hi st):=by
 unfold e7;rw[Paired.length r];exact m8 r _
noncomputable def kI (te:DT)(tl th ts:AV):DT:=λρ Q=>te ρ λb=>tl ρ λlo=>th ρ λhi=>ts ρ λst=>st≠some 0/\match b.val with
 | .lst xs=>Q (.o (.lst (e7 xs lo hi st)))
 | .scr ns=>Q (.o (.lst ((e7 ns lo hi st).map D.int)))
 | _=>False
theorem rl {lo hi:Option Expr}{st:Expr}{tl th ts:AV}{p2:Pos}(he:DE X e te)(hl:DO X lo tl)(hu:DO X hi th)(hs:DO X (some st) ts):DE X (.Subscript e (.Slice lo hi (some st) p2) pos) (kI te tl th ts):=
 DE.of (Am he.pe hl.po hu.po hs.po)<|by
  rintro σ H Q ⟨G,ρ,P,s,re,h,k⟩;refine ⟨G,ρ,_,s,re,h,λb v H1 G1 p1 w1 r1=>?_⟩;obtain ⟨G1',w1',r1'⟩:=r1.give w1;refine ⟨G1',ρ,_,w1'.gh,re.mono w1'.gg,p1,λl H2 G2 p2 w2=>?_⟩;have w12:=w1'.trans w2;refine ⟨G2,ρ,_,w2.gh,re.mono w12.gg,p2,λu H3 G3 p3 w3=>?_⟩;have w13:=w12.trans w3;refine ⟨G3,ρ,_,w3.gh,re.mono w13.gg,p3,λst H4 G4 p4 w4=>?_⟩;have w14:=w13.trans w4;have r3:=r1'.mono ((w2.trans w3).trans w4).gg;obtain ⟨h0,p4⟩:=p4;split at p4
  .rename_i xs e;rw[e] at r3;obtain ⟨a,us,rfl,e,rr⟩:=r3.lst_inv;refine ⟨a,us,rfl,dA.of (w4.gh _ _ e),h0,λp hp=>?_⟩;obtain ⟨w5,r5⟩:=gP w14 hp (Ar rr l u st);exact k _ _ _ _ p4 w5 r5
  .rename_i ns e;rw[e] at r3;cases r3 with
   | scr e =>
    refine ⟨_,_,rfl,w4.gh.seq e,h0,λp hp=>?_⟩;rw[AF];obtain ⟨w5,r5⟩:=gP w14 hp (ic (K:=X.K) (e7 ns l u st));exact k _ _ _ _ p4 w5 r5
  .exact p4.elim
noncomputable def hE:D2:=λx y Q=>match x,y with
 | .int i,.int j=>Q (.p (.int (i+j)))
 | .lst xs,.lst ys=>xs.length+ys.length<=sizeLine/\Q (.o (.lst (xs++ys)))
 | .str x,.str y=>x.length+y.length<=sizeLine/\Q (.p (.str (x++y)))
 | .tup xs,.tup ys=>xs≠[]/\ys≠[]/\xs.length+ys.length<=sizeLine/\Q (.p (.tup (xs++ys)))
 | _,_=>False
theorem bA {α β:Type}{F:α->β->Prop}:∀{l l':List α} {r r':List β},Paired F l r->Paired F l' r'->Paired F (l++l') (r++r')
 | _,_,_,_,.nil,h=>h
 | _,_,_,_,.cons h t,h'=>.cons h (bA t h')
theorem aM:qN X (binaryOp .Add) hE:=by
 refine ⟨_,Gq.or (Cf.or (wW.or tK)),λH G x y dx dy P Q s rx ry h k=>?_⟩;unfold hE at h;split at h
 .cases rx;cases ry;exact .inl ⟨_,_,rfl,rfl,k _ _ H G h (Wd.refl s) (.int _)⟩
 .obtain ⟨a,us,rfl,e,rr⟩:=rx.lst_inv;obtain ⟨a',us',rfl,e',rr'⟩:=ry.lst_inv;refine .inr (.inl ⟨a,a',us,us',rfl,rfl,s _ _ e,s _ _ e',by rw[Paired.length rr,Paired.length rr'];exact h.1,λp hp=>?_⟩);obtain ⟨w2,r2⟩:=gP (Wd.refl s) hp (bA rr rr');exact k _ _ _ _ h.2 w2 r2
 .cases rx;cases ry;exact .inr (.inr (.inl ⟨_,_,rfl,rfl,h.1,k _ _ H G h.2 (Wd.refl s) (.str _)⟩))
 .obtain ⟨h1,h2,h3,h4⟩:=h;obtain ⟨a,us,rfl,e,rr⟩:=rx.d4;obtain ⟨a',us',rfl,e',rr'⟩:=ry.d4;refine .inr (.inr (.inr ⟨a,a',us,us',rfl,rfl,aw s e,aw s e',λz=>?_,by rw[Paired.length rr,Paired.length rr'];exact h3,λz=>?_,λ_ p hp=>?_⟩))
  .subst z;cases rr;exact h1 rfl
  .subst z;cases rr';exact (h2 rfl).elim
  .obtain ⟨w2,r2⟩:=mK (Wd.refl s) hp (bA rr rr');exact k _ _ _ _ h4 w2 r2
 .exact h.elim
noncomputable def jx:D2:=λx y Q=>match x,y with
 | .int i,.int j=>v7 i j/\Q (.p (.int (i*j)))
 | .lst xs,.int k=>(-(2 ^ 63)<=k/\k<2 ^ 63)/\xs.length*k.toNat<=sizeLine/\Q (.o (.lst (LW k.toNat xs).flatten))
 | _,_=>False
theorem vN {K:Frag}{G:Hp}{vs:List V}{ds:List D}(r:aY K G vs ds):∀n:Nat,aY K G (LW n vs).flatten (LW n ds).flatten
 | 0=>.nil
 | n+1=>by
  rw[List.replicate_succ,List.replicate_succ,List.flatten_cons,List.flatten_cons];exact bA r (vN r n)
theorem eV:qN X (binaryOp .Mult) jx:=by
 refine ⟨_,Gy.or GC,λH G x y dx dy P Q s rx ry h k=>?_⟩;unfold jx at h;split at h
 .cases rx;cases ry;exact .inl ⟨_,_,rfl,rfl,h.1,k _ _ H G h.2 (Wd.refl s) (.int _)⟩
 .cases ry;obtain ⟨a,us,rfl,e,rr⟩:=rx.lst_inv;obtain ⟨⟨h1,h2⟩,h3,h4⟩:=h;refine .inr ⟨a,_,us,rfl,rfl,s _ _ e,h1,h2,by rw[Paired.length rr];exact h3,λp hp=>?_⟩;obtain ⟨w2,r2⟩:=gP (Wd.refl s) hp (vN rr _);exact k _ _ _ _ h4 w2 r2
 .exact h.elim
end
end DL
namespace DL
open PySem L2
mutual
noncomputable def bL:D->D->Bool
 | .non,.non=>true
 | .bl a,.bl b=>a == b
 | .bl a,.int b=>(if a then 1 else 0) == b
 | .int a,.bl b=>a == (if b then 1 else 0)
 | .int a,.int b=>a == b
 | .str a,.str b=>a == b
 | .tup xs,.tup ys=>lr xs ys
 | .lst xs,.lst ys=>lr xs ys
 | _,_=>false
noncomputable def lr:List D->List D->Bool
 | [],[]=>true
 | x::xs,y::ys=>bL x y && lr xs ys
 | _,_=>false
end
mutual
noncomputable def dep:D->Nat
 | .tup xs=>jf xs+1
 | .lst xs=>jf xs+1
 | _=>0
noncomputable def jf:List D->Nat
 | []=>0
 | x::xs=>max (dep x) (jf xs)
end
mutual
noncomputable def cQ:D->Bool
 | .tup xs=>jL xs
 | .lst xs=>jL xs
 | .scr _=>false
 | .dct _=>false
 | _=>true
noncomputable def jL:List D->Bool
 | []=>true
 | x::xs=>cQ x && jL xs
end
theorem tw (xs:List D):cQ (.tup xs)=jL xs:=by rw[cQ]
theorem yI (xs:List D):cQ (.lst xs)=jL xs:=by rw[cQ]
theorem gO (i:Int):cQ (.int i)=true:=by unfold cQ;rfl
theorem ij:jL []=true:=by rw[jL]
theorem ig (x:D)(xs:List D):jL (x::xs)=(cQ x && jL xs):=by rw[jL]
theorem Dx (xs:List D):dep (.tup xs)=jf xs+1:=by rw[dep]
theorem Dw (xs:List D):dep (.lst xs)=jf xs+1:=by rw[dep]
theorem ou (i:Int):dep (.int i)=0:=by unfold dep;rfl
theorem uL:jf []=0:=by rw[jf]
theorem rm (x:D)(xs:List D):jf (x::xs)=max (dep x) (jf xs):=by rw[jf]
theorem jC:∀{xs:List D} {i:Nat} {x:D},xs[i]?=some x->dep x<=jf xs
 | [],_,_,h=>by simp at h
 | y::xs,0,x,h=>by simp at h;subst h;unfold jf;exact Nat.le_max_left _ _
 | y::xs,i+1,x,h=>by
  have:=jC (xs:=xs) (i:=i) (x:=x) (by simpa using h);unfold jf;exact Nat.le_trans this (Nat.le_max_right _ _)
theorem cz:∀{xs:List D} {i:Nat} {x:D},jL xs=true->xs[i]?=some x->cQ x=true
 | [],_,_,_,h=>by simp at h
 | y::xs,0,x,n,h=>by simp at h;subst h;unfold jL at n;exact (LV _ _ ▸ n).1
 | y::xs,i+1,x,n,h=>by
  unfold jL at n;exact cz (xs:=xs) (i:=i) (x:=x) (LV _ _ ▸ n).2 (by simpa using h)
theorem all_succ (n:Nat)(f:Nat->Bool):(LD (n+1)).all f=(f 0 && (LD n).all λi=>f (i+1)):=by
 rw[List.range_succ_eq_map,List.all_cons,List.all_map];rfl
theorem vD:∀(xs ys:List D),lr xs ys=((LD (min xs.length ys.length)).all (λi=>match xs[i]?,ys[i]? with | some x,some y=>bL x y | _,_=>true) && xs.length == ys.length)
 | [],[]=>by unfold lr;rfl
 | [],y::ys=>by unfold lr;simp
 | x::xs,[]=>by unfold lr;simp
 | x::xs,y::ys=>by
  unfold lr;rw[vD xs ys];have:min (x::xs).length (y::ys).length=min xs.length ys.length+1:=by simp only[LN];lia
  rw[this,all_succ];simp only[List.getElem?_cons_zero,List.getElem?_cons_succ,LN,Bool.and_assoc];congr 2;simp
noncomputable def kM (xs ys:List D)(i:Nat):Bool:=match xs[i]?,ys[i]? with | some x,some y=>bL x y | _,_=>true
section
variable {X:Cx} {pins:List (Addr×Obj)} {σ:St} {H G:Hp} {s:Li}
theorem items_eqAt {A:LQ}{us us':List Lg}{vs vs':List V}{ds ds':List D}(r1:Vals vs us)(r2:Vals vs' us')(k1:aY X.K G vs ds)(k2:aY X.K G vs' ds')
  (ih:∀(i:Nat) (d d':D) (x y:V) (u v:Lg),ds[i]?=some d->ds'[i]?=some d'->Rep X.K G x d->Rep X.K G y d'->RelV x u->RelV y v->SeqAt.EqAt A s u v (bL d d')) :
  ∀j (h1:j<us.toArray.size) (h2:j<us'.toArray.size),SeqAt.EqAt A s us.toArray[j] us'.toArray[j] (kM ds ds' j):=λj q1 q2=>by
 have q1':j<us.length:=by simpa using q1
 have q2':j<us'.length:=by simpa using q2
 have l1:=r1.length;have l2:=r2.length;have e1:vs[j]?=some vs[j]:=Lm (by lia);have e2:vs'[j]?=some vs'[j]:=Lm (by lia);obtain ⟨u1,g1,s1⟩:=r1.get e1;obtain ⟨u2,g2,s2⟩:=r2.get e2;obtain ⟨d1,f1,t1⟩:=WS.lq k1 e1;obtain ⟨d2,f2,t2⟩:=WS.lq k2 e2;have z1:us.toArray[j]=u1:=by rw[Lm q1'] at g1;simpa using Option.some.inj g1
 have z2:us'.toArray[j]=u2:=by rw[Lm q2'] at g2;simpa using Option.some.inj g2
 rw[z1,z2];unfold kM;rw[f1,f2];exact ih j d1 d2 _ _ _ _ f1 f2 t1 t2 s1 s2
theorem mD (xs ys:List D):lr xs ys=((LD (min xs.length ys.length)).all (kM xs ys) && xs.length == ys.length):=vD xs ys
theorem vE {xs ys:List D}(h:xs.length=ys.length):lr xs ys=(LD xs.length).all (kM xs ys):=by
 rw[mD,h];simp
theorem pN {xs ys:List D}(h:xs.length≠ys.length):lr xs ys=false:=by
 rw[mD];have:(xs.length == ys.length)=false:=by simpa using h
 rw[this,Bool.and_false]
theorem sz {vs:List V}{us:List Lg}{ds:List D}(r:Vals vs us)(k:aY X.K G vs ds):us.toArray.size=ds.length:=by
 rw[LG,<-r.length,Paired.length k]
mutual
theorem vC:∀d:D,cQ d=true->bL d d=true
 | .non,_=>by unfold bL;rfl
 | .bl a,_=>by unfold bL;simp
 | .int a,_=>by unfold bL;simp
 | .str a,_=>by unfold bL;simp
 | .tup xs,h=>by unfold bL;unfold cQ at h;exact gi xs h
 | .lst xs,h=>by unfold bL;unfold cQ at h;exact gi xs h
 | .scr _,h=>by unfold cQ at h;cases h
 | .dct _,h=>by unfold cQ at h;cases h
theorem gi:∀ds:List D,jL ds=true->lr ds ds=true
 | [],_=>by unfold lr;rfl
 | d::ds,h=>by
  unfold jL at h;have h':=LV _ _ ▸ h;unfold lr;rw[vC d h'.1,gi ds h'.2];rfl
end
theorem yZ (I:Inv X pins σ H s)(sG:ao G H){x:V}{d:D}(h:Rep X.K G x d):cQ d=true->∀{d':D},Rep X.K G x d'->cQ d'=true->d=d':=by
  induction h with
  | non=>intro _ d' h _;cases h;rfl
  | bl b=>intro _ d' h _;cases h;rfl
  | int i=>intro _ d' h _;cases h;rfl
  | str z=>intro _ d' h _;cases h;rfl
  | scr _=>intro n;unfold cQ at n;cases n
  | dct _=>intro n;unfold cQ at n;cases n
  | @tup a vs ds h l r ih =>
    intro n d' h' n';unfold cQ at n;cases h' with
    | scr _=>unfold cQ at n';cases n'
    | dct _=>unfold cQ at n';cases n'
    | lst h2 l2 r2 =>
      obtain ⟨_,_,t1,_⟩:=I.tuple (aw sG (.inl (.inl h)));obtain ⟨_,_,t2,_⟩:=I.list (dA.of (sG _ _ h2));exact absurd rfl (SeqAt.ne_of_list_tuple t2.isList t1)
    | @tup _ _ ds2 h2 l2 r2 =>
      unfold cQ at n';have e:=I.AK (aw sG (.inl (.inl h))) (aw sG (.inl (.inl h2)));subst e;congr 1;refine List.ext_getElem? λi=>?_;by_cases hi:i<vs.length
      · rw [Lm (show i < _ by lia), Lm (show i < _ by lia)];have e1:=Lm (l:=ds) (show i<_ by lia);have e2:=Lm (l:=ds2) (show i<_ by lia);exact congrArg some (ih i _ _ (Lm hi) e1 (cz n e1) (r2 i _ _ (Lm hi) e2) (cz n' e2))
      · rw[List.getElem?_eq_none (by lia),List.getElem?_eq_none (by lia)]
  | @lst a vs ds h l r ih =>
    intro n d' h' n';unfold cQ at n;cases h' with
    | scr _=>unfold cQ at n';cases n'
    | dct _=>unfold cQ at n';cases n'
    | tup h2 l2 r2 =>
      obtain ⟨_,_,t1,_⟩:=I.tuple (aw sG (.inl (.inl h2)));obtain ⟨_,_,t2,_⟩:=I.list (dA.of (sG _ _ h));exact absurd rfl (SeqAt.ne_of_list_tuple t2.isList t1)
    | @lst _ _ ds2 h2 l2 r2 =>
      unfold cQ at n';rw[h] at h2;cases h2;congr 1;refine List.ext_getElem? λi=>?_;by_cases hi:i<vs.length
      · rw [Lm (show i < _ by lia), Lm (show i < _ by lia)];have e1:=Lm (l:=ds) (show i<_ by lia);have e2:=Lm (l:=ds2) (show i<_ by lia);exact congrArg some (ih i _ _ (Lm hi) e1 (cz n e1) (r2 i _ _ (Lm hi) e2) (cz n' e2))
      · rw[List.getElem?_eq_none (by lia),List.getElem?_eq_none (by lia)]
theorem Bu (I:Inv X pins σ H s)(sG:ao G H):∀(n:Nat) (dx dy:D),dep dx<=n->cQ dx=true->cQ dy=true->∀{x y:V} {u v:Lg} {A:LQ},Rep X.K G x dx->Rep X.K G y dy->RelV x u->RelV y v->A.units+n<cLine->SeqAt.EqAt A s u v (bL dx dy):=by
 intro n;induction n with
 | zero =>
  intro dx dy hd n1 n2 x y u v A rx ry ru rv hu;have hu0:A.units<cLine:=hu;cases rx with
  | scr _=>unfold cQ at n1;cases n1
  | dct _=>unfold cQ at n1;cases n1
  | tup h l r=>unfold dep at hd;lia
  | lst h l r=>unfold dep at hd;lia
  | non =>
   cases ru;cases ry with
   | scr _=>unfold cQ at n2;cases n2
   | dct _=>unfold cQ at n2;cases n2
   | non=>cases rv;unfold bL;exact SeqAt.EqAt.same _
   | bl b=>cases rv;unfold bL;exact SeqAt.EqAt.none_bool b
   | int i=>obtain ⟨t,rfl⟩:=rv;unfold bL;exact SeqAt.EqAt.none_int i t
   | str z=>obtain ⟨t,rfl⟩:=rv;unfold bL;exact SeqAt.EqAt.none_str z t
   | tup h l r=>cases rv;obtain ⟨is,r1,t1,z1⟩:=I.tuple (aw sG (.inl (.inl h)));unfold bL;exact SeqAt.EqAt.none_tuple t1 hu0
   | lst h l r=>cases rv;obtain ⟨is,r1,t1,z1⟩:=I.list (dA.of (sG _ _ h));unfold bL;exact SeqAt.EqAt.none_list t1.isList hu0
  | bl a =>
   cases ru;cases ry with
   | scr _=>unfold cQ at n2;cases n2
   | dct _=>unfold cQ at n2;cases n2
   | non=>cases rv;unfold bL;exact SeqAt.EqAt.bool_none a
   | bl b=>cases rv;unfold bL;exact SeqAt.EqAt.bool_bool a b
   | int i=>obtain ⟨t,rfl⟩:=rv;unfold bL;exact SeqAt.EqAt.bool_int a i t
   | str z=>obtain ⟨t,rfl⟩:=rv;unfold bL;exact SeqAt.EqAt.bool_str a z t
   | tup h l r=>cases rv;obtain ⟨is,r1,t1,z1⟩:=I.tuple (aw sG (.inl (.inl h)));unfold bL;exact SeqAt.EqAt.bool_tuple a t1 hu0
   | lst h l r=>cases rv;obtain ⟨is,r1,t1,z1⟩:=I.list (dA.of (sG _ _ h));unfold bL;exact SeqAt.EqAt.bool_list a t1.isList hu0
  | int a =>
   obtain ⟨tt,rfl⟩:=ru;cases ry with
   | scr _=>unfold cQ at n2;cases n2
   | dct _=>unfold cQ at n2;cases n2
   | non=>cases rv;unfold bL;exact SeqAt.EqAt.int_none a tt
   | bl b=>cases rv;unfold bL;exact SeqAt.EqAt.int_bool a tt b
   | int i=>obtain ⟨t,rfl⟩:=rv;unfold bL;exact SeqAt.EqAt.int_int a tt i t
   | str z=>obtain ⟨t,rfl⟩:=rv;unfold bL;exact SeqAt.EqAt.int_str a tt z t
   | tup h l r=>cases rv;obtain ⟨is,r1,t1,z1⟩:=I.tuple (aw sG (.inl (.inl h)));unfold bL;exact SeqAt.EqAt.int_tuple a tt t1 hu0
   | lst h l r=>cases rv;obtain ⟨is,r1,t1,z1⟩:=I.list (dA.of (sG _ _ h));unfold bL;exact SeqAt.EqAt.int_list a tt t1.isList hu0
  | str a =>
   obtain ⟨tt,rfl⟩:=ru;cases ry with
   | scr _=>unfold cQ at n2;cases n2
   | dct _=>unfold cQ at n2;cases n2
   | non=>cases rv;unfold bL;exact SeqAt.EqAt.str_none a tt
   | bl b=>cases rv;unfold bL;exact SeqAt.EqAt.str_bool a tt b
   | int i=>obtain ⟨t,rfl⟩:=rv;unfold bL;exact SeqAt.EqAt.str_int a tt i t
   | str z=>obtain ⟨t,rfl⟩:=rv;unfold bL;exact SeqAt.EqAt.str_str a tt z t
   | tup h l r=>cases rv;obtain ⟨is,r1,t1,z1⟩:=I.tuple (aw sG (.inl (.inl h)));unfold bL;exact SeqAt.EqAt.str_tuple a tt t1 hu0
   | lst h l r=>cases rv;obtain ⟨is,r1,t1,z1⟩:=I.list (dA.of (sG _ _ h));unfold bL;exact SeqAt.EqAt.str_list a tt t1.isList hu0
 | succ n ihn =>
  intro dx dy hd n1 n2 x y u v A rx ry ru rv hu;have hu0:A.units<cLine:=by lia
  by_cases hs:dep dx=0
  .exact ihn dx dy (by lia) n1 n2 rx ry ru rv (by lia)
  cases rx with
  | scr _=>unfold cQ at n1;cases n1
  | dct _=>unfold cQ at n1;cases n1
  | non=>unfold dep at hs;exact absurd rfl hs
  | bl _=>unfold dep at hs;exact absurd rfl hs
  | int _=>unfold dep at hs;exact absurd rfl hs
  | str _=>unfold dep at hs;exact absurd rfl hs
  | @tup a vs ds h l r =>
   cases ru;obtain ⟨is,r1,t1,z1⟩:=I.tuple (aw sG (.inl (.inl h)));cases ry with
   | scr _=>unfold cQ at n2;cases n2
   | dct _=>unfold cQ at n2;cases n2
   | non=>cases rv;unfold bL;exact SeqAt.EqAt.tuple_none t1 hu0
   | bl b=>cases rv;unfold bL;exact SeqAt.EqAt.tuple_bool b t1 hu0
   | int i=>obtain ⟨t,rfl⟩:=rv;unfold bL;exact SeqAt.EqAt.tuple_int i t t1 hu0
   | str z=>obtain ⟨t,rfl⟩:=rv;unfold bL;exact SeqAt.EqAt.tuple_str z t t1 hu0
   | lst h2 l2 rr2=>cases rv;obtain ⟨is2,r2,t2,z2⟩:=I.list (dA.of (sG _ _ h2));unfold bL;exact SeqAt.EqAt.tuple_list t1 t2.isList hu0
   | @tup a' vs' ds' h2 l2 rr2 =>
    cases rv;obtain ⟨is2,r2,t2,z2⟩:=I.tuple (aw sG (.inl (.inl h2)));unfold bL;unfold dep at hd;unfold cQ at n1 n2;have key:=SeqAt.RcAt.tuples (A:=A) (s:=s) (e:=kM ds ds') t1 t2 hu0 (items_eqAt (X:=X) (G:=G) r1 r2 (aC l r) (aC l2 rr2) λi d d' x y u v e1 e2 k1 k2 w1 w2 =>
     ihn d d' (by have:=jC e1;lia) (cz n1 e1) (cz n2 e2) k1 k2 w1 w2 (by show A.units+1+n<cLine;lia))
    rw[sz r1 (aC l r),sz r2 (aC l2 rr2),<-mD] at key;by_cases hab:a=a'
    .subst hab;have e:ds=ds':=by
      have:=yZ I sG (.tup h l r) (by unfold cQ;exact n1) (.tup h2 l2 rr2) (by unfold cQ;exact n2);injection this
     subst e;rw[gi ds n1];exact SeqAt.EqAt.same _
    .exact SeqAt.EqAt.of_refs hab key
  | @lst a vs ds h l r =>
   cases ru;obtain ⟨is,r1,t1,z1⟩:=I.list (dA.of (sG _ _ h));cases ry with
   | scr _=>unfold cQ at n2;cases n2
   | dct _=>unfold cQ at n2;cases n2
   | non=>cases rv;unfold bL;exact SeqAt.EqAt.list_none t1.isList hu0
   | bl b=>cases rv;unfold bL;exact SeqAt.EqAt.list_bool b t1.isList hu0
   | int i=>obtain ⟨t,rfl⟩:=rv;unfold bL;exact SeqAt.EqAt.list_int i t t1.isList hu0
   | str z=>obtain ⟨t,rfl⟩:=rv;unfold bL;exact SeqAt.EqAt.list_str z t t1.isList hu0
   | tup h2 l2 rr2=>cases rv;obtain ⟨is2,r2,t2,z2⟩:=I.tuple (aw sG (.inl (.inl h2)));unfold bL;exact SeqAt.EqAt.list_tuple t1.isList t2 hu0
   | @lst a' vs' ds' h2 l2 rr2 =>
    cases rv;obtain ⟨is2,r2,t2,z2⟩:=I.list (dA.of (sG _ _ h2));unfold bL;unfold dep at hd;unfold cQ at n1 n2;by_cases hab:a=a'
    .subst hab;have e:ds=ds':=by
      have:=yZ I sG (.lst h l r) (by unfold cQ;exact n1) (.lst h2 l2 rr2) (by unfold cQ;exact n2);injection this
     subst e;rw[gi ds n1];exact SeqAt.EqAt.same _
    .refine SeqAt.EqAt.of_refs hab ?_;by_cases hlen:ds.length=ds'.length
     .have key:=SeqAt.RcAt.lists (A:=A) (s:=s) (e:=kM ds ds') t1.isList t2.isList (by rw[sz r1 (aC l r),sz r2 (aC l2 rr2)];exact hlen) hu0 (items_eqAt (X:=X) (G:=G) r1 r2 (aC l r) (aC l2 rr2) λi d d' x y u v e1 e2 k1 k2 w1 w2 =>
       ihn d d' (by have:=jC e1;lia) (cz n1 e1) (cz n2 e2) k1 k2 w1 w2 (by show A.units+1+n<cLine;lia))
      rw[sz r1 (aC l r),<-vE hlen] at key;exact key
     .rw[pN hlen];exact SeqAt.RcAt.lists_lengths t1.isList t2.isList (by rw[sz r1 (aC l r),sz r2 (aC l2 rr2)];simpa using hlen) hu0
theorem CF (I:Inv X pins σ H s)(sG:ao G H){dx dy:D}{x y:V}{u v:Lg}{A:LQ}(n1:cQ dx=true)(n2:cQ dy=true)(rx:Rep X.K G x dx)(ry:Rep X.K G y dy)(ru:RelV x u)(rv:RelV y v)(hu:A.units+dep dx<cLine) :
  SeqAt.RcAt A s u v (bL dx dy)/\SeqAt.RcNeAt A s u v (!(bL dx dy)):=by
 have hu0:A.units<cLine:=by lia
 cases rx with
 | scr _=>unfold cQ at n1;cases n1
 | dct _=>unfold cQ at n1;cases n1
 | non =>
  cases ru;cases ry with
  | scr _=>unfold cQ at n2;cases n2
  | dct _=>unfold cQ at n2;cases n2
  | non=>cases rv;unfold bL;exact ⟨SeqAt.RcAt.none_none,SeqAt.RcNeAt.none_none⟩
  | bl b=>cases rv;unfold bL;exact ⟨SeqAt.RcAt.none_bool b,SeqAt.RcNeAt.none_bool b⟩
  | int i=>obtain ⟨t,rfl⟩:=rv;unfold bL;exact ⟨SeqAt.RcAt.none_int i t,SeqAt.RcNeAt.none_int i t⟩
  | str z=>obtain ⟨t,rfl⟩:=rv;unfold bL;exact ⟨SeqAt.RcAt.none_str z t,SeqAt.RcNeAt.none_str z t⟩
  | tup h l r=>cases rv;obtain ⟨is,r1,t1,z1⟩:=I.tuple (aw sG (.inl (.inl h)));unfold bL;exact ⟨SeqAt.RcAt.none_tuple t1 hu0,SeqAt.RcNeAt.none_tuple t1 hu0⟩
  | lst h l r=>cases rv;obtain ⟨is,r1,t1,z1⟩:=I.list (dA.of (sG _ _ h));unfold bL;exact ⟨SeqAt.RcAt.none_list t1.isList hu0,SeqAt.RcNeAt.none_list t1.isList hu0⟩
 | bl a =>
  cases ru;cases ry with
  | scr _=>unfold cQ at n2;cases n2
  | dct _=>unfold cQ at n2;cases n2
  | non=>cases rv;unfold bL;exact ⟨SeqAt.RcAt.bool_none a,SeqAt.RcNeAt.bool_none a⟩
  | bl b=>cases rv;unfold bL;exact ⟨SeqAt.RcAt.bool_bool a b,SeqAt.RcNeAt.bool_bool a b⟩
  | int i=>obtain ⟨t,rfl⟩:=rv;unfold bL;exact ⟨SeqAt.RcAt.bool_int a i t,SeqAt.RcNeAt.bool_int a i t⟩
  | str z=>obtain ⟨t,rfl⟩:=rv;unfold bL;exact ⟨SeqAt.RcAt.bool_str a z t,SeqAt.RcNeAt.bool_str a z t⟩
  | tup h l r=>cases rv;obtain ⟨is,r1,t1,z1⟩:=I.tuple (aw sG (.inl (.inl h)));unfold bL;exact ⟨SeqAt.RcAt.bool_tuple a t1 hu0,SeqAt.RcNeAt.bool_tuple a t1 hu0⟩
  | lst h l r=>cases rv;obtain ⟨is,r1,t1,z1⟩:=I.list (dA.of (sG _ _ h));unfold bL;exact ⟨SeqAt.RcAt.bool_list a t1.isList hu0,SeqAt.RcNeAt.bool_list a t1.isList hu0⟩
 | int a =>
  obtain ⟨tt,rfl⟩:=ru;cases ry with
  | scr _=>unfold cQ at n2;cases n2
  | dct _=>unfold cQ at n2;cases n2
  | non=>cases rv;unfold bL;exact ⟨SeqAt.RcAt.int_none a tt,SeqAt.RcNeAt.int_none a tt⟩
  | bl b=>cases rv;unfold bL;exact ⟨SeqAt.RcAt.int_bool a tt b,SeqAt.RcNeAt.int_bool a tt b⟩
  | int i=>obtain ⟨t,rfl⟩:=rv;unfold bL;exact ⟨SeqAt.RcAt.int_int a tt i t,SeqAt.RcNeAt.int_int a tt i t⟩
  | str z=>obtain ⟨t,rfl⟩:=rv;unfold bL;exact ⟨SeqAt.RcAt.int_str a tt z t,SeqAt.RcNeAt.int_str a tt z t⟩
  | tup h l r=>cases rv;obtain ⟨is,r1,t1,z1⟩:=I.tuple (aw sG (.inl (.inl h)));unfold bL;exact ⟨SeqAt.RcAt.int_tuple a tt t1 hu0,SeqAt.RcNeAt.int_tuple a tt t1 hu0⟩
  | lst h l r=>cases rv;obtain ⟨is,r1,t1,z1⟩:=I.list (dA.of (sG _ _ h));unfold bL;exact ⟨SeqAt.RcAt.int_list a tt t1.isList hu0,SeqAt.RcNeAt.int_list a tt t1.isList hu0⟩
 | str a =>
  obtain ⟨tt,rfl⟩:=ru;cases ry with
  | scr _=>unfold cQ at n2;cases n2
  | dct _=>unfold cQ at n2;cases n2
  | non=>cases rv;unfold bL;exact ⟨SeqAt.RcAt.str_none a tt,SeqAt.RcNeAt.str_none a tt⟩
  | bl b=>cases rv;unfold bL;exact ⟨SeqAt.RcAt.str_bool a tt b,SeqAt.RcNeAt.str_bool a tt b⟩
  | int i=>obtain ⟨t,rfl⟩:=rv;unfold bL;exact ⟨SeqAt.RcAt.str_int a tt i t,SeqAt.RcNeAt.str_int a tt i t⟩
  | str z=>obtain ⟨t,rfl⟩:=rv;unfold bL;exact ⟨SeqAt.RcAt.str_str a tt z t,SeqAt.RcNeAt.str_str a tt z t⟩
  | tup h l r=>cases rv;obtain ⟨is,r1,t1,z1⟩:=I.tuple (aw sG (.inl (.inl h)));unfold bL;exact ⟨SeqAt.RcAt.str_tuple a tt t1 hu0,SeqAt.RcNeAt.str_tuple a tt t1 hu0⟩
  | lst h l r=>cases rv;obtain ⟨is,r1,t1,z1⟩:=I.list (dA.of (sG _ _ h));unfold bL;exact ⟨SeqAt.RcAt.str_list a tt t1.isList hu0,SeqAt.RcNeAt.str_list a tt t1.isList hu0⟩
 | @tup a vs ds h l r =>
  cases ru;obtain ⟨is,r1,t1,z1⟩:=I.tuple (aw sG (.inl (.inl h)));cases ry with
  | scr _=>unfold cQ at n2;cases n2
  | dct _=>unfold cQ at n2;cases n2
  | non=>cases rv;unfold bL;exact ⟨SeqAt.RcAt.tuple_none t1 hu0,SeqAt.RcNeAt.tuple_none t1 hu0⟩
  | bl b=>cases rv;unfold bL;exact ⟨SeqAt.RcAt.tuple_bool b t1 hu0,SeqAt.RcNeAt.tuple_bool b t1 hu0⟩
  | int i=>obtain ⟨t,rfl⟩:=rv;unfold bL;exact ⟨SeqAt.RcAt.tuple_int i t t1 hu0,SeqAt.RcNeAt.tuple_int i t t1 hu0⟩
  | str z=>obtain ⟨t,rfl⟩:=rv;unfold bL;exact ⟨SeqAt.RcAt.tuple_str z t t1 hu0,SeqAt.RcNeAt.tuple_str z t t1 hu0⟩
  | lst h2 l2 rr2=>cases rv;obtain ⟨is2,r2,t2,z2⟩:=I.list (dA.of (sG _ _ h2));unfold bL;exact ⟨SeqAt.RcAt.tuple_list t1 t2.isList hu0,SeqAt.RcNeAt.tuple_list t1 t2.isList hu0⟩
  | @tup a' vs' ds' h2 l2 rr2 =>
   cases rv;obtain ⟨is2,r2,t2,z2⟩:=I.tuple (aw sG (.inl (.inl h2)));unfold bL;unfold dep at hu;unfold cQ at n1 n2;have it:=items_eqAt (A:=A.in1) (s:=s) (X:=X) (G:=G) r1 r2 (aC l r) (aC l2 rr2) λi d d' x y u v e1 e2 k1 k2 w1 w2 =>
    Bu I sG (jf ds) d d' (jC e1) (cz n1 e1) (cz n2 e2) k1 k2 w1 w2 (by show A.units+1+jf ds<cLine;lia)
   have key:=SeqAt.RcAt.tuples (A:=A) (s:=s) (e:=kM ds ds') t1 t2 hu0 it;have key':=SeqAt.RcNeAt.tuples (A:=A) (s:=s) (e:=kM ds ds') t1 t2 hu0 it;rw[sz r1 (aC l r),sz r2 (aC l2 rr2),<-mD] at key key';exact ⟨key,key'⟩
 | @lst a vs ds h l r =>
  cases ru;obtain ⟨is,r1,t1,z1⟩:=I.list (dA.of (sG _ _ h));cases ry with
  | scr _=>unfold cQ at n2;cases n2
  | dct _=>unfold cQ at n2;cases n2
  | non=>cases rv;unfold bL;exact ⟨SeqAt.RcAt.list_none t1.isList hu0,SeqAt.RcNeAt.list_none t1.isList hu0⟩
  | bl b=>cases rv;unfold bL;exact ⟨SeqAt.RcAt.list_bool b t1.isList hu0,SeqAt.RcNeAt.list_bool b t1.isList hu0⟩
  | int i=>obtain ⟨t,rfl⟩:=rv;unfold bL;exact ⟨SeqAt.RcAt.list_int i t t1.isList hu0,SeqAt.RcNeAt.list_int i t t1.isList hu0⟩
  | str z=>obtain ⟨t,rfl⟩:=rv;unfold bL;exact ⟨SeqAt.RcAt.list_str z t t1.isList hu0,SeqAt.RcNeAt.list_str z t t1.isList hu0⟩
  | tup h2 l2 rr2=>cases rv;obtain ⟨is2,r2,t2,z2⟩:=I.tuple (aw sG (.inl (.inl h2)));unfold bL;exact ⟨SeqAt.RcAt.list_tuple t1.isList t2 hu0,SeqAt.RcNeAt.list_tuple t1.isList t2 hu0⟩
  | @lst a' vs' ds' h2 l2 rr2 =>
   cases rv;obtain ⟨is2,r2,t2,z2⟩:=I.list (dA.of (sG _ _ h2));unfold bL;unfold dep at hu;unfold cQ at n1 n2;by_cases hlen:ds.length=ds'.length
   .have it:=items_eqAt (A:=A.in1) (s:=s) (X:=X) (G:=G) r1 r2 (aC l r) (aC l2 rr2) λi d d' x y u v e1 e2 k1 k2 w1 w2 =>
     Bu I sG (jf ds) d d' (jC e1) (cz n1 e1) (cz n2 e2) k1 k2 w1 w2 (by show A.units+1+jf ds<cLine;lia)
    have e0:is.toArray.size=is2.toArray.size:=by rw[sz r1 (aC l r),sz r2 (aC l2 rr2)];exact hlen
    have key:=SeqAt.RcAt.lists (A:=A) (s:=s) (e:=kM ds ds') t1.isList t2.isList e0 hu0 it;have key':=SeqAt.RcNeAt.lists (A:=A) (s:=s) (e:=kM ds ds') t1.isList t2.isList e0 hu0 it;rw[sz r1 (aC l r),<-vE hlen] at key key';exact ⟨key,key'⟩
   .rw[pN hlen];have e0:(is.toArray.size != is2.toArray.size)=true:=by rw[sz r1 (aC l r),sz r2 (aC l2 rr2)];simpa using hlen
    exact ⟨SeqAt.RcAt.lists_lengths t1.isList t2.isList e0 hu0,SeqAt.RcNeAt.lists_lengths t1.isList t2.isList e0 hu0⟩
noncomputable def IH (K:Frag)(u:Nat)(neg:Bool):R2:=λx y H Q=>∃G dx dy,ao G H/\Rep K G x dx/\Rep K G y dy/\cQ dx=true/\cQ dy=true/\u+dep dx<cLine/\Q (.bl (if neg then !(bL dx dy) else bL dx dy)) H
theorem Gs:kG X (compareOp .Eq) (IH X.K X.A.units false):=by
 intro pins s σ H x y v u Q I rx ry h;obtain ⟨G,dx,dy,sG,r1,r2,n1,n2,hu,q⟩:=h;exact (CF I sG n1 n2 r1 r2 rx ry hu).1 _ _ _ _ ⟨.bl _,H,I,rfl,q⟩
theorem Gz:kG X (compareOp .NotEq) (IH X.K X.A.units true):=by
 intro pins s σ H x y v u Q I rx ry h;obtain ⟨G,dx,dy,sG,r1,r2,n1,n2,hu,q⟩:=h;exact (CF I sG n1 n2 r1 r2 rx ry hu).2 _ _ _ _ ⟨.bl _,H,I,rfl,q⟩
noncomputable def KL:D2:=λx y Q=>(cQ x=true/\cQ y=true/\dep x<=60)/\Q (.p (.bl (bL x y)))
noncomputable def Jr:D2:=λx y Q=>(cQ x=true/\cQ y=true/\dep x<=60)/\Q (.p (.bl (!(bL x y))))
theorem Gj {k:Nat}(hr:cN k X.A):qN X (compareOp .Eq) KL:=
 ⟨_,Gs,by rintro H G x y dx dy P Q s rx ry ⟨⟨h1,h2,h3⟩,h4⟩ c;exact ⟨G,dx,dy,s,rx,ry,h1,h2,by have:=hr.units;lia,c _ _ H G h4 (Wd.refl s) (.bl _)⟩⟩
theorem tD {k:Nat}(hr:cN k X.A):qN X (compareOp .NotEq) Jr:=
 ⟨_,Gz,by rintro H G x y dx dy P Q s rx ry ⟨⟨h1,h2,h3⟩,h4⟩ c;exact ⟨G,dx,dy,s,rx,ry,h1,h2,by have:=hr.units;lia,c _ _ H G h4 (Wd.refl s) (.bl _)⟩⟩
end
end DL
namespace DL
open PySem L2
section
variable {X:Cx} {a b c e:Expr} {ta tb tc te:DT} {pos:Pos} {es:List Expr}
theorem D1 {K:Frag}{T:String}(h:T = "int" \/ T = "bool" \/ T = "str" \/ T = "tuple" \/ T = "list")(d:D):kitOne K (.type (Ld d)) (.type T)=some (Jv T d):=by
 rcases h with rfl | rfl | rfl | rfl | rfl<;>cases d<;>rfl
theorem sr:fK X (.builtin "isinstance") (λxs H Q=>∃G x d T,xs = [x,.ty T]/\ao G H/\Rep X.K G x d/\(T = "int" \/ T = "bool" \/ T = "str" \/ T = "tuple" \/ T = "list")/\Q (.bl (Jv T d)) H):=by
 intro pins s σ H xs us Q I r h;obtain ⟨G,x,d,T,rfl,sG,rx,hT,q⟩:=h;obtain ⟨u,w',rfl,ru,rw'⟩:=vals2 r;cases (show w'=Value.type T from rw');have e:=D1 (K:=X.K) hT d;have fin:∀tk,EP X pins σ Q (.bool (Jv T d)) { s with toks:=tk }:=λtk=>⟨.bl _,H,I.tok tk,rfl,q⟩
 cases rx with
 | non=>exact ki I ru .non e fin
 | bl b=>exact ki I ru (.bl b) e fin
 | int i=>exact ki I ru (.int i) e fin
 | str z=>exact ki I ru (.str z) e fin
 | @tup a vs ds h l r =>
  cases ru;obtain ⟨is,r1,⟨o,h1,h2,_⟩,z1⟩:=I.tuple (aw sG (.inl (.inl h)));exact kia_one kitx_tuple I.qx ⟨o,h1,h2⟩ e (λz=>nomatch z) fin
 | @lst a vs ds h l r =>
  cases ru;obtain ⟨is,r1,t1,z1⟩:=I.list (dA.of (sG _ _ h));obtain ⟨o,h1,h2,_⟩:=t1.isList;exact kia_one kitx_list I.qx ⟨o,h1,h2⟩ e (λz=>nomatch z) fin
 | @dct a kvs h =>
  cases ru;obtain ⟨_,_,_,_,o,_,_,h1,h2,_⟩:=Rd.ok (fS sG h) I.bC;exact kia_one kitx_dict I.qx ⟨o,h1,h2.1⟩ e (λz=>nomatch z) fin
 | @scr a ns h =>
  cases ru;obtain ⟨is,r1,t1,z1⟩:=I.list (sG.seq h);obtain ⟨o,h1,h2,_⟩:=t1.isList;exact kia_one kitx_list I.qx ⟨o,h1,h2⟩ e (λz=>nomatch z) fin
noncomputable def jv (T:String)(te:DT):DT:=λρ Q=>te ρ λb=>Q (.p (.bl (Jv T b.val)))
theorem Bg {T:String}{p:Pos}{e2:Expr}(hT:T = "int" \/ T = "bool" \/ T = "str" \/ T = "tuple" \/ T = "list")(hg:Gl X "isinstance")(hm:X.mg "isinstance" = none)(he:DE X e te)(h2:PE X e2 (tC (.ty T)))
  (hs:autoParam (starEach (e::[e2]) X.env=(false,eval e X.env)::starEach [e2] X.env) aZa._auto_1) (hs2:autoParam (starEach (e2::[]) X.env=(false,eval e2 X.env)::starEach [] X.env) aZa._auto_1) (hpl:autoParam ((backTo pos (starEach [e2] X.env)).any (·.1)=false) aZa._auto_1):DE X (.Call (.Name "isinstance" p) [e,e2] [] pos) (jv T te):=
 DE.of (vB sr hg hm boot_isinstance (fu he.pe (fu h2 iI hs2) hs) (he:=hs) (hpl:=hpl))<|by
  rintro σ H Q ⟨G,ρ,P,s,re,h,k⟩;refine ⟨G,ρ,_,s,re,h,λb v H1 G1 p1 w1 r1=>?_⟩;obtain ⟨G1',w1',r1'⟩:=r1.give w1;exact ⟨G1',v,b.val,T,rfl,w1'.gh,r1',hT,k _ _ H1 G1' p1 w1' (.bl _)⟩
theorem FG (hc:X.calm=true):CallD X (.builtin "all") HI:=by
 refine ⟨_,zr hc,λH G vs ds P Q s r h k=>?_⟩;unfold HI at h;split at h
 .obtain ⟨ns,rfl,h⟩:=h;obtain ⟨v,rfl,rv⟩:=gw r;obtain ⟨a,us,rfl,e,rr⟩:=rv.lst_inv;rw[vL rr] at e;exact ⟨a,ns,rfl,dA.of (s _ _ e),k _ _ H G h (Wd.refl s) (.bl _)⟩
 .exact h.elim
end
inductive Tg where
 | n (i:Nat) | t (is:List Nat)
noncomputable def kX:List Nat->ER
 | []=>HS
 | i::is=>E3 (uP i) (kX is)
noncomputable def Tg.v (K:Frag):Tg->TG
 | .n i=>uP i
 | .t is=>HU K is.length (kX is)
noncomputable def putN:List Nat->List D->ax->(ax->Prop)->Prop
 | [],[],ρ,P=>P ρ
 | i::is,d::ds,ρ,P=>putN is ds (dput ρ i (.p d)) P
 | _,_,_,_=>False
noncomputable def Tg.d:Tg->D->ax->(ax->Prop)->Prop
 | .n i,d,ρ,P=>P (dput ρ i (.p d))
 | .t is,.tup ds,ρ,P=>putN is ds ρ P
 | .t is,.lst ds,ρ,P=>putN is ds ρ P
 | .t _,_,_,_=>False
noncomputable def Tg.is:Tg->List Nat
 | .n i=>[i]
 | .t is=>is
noncomputable def si (K:Frag)(H0 G H:Hp)(w:Addr->Nat)(i:Nat)(a:Addr)(t:Bool)(dss:List D):Prop:=∃as:List Addr,as.Nodup/\Paired (λx ds=>H0 x=none/\w x=i/\cm K G H x ds) as dss/\match t with
 | true=>G a=some (.tup (as.map V.ref))
 | false=>H0 a=none/\w a=i/\G a=none/\a∉as/\H a=some (.lst (as.map V.ref))
structure qq (K:Frag)(H0 G H:Hp)(w:Addr->Nat)(σ:St)(ρ:ax):Prop where
 len:σ.length=ρ.length
 p:∀i d,aG ρ i=some (.p d)->∃v,σ[i]?=some (some v)/\Rep K G v d
 o:∀i d,aG ρ i=some (.o d)->∃a,σ[i]?=some (some (.ref a))/\H0 a=none/\w a=i/\cm K G H a d
 n:∀i t dss,aG ρ i=some (.n t dss)->∃a,σ[i]?=some (some (.ref a))/\si K H0 G H w i a t dss
noncomputable def aJ (K:Frag)(H0 G H:Hp)(σ:St)(ρ:ax):Prop:=∃w,qq K H0 G H w σ ρ
section
variable {K:Frag} {H0 G H:Hp} {σ:St} {ρ:ax}
theorem aJ.len (h:aJ K H0 G H σ ρ):σ.length=ρ.length:=by obtain ⟨w,h⟩:=h;exact h.len
theorem aJ.p (h:aJ K H0 G H σ ρ):∀i d,aG ρ i=some (.p d)->∃v,σ[i]?=some (some v)/\Rep K G v d:=by obtain ⟨w,h⟩:=h;exact h.p
theorem aJ.o (h:aJ K H0 G H σ ρ):∀i d,aG ρ i=some (.o d)->∃a,σ[i]?=some (some (.ref a))/\H0 a=none/\cm K G H a d:=by
 obtain ⟨w,h⟩:=h;intro i d e;obtain ⟨a,h1,h2,_,h3⟩:=h.o i d e;exact ⟨a,h1,h2,h3⟩
theorem aJ.only (l:σ.length=ρ.length)(hp:eF K G σ ρ)(h:∀i b,aG ρ i=some b->∃d,b=.p d):aJ K H0 G H σ ρ:=by
 refine ⟨λ_=>0,l,hp,λi d e=>?_,λi t dss e=>?_⟩
 .obtain ⟨_,q⟩:=h i _ e;cases q
 .obtain ⟨_,q⟩:=h i _ e;cases q
end
theorem cm.d7 {K:Frag}{G H G' H':Hp}{a:Addr}{d:D}(h:cm K G H a d)(hg:ao G G')(hn:G' a=none)(hh:∀o,H a=some o->H' a=some o):cm K G' H' a d:=by
 obtain ⟨h1,h2⟩:=h;refine ⟨hn,?_⟩;cases d with
 | lst ds=>obtain ⟨vs,e,r⟩:=h2;exact ⟨vs,hh _ e,aY.mono hg r⟩
 | non=>exact h2
 | bl _=>exact h2
 | int _=>exact h2
 | str _=>exact h2
 | tup _=>exact h2
 | scr _=>exact h2
 | dct kvs=>exact hh _ h2
theorem cm.chg {K:Frag}{G H:Hp}{a:Addr}{d:D}(h:cm K G H a d):Fo H a:=by
 obtain ⟨h1,h2⟩:=h;cases d with
 | lst ds=>obtain ⟨vs,e,r⟩:=h2;exact ⟨_,e,λ_ z=>nomatch z⟩
 | non=>exact h2.elim
 | bl _=>exact h2.elim
 | int _=>exact h2.elim
 | str _=>exact h2.elim
 | tup _=>exact h2.elim
 | scr _=>exact h2.elim
 | dct kvs=>exact ⟨_,h2,λ_ z=>nomatch z⟩
theorem cm.there {K:Frag}{G H:Hp}{a:Addr}{d:D}(h:cm K G H a d):H a≠none:=h.chg.there
theorem cG {α β:Type}{F F':α->β->Prop}{l:List α}{r:List β}(k:∀x d,x∈l->F x d->F' x d)(h:Paired F l r):Paired F' l r:=by
 induction h with
 | nil=>exact .nil
 | cons f _ ih=>exact .cons (k _ _ mem_cons_self f) (ih λx d m=>k x d (LO _ m))
theorem gR {α β:Type}{F:α->β->Prop}{l:List α}{r:List β}(h:Paired F l r):∀x∈l,∃d,F x d:=by
 induction h with
 | nil=>intro x m;cases m
 | cons f _ ih =>
  intro x m;rcases Lz.mp m with rfl | m
  .exact ⟨_,f⟩
  .exact ih x m
theorem si.d7 {K:Frag}{H0 G H G' H':Hp}{w w':Addr->Nat}{i:Nat}{a:Addr}{t:Bool}{dss:List D}(h:si K H0 G H w i a t dss)(hg:ao G G')(hn:∀x,H0 x=.none->w x=i->G x=.none->Fo H x->G' x=.none/\w' x=i/\∀o,H x=some o->H' x=some o):si K H0 G' H' w' i a t dss:=by
 obtain ⟨as,nd,pr,e⟩:=h;have pr':=cG (F':=λx ds=>H0 x=none/\w' x=i/\cm K G' H' x ds) ( by
  rintro x d m ⟨h1,h2,h3⟩;obtain ⟨k1,k2,k3⟩:=hn x h1 h2 h3.1 h3.chg;exact ⟨h1,k2,h3.d7 hg k1 k3⟩) pr
 refine ⟨as,nd,pr',?_⟩
 .cases t with
  | true=>exact hg _ _ e
  | false =>
   obtain ⟨e1,e2,e3,e4,e5⟩:=e;obtain ⟨k1,k2,k3⟩:=hn a e1 e2 e3 ⟨_,e5,λ_ z=>nomatch z⟩;exact ⟨e1,k2,k1,e4,k3 _ e5⟩
theorem qq.on {K:Frag}{H0 G H G' H':Hp}{o:Addr->Nat}{σ:St}{ρ:ax}(h:qq K H0 G H o σ ρ)(w:Wd H G H' G'):qq K H0 G' H' o σ ρ:=
 ⟨h.len,λi d e=>by obtain ⟨v,h1,h2⟩:=h.p i d e;exact ⟨v,h1,h2.mono w.gg⟩,λi d e=>by
  obtain ⟨a,h1,h2,h2',h3⟩:=h.o i d e;exact ⟨a,h1,h2,h2',h3.d7 w.gg (by rw[w.old a h3.chg];exact h3.1) λo q=>w.hh _ _ q⟩,λi t dss e=>by
  obtain ⟨a,h1,h2⟩:=h.n i t dss e;exact ⟨a,h1,h2.d7 w.gg λx k1 k2 k3 k4=>⟨by rw[w.old x k4];exact k3,k2,λo q=>w.hh _ _ q⟩⟩⟩
theorem aJ.on {K:Frag}{H0 G H G' H':Hp}{σ:St}{ρ:ax}(h:aJ K H0 G H σ ρ)(w:Wd H G H' G'):aJ K H0 G' H' σ ρ:=by
 obtain ⟨o,h⟩:=h;exact ⟨o,h.on w⟩
theorem ba {σ:St}{i j:Nat}{v:V}(h:i≠j):(σ.set i (some v))[j]?=σ[j]?:=by rw[List.getElem?_set_ne h]
theorem jY {σ:St}{i:Nat}{v:V}(h:i<σ.length):(σ.set i (some v))[i]?=some (some v):=by rw[List.getElem?_set_self h]
theorem aJ.tQ {K:Frag}{H0 G H:Hp}{σ:St}{ρ:ax}{v:V}{d:D}(h:aJ K H0 G H σ ρ)(i:Nat)(r:Rep K G v d):aJ K H0 G H (σ.set i (some v)) (dput ρ i (.p d)):=by
 obtain ⟨o,h⟩:=h;refine ⟨o,by rw[length_set,eP];exact h.len,λj d' e=>?_,λj d' e=>?_,λj t dss e=>?_⟩
 .rcases aN e with ⟨rfl,hl,e⟩ | ⟨hne,e⟩
  .cases e;exact ⟨v,jY (by rw[h.len];exact hl),r⟩
  .obtain ⟨w,h1,h2⟩:=h.p j d' e;exact ⟨w,by rw[ba hne];exact h1,h2⟩
 .rcases aN e with ⟨rfl,hl,e⟩ | ⟨hne,e⟩
  .cases e
  .obtain ⟨a,h1,h2⟩:=h.o j d' e;exact ⟨a,by rw[ba hne];exact h1,h2⟩
 .rcases aN e with ⟨rfl,hl,e⟩ | ⟨hne,e⟩
  .cases e
  .obtain ⟨a,h1,h2⟩:=h.n j t dss e;exact ⟨a,by rw[ba hne];exact h1,h2⟩
theorem qq.Dh {K:Frag}{H0 G H:Hp}{o:Addr->Nat}{σ:St}{ρ:ax}(h:qq K H0 G H o σ ρ){o':Addr->Nat}(q:∀x,H x≠.none->o' x=o x):qq K H0 G H o' σ ρ:=
 ⟨h.len,h.p,λj d e=>by
  obtain ⟨a,h1,h2,h3,h4⟩:=h.o j d e;exact ⟨a,h1,h2,by rw[q a h4.there];exact h3,h4⟩,λj t dss e=>by
  obtain ⟨a,h1,h2⟩:=h.n j t dss e;exact ⟨a,h1,h2.d7 (ao.refl _) λx k1 k2 k3 k4=>⟨k3,by rw[q x k4.there];exact k2,λo q=>q⟩⟩⟩
theorem aJ.Ka {K:Frag}{H0 G H G' H':Hp}{σ:St}{ρ:ax}{a:Addr}{d:D}(h:aJ K H0 G H σ ρ)(w:Wd H G H' G')(i:Nat)(h0:H0 a=none)(hn:H a=none)(r:cm K G' H' a d):aJ K H0 G' H' (σ.set i (some (.ref a))) (dput ρ i (.o d)):=by
 obtain ⟨o,h⟩:=h;have h2:=(h.Dh (o':=λx=>if x=a then i else o x) λx q=>if_neg λe:x=a=>q (e ▸ hn)).on w;refine ⟨λx=>if x=a then i else o x,by rw[length_set,eP];exact h.len,λj d' e=>?_,λj d' e=>?_,λj t dss e=>?_⟩
 .rcases aN e with ⟨rfl,hl,e⟩ | ⟨hne,e⟩
  .cases e
  .obtain ⟨w,h1,h2⟩:=h2.p j d' e;exact ⟨w,by rw[ba hne];exact h1,h2⟩
 .rcases aN e with ⟨rfl,hl,e⟩ | ⟨hne,e⟩
  .cases e;exact ⟨a,jY (by rw[h.len];exact hl),h0,if_pos rfl,r⟩
  .obtain ⟨b,h1,h2⟩:=h2.o j d' e;exact ⟨b,by rw[ba hne];exact h1,h2⟩
 .rcases aN e with ⟨rfl,hl,e⟩ | ⟨hne,e⟩
  .cases e
  .obtain ⟨b,h1,h2⟩:=h2.n j t dss e;exact ⟨b,by rw[ba hne];exact h1,h2⟩
theorem aJ.IE {K:Frag}{H0 G H G' H':Hp}{σ:St}{ρ:ax}{a:Addr}{as:List Addr}{ds:List D}(h:aJ K H0 G H σ ρ)(w:Wd H G H' G')(hh:ao H0 H)(i:Nat)(q:G' a=some (.tup (as.map V.ref)))(nd:as.Nodup)(pr:Paired (λx d=>H x=none/\cm K G' H' x d) as ds):aJ K H0 G' H' (σ.set i (some (.ref a))) (dput ρ i (.n true ds)):=by
 obtain ⟨o,h⟩:=h;have h2:=(h.Dh (o':=λx=>if x∈as then i else o x) λx z=>if_neg λm=>by
  obtain ⟨_,k,_⟩:=gR pr x m;exact z k).on w
 refine ⟨λx=>if x∈as then i else o x,by rw[length_set,eP];exact h.len,λj d' e=>?_,λj d' e=>?_,λj t dss e=>?_⟩
 .rcases aN e with ⟨rfl,hl,e⟩ | ⟨hne,e⟩
  .cases e
  .obtain ⟨w,h1,h2⟩:=h2.p j d' e;exact ⟨w,by rw[ba hne];exact h1,h2⟩
 .rcases aN e with ⟨rfl,hl,e⟩ | ⟨hne,e⟩
  .cases e
  .obtain ⟨b,h1,h2⟩:=h2.o j d' e;exact ⟨b,by rw[ba hne];exact h1,h2⟩
 .rcases aN e with ⟨rfl,hl,e⟩ | ⟨hne,e⟩
  .cases e;exact ⟨a,jY (by rw[h.len];exact hl),as,nd,cG (λx d m z=>⟨hh.free z.1,if_pos m,z.2⟩) pr,q⟩
  .obtain ⟨b,h1,h2⟩:=h2.n j t dss e;exact ⟨b,by rw[ba hne];exact h1,h2⟩
theorem aJ.Fc {K:Frag}{H0 G H G' H':Hp}{σ:St}{ρ:ax}{a:Addr}{as:List Addr}{ds:List D}(h:aJ K H0 G H σ ρ)(w:Wd H G H' G')(hh:ao H0 H)(i:Nat)(hn:H a=none)(ga:G' a=none)(q:H' a=some (.lst (as.map V.ref)))(na:a∉as)(nd:as.Nodup)(pr:Paired (λx d=>H x=none/\cm K G' H' x d) as ds):aJ K H0 G' H' (σ.set i (some (.ref a))) (dput ρ i (.n false ds)):=by
 obtain ⟨o,h⟩:=h;have h2:=(h.Dh (o':=λx=>if x=a\/x∈as then i else o x) λx z=>if_neg λm=>by
  rcases m with rfl | m
  .exact z hn
  .obtain ⟨_,k,_⟩:=gR pr x m;exact z k).on w
 refine ⟨λx=>if x=a\/x∈as then i else o x,by rw[length_set,eP];exact h.len,λj d' e=>?_,λj d' e=>?_,λj t dss e=>?_⟩
 .rcases aN e with ⟨rfl,hl,e⟩ | ⟨hne,e⟩
  .cases e
  .obtain ⟨w,h1,h2⟩:=h2.p j d' e;exact ⟨w,by rw[ba hne];exact h1,h2⟩
 .rcases aN e with ⟨rfl,hl,e⟩ | ⟨hne,e⟩
  .cases e
  .obtain ⟨b,h1,h2⟩:=h2.o j d' e;exact ⟨b,by rw[ba hne];exact h1,h2⟩
 .rcases aN e with ⟨rfl,hl,e⟩ | ⟨hne,e⟩
  .cases e;exact ⟨a,jY (by rw[h.len];exact hl),as,nd,cG (λx d m z=>⟨hh.free z.1,if_pos (.inr m),z.2⟩) pr,hh.free hn,if_pos (.inl rfl),ga,na,q⟩
  .obtain ⟨b,h1,h2⟩:=h2.n j t dss e;exact ⟨b,by rw[ba hne];exact h1,h2⟩
theorem tP {K:Frag}{H0 G H:Hp}:∀{is:List Nat} {ds:List D} {vs:List V} {σ:St} {ρ:ax} {P:ax->Prop} {Q:St->Hp->Prop},aJ K H0 G H σ ρ->aY K G vs ds->putN is ds ρ P->(∀σ' ρ',aJ K H0 G H σ' ρ'->P ρ'->Q σ' H)->kX is vs σ H Q
 | [],[],_,σ,ρ,P,Q,h,r,p,k=>by cases r;exact ⟨rfl,k _ _ h p⟩
 | i::is,d::ds,_,σ,ρ,P,Q,h,r,p,k=>by
  cases r with
  | cons r rr=>exact ⟨_,_,rfl,tP (h.tQ i r) rr p k⟩
 | [],_::_,_,_,_,_,_,_,_,p,_=>p.elim
 | _::_,[],_,_,_,_,_,_,_,p,_=>p.elim
theorem pS:∀{is:List Nat} {ds:List D} {ρ:ax} {P:ax->Prop},putN is ds ρ P->is.length=ds.length
 | [],[],_,_,_=>rfl
 | _::is,_::ds,ρ,P,p=>by rw[LN,LN,pS (is:=is) p]
 | [],_::_,_,_,p=>p.elim
 | _::_,[],_,_,p=>p.elim
theorem Tg.ok {K:Frag}{H0 G H:Hp}{g:Tg}{d:D}{v:V}{σ:St}{ρ:ax}{P:ax->Prop}{Q:St->Hp->Prop}(s:ao G H)(h:aJ K H0 G H σ ρ)(r:Rep K G v d)(p:g.d d ρ P)(k:∀σ' ρ',aJ K H0 G H σ' ρ'->P ρ'->Q σ' H):g.v K v σ H Q:=by
 cases g with
 | n i=>exact k _ _ (h.tQ i r) p
 | t is =>
  cases d with
  | tup ds =>
   obtain ⟨a,vs,rfl,e,rr⟩:=r.d4;exact ⟨a,vs,rfl,.inl (aw s e),by rw[Paired.length rr];exact (pS p).symm,tP h rr p k⟩
  | lst ds =>
   obtain ⟨a,vs,rfl,e,rr⟩:=r.lst_inv;exact ⟨a,vs,rfl,.inr (dA.of (s _ _ e)),by rw[Paired.length rr];exact (pS p).symm,tP h rr p k⟩
  | non=>exact p.elim
  | bl _=>exact p.elim
  | int _=>exact p.elim
  | str _=>exact p.elim
  | scr _=>exact p.elim
  | dct _=>exact p.elim
structure Hm (K:Frag)(G0:Hp)(J:It)(xs:List D):Prop where
 go:∀i d H G,xs[i]?=some d->ao G0 G->ao G H->J.go i H
 C3:∀i d H G x H',xs[i]?=some d->ao G0 G->ao G H->J.C3 i H x H'->∃G',Wd H G H' G'/\Rep K G' x d
 stop:∀i H G,i=xs.length->ao G0 G->ao G H->J.stop i H
noncomputable def cI (K:Frag)(t:fq):TI:=λσ H R=>∃(G:Hp) (ρ:ax) (P:List D->Prop),ao G H/\eF K G σ ρ/\t ρ P/\∀xs J H' G',P xs->Wd H G H' G'->Hm K G' J xs->R J H'
structure DI (X:Cx)(tg e:Expr)(t:fq):Prop where
 pi:PI X tg e (cI X.K t)
theorem PI.imp {X:Cx}{tg e:Expr}{t t':TI}(h:PI X tg e t)(i:∀σ H Q,t' σ H Q->t σ H Q):PI X tg e t':=λpins s σ H Q I q=>h pins s σ H Q I (i σ H Q q)
theorem DI.of {X:Cx}{tg e:Expr}{t:TI}{t':fq}(h:PI X tg e t)(i:∀σ H Q,cI X.K t' σ H Q->t σ H Q):DI X tg e t':=⟨PI.imp h i⟩
section
variable {X:Cx} {tg e:Expr} {te:DT} {pos:Pos}
theorem uW {K:Frag}{G:Hp}{a:Addr}{vs:List V}{ds:List D}(h:dA K G a vs)(r:aY K G vs ds):Hm K G (JG K a) ds where
 go:=λi d H G' e s1 s2=>by
  obtain ⟨v,h1,h2⟩:=bE r e;exact ⟨vs,v,(s1.trans s2).seq h,h1⟩
 C3:= by
  rintro i d H G' x H' e s1 s2 ⟨eH,y⟩;obtain ⟨v,h1,h2⟩:=bE r e;have:=y vs ((s1.trans s2).seq h);rw[h1] at this;cases this;subst eH;exact ⟨G',Wd.refl s2,h2.mono s1⟩
 stop:=λi H G' hi s1 s2=>⟨vs,(s1.trans s2).seq h,by rw[Paired.length r,hi];exact Ll _⟩
noncomputable def dE (te:DT):fq:=λρ P=>te ρ λb=>match b.val with
 | .lst xs=>P xs
 | .scr ns=>P (ns.map D.int)
 | _=>False
theorem bX (he:DE X e te):DI X tg e (dE te):=DI.of (yQ he.pe)<|by
 rintro σ H R ⟨G,ρ,P,s,re,h,k⟩;refine ⟨G,ρ,_,s,re,h,λb v H1 G1 p1 w1 r1=>?_⟩;obtain ⟨G1',w1',r1'⟩:=r1.give w1;split at p1
 .rename_i xs e;rw[e] at r1';obtain ⟨a,us,rfl,e,rr⟩:=r1'.lst_inv;exact ⟨a,rfl,⟨us,dA.of (w1'.gh _ _ e)⟩,k _ _ H1 G1' p1 w1' (uW (dA.of e) rr)⟩
 .rename_i ns e;rw[e] at r1';cases r1' with
  | scr e=>exact ⟨_,rfl,⟨_,w1'.gh.seq e⟩,k _ _ H1 G1' p1 w1' (uW e (ic ns))⟩
 .exact p1.elim
noncomputable def gN (te:DT):fq:=λρ P=>te ρ λb=>match b.val with
 | .tup xs=>P xs
 | _=>False
noncomputable def gC (lo:Int)(n:Nat):List D:=(LD n).map λi=>D.int (lo+(i:Nat))
theorem dg {lo:Int}{n i:Nat}{d:D}(h:(gC lo n)[i]?=some d):i<n/\d=.int (lo+(i:Nat)):=by
  unfold gC at h;rw[LC] at h;by_cases hi:i<n
  · rw[List.getElem?_range hi] at h;exact ⟨hi,(Option.some.inj h).symm⟩
  · rw [List.getElem?_eq_none (by simpa using hi)] at h;cases h
theorem dh (lo:Int)(n:Nat):(gC lo n).length=n:=by unfold gC;simp
theorem yq {K:Frag}{G:Hp}{lo:Int}{n:Nat}:Hm K G (Ht lo n) (gC lo n) where
 go:=λi d H G' e s1 s2=>(dg e).1
 C3:= by
  rintro i d H G' x H' e s1 s2 ⟨eH,y⟩;obtain ⟨h1,rfl⟩:=dg e;subst eH;subst y;exact ⟨G',Wd.refl s2,.int _⟩
 stop:=λi H G' hi s1 s2=>by rw[dh] at hi;rw[hi];exact Ll n
noncomputable def cY (t:fq):fq:=λρ P=>t ρ λds=>match ds with
 | [.int j]=>(-(2 ^ 62)<=j/\j<2 ^ 62)/\P (gC 0 j.toNat)
 | _=>False
noncomputable def cZ (t:fq):fq:=λρ P=>t ρ λds=>match ds with
 | [.int i,.int j]=>(-(2 ^ 62)<=i/\i<2 ^ 62/\-(2 ^ 62)<=j/\j<2 ^ 62)/\P (gC i (j - i).toNat)
 | _=>False
end
noncomputable def lE (fr:List (Option Nat))(ρ:ax):ax:=fr.map λo=>match o with
 | none=>none
 | some j=>aG ρ j
theorem sI:∀(ρ:ax) (i:Nat),aG ρ i=(ρ[i]?).getD none
 | [],_=>by simp[aG]
 | _::_,0=>by simp[aG]
 | _::r,i+1=>by simp[aG,sI r i]
theorem yi {fr:List (Option Nat)}{ρ:ax}{i:Nat}{b:B}(h:aG (lE fr ρ) i=some b):∃j,fr[i]?=some (some j)/\aG ρ j=some b:=by
 rw[sI] at h;unfold lE at h;rw[LC] at h;cases e:fr[i]? with
 | none=>rw[e] at h;cases h
 | some o =>
  rw[e] at h;cases o with
  | none=>cases h
  | some j=>exact ⟨j,rfl,h⟩
theorem DJ {fr:List (Option Nat)}{σ:St}{i j:Nat}{v:V}(h1:fr[i]?=some (some j))(h2:σ[j]?=some (some v)):(nX fr σ)[i]?=some (some v):=by
 unfold nX;rw[LC,h1];show some ((σ[j]?).getD none)=_;rw[h2];rfl
noncomputable def bO (ρ:ax):ax:=ρ.map λo=>match o with
 | some (.p d)=>some (.p d)
 | _=>none
theorem m5 {ρ:ax}{i:Nat}{b:B}(h:aG (bO ρ) i=some b):∃d,b=.p d/\aG ρ i=some (.p d):=by
 rw[sI] at h ⊢;unfold bO at h;rw[LC] at h;cases e:ρ[i]? with
 | none=>rw[e] at h;cases h
 | some o =>
  rw[e] at h;cases o with
  | none=>cases h
  | some b' =>
   cases b' with
   | p d=>exact ⟨d,(Option.some.inj h).symm,rfl⟩
   | o d=>cases h
   | n _ _=>cases h
noncomputable def Ge (xs:List D)(g:Tg)(tc:iY)(te:DT)(ρ:ax)(Q:B->Prop):Prop:=xs.length<=sizeLine/\∃F:D->Option D->Prop,
 (∀x∈xs,g.d x ρ λρ'=>tc ρ' λc=>(c=true->te ρ' λb=>F x (some b.val))/\(c=false->F x none))/\∀os,Paired F xs os->Q (.o (.lst (os.filterMap id)))
noncomputable def sD (ti:fq)(fr:List (Option Nat))(g:Tg)(tc:iY)(te:DT):DT:=λρ Q=>ti ρ λxs=>Ge xs g tc te (bO (lE fr ρ)) Q
noncomputable def bN:iY:=λ_ P=>P true
theorem ip {α β:Type}{F:α->β->Prop}{xs:List α}{os:List β}{i:Nat}{x:α}{o:β}(h:Paired F (xs.take i) os)(e:xs[i]?=some x)(f:F x o):Paired F (xs.take (i+1)) (os++[o]):=by
 rw[WS.take_snoc e];exact Paired.snoc h f
noncomputable def Hf (fr:List (Option Nat))(g:Tg):Bool:=g.is.all λi=>match fr[i]? with
 | some none=>true
 | _=>false
theorem rQ {K:Frag}{G H:Hp}{ρ0:ax}:∀{is:List Nat} {vs:List V} {σ:St} {Q:St->Hp->Prop},(∀i∈is,aG ρ0 i=none)->eF K G σ ρ0->σ.length=ρ0.length->kX is vs σ H Q->kX is vs σ H λσ' H'=>Q σ' H'/\H'=H/\eF K G σ' ρ0/\σ'.length=ρ0.length
 | [],_,σ,Q,_,h,l,⟨e,q⟩=>⟨e,q,rfl,h,l⟩
 | i::is,_,σ,Q,hn,h,l,⟨v,r,e,q⟩=>by
  refine ⟨v,r,e,rQ (is:=is) (λj hj=>hn j (LO _ hj)) (λj d hd=>?_) (by rw[length_set];exact l) q⟩;have hne:i≠j:=by
   rintro rfl;rw[hn i mem_cons_self] at hd;cases hd
  obtain ⟨w,h1,h2⟩:=h j d hd;exact ⟨w,by rw[ba hne];exact h1,h2⟩
theorem EG {K:Frag}{G H:Hp}{ρ0:ax}{g:Tg}{v:V}{σ:St}{Q:St->Hp->Prop}(hn:∀i∈g.is,aG ρ0 i=none)(h:eF K G σ ρ0)(l:σ.length=ρ0.length)(q:g.v K v σ H Q):g.v K v σ H λσ' H'=>Q σ' H'/\H'=H/\eF K G σ' ρ0/\σ'.length=ρ0.length:=by
 cases g with
 | n i =>
  refine ⟨q,rfl,λj d hd=>?_,by rw[length_set];exact l⟩;have hne:i≠j:=by
   rintro rfl;rw[hn i (mem_singleton.mpr rfl)] at hd;cases hd
  obtain ⟨w,h1,h2⟩:=h j d hd;exact ⟨w,by rw[ba hne];exact h1,h2⟩
 | t is =>
  obtain ⟨a,xs,e,h1,h2,q⟩:=q;exact ⟨a,xs,e,h1,h2,rQ hn h l q⟩
structure C5 (X:Cx)(ifs:List Expr)(t:iY):Prop where
 pf:v8 X ifs (cT X.K t)
theorem dH {X:Cx}:C5 X [] bN:=⟨by rintro pins s σ H Q I ⟨G,ρ,P,sg,re,h,k⟩;exact Cs pins s σ H Q I (k true H G h (Wd.refl sg))⟩
theorem lW {X:Cx}{c:Expr}{t:iY}(h:qL X c t):C5 X [c] t:=⟨Ct h.pt⟩
theorem yz {K:Frag}{ti:fq}{fr:List (Option Nat)}{g:Tg}{tc:iY}{te:DT}(ht:Hf fr g=true)(σ:St)(H:Hp)(Q:VK):cE K (sD ti fr g tc te) σ H Q->Ko (cI K ti) fr (g.v K) (cT K tc) (cE K te) σ H Q:=by
  rintro ⟨G,ρ,P,s,re,h,k⟩;refine ⟨G,ρ,_,s,re,h,λxs J H1 G1 p1 w1 it D hD=>?_⟩;obtain ⟨hz,F,hF,hP⟩:=p1;have hn:∀i∈g.is,aG (bO (lE fr ρ)) i=none:=λi hi=>by
    cases e:aG (bO (lE fr ρ)) i with
    | none=>rfl
    | some b =>
      obtain ⟨d,rfl,e'⟩:=m5 e;obtain ⟨j,h1,_⟩:=yi e';have:=List.all_eq_true.mp ht i hi;rw[h1] at this;cases this
  have len0:(bO (lE fr ρ)).length=fr.length:=by unfold bO lE;simp
  have fn0:(nX fr σ).length=fr.length:=by unfold nX;simp
  have rep0:eF K G1 (nX fr σ) (bO (lE fr ρ)):=λi d e=>by
    obtain ⟨d',e1,e2⟩:=m5 e;cases e1;obtain ⟨j,h1,h2⟩:=yi e2;obtain ⟨v,h3,h4⟩:=re j d h2;exact ⟨v,DJ h1 h3,h4.mono w1.gg⟩
  have gD:G1 D=none:=w1.gh.free hD;refine ⟨λi m ys σ' H'=>m=xs.length - i/\i<=xs.length/\∃G' os,Wd H1 G1 H' G'/\G' D=none/\H' D=some (.lst ys)/\ys.length<=i/\Paired F (xs.take i) os/\aY K G' ys (os.filterMap id)/\eF K G' σ' (bO (lE fr ρ))/\σ'.length=(bO (lE fr ρ)).length,⟨xs.length,by simp,LS _,G1,[],(Wd.refl w1.gh).own hD gD,gD,aA,Ll _,by rw[List.take_zero];exact .nil,.nil,rep0,by rw[fn0,len0]⟩,?_⟩;rintro i m ys σ' H' ⟨rfl,hi,G',os,w',gD',hD',hy,hos,hr,re',ln'⟩;by_cases hlt:i<xs.length
  · have hx:xs[i]?=some xs[i]:=Lm hlt;refine .inr ⟨it.go i _ H' G' hx w'.gg w'.gh,λys' σ2 H2=>∃G2 os',Wd H1 G1 H2 G2/\G2 D=none/\H2 D=some (.lst ys')/\ys'.length<=i+1/\Paired F (xs.take (i+1)) os'/\aY K G2 ys' (os'.filterMap id)/\eF K G2 σ2 (bO (lE fr ρ))/\σ2.length=(bO (lE fr ρ)).length,by rintro ys' σ2 H2 ⟨G2,os',z⟩;exact ⟨xs.length - (i+1),by lia,rfl,hlt,G2,os',z⟩,λx H2 y=>?_⟩;obtain ⟨G2,w2,r2⟩:=it.C3 i _ H' G' x H2 hx w'.gg w'.gh y;have e2:aJ K H2 G2 H2 σ' (bO (lE fr ρ)):=aJ.only ln' (re'.mono w2.gg) λj b e=>by
        obtain ⟨d',e1,_⟩:=m5 e;exact ⟨d',e1⟩
    have re2:eF K G2 σ' (bO (lE fr ρ)):=e2.p;have w12:=w'.trans w2;have hD2:H2 D=some (.lst ys):=w2.hh _ _ hD';have gD2:G2 D=none:=by rw[w2.old D ⟨_,hD',λ_ z=>nomatch z⟩];exact gD'
    refine (?_:g.v K x σ' H2 _);refine tgv_mono (EG hn re2 ln' (Tg.ok w2.gh e2 r2 (hF _ (List.getElem_mem hlt)) (Q:=λσ3 H3=>H3=H2/\∃ρ3,aJ K H2 G2 H2 σ3 ρ3/\tc ρ3 λc=>(c=true->te ρ3 λb=>F xs[i] (some b.val))/\(c=false->F xs[i] none)) λσ3 ρ3 e3 p3=>⟨rfl,ρ3,e3,p3⟩)) ?_;rintro σ3 H3 ⟨⟨rfl,ρ3,e3,p3⟩,_,re3,ln3⟩;refine ⟨G2,ρ3,_,w2.gh,e3.p,p3,λc H4 G4 p4 w4=>?_⟩;have hD4:H4 D=some (.lst ys):=w4.hh _ _ hD2;have gD4:G4 D=none:=by rw[w4.old D ⟨_,hD2,λ_ z=>nomatch z⟩];exact gD2
    cases c with
    | true =>
      refine zU ⟨G4,ρ3,_,w4.gh,eF.mono w4.gg e3.p,p4.1 rfl,λb v H5 G5 p5 w5 r5=>?_⟩;obtain ⟨G5',w5',r5'⟩:=r5.give w5;have hD5:H5 D=some (.lst ys):=w5.hh _ _ hD4;have gD5:G5' D=none:=by rw[w5'.old D ⟨_,hD4,λ_ z=>nomatch z⟩];exact gD4
      have w15:=(w12.trans w4).trans w5';refine ⟨hD5,by have:sizeLine=16777216:=sizeLine_eq;lia,G5',os++[some b.val],w15.own hD gD5,gD5,aA,by rw[LA,List.length_singleton];lia,ip hos hx p5,?_,eF.mono (w4.trans w5').gg re3,ln3⟩;rw[List.filterMap_append];exact bA (aY.mono ((w2.trans w4).trans w5').gg hr) (.cons r5' .nil)
    | false =>
      refine zT ⟨G4,os++[none],w12.trans w4,gD4,hD4,by lia,ip hos hx (p4.2 rfl),?_,eF.mono w4.gg re3,ln3⟩;rw[List.filterMap_append,show List.filterMap id [(none:Option DL.D)] = [] from rfl,append_nil];exact aY.mono (w2.trans w4).gg hr
  · have e : i = xs.length := by lia
    subst e;refine .inl ⟨it.stop _ H' G' rfl w'.gg w'.gh,?_⟩;rw[List.take_length] at hos;exact k _ _ H' G' (hP os hos) (w1.trans w') ⟨D,rfl,w1.hh.free hD,gD',ys,hD',hr⟩
where
 tgv_mono {K:Frag} {g:Tg} {v:V} {σ:St} {H:Hp} {Q Q':St->Hp->Prop} (h:g.v K v σ H Q) (i:∀σ' H',Q σ' H'->Q' σ' H'):g.v K v σ H Q':=by
  cases g with
  | n j=>exact i _ _ h
  | t is =>
   obtain ⟨a,xs,e,h1,h2,q⟩:=h;exact ⟨a,xs,e,h1,h2,names_mono q i⟩
 names_mono {Q Q':St->Hp->Prop}:∀{is:List Nat} {vs:List V} {σ:St} {H:Hp},kX is vs σ H Q->(∀σ' H',Q σ' H'->Q' σ' H')->kX is vs σ H Q'
  | [],_,_,_,⟨e,q⟩,i=>⟨e,i _ _ q⟩
  | _::is,_,_,_,⟨v,r,e,q⟩,i=>⟨v,r,e,names_mono (is:=is) q i⟩
section
variable {X:Cx} {tg iter elt:Expr} {ifs:List Expr} {scope:Scope} {pos:Pos} {ti:fq} {g:Tg} {tc:iY} {te:DT}
theorem hO (N':List Str)(fr:List (Option Nat))(hc:X.calm=true)(hi:DI X tg iter ti)
  (hg:∀cl fp C s H,PG (ug X scope N' cl fp C s H) tg (g.v X.K)) (ht:∀cl fp C s H,C5 (ug X scope N' cl fp C s H) ifs tc) (he:∀cl fp C s H,DE (ug X scope N' cl fp C s H) elt te)
  {sc0:Scope} {N0:List Str} (htg:autoParam (Hf fr g=true) aZb._auto_1) (hsc:autoParam (X.env.scope=sc0) aZa._auto_1) (hN:autoParam (X.N=N0) aZa._auto_1) (bC:autoParam (j8 sc0 N0 scope N' fr=true) aZe._auto_1) (hs:autoParam (∀x,foldedSetIterable iter X.env x=pure x) aZc._auto_1) :
  DE X (.ListComp elt [⟨tg,iter,ifs,0⟩] scope pos) (sD ti fr g tc te):=
 DE.of (IC (tc:=cT X.K tc) (te:=cE X.K te) N' fr hc hi.pi hg (λcl fp C s H=>(ht cl fp C s H).pf) (λcl fp C s H=>(he cl fp C s H).pe) hsc hN bC hs) (yz htg)
end
end DL
namespace DL
open PySem L2
structure lF where
 nx:ax->Prop
 rt:B->Prop
 bk:ax->Prop:=λ_=>False
 ct:ax->Prop:=λ_=>False
noncomputable abbrev fL:=lF->ax->Prop
structure se (K:Frag)(H0 G0:Hp)(E:lF)(Dn:Ends):Prop where
 nx:∀σ H G ρ,Wd H0 G0 H G->aJ K H0 G H σ ρ->E.nx ρ->Dn.nx σ H
 bk:∀σ H G ρ,Wd H0 G0 H G->aJ K H0 G H σ ρ->E.bk ρ->Dn.bk σ H
 ct:∀σ H G ρ,Wd H0 G0 H G->aJ K H0 G H σ ρ->E.ct ρ->Dn.ct σ H
 rt:∀b v H G,Wd H0 G0 H G->gY K H0 G H v b->E.rt b->Dn.rt v H
noncomputable def cS (K:Frag)(H0 G0:Hp)(t:fL):TS:=λDn σ H=>∃(E:lF) (G:Hp) (ρ:ax),se K H0 G0 E Dn/\Wd H0 G0 H G/\aJ K H0 G H σ ρ/\t E ρ
structure DS (X:Cx)(st:Stmt)(t:fL):Prop where
 ps:∀H0 G0,PS X st (cS X.K H0 G0 t)
structure uj (X:Cx)(st:List Stmt)(t:fL):Prop where
 Aq:∀H0 G0,oH X st (cS X.K H0 G0 t)
section
variable {K:Frag} {H0 G0 G H H':Hp} {σ:St} {ρ:ax}
theorem aJ.freeze (e:aJ K H0 G H σ ρ)(w:Wd H0 G0 H G):∃G1,Wd H0 G0 H G1/\ao G G1/\aJ K H0 G1 H σ (cc ρ):=by
 classical
 obtain ⟨o,e⟩:=e;have to:∀a,H0 a=none->G a=none->(if H0 a=none/\G a=none then H a else G a)=H a:=λa h1 h2=>if_pos ⟨h1,h2⟩;have sG:ao G (λa=>if H0 a=none/\G a=none then H a else G a):=λa o h=>by
  show (if _ then H a else G a)=_;rw[if_neg λq=>by rw[q.2] at h;cases h];exact h
 refine ⟨λa=>if H0 a=none/\G a=none then H a else G a,⟨w.hh,w.gg.trans sG,λa o h=>?_,λa h=>?_⟩,sG,?_⟩
 .have h':(if H0 a=none/\G a=none then H a else G a)=some o:=h;split at h'
  .exact h'
  .exact w.gh _ _ h'
 .show (if H0 a=none/\G a=none then H a else G a)=_;rw[if_neg λq=>h.there q.1];exact w.old a h
 .have own:∀a d,H0 a=none->cm K G H a d->Rep K (λa=>if H0 a=none/\G a=none then H a else G a) (.ref a) d:=λa d h0 h=>h.rep sG λo z=>by
   show (if H0 a=none/\G a=none then H a else G a)=_;rw[to a h0 h.1];exact z
  refine aJ.only (by rw[yk];exact e.len) (λi d h=>?_) λi b h=>?_
  .obtain ⟨b,h1,h2⟩:=oX h;cases h2;cases b with
   | p d =>
    obtain ⟨v,h3,h4⟩:=e.p i d h1;exact ⟨v,h3,h4.mono sG⟩
   | o d =>
    obtain ⟨a,h3,h4,h4',h5⟩:=e.o i d h1;exact ⟨.ref a,h3,own a d h4 h5⟩
   | n t dss =>
    obtain ⟨a,h3,as,nd,pr,q⟩:=e.n i t dss h1;have rs:aY K (λa=>if H0 a=none/\G a=none then H a else G a) (as.map V.ref) dss:=by
     clear q h1 h nd;induction pr with
     | nil=>exact .nil
     | cons f _ ih=>exact .cons (own _ _ f.1 f.2.2) ih
    refine ⟨.ref a,h3,?_⟩;cases t with
    | true=>exact Rep.uc (sG _ _ q) rs
    | false =>
     refine Rep.Ef ?_ rs;show (if H0 a=none/\G a=none then H a else G a)=_;rw[to a q.1 q.2.2.1];exact q.2.2.2.2
  .obtain ⟨b',h1,h2⟩:=oX h;exact ⟨_,h2⟩
theorem qq.back {o:Addr->Nat}(e:qq K H0 G H o σ ρ)(hh:ao H H'):qq K H0 G H' o σ ρ:=
 ⟨e.len,e.p,λi d h=>by
  obtain ⟨a,h1,h2,h2',h3⟩:=e.o i d h;exact ⟨a,h1,h2,h2',h3.d7 (ao.refl _) h3.1 λo q=>hh _ _ q⟩,λi t dss h=>by
  obtain ⟨a,h1,h2⟩:=e.n i t dss h;exact ⟨a,h1,h2.d7 (ao.refl _) λx k1 k2 k3 k4=>⟨k3,k2,λo q=>hh _ _ q⟩⟩⟩
theorem aJ.back (e:aJ K H0 G H σ ρ)(hh:ao H H'):aJ K H0 G H' σ ρ:=by
 obtain ⟨o,e⟩:=e;exact ⟨o,e.back hh⟩
theorem Wd.back {G1 G1':Hp}(w:Wd H0 G0 H G)(w1:Wd H G1 H' G1'):Wd H0 G0 H' G:=⟨w.hh.trans w1.hh,w.gg,w.gh.trans w1.hh,w.old⟩
end
section
variable {X:Cx} {st:Stmt} {rest:List Stmt} {t u:fL} {a b c e:Expr} {ta tb te:DT} {pos:Pos}
noncomputable def fB:fL:=λE ρ=>E.nx ρ
noncomputable def jA (t u:fL):fL:=λE ρ=>t { E with nx:=u E } ρ
theorem bt:uj X [] fB:=uj.mk λH0 G0=>oH.imp yT λDn σ H ⟨E,G,ρ,eo,w,en,h⟩=>eo.nx σ H G ρ w en h
theorem ai (h1:DS X st t)(h2:uj X rest u):uj X (st::rest) (jA t u):=uj.mk λH0 G0=>oH.imp (vG (h1.ps H0 G0) (h2.Aq H0 G0)) λDn σ H ⟨E,G,ρ,eo,w,en,h⟩ =>
 ⟨{ E with nx:=u E },G,ρ,⟨λσ' H' G' ρ' w' en' h'=>⟨E,G',ρ',eo,w',en',h'⟩,eo.bk,eo.ct,eo.rt⟩,w,en,h⟩
theorem ak (h1:DS X st t):uj X [st] t:=uj.mk λH0 G0=>yU (h1.ps H0 G0)
noncomputable def gI (te:DT):fL:=λE ρ=>te (cc ρ) λ_=>E.nx ρ
noncomputable def jz (te:DT):fL:=λE ρ=>te (cc ρ) E.rt
theorem aZ (he:DE X e te):DS X (.Return (some e) pos) (jz te):=DS.mk λH0 G0=>PS.imp (xf he.pe)<|by
 rintro Dn σ H ⟨E,G,ρ,eo,w,en,h⟩;obtain ⟨G1,w1,sg,e1⟩:=en.freeze w;exact ⟨G1,cc ρ,_,w1.gh,e1.p,h,λb v H' G' p' w' r'=>eo.rt b v H' G' (w1.trans w') (r'.ahead w.hh) p'⟩
noncomputable def gL:fL:=λE _=>E.rt (.p .non)
noncomputable def e8 (i:Nat):fL:=λE ρ=>match aG ρ i with
 | some (.o d)=>E.rt (.o d)
 | _=>False
theorem ya (i:Nat){x:Str}{px:Pos}(hN:autoParam (X.N[i]?=some x) aZa._auto_1)(hv:autoParam (uk X.env.scope x) aZf._auto_1)(hd:autoParam ((x == ("__debug__" : Str))=false) aZb._auto_1)
  (hcd:autoParam ((x == ("__classdict__" : Str))=false) aZb._auto_1):DS X (.Return (some (.Name x px)) pos) (e8 i):=DS.mk λH0 G0=>PS.imp (xf (dF hN hv hd hcd))<|by
 rintro Dn σ H ⟨E,G,ρ,eo,w,en,h⟩;unfold e8 at h;split at h
 .rename_i d e;obtain ⟨a,h1,h2,h3⟩:=en.o i d e;exact ⟨.ref a,h1,eo.rt (.o d) _ H G w ⟨a,rfl,h2,h3⟩ h⟩
 .exact h.elim
noncomputable def ju (tc:iY)(t u:fL):fL:=λE ρ=>tc (cc ρ) λc=>(c=true->t E ρ)/\(c=false->u E ρ)
theorem cV {x y:List Stmt}{tc:iY}(hc:qL X c tc)(ha:uj X x t)(hb:uj X y u):DS X (.If c x y pos) (ju tc t u):=DS.mk λH0 G0=>PS.imp (E9 hc.pt (ha.Aq H0 G0) (hb.Aq H0 G0))<|by
 rintro Dn σ H ⟨E,G,ρ,eo,w,en,h⟩;obtain ⟨G1,w1,sg,e1⟩:=en.freeze w;refine ⟨G1,cc ρ,_,w1.gh,e1.p,h,λc H' G' p' w'=>?_⟩;cases c with
 | true=>exact zU ⟨E,G,ρ,eo,w.back w',en.back w'.hh,p'.1 rfl⟩
 | false=>exact zT ⟨E,G,ρ,eo,w.back w',en.back w'.hh,p'.2 rfl⟩
noncomputable def je (i:Nat)(te:DT):fL:=λE ρ=>te ρ λb=>E.nx (dput ρ i b)
noncomputable def e9 (i:Nat)(te:DT):fL:=λE ρ=>te (cc ρ) λb=>b.val.sc=true/\E.nx (dput ρ i (.p b.val))
noncomputable def gM (i:Nat)(te:DT):fL:=λE ρ=>te (cc ρ) λb=>E.nx (dput (cc ρ) i b)
theorem p8 {K:Frag}{H0 G0 H G H' G':Hp}{σ:St}{ρ:ax}{E:lF}{Dn:Ends}(i:Nat)(eo:se K H0 G0 E Dn)(w:Wd H0 G0 H G)(en:aJ K H0 G H σ ρ){b:B}{v:V}(p:E.nx (dput ρ i b))(w':Wd H G H' G')(r:gY K H G' H' v b):Dn.nx (σ.set i (some v)) H':=by
 cases b with
 | p d=>exact eo.nx _ H' G' _ (w.trans w') ((en.on w').tQ i r) p
 | o d =>
  obtain ⟨a,rfl,hn,o⟩:=r;exact eo.nx _ H' G' _ (w.trans w') (en.Ka w' i (w.hh.free hn) hn o) p
 | n t ds =>
  cases t with
  | false =>
   obtain ⟨a,as,rfl,n,g,q,na,nd,pr⟩:=r;exact eo.nx _ H' G' _ (w.trans w') (en.Fc w' w.hh i n g q na nd pr) p
  | true =>
   obtain ⟨a,as,rfl,q,nd,pr⟩:=r;exact eo.nx _ H' G' _ (w.trans w') (en.IE w' w.hh i q nd pr) p
theorem Bo {K:Frag}{H0 G0:Hp}{i:Nat}(Dn:Ends)(σ:St)(H:Hp):cS K H0 G0 (je i te) Dn σ H->cE K te σ H λv H1=>Dn.nx (σ.set i (some v)) H1:=by
 rintro ⟨E,G,ρ,eo,w,en,h⟩;exact ⟨G,ρ,_,w.gh,en.p,h,λb v H' G' p' w' r'=>p8 i eo w en p' w' r'⟩
theorem zL {K:Frag}{H0 G0:Hp}{i:Nat}(Dn:Ends)(σ:St)(H:Hp):cS K H0 G0 (e9 i te) Dn σ H->cE K te σ H λv H1=>Dn.nx (σ.set i (some v)) H1:=by
 rintro ⟨E,G,ρ,eo,w,en,h⟩;obtain ⟨G1,w1,sg,e1⟩:=en.freeze w;refine ⟨G1,cc ρ,_,w1.gh,e1.p,h,λb v H' G' p' w' r'=>?_⟩;obtain ⟨G2,w2,r2⟩:=r'.give w';exact eo.nx _ H' G _ (w.back w') ((en.back w'.hh).tQ i (r2.sc p'.1)) p'.2
noncomputable def fb (i:Nat)(te:DT):fL:=λE ρ=>te ρ λb=>E.nx (dput ρ i (.p b.val))
noncomputable def cP (i:Nat)(te:DT):fL:=λE ρ=>te (cc ρ) λb=>E.nx (dput (cc ρ) i (.p b.val))
theorem zM {K:Frag}{H0 G0:Hp}{i:Nat}(Dn:Ends)(σ:St)(H:Hp):cS K H0 G0 (fb i te) Dn σ H->cE K te σ H λv H1=>Dn.nx (σ.set i (some v)) H1:=by
 rintro ⟨E,G,ρ,eo,w,en,h⟩;refine ⟨G,ρ,_,w.gh,en.p,h,λb v H' G' p' w' r'=>?_⟩;obtain ⟨G2,w2,r2⟩:=r'.give w';exact p8 i eo w en (b:=.p b.val) p' w2 r2
theorem wC {K:Frag}{H0 G0:Hp}{i:Nat}(Dn:Ends)(σ:St)(H:Hp):cS K H0 G0 (cP i te) Dn σ H->cE K te σ H λv H1=>Dn.nx (σ.set i (some v)) H1:=by
 rintro ⟨E,G,ρ,eo,w,en,h⟩;obtain ⟨G1,w1,sg,e1⟩:=en.freeze w;refine ⟨G1,cc ρ,_,w1.gh,e1.p,h,λb v H' G' p' w' r'=>?_⟩;obtain ⟨G2,w2,r2⟩:=r'.give w';exact p8 i eo w1 e1 (b:=.p b.val) p' w2 r2
section
variable {i:Nat} {x:Str} {px:Pos}
theorem iE (hN:X.N.Nodup)(hi:X.N[i]?=some x)(hx:Loc X.env.scope x)(he:DE X e te)(hs:autoParam (swapsWith e (some (.Name x px)) pos.line X.env=pure false) aZa._auto_1)(hf:autoParam (X.fn x=true\/X.env.scope.names.lookup x=some .local) aZd._auto_1) :
  DS X (.Assign [.Name x px] e pos) (je i te):=DS.mk λH0 G0=>PS.imp (lu hN hi hx he.pe hs hf) Bo
theorem aE (hN:X.N.Nodup)(hi:X.N[i]?=some x)(hx:Loc X.env.scope x)(he:DE X e te)(hs:autoParam (swapsWith e (some (.Name x px)) pos.line X.env=pure false) aZa._auto_1)(hf:autoParam (X.fn x=true\/X.env.scope.names.lookup x=some .local) aZd._auto_1) :
  DS X (.Assign [.Name x px] e pos) (fb i te):=DS.mk λH0 G0=>PS.imp (lu hN hi hx he.pe hs hf) zM
theorem yc (hN:X.N.Nodup)(hi:X.N[i]?=some x)(hx:Loc X.env.scope x)(he:DE X e te)(hs:autoParam (swapsWith e (some (.Name x px)) pos.line X.env=pure false) aZa._auto_1)(hf:autoParam (X.fn x=true\/X.env.scope.names.lookup x=some .local) aZd._auto_1) :
  DS X (.Assign [.Name x px] e pos) (e9 i te):=DS.mk λH0 G0=>PS.imp (lu hN hi hx he.pe hs hf) zL
variable {tg iter elt:Expr} {ifs:List Expr} {scope:Scope} {spos:Pos} {ti:fq} {g:Tg} {tc:iY}
theorem wB (hNd:X.N.Nodup)(hy:X.N[i]?=some x)(hly:Loc X.env.scope x)(N':List Str)(fr:List (Option Nat))(hc:X.calm=true)(hi:DI X tg iter ti)
  (hg:∀cl fp C s H,PG (ug X scope N' cl fp C s H) tg (g.v X.K)) (ht:∀cl fp C s H,C5 (ug X scope N' cl fp C s H) ifs tc) (he:∀cl fp C s H,DE (ug X scope N' cl fp C s H) elt te)
  {sc0:Scope} {N0:List Str} (htg:autoParam (Hf fr g=true) aZb._auto_1) (hsw:autoParam (swapsWith (.ListComp elt [⟨tg,iter,ifs,0⟩] scope pos) (some (.Name x px)) spos.line X.env=pure true) aZa._auto_1)
  (hsc:autoParam (X.env.scope=sc0) aZa._auto_1) (hN:autoParam (X.N=N0) aZa._auto_1) (bC:autoParam (j8 sc0 N0 scope N' fr=true) aZe._auto_1) (hs:autoParam (∀x,foldedSetIterable iter X.env x=pure x) aZc._auto_1)
  (hf:autoParam (X.fn x=true\/X.env.scope.names.lookup x=some .local) aZg._auto_1) :
  DS X (.Assign [.Name x px] (.ListComp elt [⟨tg,iter,ifs,0⟩] scope pos) spos) (cP i (sD ti fr g tc te)):=DS.mk λH0 G0 =>
 PS.imp (Cv (tc:=cT X.K tc) (te:=cE X.K te) hNd hy hly N' fr hc hi.pi hg (λcl fp C s H=>(ht cl fp C s H).pf) (λcl fp C s H=>(he cl fp C s H).pe) hsw hsc hN bC hs hf) λDn σ H h=>yz htg σ H _ (wC Dn σ H h)
noncomputable def ja (i:Nat)(te:DT)(f:Int->Int->Int):fL:=λE ρ=>match aG ρ i with
 | some (.p (.int m))=>te (cc ρ) λb=>match b.val with
  | .int n=>E.nx (dput ρ i (.p (.int (f m n))))
  | _=>False
 | _=>False
theorem Bk {op:Operator}{f:Int->Int->Int}(hN:X.N.Nodup)(hi:X.N[i]?=some x)(hx:Loc X.env.scope x)(he:DE X e te)(ho:Hx X op (Ju f))(hf:autoParam (X.fn x=true\/X.env.scope.names.lookup x=some .local) aZd._auto_1) :
  DS X (.AugAssign (.Name x px) op e pos) (ja i te f):=DS.mk λH0 G0=>PS.imp (GG hN hi hx he.pe ho hf)<|by
 rintro Dn σ H ⟨E,G,ρ,eo,w,en,h⟩;unfold ja at h;split at h
 .rename_i m q;obtain ⟨G1,w1,sg,e1⟩:=en.freeze w;obtain ⟨v,h1,h2⟩:=en.p i _ q;cases h2;refine ⟨_,h1,G1,cc ρ,_,w1.gh,e1.p,h,λb v H' G' p' w' r'=>?_⟩;split at p'
  .rename_i n e;exact ⟨m,n,rfl,eK w' r' e,eo.nx _ H' G _ (w.back w') ((en.back w'.hh).tQ i (.int _)) p'⟩
  .exact p'.elim
 .exact h.elim
end
noncomputable def jr (te:DT)(g:Tg):fL:=λE ρ=>te ρ λb=>g.d b.val ρ E.nx
theorem FP {tg:Expr}{g:Tg}(he:DE X e te)(hg:PG X tg (g.v X.K))(hs:autoParam (swapsWithSole [tg] e pos.line X.env=pure false) aZa._auto_1)(hw:autoParam (swappedStores [tg] e X.env=pure none) aZa._auto_1)
  (h1:autoParam ((assignEach [tg] X.env).map (·.2) = [assign tg X.env]) aZa._auto_1):DS X (.Assign [tg] e pos) (jr te g):=DS.mk λH0 G0=>PS.imp (tN he.pe hg hs hw h1)<|by
 rintro Dn σ H ⟨E,G,ρ,eo,w,en,h⟩;refine ⟨G,ρ,_,w.gh,en.p,h,λb v H' G' p' w' r'=>?_⟩;obtain ⟨G2,w2,r2⟩:=r'.give w';exact Tg.ok w2.gh (en.on w2) r2 p' λσ' ρ' e' q=>eo.nx σ' H' G2 ρ' (w.trans w2) e' q
theorem aJ.GS {K:Frag}{H0 G H:Hp}{σ:St}{ρ:ax}{i:Nat}{a:Addr}{ds ds':List D}{vs:List V}(e:aJ K H0 G H σ ρ)(h1:aG ρ i=some (.o (.lst ds)))(h2:σ[i]?=some (some (.ref a)))(r:aY K G vs ds'):aJ K H0 G (upd H a (.lst vs)) σ (dput ρ i (.o (.lst ds'))):=by
 obtain ⟨o,e⟩:=e;have hlt:=x6 h1;obtain ⟨a',h3,h4,h4',h5⟩:=e.o i _ h1;rw[h2] at h3;cases h3;refine ⟨o,by rw[eP];exact e.len,λj d q=>?_,λj d q=>?_,λj t dss q=>?_⟩
 .rcases aN q with ⟨rfl,_,q⟩ | ⟨hne,q⟩
  .cases q
  .exact e.p j d q
 .rcases aN q with ⟨rfl,_,q⟩ | ⟨hne,q⟩
  .cases q;exact ⟨a,h2,h4,h4',h5.1,vs,aA,r⟩
  .obtain ⟨b,k1,k2,k2',k3⟩:=e.o j d q;refine ⟨b,k1,k2,k2',k3.d7 (ao.refl _) k3.1 λo z=>?_⟩;have:b≠a:=by
    rintro rfl;exact hne (h4'.symm.trans k2')
   rw[aq this];exact z
 .rcases aN q with ⟨rfl,_,q⟩ | ⟨hne,q⟩
  .cases q
  .obtain ⟨b,k1,k2⟩:=e.n j t dss q;refine ⟨b,k1,k2.d7 (ao.refl _) λx z1 z2 z3 z4=>⟨z3,z2,λo z=>?_⟩⟩;have:x≠a:=by
    rintro rfl;exact hne (h4'.symm.trans z2)
   rw[aq this];exact z
noncomputable def i9 (i:Nat)(te:DT):fL:=λE ρ=>match aG ρ i with
 | some (.o (.lst ds))=>te ρ λb=>ds.length<sizeLine/\E.nx (dput ρ i (.o (.lst (ds++[b.val]))))
 | _=>False
noncomputable def gH (i:Nat)(te:DT):fL:=λE ρ=>match aG ρ i with
 | some (.o (.lst ds))=>te (cc ρ) λb=>b.val.sc=true/\ds.length<sizeLine/\E.nx (dput ρ i (.o (.lst (ds++[b.val]))))
 | _=>False
theorem Dj {K:Frag}{H0 G0 G H:Hp}{σ:St}{ρ:ax}{i:Nat}{a:Addr}{ds:List D}{vs:List V}{v:V}{d:D}{E:lF}{Dn:Ends}(eo:se K H0 G0 E Dn)(w:Wd H0 G0 H G)(e:aJ K H0 G H σ ρ)(h1:aG ρ i=some (.o (.lst ds)))(h2:σ[i]?=some (some (.ref a)))(h3:H a=some (.lst vs))(r:aY K G vs ds)(rv:Rep K G v d)(hz:ds.length<sizeLine)(p:E.nx (dput ρ i (.o (.lst (ds++[d]))))) :
  yX (.ref a) [v] H λ_ H3=>Dn.nx σ H3:=by
 obtain ⟨a',k1,k2,k3⟩:=e.o i _ h1;rw[h2] at k1;cases k1;exact ⟨a,vs,v,rfl,rfl,h3,by rw[Paired.length r];exact hz,eo.nx σ _ G _ (w.own k2 k3.1) (e.GS h1 h2 (bA r (.cons rv .nil))) p⟩
section
variable {i:Nat} {x:Str} {px apos cpos spos:Pos}
theorem sJ (hN:X.N[i]?=some x)(hv:uk X.env.scope x)(he:DE X e te)(hd:autoParam ((x == ("__debug__" : Str))=false) aZb._auto_1)(hcd:autoParam ((x == ("__classdict__" : Str))=false) aZb._auto_1)
  (hbase:autoParam (attributeBase (.Name x px) "append" X.env (eval (.Name x px) X.env)=eval (.Name x px) X.env) aZa._auto_1)
  (hfew:autoParam (((backTo cpos (starEach (e::[]) X.env)).all (λx=>!x.1) && (backToKw cpos (keywordEach [] X.env)).all (λx=>x.1.isSome)
   && decide ((e::[]).length+([]:List Keyword).length+(if ([]:List Keyword).isEmpty then 0 else 1)<30))=true) aZa._auto_1)
  (hline:autoParam ((apos.endLine == cpos.line)=true) aZa._auto_1) (hs:autoParam (starEach (e::[]) X.env=(false,eval e X.env)::starEach [] X.env) aZa._auto_1) (hplain:autoParam ((backTo cpos (starEach [] X.env)).any (·.1)=false) aZa._auto_1)
  (hsw:autoParam (swapsWith (.Call (.Attribute (.Name x px) "append" apos) [e] [] cpos) none spos.line X.env=pure false) aZa._auto_1) :
  DS X (.Expr (.Call (.Attribute (.Name x px) "append" apos) [e] [] cpos) spos) (i9 i te):=DS.mk λH0 G0 =>
 PS.imp (oz (yO PySem.F.plainAttrs_list PySem.F.slot_list_append PySem.F.type_list_append ku (dF hN hv hd hcd) (fu he.pe iI hs) hbase hfew hline hs hplain) hsw)<|by
  rintro Dn σ H ⟨E,G,ρ,eo,w,en,h⟩;unfold i9 at h;split at h
  .rename_i ds q;obtain ⟨a,h1,h2,h3,vs,h4,h5⟩:=en.o i _ q;refine ⟨_,h1,.inl ⟨rfl,_,dA.of h4⟩,G,ρ,_,w.gh,en.p,h,λb v H' G' p' w' r'=>?_⟩;obtain ⟨G2,w2,r2⟩:=r'.give w';exact Dj eo (w.trans w2) (en.on w2) q h1 (w2.hh _ _ h4) (aY.mono w2.gg h5) r2 p'.1 p'.2
  .exact h.elim
noncomputable def eO (i:Nat)(tk te:DT):fL:=λE ρ=>te ρ λb=>match aG ρ i with
 | some (.o (.lst ds))=>tk (cc ρ) λk=>match k.val with
  | .int z=>∃j,yt ds.length z=some j/\E.nx (dput ρ i (.o (.lst (ds.set j b.val))))
  | _=>False
 | _=>False
noncomputable def cR (i:Nat)(tk te:DT):fL:=λE ρ=>te (cc ρ) λb=>b.val.sc=true/\match aG ρ i with
 | some (.o (.lst ds))=>tk (cc ρ) λk=>match k.val with
  | .int z=>∃j,yt ds.length z=some j/\E.nx (dput ρ i (.o (.lst (ds.set j b.val))))
  | _=>False
 | _=>False
theorem pL {α β:Type}{F:α->β->Prop}{v:α}{d:β}(h:F v d):∀{l:List α} {r:List β} (j:Nat),Paired F l r->Paired F (l.set j v) (r.set j d)
 | _,_,_,.nil=>.nil
 | _,_,0,.cons _ t=>.cons h t
 | _,_,j+1,.cons k t=>.cons k (pL h j t)
noncomputable def eL (i:Nat)(tk te:DT)(f:Int->Int->Int):fL:=λE ρ=>match aG ρ i with
 | some (.o (.lst ds))=>tk (cc ρ) λk=>match k.val with
  | .int z=>∃j m,yt ds.length z=some j/\ds[j]?=some (.int m)/\te (cc ρ) λb=>match b.val with
   | .int n=>E.nx (dput ρ i (.o (.lst (ds.set j (.int (f m n))))))
   | _=>False
  | _=>False
 | _=>False
end
noncomputable def Bz (g:Tg)(tb:fL)(E:lF)(xs:List D)(ρ:ax):Prop:=∃I:Nat->ax->Prop,I 0 ρ /\
 (∀i d ρ,xs[i]?=some d->I i ρ->g.d d ρ λρ'=>tb { E with nx:=I (i+1),ct:=I (i+1),bk:=E.nx } ρ')/\∀ρ,I xs.length ρ->E.nx ρ
noncomputable def jt (ti:fq)(g:Tg)(tb:fL):fL:=λE ρ=>ti ρ λxs=>Bz g tb E xs ρ
noncomputable def gJ (ti:fq)(g:Tg)(tb:fL):fL:=λE ρ=>ti (cc ρ) λxs=>Bz g tb E xs (cc ρ)
theorem Wd.base {H0 G0 H9 G9 H G:Hp}(w9:Wd H0 G0 H9 G9)(w:Wd H0 G9 H G):Wd H0 G0 H G:=⟨w.hh,w9.gg.trans w.gg,w.gh,λa h=>by rw[w.old a h,w9.old a h]⟩
noncomputable def cX (K:Frag)(t:fL):TS:=λDn σ H=>∃H0 G0,cS K H0 G0 t Dn σ H
theorem uj.x {sts:List Stmt}(h:uj X sts t):oH X sts (cX X.K t):=λpins s σ H D I ⟨H0,G0,q⟩=>h.Aq H0 G0 pins s σ H D I q
theorem uO {K:Frag}{H0 G0 G H:Hp}{σ:St}{ρ:ax}{g:Tg}{tb:fL}{J:It}{xs:List D}{E:lF}{Dn:Ends}(eo:se K H0 G0 E Dn)(w:Wd H0 G0 H G)(en:aJ K H0 G H σ ρ)(it:Hm K G J xs)(h:Bz g tb E xs ρ) :
    ∃W:Nat->Nat->St->Hp->Prop,(∃m,W 0 m σ H)/\∀i m σ H,W i m σ H ->
      (J.stop i H/\Dn.nx σ H)\/(J.go i H/\∃N:St->Hp->Prop,(∀σ' H',N σ' H'->∃m',m'<m/\W (i+1) m' σ' H')/\∀x H',J.C3 i H x H'->g.v K x σ H' λσ2 H2=>cX K tb { Dn with nx:=N,ct:=N,bk:=Dn.nx } σ2 H2):=by
  obtain ⟨I,i0,is,ie⟩:=h;have w0:Wd H0 G H G:=⟨w.hh,ao.refl _,w.gh,λ_ _=>rfl⟩
  refine ⟨λi m σ H=>m=xs.length - i/\i<=xs.length/\∃G' ρ',Wd H0 G H G'/\aJ K H0 G' H σ ρ'/\I i ρ',⟨xs.length,by simp,LS _,G,ρ,w0,en,i0⟩,?_⟩;rintro i m σ H ⟨rfl,hi,G',ρ',w',en',p⟩;by_cases hlt:i<xs.length
  · have hx:xs[i]?=some xs[i]:=Lm hlt;refine .inr ⟨it.go i _ H G' hx w'.gg w'.gh,λσ2 H2=>∃G2 ρ2,Wd H0 G H2 G2/\aJ K H0 G2 H2 σ2 ρ2/\I (i+1) ρ2,by rintro σ2 H2 ⟨G2,ρ2,z⟩;exact ⟨xs.length - (i+1),by lia,rfl,hlt,G2,ρ2,z⟩,λx H2 y=>?_⟩;obtain ⟨G2,w2,r2⟩:=it.C3 i _ H G' x H2 hx w'.gg w'.gh y;refine Tg.ok w2.gh (en'.on w2) r2 (is i _ ρ' hx p) λσ3 ρ3 e3 p3=>?_;exact ⟨H0,G,{ E with nx:=I (i+1),ct:=I (i+1),bk:=E.nx },G2,ρ3,⟨λσ4 H4 G4 ρ4 w4 e4 p4=>⟨G4,ρ4,w4,e4,p4⟩,λσ4 H4 G4 ρ4 w4 e4 p4=>eo.nx σ4 H4 G4 ρ4 (w.base w4) e4 p4,λσ4 H4 G4 ρ4 w4 e4 p4=>⟨G4,ρ4,w4,e4,p4⟩,λb v H4 G4 w4 r4 p4=>eo.rt b v H4 G4 (w.base w4) r4 p4⟩,w'.trans w2,e3,p3⟩
  · have e : i = xs.length := by lia
    subst e;exact .inl ⟨it.stop _ H G' rfl w'.gg w'.gh,eo.nx σ H G' ρ' (w.base w') en' (ie ρ' p)⟩
section
variable {tg iter:Expr} {body:List Stmt} {ti:fq} {g:Tg} {tb:fL}
theorem kW (hp:PassesOwn (model X.prog X.w) X.A X.env X.xe)(hc:X.calm=true)(hi:DI X tg iter ti)(hg:PG X tg (g.v X.K))(hb:uj X body tb)(hs:autoParam (∀x,foldedSetIterable iter X.env x=pure x) aZc._auto_1):DS X (.For tg iter body [] pos) (jt ti g tb):=DS.mk λH0 G0 =>
 PS.imp (xc hp hc hi.pi hg hb.x hs) (by rintro Dn σ H ⟨E,G,ρ,eo,w,en,h⟩;exact ⟨G,ρ,_,w.gh,en.p,h,λxs J H' G' p' w' it=>uO eo (w.trans w') (en.on w') it p'⟩)
noncomputable def KI (K:Frag)(t:fq):TI:=λσ H R=>∃(G:Hp) (ρ:ax) (P:List D->Prop),ao G H/\eF K G σ ρ/\t ρ P/\∀xs J H' G',P xs->Wd H G H' G'->(∀G,Hm K G J xs)->R J H'
structure C6 (X:Cx)(tg e:Expr)(t:fq):Prop where
 pi:PI X tg e (KI X.K t)
theorem C6.of {e:Expr}{t:TI}{t':fq}(h:PI X tg e t)(i:∀σ H Q,KI X.K t' σ H Q->t σ H Q):C6 X tg e t':=⟨PI.imp h i⟩
theorem C6.di {e:Expr}{t:fq}(h:C6 X tg e t):DI X tg e t:=DI.of h.pi λσ H R ⟨G,ρ,P,s,re,h,k⟩=>⟨G,ρ,P,s,re,h,λxs J H' G' p' w' it=>k xs J H' G' p' w' (it G')⟩
theorem lX {a:Expr}{t:fq}{p:Pos}(hg:Gl X "range")(hm:X.mg "range" = none)(ha:DA X [a] t)(hs:autoParam (starEach [a] X.env = [(false,eval a X.env)]) aZa._auto_1):C6 X tg (.Call (.Name "range" p) [a] [] pos) (cY t):=
 C6.of (An hg hm ha.pa hs)<|by
  rintro σ H R ⟨G,ρ,P,s,re,h,k⟩;refine ⟨G,ρ,_,s,re,h,λds vs H1 G1 p1 l1 w1 r1=>?_⟩;split at p1
  .obtain ⟨v,rfl,rv⟩:=gw r1;cases rv;exact ⟨_,rfl,p1.1.1,p1.1.2,k _ _ H1 G1 p1.2 w1 λ_=>yq⟩
  .exact p1.elim
theorem oY {a b:Expr}{t:fq}{p:Pos}(hg:Gl X "range")(hm:X.mg "range" = none)(ha:DA X [a,b] t)(hs:autoParam (starEach [a,b] X.env = [(false,eval a X.env),(false,eval b X.env)]) aZa._auto_1)(hs2:autoParam (starEach [b] X.env = [(false,eval b X.env)]) aZa._auto_1) :
  C6 X tg (.Call (.Name "range" p) [a,b] [] pos) (cZ t):=
 C6.of (Ao hg hm ha.pa hs hs2)<|by
  rintro σ H R ⟨G,ρ,P,s,re,h,k⟩;refine ⟨G,ρ,_,s,re,h,λds vs H1 G1 p1 l1 w1 r1=>?_⟩;split at p1
  .obtain ⟨v,v',rfl,rv,rv'⟩:=Fg r1;cases rv;cases rv';exact ⟨_,_,rfl,p1.1,k _ _ H1 G1 p1.2 w1 λ_=>yq⟩
  .exact p1.elim
noncomputable def fA (ti:fq)(g:Tg)(tb:fL):fL:=λE ρ=>ti (cc ρ) λxs=>Bz g tb E xs ρ
theorem lZ (hp:PassesOwn (model X.prog X.w) X.A X.env X.xe)(hc:X.calm=true)(hi:C6 X tg iter ti)(hg:PG X tg (g.v X.K))(hb:uj X body tb)(hs:autoParam (∀x,foldedSetIterable iter X.env x=pure x) aZc._auto_1):DS X (.For tg iter body [] pos) (fA ti g tb):=DS.mk λH0 G0 =>
 PS.imp (xc hp hc hi.pi hg hb.x hs)<|by
  rintro Dn σ H ⟨E,G,ρ,eo,w,en,h⟩;obtain ⟨G1,w1,sg,e1⟩:=en.freeze w;exact ⟨G1,cc ρ,_,w1.gh,e1.p,h,λxs J H' G' p' w' it=>uO eo (w.back w') (en.back w'.hh) (it G) p'⟩
noncomputable def Bf (tc:iY)(tb:fL):fL:=λE ρ=>∃(I:ax->Prop) (μ:ax->Nat),I ρ/\∀ρ,I ρ->tc (cc ρ) λc=>(c=true->tb { E with nx:=λρ'=>I ρ'/\μ ρ'<μ ρ,ct:=λρ'=>I ρ'/\μ ρ'<μ ρ,bk:=E.nx } ρ)/\(c=false->E.nx ρ)
theorem Bn {tc:iY}(hp:PassesOwn (model X.prog X.w) X.A X.env X.xe)(hc:qL X c tc)(hb:uj X body tb):DS X (.While c body [] pos) (Bf tc tb):=DS.mk λH0 G0 =>
 PS.imp (Cw hp hc.pt (hb.Aq H0 G0))<|by
  rintro Dn σ H ⟨E,G,ρ,eo,w,en,I,μ,i0,h⟩;refine ⟨λm σ H=>∃G ρ,m=μ ρ/\Wd H0 G0 H G/\aJ X.K H0 G H σ ρ/\I ρ,⟨_,G,ρ,rfl,w,en,i0⟩,?_⟩;rintro m σ H ⟨G,ρ,rfl,w,en,i0⟩;obtain ⟨G1,w1,sg,e1⟩:=en.freeze w;refine ⟨G1,cc ρ,_,w1.gh,e1.p,h ρ i0,λc H' G' p' w'=>?_⟩;cases c with
  | true =>
   refine zU ⟨λσ' H'=>∃G' ρ',Wd H0 G0 H' G'/\aJ X.K H0 G' H' σ' ρ'/\I ρ'/\μ ρ'<μ ρ,by rintro σ' H' ⟨G',ρ',w',e',i',l⟩;exact ⟨_,l,G',ρ',rfl,w',e',i'⟩,_,G,ρ,?_,w.back w',en.back w'.hh,p'.1 rfl⟩;exact ⟨λσ4 H4 G4 ρ4 w4 e4 p4=>⟨G4,ρ4,w4,e4,p4⟩,λσ4 H4 G4 ρ4 w4 e4 p4=>eo.nx σ4 H4 G4 ρ4 w4 e4 p4,λσ4 H4 G4 ρ4 w4 e4 p4=>⟨G4,ρ4,w4,e4,p4⟩,eo.rt⟩
  | false=>exact zT (eo.nx σ H' G ρ (w.back w') (en.back w'.hh) (p'.2 rfl))
end
end
noncomputable def bu:Nat->List D->ax
 | 0,ds=>ds.map λd=>some (.p d)
 | n+1,[]=>none::bu n []
 | n+1,d::ds=>some (.p d)::bu n ds
theorem fX {K:Frag}{G:Hp}:∀(n:Nat) {vs:List V} {ds:List D},aY K G vs ds->eF K G (vs.map some++LW (n - vs.length) none) (bu n ds)/\(vs.map some++LW (n - vs.length) (none:Option V)).length=(bu n ds).length/\∀i d,aG (bu n ds) i≠some (.o d)
 | 0,_,_,.nil=>⟨λi d h=>(nomatch (show (none:Option B)=some (.p d) from h)),rfl,λi d h=>(nomatch (show (none:Option B)=some (.o d) from h))⟩
 | 0,_,_,.cons (a:=v) (b:=d) (l₁:=vs) (l₂:=ds) r rr=>by
  obtain ⟨h1,h2,h3⟩:=fX (K:=K) (G:=G) 0 rr;have e0:bu 0 (d::ds)=some (.p d)::bu 0 ds:=rfl;have e1:(v::vs).map some++LW (0 - (v::vs).length) (none:Option V)=some v::(vs.map some++LW (0 - vs.length) none):=by simp
  rw[e0,e1];refine ⟨λi d' h=>?_,by rw[LN,LN,h2],λi d' h=>?_⟩
  .cases i with
   | zero=>cases h;exact ⟨v,rfl,r⟩
   | succ i=>exact h1 i d' h
  .cases i with
   | zero=>cases h
   | succ i=>exact h3 i d' h
 | n+1,_,_,.nil=>by
  obtain ⟨h1,h2,h3⟩:=fX (K:=K) (G:=G) n (vs:=[]) (ds:=[]) .nil;have e1:([]:List V).map some++LW (n+1 - ([]:List V).length) (none:Option V)=none::(([]:List V).map some++LW (n - ([]:List V).length) none):=by simp[List.replicate_succ]
  rw[e1];refine ⟨λi d' h=>?_,by show _=(none::bu n []).length;rw[LN,LN,h2],λi d' h=>?_⟩
  .cases i with
   | zero=>cases h
   | succ i=>exact h1 i d' h
  .cases i with
   | zero=>cases h
   | succ i=>exact h3 i d' h
 | n+1,_,_,.cons (a:=v) (b:=d) (l₁:=vs) (l₂:=ds) r rr=>by
  obtain ⟨h1,h2,h3⟩:=fX (K:=K) (G:=G) n rr;have e1:(v::vs).map some++LW (n+1 - (v::vs).length) (none:Option V)=some v::(vs.map some++LW (n - vs.length) none):=by simp
  rw[e1];refine ⟨λi d' h=>?_,by show _=(some (B.p d)::bu n ds).length;rw[LN,LN,h2],λi d' h=>?_⟩
  .cases i with
   | zero=>cases h;exact ⟨v,rfl,r⟩
   | succ i=>exact h1 i d' h
  .cases i with
   | zero=>cases h
   | succ i=>exact h3 i d' h
theorem iq:∀(n:Nat) (ds:List D) (i:Nat) (b:B),aG (bu n ds) i=some b->∃d,b=.p d
 | 0,[],_,_,h=>by cases h
 | 0,d::ds,0,_,h=>by cases h;exact ⟨_,rfl⟩
 | 0,d::ds,i+1,b,h=>iq 0 ds i b h
 | n+1,[],0,_,h=>by cases h
 | n+1,[],i+1,b,h=>iq n [] i b h
 | n+1,d::ds,0,_,h=>by cases h;exact ⟨_,rfl⟩
 | n+1,d::ds,i+1,b,h=>iq n ds i b h
section
variable {P:LH} {w:LR} {K:Frag} {mg:Str->Option Lg} {base:Heap}
theorem tF {x qual:Str}{st:Stmt}{f:Addr}{fd:FuncData}{N ps:List Str}{k:Nat}{R:DR}(F:lH K x qual st f fd)(S:aX N ps (af st))(len:∀ds Q,R ds Q->ds.length=ps.length)
  (hbody:∀(cdv:Lg) (A:LQ) (outer:List Env) (s:Li) (H:Hp) (E:XK),cN k (A.deeper (PyProof.Rows.envOfC qual (af st) s.heap.objs.size f cdv)) ->
   ∃t,uj (sA iX P w K mg base N qual (af st) f cdv A outer s H E).E7 (aI st) t/\∀ds Q,R ds Q->t { nx:=λ_=>Q (.p .non),rt:=Q } (bu N.length ds)):cH P w K mg base iX (k+1) f fd ps (dN K R):=by
 refine F.ok S (by rintro vs H Q E ⟨ds,G,P,s,r,h,_⟩;rw[Paired.length r];exact len ds P h) ?_;rintro cdv A outer s H vs Q E hr ⟨ds,G,P,sg,r,h,k⟩;obtain ⟨t,h1,h2⟩:=hbody cdv A outer s H E hr;obtain ⟨e1,e2,e3⟩:=fX (K:=K) N.length r;refine ⟨_,h1.Aq H G,_,G,_,?_,Wd.refl sg,aJ.only e2 e1 (iq _ _),h2 ds P h⟩;exact ⟨λσ H' G' ρ w' _ p=>k _ _ H' G' p w' (show Rep K G' V.non D.non from .non),λσ H' G' ρ w' _ p=>p.elim,λσ H' G' ρ w' _ p=>p.elim,λb v H' G' w' r' p=>k b v H' G' p w' r'⟩
end
end DL
namespace DL
open PySem L2
section
variable {X:Cx} {tg e:Expr} {te:DT} {pos:Pos} {es:List Expr}
theorem HK {x:Str}{i:Int}(hg:Gl X x)(h:∃t,X.mg x=some (.int i t))(hd:autoParam ((x == ("__debug__" : Str))=false) aZb._auto_1):DE X (.Name x pos) (dC (.int i)):=Du (IA hg h hd) λ_=>.int i
noncomputable def EW:DR:=λds P=>match ds with
 | [.lst xs]=>∃ns:List Int,xs=ns.map D.int/\ns≠[]/\∀m,m∈ns->(∀n∈ns,n<=m)->P (.p (.int m))
 | _=>False
theorem xC (hc:X.calm=true):CallD X (.builtin "max") EW:=by
 refine ⟨_,zw hc,λH G vs ds P Q s r h k=>?_⟩;unfold EW at h;split at h
 .obtain ⟨ns,rfl,hn,h⟩:=h;obtain ⟨v,rfl,rv⟩:=gw r;obtain ⟨a,us,rfl,e,rr⟩:=rv.lst_inv;rw[ff rr] at e;exact ⟨a,ns,rfl,dA.of (s _ _ e),hn,λm h1 h2=>k _ _ H G (h m h1 h2) (Wd.refl s) (.int _)⟩
 .exact h.elim
theorem Ia {K:Frag}{G:Hp}{Src:Hp->List (List V)->Prop}{rows:List (List V)}{xs:List D}(hs:∀H,ao G H->Src H rows)(r:Paired (λrow d=>∃ds,d=D.tup ds/\aY K G row ds) rows xs):Hm K G (Jo Src) xs where
 go:=λi d H G' e s1 s2=>by
  obtain ⟨row,h1,h2⟩:=bE r e;exact ⟨rows,row,hs H (s1.trans s2),h1⟩
 C3:=λi d H G' x H' e s1 s2 y=>by
  obtain ⟨row,h1,ds,rfl,h2⟩:=bE r e;obtain ⟨row',p,h3,h4,rfl,rfl⟩:=y rows (hs H (s1.trans s2));rw[h1] at h3;cases h3;exact ⟨_,(Wd.refl s2).new h4,Rep.uc aA (aY.mono (eZ (s2.free h4)) (aY.mono s1 h2))⟩
 stop:=λi H G' hi s1 s2=>⟨rows,hs H (s1.trans s2),by rw[Paired.length r,hi]⟩
noncomputable def bJ:Nat->List D->List D
 | _,[]=>[]
 | k,x::xs=>.tup [.int (k:Nat),x]::bJ (k+1) xs
theorem eR:∀(k:Nat) (xs:List D),(bJ k xs).length=xs.length
 | _,[]=>rfl
 | k,x::xs=>by show (bJ (k+1) xs).length+1=_;rw[eR];rfl
theorem eQ:∀{k:Nat} {xs:List D} {i:Nat} {d:D},(bJ k xs)[i]?=some d->∃x,xs[i]?=some x/\d=.tup [.int ((k+i:Nat):Int),x]
 | _,[],_,_,h=>by simp[bJ] at h
 | k,x::xs,0,d,h=>⟨x,rfl,by simpa [bJ] using h.symm⟩
 | k,x::xs,i+1,d,h=>by
  have h':(bJ (k+1) xs)[i]?=some d:=by simpa [bJ] using h
  obtain ⟨y,h1,h2⟩:=eQ h';exact ⟨y,by simpa using h1,by rw[h2];congr 3;lia⟩
noncomputable def aB (t:fq):fq:=λρ P=>t ρ λds=>match ds with
 | [.lst xs]=>P (bJ 0 xs)
 | _=>False
theorem Av {K:Frag}{G:Hp}{vs:List V}{ds:List D}(r:aY K G vs ds):Paired (λrow d=>∃ds,d=D.tup ds/\aY K G row ds) (hV vs) (bJ 0 ds):=by
 refine aC (by rw[mf,eR,Paired.length r]) λi row d h1 h2=>?_;obtain ⟨x,h3,rfl⟩:=eQ h2;obtain ⟨v,h4,h5⟩:=bE r h3;rw[md h4] at h1;cases h1;exact ⟨_,rfl,.cons (by rw[Nat.zero_add];exact .int _) (.cons h5 .nil)⟩
theorem lV {elts:List Expr}{kx:Nat}{tpos:Pos}{l:Expr}{t:fq}{p:Pos}(hg:Gl X "enumerate")(hm:X.mg "enumerate" = none)(ha:DA X [l] t)(hs:autoParam (starEach [l] X.env = [(false,eval l X.env)]) aZa._auto_1):DI X (.Tuple elts kx tpos) (.Call (.Name "enumerate" p) [l] [] pos) (aB t):=
 DI.of (Et hg hm ha.pa hs)<|by
  rintro σ H R ⟨G,ρ,P,s,re,h,k⟩;refine ⟨G,ρ,_,s,re,h,λds vs H1 G1 p1 l1 w1 r1=>?_⟩;split at p1
  .obtain ⟨v,rfl,rv⟩:=gw r1;obtain ⟨a,us,rfl,e,rr⟩:=rv.lst_inv;exact ⟨a,us,rfl,w1.gh _ _ e,k _ _ H1 G1 p1 w1 (Ia (λH s=>⟨us,s _ _ e,rfl⟩) (Av rr))⟩
  .exact p1.elim
noncomputable def Ky (xs ys:List D):List D:=(xs.zip ys).map λp=>.tup [p.1,p.2]
noncomputable def cq (t:fq):fq:=λρ P=>t ρ λds=>match ds with
 | [.lst xs,.lst ys]=>P (Ky xs ys)
 | _=>False
noncomputable def aK (t:fq):fq:=λρ P=>t ρ λds=>match ds with
 | [.lst xs]=>P xs.reverse
 | _=>False
noncomputable def FO (a:Int)(n:Nat):List D:=(LD n).map λi=>D.int (a+(i:Nat)*(-1))
noncomputable def cU (t:fq):fq:=λρ P=>t ρ λds=>match ds with
 | [.int j]=>(0<=j/\j<2 ^ 62)/\P (FO (j - 1) j.toNat)
 | _=>False
end
end DL
namespace DL
open PySem L2
noncomputable def IY (K:Frag):Sp:=λvs H Q _=>∃(a:Addr) (ns:List Int),vs = [.ref a]/\dA K H a (ns.map V.int)/\ns.length<=63/\∀H',Q (.bl true) H'
noncomputable def CD:DR:=λds P=>∃ns:List Int,ds = [.scr ns]/\ns.length<=63/\P (.p (.bl true))
theorem m6 {P P':ax->Prop}(i:∀ρ,P ρ->P' ρ):∀{is:List Nat} {ds:List D} {ρ:ax},putN is ds ρ P->putN is ds ρ P'
 | [],[],ρ,h=>i ρ h
 | _::is,_::ds,_,h=>m6 i (is:=is) (ds:=ds) h
 | [],_::_,_,h=>h.elim
 | _::_,[],_,h=>h.elim
theorem CW {g:Tg}{d:D}{ρ:ax}{P P':ax->Prop}(h:g.d d ρ P)(i:∀ρ,P ρ->P' ρ):g.d d ρ P':=by
 cases g with
 | n j=>exact i _ h
 | t is =>
  cases d with
  | tup ds=>exact m6 i h
  | non=>exact h
  | bl _=>exact h
  | int _=>exact h
  | str _=>exact h
  | lst ds=>exact m6 i h
  | scr _=>exact h
  | dct _=>exact h
theorem pJ {α β:Type}{f:α->β}:∀{xs:List α} {os:List β},Paired (λx o=>o=f x) xs os->os=xs.map f
 | _,_,.nil=>rfl
 | _,_,.cons h t=>by rw[h,pJ t];rfl
theorem mh {α β:Type}(f:α->Option β):∀xs:List α,(xs.map f).filterMap id=xs.filterMap f
 | []=>rfl
 | x::xs=>by
  rw[LK,filterMap_cons,filterMap_cons,mh f xs];rfl
theorem filterMap_some {α β:Type}(f:α->β):∀xs:List α,xs.filterMap (λx=>some (f x))=xs.map f
 | []=>rfl
 | x::xs=>by rw[filterMap_cons,filterMap_some f xs];rfl
theorem sS {xs:List D}{g:Tg}{tc:iY}{te:DT}{ρ:ax}{Q:B->Prop}(f:D->Option D)(hz:xs.length<=1000000)(h:∀x∈xs,g.d x ρ λρ'=>tc ρ' λc=>(c=true->te ρ' λb=>some b.val=f x)/\(c=false->none=f x))(q:Q (.o (.lst (xs.filterMap f)))) :
  Ge xs g tc te ρ Q:=by
 refine ⟨by have:sizeLine=16777216:=sizeLine_eq;lia,λx o=>o=f x,h,λos ho=>?_⟩;rw[pJ ho,mh];exact q
theorem pD {xs:List D}{g:Tg}{te:DT}{ρ:ax}{Q:B->Prop}(f:D->D)(hz:xs.length<=1000000)(h:∀x∈xs,g.d x ρ λρ'=>te ρ' λb=>some b.val=some (f x))(q:Q (.o (.lst (xs.map f)))) :
  Ge xs g bN te ρ Q:=
 sS (λx=>some (f x)) hz (λx hx=>CW (h x hx) λρ' z=>⟨λ_=>z,λe=>nomatch e⟩) (by rw[filterMap_some];exact q)
theorem dP {g:Tg}{tb:fL}{E:lF}{xs:List D}{ρ:ax}(I:Nat->ax->Prop)(h0:I 0 ρ)(hs:∀i x ρ,xs[i]?=some x->I i ρ->g.d x ρ λρ'=>tb { E with nx:=I (i+1),ct:=I (i+1),bk:=E.nx } ρ')(hd:∀ρ,I xs.length ρ->E.nx ρ):Bz g tb E xs ρ:=⟨I,h0,hs,hd⟩
theorem ft {α β:Type}(p:α->Prop)[DecidablePred p](f:α->β):∀xs:List α,xs.filterMap (λx=>if p x then some (f x) else none)=(xs.filter λx=>decide (p x)).map f
 | []=>rfl
 | x::xs=>by
  rw[filterMap_cons,filter_cons,ft p f xs];by_cases h:p x
  .rw[if_pos h,if_pos (decide_eq_true h)];rfl
  .rw[if_neg h,if_neg (by simpa using h)]
theorem o8 (n:Nat)(f:Nat->D):bJ 0 ((LD n).map f)=(LD n).map λi=>D.tup [.int (i:Nat),f i]:=by
  refine List.ext_getElem? λi=>?_;have hl:(bJ 0 ((LD n).map f)).length=n:=by rw[eR];simp
  by_cases h:i<n
  · have e := Lm (show i < (bJ 0 ((LD n).map f)).length by lia);obtain ⟨y,h1,h2⟩:=eQ e;rw[LC,List.getElem?_range h] at h1;cases h1;rw[e,h2,LC,List.getElem?_range h,Nat.zero_add];rfl
  · rw[List.getElem?_eq_none (by lia),List.getElem?_eq_none (by simpa using h)]
theorem xT {ns:List Int}{P:B->Prop}(h:P (.p (.int ns.sum))):Dq [.lst (ns.map D.int)] P:=⟨ns,rfl,h⟩
theorem wU {lo:Int}{n:Nat}{x:D}(h:x∈gC lo n):∃i:Nat,i<n/\x=.int (lo+(i:Nat)):=by
 unfold gC at h;obtain ⟨i,hi,e⟩:=Lx.mp h;exact ⟨i,mem_range.mp hi,e.symm⟩
end DL
namespace DL
open PySem L2
theorem sy {α:Type}(l:List α)(k:Nat):iz l none (some ((k:Nat):Int))=l.take k:=by
 unfold iz;rw[HT.vQ,HT.y6,List.drop_zero,Nat.sub_zero,<-List.take_take,List.take_length]
theorem lO {α:Type}(l:List α)(k:Nat):iz l (some ((k:Nat):Int)) none=l.drop k:=by
 unfold iz;rw[HT.vQ,HT.y6];by_cases h:k<=l.length
 .rw[Nat.min_eq_left h];exact take_of_length_le (by rw[length_drop];exact Ll _)
 .rw[Nat.min_eq_right (by lia),List.drop_eq_nil_of_le (Ll _),List.drop_eq_nil_of_le (by lia),List.take_nil]
theorem D6 {α:Type}{xs:List α}{e:α->D}{g:Tg}{te:DT}{ρ:ax}{Q:B->Prop}(F:D->D)(f:α->D)(hF:∀x∈xs,F (e x)=f x)(hz:xs.length<=1000000)(h:∀x∈xs,g.d (e x) ρ λρ'=>te ρ' λb=>some b.val=some (f x))(q:Q (.o (.lst (xs.map f)))) :
  Ge (xs.map e) g bN te ρ Q:=by
 refine pD F (by rw[Lk];exact hz) (λd hd=>?_) ?_
 .obtain ⟨x,hx,rfl⟩:=Lx.mp hd;rw[hF x hx];exact h x hx
 .rw[map_map,show xs.map (F∘e)=xs.map f from map_congr_left hF];exact q
theorem hZ {α β:Type}{f g:α->Option β}:∀{xs:List α},(∀x∈xs,f x=g x)->xs.filterMap f=xs.filterMap g
 | [],_=>rfl
 | x::xs,h=>by rw[filterMap_cons,filterMap_cons,h x mem_cons_self,hZ λy hy=>h y (LO _ hy)]
theorem D5 {α:Type}{xs:List α}{e:α->D}{g:Tg}{tc:iY}{te:DT}{ρ:ax}{Q:B->Prop}(F:D->Option D)(f:α->Option D)(hF:∀x∈xs,F (e x)=f x)(hz:xs.length<=1000000)(h:∀x∈xs,g.d (e x) ρ λρ'=>tc ρ' λc=>(c=true->te ρ' λb=>some b.val=f x)/\(c=false->none=f x))(q:Q (.o (.lst (xs.filterMap f)))) :
  Ge (xs.map e) g tc te ρ Q:=by
 refine sS F (by rw[Lk];exact hz) (λd hd=>?_) ?_
 .obtain ⟨x,hx,rfl⟩:=Lx.mp hd;rw[hF x hx];exact h x hx
 .rw[List.filterMap_map,show xs.filterMap (F∘e)=xs.filterMap f from hZ hF];exact q
theorem xN (xs:List D)(i:Int)(Q:B->Prop):nW (.lst xs) (.int i) Q = ∃d,jk xs i=some d/\Q (.p d):=rfl
theorem xP (xs:List D)(i:Int)(Q:B->Prop):nW (.tup xs) (.int i) Q = ∃d,jk xs i=some d/\Q (.p d):=rfl
theorem xO (ns:List Int)(i:Int)(Q:B->Prop):nW (.scr ns) (.int i) Q = ∃n,jk ns i=some n/\Q (.p (.int n)):=rfl
theorem uw (i j:Int)(Q:B->Prop):hE (.int i) (.int j) Q=Q (.p (.int (i+j))):=rfl
theorem ux (xs ys:List D)(Q:B->Prop):hE (.lst xs) (.lst ys) Q=(xs.length+ys.length<=sizeLine/\Q (.o (.lst (xs++ys)))):=rfl
theorem uy (x y:Str)(Q:B->Prop):hE (.str x) (.str y) Q=(x.length+y.length<=sizeLine/\Q (.p (.str (x++y)))):=rfl
theorem uz (xs ys:List D)(Q:B->Prop):hE (.tup xs) (.tup ys) Q=(xs≠[]/\ys≠[]/\xs.length+ys.length<=sizeLine/\Q (.p (.tup (xs++ys)))):=rfl
theorem uG (i j:Int)(Q:B->Prop):jx (.int i) (.int j) Q=(v7 i j/\Q (.p (.int (i*j)))):=rfl
theorem uA (i j:Int)(Q:B->Prop):iA (.int i) (.int j) Q=Q (.p (.bl (decide (i=j)))):=rfl
theorem uB (i j:Str)(Q:B->Prop):iA (.str i) (.str j) Q=Q (.p (.bl (decide (i=j)))):=rfl
theorem xK (i j:Bool)(Q:B->Prop):iA (.bl i) (.bl j) Q=Q (.p (.bl (decide (i=j)))):=rfl
theorem uH (i j:Int)(Q:B->Prop):iC (.int i) (.int j) Q=Q (.p (.bl (!decide (i=j)))):=rfl
theorem uI (i j:Str)(Q:B->Prop):iC (.str i) (.str j) Q=Q (.p (.bl (!decide (i=j)))):=rfl
theorem xQ (i j:Bool)(Q:B->Prop):iC (.bl i) (.bl j) Q=Q (.p (.bl (!decide (i=j)))):=rfl
theorem uD (xs:List D)(P:B->Prop):iB [.lst xs] P=P (.p (.int xs.length)):=rfl
theorem uF (xs:List D)(P:B->Prop):iB [.tup xs] P=P (.p (.int xs.length)):=rfl
theorem uE (xs:List Int)(P:B->Prop):iB [.scr xs] P=P (.p (.int xs.length)):=rfl
noncomputable def JY (d:D)(P:List D->Prop):Prop:=match d with
 | .lst xs=>P xs
 | .scr ns=>P (ns.map D.int)
 | _=>False
theorem rn (te:DT)(ρ:ax)(P:List D->Prop):dE te ρ P=te ρ λb=>JY b.val P:=rfl
theorem yo (xs:List D)(P:List D->Prop):JY (.lst xs) P=P xs:=rfl
theorem yp (xs:List Int)(P:List D->Prop):JY (.scr xs) P=P (xs.map D.int):=rfl
noncomputable def Jz (d:D)(lo hi:Option Int)(Q:B->Prop):Prop:=match d with
 | .lst xs=>Q (.o (.lst (iz xs lo hi)))
 | .scr ns=>Q (.o (.lst ((iz ns lo hi).map D.int)))
 | .tup xs=>¬(HT.eC xs.length 0 lo=0/\HT.eC xs.length xs.length hi=xs.length)/\Q (.p (.tup (iz xs lo hi)))
 | _=>False
theorem Bd (te:DT)(tl th:AV)(ρ:ax)(Q:B->Prop):qt te tl th ρ Q=te ρ λb=>tl ρ λlo=>th ρ λhi=>Jz b.val lo hi Q:=rfl
theorem y9 (xs:List D)(lo hi:Option Int)(Q:B->Prop):Jz (.lst xs) lo hi Q=Q (.o (.lst (iz xs lo hi))):=rfl
theorem zc (xs:List Int)(lo hi:Option Int)(Q:B->Prop):Jz (.scr xs) lo hi Q=Q (.o (.lst ((iz xs lo hi).map D.int))):=rfl
theorem zd (xs:List D)(lo hi:Option Int)(Q:B->Prop):Jz (.tup xs) lo hi Q=(¬(HT.eC xs.length 0 lo=0/\HT.eC xs.length xs.length hi=xs.length)/\Q (.p (.tup (iz xs lo hi)))):=rfl
noncomputable def GU (d:D)(lo hi st:Option Int)(Q:B->Prop):Prop:=match d with
 | .lst xs=>Q (.o (.lst (e7 xs lo hi st)))
 | .scr ns=>Q (.o (.lst ((e7 ns lo hi st).map D.int)))
 | _=>False
theorem xS (te:DT)(tl th ts:AV)(ρ:ax)(Q:B->Prop):kI te tl th ts ρ Q=te ρ λb=>tl ρ λlo=>th ρ λhi=>ts ρ λst=>st≠some 0/\GU b.val lo hi st Q:=rfl
theorem vX (xs:List D)(lo hi st:Option Int)(Q:B->Prop):GU (.lst xs) lo hi st Q=Q (.o (.lst (e7 xs lo hi st))):=rfl
theorem vY (xs:List Int)(lo hi st:Option Int)(Q:B->Prop):GU (.scr xs) lo hi st Q=Q (.o (.lst ((e7 xs lo hi st).map D.int))):=rfl
theorem q8 (xs:List D)(P:B->Prop):fz [.lst xs] P=P (.o (.lst xs)):=rfl
theorem rg (xs:List D)(P:B->Prop):fz [.tup xs] P=P (.o (.lst xs)):=rfl
theorem q9 (xs:List Int)(P:B->Prop):fz [.scr xs] P=P (.o (.lst (xs.map D.int))):=rfl
theorem Ib {α:Type}(a:α)(l:List α):jk (a::l) (0:Int)=some a:=by unfold jk yt;simp
theorem Ic {α:Type}(a b:α)(l:List α):jk (a::b::l) (1:Int)=some b:=by
 have:jk (a::b::l) (((1:Nat)):Int)=some b:=lJ rfl;exact this
theorem Ie {α:Type}(a b c:α)(l:List α):jk (a::b::c::l) (2:Int)=some c:=by
 have:jk (a::b::c::l) (((2:Nat)):Int)=some c:=lJ rfl;exact this
theorem JZ {α:Type}(a b c d:α)(l:List α):jk (a::b::c::d::l) (3:Int)=some d:=by
 have:jk (a::b::c::d::l) (((3:Nat)):Int)=some d:=lJ rfl;exact this
theorem J0 {α:Type}(a b c d e:α)(l:List α):jk (a::b::c::d::e::l) (4:Int)=some e:=by
 have:jk (a::b::c::d::e::l) (((4:Nat)):Int)=some e:=lJ rfl;exact this
theorem HP {α:Type}(a:α)(p:α->Prop):(∃d,some a=some d/\p d)=p a:=propext ⟨by rintro ⟨d,e,h⟩;cases e;exact h,λh=>⟨a,rfl,h⟩⟩
theorem sj {α:Type}{xs:List α}{e:α->D}{k:Nat}{x:α}(h:xs[k]?=some x):jk (xs.map e) ((k:Nat):Int)=some (e x):=by
 refine lJ ?_;rw[LC,h];rfl
end DL
namespace PySem
open Sem (wp)
section
variable {prog:LH} {w:LR} {A:LQ} {E:Lg->Li->Prop} {s:Li}
noncomputable abbrev Ft (h:Heap)(z TI TO:Addr)(f0:Lg)(b:Bool):Prop:=
 h.get? z=some { cls:=.type "zip",dict:=none,data:=.fields #[f0,.bool b,.bool false,.ref TI,.ref TO],slots:=#[] }
structure KG (h:Heap)(z TI TO i1 i2 l1 l2:Addr)(xs ys:Array Lg)(i:Nat):Prop where
 ti:IsPair h TI (.ref i1) (.ref i2)
 a1:h.IsListIter i1 l1 i
 a2:h.IsListIter i2 l2 i
 b1:h.IsList l1 xs
 b2:h.IsList l2 ys
 f:(IsZip h z TI TO .none/\∃a b,IsPair h TO a b)\/∃(T:Addr) (b:Bool) (x y:Lg),Ft h z TI TO (rawInt T) b/\IsPair h T x y/\T≠z/\T≠TO/\T≠i1/\T≠i2
structure KD (h:Heap)(xs ys:Array Lg)(lo:Nat)(acc:Array Lg):Prop where
 at':∀(j:Nat) (v:Lg),acc[j]?=some v->∃(T:Addr) (x y:Lg),v=Value.ref T/\xs[j]?=some x/\ys[j]?=some y/\IsPair h T x y/\lo<=T
 one:∀(i j:Nat) (v:Lg),acc[i]?=some v->acc[j]?=some v->i=j
end
end PySem
namespace L2
open PySem PySem.Spec PyProof.Rows
section
variable {X:Cx} {pins:List (Addr×Obj)} {σ:List (Option V)} {H H':Hp} {s:Li} {h':Heap}
end
end L2
namespace WS
end WS
namespace WS
noncomputable def Jy (xs:List Int)(L:Nat):Int:=(xs.drop L).sum
structure Drawn (g:Int)(hs cs:List S3)(gv wt:List Int):Prop where
 lg:gv.length=251
 lw:wt.length=251
 ng:∀x∈gv,0<=x
 nw:∀x∈wt,0<=x
 K3:∀L:Nat,L<=251->bD g hs cs (L:Nat)<=Jy wt L - Jy gv L
 all:Jy wt 0 - Jy gv 0=bD g hs cs 0
end WS
namespace L2
open PySem PySem.Spec PyProof.Rows PyProof
section
variable {X:Cx}
end
end L2
namespace PySem
open PyProof.Rows
section
variable {prog:LH} {w:LR} {A:LQ} {E:Lg->Li->Prop} {s:Li}
end
end PySem
namespace PySem
open PyProof.Rows
section
variable {prog:LH} {w:LR} {A:LQ} {R:Result->Li->Prop} {I:Addr} {fp wr:List Addr} {n:Nat} {P:Nat->Lg->Prop} {St:Nat->Heap->Prop}
end
section
variable {prog:LH} {w:LR} {A:LQ} {E:Lg->Li->Prop} {s:Li}
end
end PySem
namespace L2
open PySem PySem.Spec PyProof.Rows
section
variable {X:Cx} {l e:Expr} {p pos p2 pos2 kpos cpos:Pos} {j:Nat} {d:Int} {ta:TA}
end
end L2
namespace DL
open PySem L2
section
variable {X:Cx} {l e:Expr} {p pos p2 pos2 kpos cpos:Pos} {j:Nat} {d:Int} {t:fq}
end
end DL
namespace DL
open PySem L2
theorem wY {α β:Type}{F:α->β->Prop}{l:List α}{r:List β}{j:Nat}{d:β}(h:Paired F l r)(e:r[j]?=some d):∃x,l[j]?=some x/\F x d:=bE h e
section
variable {X:Cx} {e0 e1:Expr} {t0 t1 te:DT} {i:Nat} {x:Str} {pos px:Pos}
end
theorem pK {α β:Type}{F F':α->β->Prop}{x:α}{d':β}(f:F' x d'):∀{l:List α} {r:List β} {j:Nat},Paired F l r->l.Nodup->l[j]?=some x->(∀y d,y∈l->y≠x->F y d->F' y d)->Paired F' l (r.set j d')
 | _,_,_,.nil,_,e,_=>by simp at e
 | _,_,0,.cons g t,nd,e,k=>by
  cases e;refine .cons f (cG (λy d m q=>k y d (LO _ m) (λz=>?_) q) t);exact (nodup_cons.mp nd).1 (z ▸ m)
 | _,_,j+1,.cons (a:=y) g t,nd,e,k=>by
  have e':_=some x:=e;have nd':=nodup_cons.mp nd;refine .cons (k _ _ mem_cons_self (λz=>nd'.1 (z ▸ Ls (by simpa using e))) g) (pK f t nd'.2 (by simpa using e) λy d m=>k y d (LO _ m))
theorem aJ.inner {K:Frag}{H0 G H:Hp}{σ:St}{ρ:ax}{i:Nat}{t:Bool}{dss:List D}(e:aJ K H0 G H σ ρ)(h1:aG ρ i=some (.n t dss)) :
  ∃(a:Addr) (as:List Addr),σ[i]?=some (some (.ref a))/\(match t with | true=>i7 K G a (as.map V.ref) | false=>H a=some (.lst (as.map V.ref)))/\as.length=dss.length/\∀j ds,dss[j]?=some (.lst ds)->∃x vs,as[j]?=some x/\H0 x=none/\G x=none/\H x=some (.lst vs)/\aY K G vs ds /\
   ∀H' vs' ds',ao H H'->aY K G vs' ds'->aJ K H0 G (upd H' x (.lst vs')) σ (dput ρ i (.n t (dss.set j (.lst ds')))):=by
 obtain ⟨o,e⟩:=e;obtain ⟨a,h2,as,nd,pr,q⟩:=e.n i t dss h1;refine ⟨a,as,h2,?_,Paired.length pr,λj ds hj=>?_⟩
 .cases t with
  | true=>exact .inl (.inl q)
  | false=>exact q.2.2.2.2
 obtain ⟨x,hx,z0,z1,z2⟩:=wY pr hj;have gx:=z2.1;obtain ⟨_,vs,hv,rv⟩:=z2;refine ⟨x,vs,hx,z0,gx,hv,rv,λH' vs' ds' hh r'=>?_⟩;have eb:=e.back hh;refine ⟨o,by rw[eP];exact e.len,λj' d q=>?_,λj' d q=>?_,λj' t' dss' q'=>?_⟩
 .rcases aN q with ⟨rfl,_,q⟩ | ⟨hne,q⟩
  .cases q
  .exact e.p j' d q
 .rcases aN q with ⟨rfl,_,q⟩ | ⟨hne,q⟩
  .cases q
  .obtain ⟨b,k1,k2,k2',k3⟩:=eb.o j' d q;refine ⟨b,k1,k2,k2',k3.d7 (ao.refl _) k3.1 λo z=>?_⟩;have:b≠x:=by
    rintro rfl;exact hne (z1.symm.trans k2')
   rw[aq this];exact z
 .rcases aN q' with ⟨rfl,_,q'⟩ | ⟨hne,q'⟩
  .cases q';refine ⟨a,h2,as,nd,pK ⟨z0,z1,gx,vs',aA,r'⟩ pr nd hx (by rintro y d m hne ⟨k1,k2,k3⟩;exact ⟨k1,k2,k3.d7 (ao.refl _) k3.1 λo z=>by rw[aq hne];exact hh _ _ z⟩),?_⟩;cases t with
   | true=>exact q
   | false =>
    obtain ⟨e1,e2,e3,e4,e5⟩:=q;refine ⟨e1,e2,e3,e4,?_⟩;have:a≠x:=by
     rintro rfl;exact e4 (Ls hx)
    rw[aq this];exact hh _ _ e5
  .obtain ⟨b,k1,k2⟩:=eb.n j' t' dss' q';refine ⟨b,k1,k2.d7 (ao.refl _) λy y1 y2 y3 y4=>⟨y3,y2,λo z=>?_⟩⟩;have:y≠x:=by
    rintro rfl;exact hne (z1.symm.trans y2)
   rw[aq this];exact z
section
variable {X:Cx} {e k m:Expr} {tk tm te:DT} {i:Nat} {x:Str} {pos px sp tpos:Pos}
end
theorem oA {K:Frag}{G G':Hp}{vs:List V}{ds:List D}(h:aY K G vs ds)(k:ds.all D.sc=true):aY K G' vs ds:=by
 induction h with
 | nil=>exact .nil
 | cons f _ ih =>
  rw[List.all_cons,LV] at k;exact .cons (f.sc k.1) (ih k.2)
section
variable {X:Cx} {e k:Expr} {tk te:DT} {i:Nat} {x:Str} {pos px tpos:Pos}
end
end DL
namespace DL
open PySem L2
theorem aJ.grow {K:Frag}{H0 G H:Hp}{σ:St}{ρ:ax}{a:Addr}{u:HO}(e:aJ K H0 G H σ ρ)(g:G a=none)(h:∀vs,H a≠some (.lst vs))(h':∀vs,H a≠some (.dT vs)):aJ K H0 (upd G a u) H σ ρ:=by
 obtain ⟨o,e⟩:=e;have sg:ao G (upd G a u):=eZ g;have own:∀x d,cm K G H x d->cm K (upd G a u) H x d:=λx d q=>by
  refine q.d7 sg ?_ λo z=>z;obtain ⟨k1,k2⟩:=q;cases d with
  | lst ds =>
   obtain ⟨vs,k3,_⟩:=k2;rw[aq (by rintro rfl;exact h vs k3)];exact k1
  | non=>exact k2.elim
  | bl _=>exact k2.elim
  | int _=>exact k2.elim
  | str _=>exact k2.elim
  | tup _=>exact k2.elim
  | scr _=>exact k2.elim
  | dct kvs =>
   rw[aq (by rintro rfl;exact h' _ k2)];exact k1
 refine ⟨o,e.len,λi d q=>?_,λi d q=>?_,λi t dss q=>?_⟩
 .obtain ⟨v,h1,h2⟩:=e.p i d q;exact ⟨v,h1,h2.mono sg⟩
 .obtain ⟨b,h1,h2,h3,h4⟩:=e.o i d q;exact ⟨b,h1,h2,h3,own b d h4⟩
 .obtain ⟨b,h1,as,nd,pr,z⟩:=e.n i t dss q;refine ⟨b,h1,as,nd,cG (by rintro x d _ ⟨k1,k2,k3⟩;exact ⟨k1,k2,own x _ k3⟩) pr,?_⟩;cases t with
  | true=>exact sg _ _ z
  | false =>
   obtain ⟨z1,z2,z3,z4,z5⟩:=z;exact ⟨z1,z2,by rw[aq (by rintro rfl;exact h _ z5)];exact z3,z4,z5⟩
theorem C0 {K:Frag}{H0 G0 G H G1 H' G':Hp}{σ:St}{ρ:ax}{v:V}{es:List D}(w:Wd H0 G0 H G)(w1:Wd H0 G0 H G1)(sg:ao G G1)(w':Wd H G1 H' G')(en:aJ K H0 G H' σ ρ)(r:Rep K G' v (.tup es))(sc:es.all D.sc=true) :
  ∃G3,Wd H0 G0 H' G3/\ao G G3/\aJ K H0 G3 H' σ ρ/\Rep K G3 v (.tup es):=by
 obtain ⟨a,vs,rfl,gu,rr⟩:=r.ud;have hu:H' a=some (.tup vs):=w'.gh _ _ gu;cases ga:G a with
 | some x =>
  have:G' a=some x:=w'.gg _ _ (sg _ _ ga);rw[gu] at this;cases this;exact ⟨G,w.back w',ao.refl _,en,Rep.uc ga (oA rr sc)⟩
 | none =>
  refine ⟨upd G a (.tup vs),(w.back w').give (.inr ⟨_,rfl⟩) ga hu,eZ ga,en.grow ga (λvs z=>?_) (λvs z=>?_),Rep.uc aA (oA rr sc)⟩
  .rw[hu] at z;cases z
  .rw[hu] at z;cases z
section
variable {X:Cx} {e:Expr} {te:DT} {i:Nat} {x:Str} {px apos cpos spos:Pos}
end
end DL
namespace DL
open PySem L2
theorem aJ.Cg {K:Frag}{H0 G H:Hp}{σ:St}{ρ:ax}{i:Nat}{dss:List D}(e:aJ K H0 G H σ ρ)(h0:ao H0 H)(h1:aG ρ i=some (.n false dss)) :
  ∃(a:Addr) (as:List Addr),σ[i]?=some (some (.ref a))/\H0 a=none/\G a=none/\H a=some (.lst (as.map V.ref))/\as.length=dss.length/\∀y ds H',ao H H'->H y=none->cm K G H' y (.lst ds) ->
   aJ K H0 G (upd H' a (.lst (as.map V.ref++[.ref y]))) σ (dput ρ i (.n false (dss++[.lst ds]))):=by
 obtain ⟨o,e⟩:=e;obtain ⟨a,h2,as,nd,pr,q1,q2,q3,q4,q5⟩:=e.n i false dss h1;refine ⟨a,as,h2,q1,q3,q5,Paired.length pr,λy ds H' hh hy oy=>?_⟩;have ea:=e.Dh (o':=λx=>if x=y then i else o x) λx q=>if_neg λz:x=y=>q (z ▸ hy);have eb:=ea.back hh;have ay:a≠y:=by rintro rfl;rw[q5] at hy;cases hy
 have yas:y∉as:=λm=>by
  obtain ⟨d,_,_,z⟩:=gR pr y m;exact z.there hy
 have oa:(if a=y then i else o a)=i:=by rw[if_neg ay];exact q2
 refine ⟨λx=>if x=y then i else o x,by rw[eP];exact e.len,λj' d q=>?_,λj' d q=>?_,λj' t' dss' q'=>?_⟩
 .rcases aN q with ⟨rfl,_,q⟩ | ⟨hne,q⟩
  .cases q
  .exact e.p j' d q
 .rcases aN q with ⟨rfl,_,q⟩ | ⟨hne,q⟩
  .cases q
  .obtain ⟨b,k1,k2,k2',k3⟩:=eb.o j' d q;refine ⟨b,k1,k2,k2',k3.d7 (ao.refl _) k3.1 λo z=>?_⟩;have:b≠a:=by
    rintro rfl;exact hne (oa.symm.trans k2')
   rw[aq this];exact z
 .rcases aN q' with ⟨rfl,_,q'⟩ | ⟨hne,q'⟩
  .cases q';refine ⟨a,h2,as++[y],nodup_append.mpr ⟨nd,by simp,λu hu v hv=>?_⟩,?_,q1,oa,q3,λm=>?_,?_⟩
   .rw[mem_singleton.mp hv];rintro rfl;exact yas hu
   .have pA:Paired (λz d=>H0 z=none/\(if z=y then i else o z)=i/\cm K G (upd H' a (.lst (as.map V.ref++[.ref y]))) z d) as dss:=cG ( by
     rintro x d m ⟨k1,k2,k3⟩;have xa:x≠a:=λz=>q4 (z ▸ m);have xy:x≠y:=λz=>yas (z ▸ m);refine ⟨k1,?_,k3.d7 (ao.refl _) k3.1 λo z=>?_⟩
     .rw[if_neg xy];exact k2
     .rw[aq xa];exact hh _ _ z) pr
    exact bA pA (.cons ⟨h0.free hy,if_pos rfl,oy.d7 (ao.refl _) oy.1 λo z=>by
     rw[aq ay.symm];exact z⟩ .nil)
   .rcases mem_append.mp m with m | m
    .exact q4 m
    .exact ay (mem_singleton.mp m)
   .rw[aA,LI];rfl
  .obtain ⟨b,k1,k2⟩:=eb.n j' t' dss' q';refine ⟨b,k1,k2.d7 (ao.refl _) λx y1 y2 y3 y4=>⟨y3,y2,λo z=>?_⟩⟩;have:x≠a:=by
    rintro rfl;exact hne (oa.symm.trans y2)
   rw[aq this];exact z
section
variable {X:Cx} {e:Expr} {te:DT} {i:Nat} {x:Str} {pos px apos cpos spos lp:Pos}
noncomputable def wo (i:Nat):fL:=λE ρ=>E.nx (dput ρ i (.n false []))
theorem Bm (hN:X.N.Nodup)(hi:X.N[i]?=some x)(hx:Loc X.env.scope x)(hs:autoParam (swapsWith (.List [] lp) (some (.Name x px)) pos.line X.env=pure false) aZa._auto_1)(hf:autoParam (X.fn x=true\/X.env.scope.names.lookup x=some .local) aZd._auto_1) :
  DS X (.Assign [.Name x px] (.List [] lp) pos) (wo i):=DS.mk λH0 G0=>PS.imp (lu hN hi hx (Cm iI) hs hf)<|by
 rintro Dn σ H ⟨E,G,ρ,eo,w,en,h⟩;refine ⟨LS _,λp hp=>?_⟩;have w3:Wd H G (upd H p (.lst [])) G:=(Wd.refl w.gh).own hp (w.gh.free hp);exact eo.nx _ _ G _ (w.trans w3) (en.Fc w3 w.hh i hp (w.gh.free hp) (as:=[]) aA (by simp) .nil .nil) h
noncomputable def lR (i:Nat)(te:DT):fL:=λE ρ=>match aG ρ i with
 | some (.n false dss)=>te (cc ρ) λb=>match b with
  | .o (.lst ds)=>ds.all D.sc=true/\dss.length<sizeLine/\E.nx (dput ρ i (.n false (dss++[.lst ds])))
  | _=>False
 | _=>False
theorem wA (hN:X.N[i]?=some x)(hv:uk X.env.scope x)(he:DE X e te)(hd:autoParam ((x == ("__debug__" : Str))=false) aZb._auto_1)(hcd:autoParam ((x == ("__classdict__" : Str))=false) aZb._auto_1)
  (hbase:autoParam (attributeBase (.Name x px) "append" X.env (eval (.Name x px) X.env)=eval (.Name x px) X.env) aZa._auto_1)
  (hfew:autoParam (((backTo cpos (starEach (e::[]) X.env)).all (λx=>!x.1) && (backToKw cpos (keywordEach [] X.env)).all (λx=>x.1.isSome)
   && decide ((e::[]).length+([]:List Keyword).length+(if ([]:List Keyword).isEmpty then 0 else 1)<30))=true) aZa._auto_1)
  (hline:autoParam ((apos.endLine == cpos.line)=true) aZa._auto_1) (hs:autoParam (starEach (e::[]) X.env=(false,eval e X.env)::starEach [] X.env) aZa._auto_1) (hplain:autoParam ((backTo cpos (starEach [] X.env)).any (·.1)=false) aZa._auto_1)
  (hsw:autoParam (swapsWith (.Call (.Attribute (.Name x px) "append" apos) [e] [] cpos) none spos.line X.env=pure false) aZa._auto_1) :
  DS X (.Expr (.Call (.Attribute (.Name x px) "append" apos) [e] [] cpos) spos) (lR i te):=DS.mk λH0 G0 =>
 PS.imp (oz (yO PySem.F.plainAttrs_list PySem.F.slot_list_append PySem.F.type_list_append ku (dF hN hv hd hcd) (fu he.pe iI hs) hbase hfew hline hs hplain) hsw)<|by
  rintro Dn σ H ⟨E,G,ρ,eo,w,en,h⟩;unfold lR at h;split at h
  .rename_i dss q;obtain ⟨a,as,hσ,a0,ag,ah,hl,fin⟩:=en.Cg w.hh q;obtain ⟨G1,w1,sg,e1⟩:=en.freeze w;refine ⟨_,hσ,.inl ⟨rfl,_,dA.of ah⟩,G1,cc ρ,_,w1.gh,e1.p,h,λb v H' G' p' w' r'=>?_⟩;split at p'
   .rename_i ds;obtain ⟨y,rfl,hy,oy⟩:=r';obtain ⟨sc,hz,p'⟩:=p';obtain ⟨_,vs,yv,yr⟩:=oy;have wb:Wd H0 G0 H' G:=⟨w.hh.trans w'.hh,w.gg,w.gh.trans w'.hh,w.old⟩
    refine ⟨a,_,_,rfl,rfl,w'.hh _ _ ah,by rw[Lk,hl];exact hz,?_⟩;exact eo.nx σ _ G _ (wb.own a0 ag) (fin y ds H' w'.hh hy ⟨w.gh.free hy,vs,yv,oA yr sc⟩) p'
   .exact p'.elim
  .exact h.elim
end
end DL
namespace DL
open PySem L2
section
variable {X:Cx} {i m:Nat} {x y:Str} {pos pb px py px2 py2 p1 p2 p3 p4:Pos}
noncomputable def oq (i m:Nat):fL:=λE ρ=>match aG ρ i,aG ρ m with
 | some (.n false dss),some (.p (.int z))=>∃n:Nat,z=(n:Int)/\dss.length<=sizeLine/\E.rt (.n false (dss.drop n++dss.take n))
 | _,_=>False
theorem zK (hN:X.N[i]?=some x)(hv:uk X.env.scope x)(hM:X.N[m]?=some y)(hu:uk X.env.scope y)(hd:autoParam ((x == ("__debug__" : Str))=false) aZb._auto_1)(hcd:autoParam ((x == ("__classdict__" : Str))=false) aZb._auto_1)(hd2:autoParam ((y == ("__debug__" : Str))=false) aZb._auto_1)(hcd2:autoParam ((y == ("__classdict__" : Str))=false) aZb._auto_1) :
  DS X (.Return (some (.BinOp (.Subscript (.Name x px) (.Slice (some (.Name y py)) none none p1) p2) .Add (.Subscript (.Name x px2) (.Slice none (some (.Name y py2)) none p3) p4) pb)) pos) (oq i m):=DS.mk λH0 G0 =>
 PS.imp (xf (yP Cf (pM tX (dF hN hv hd hcd) (tM (dF hM hu hd2 hcd2)) tL) (pM tX (dF hN hv hd hcd) tL (tM (dF hM hu hd2 hcd2)))))<|by
  rintro Dn σ H ⟨E,G,ρ,eo,w,en,h⟩;unfold oq at h;split at h
  .rename_i dss z q qm;obtain ⟨n,rfl,hz,h⟩:=h;obtain ⟨v,hm,rv⟩:=en.p m _ qm;cases rv;obtain ⟨o,e⟩:=en;obtain ⟨a,hσ,as,nd,pr,q1,q2,q3,q4,q5⟩:=e.n i false dss q;have hl:as.length=dss.length:=Paired.length pr;refine ⟨_,hσ,⟨_,hm,(n:Int),rfl,a,_,rfl,dA.of q5,λb hb=>?_⟩⟩;have ab:a≠b:=by rintro rfl;rw[q5] at hb;cases hb
   have h5:upd H b (.lst (fc (as.map V.ref) (some (n:Int)) none)) a=some (.lst (as.map V.ref)):=by rw[aq ab];exact q5
   refine ⟨_,hσ,⟨_,hm,(n:Int),rfl,a,_,rfl,dA.of h5,λc hc=>?_⟩⟩;have bc:b≠c:=by rintro rfl;rw[aA] at hc;cases hc
   refine ⟨b,c,_,_,rfl,rfl,by rw[aq bc,aA],aA,?_,λp hp=>?_⟩
   .rw[jq,jq,lO,sy,Lk,Lk,length_drop,length_take];lia
   .have hpH:H p=none:=by
     cases e2:H p with
     | none=>rfl
     | some o =>
      have pb:p≠b:=by rintro rfl;rw[hb] at e2;cases e2
      have hcH:H c=none:=by
       by_cases cb:c=b
       .rw[cb];exact hb
       .rw[aq cb] at hc;exact hc
      have pc:p≠c:=by rintro rfl;rw[hcH] at e2;cases e2
      rw[aq pc,aq pb,e2] at hp;cases hp
    have hcH:H c=none:=by
     by_cases cb:c=b
     .rw[cb];exact hb
     .rw[aq cb] at hc;exact hc
    have keep:∀y o,H y=some o->upd (upd (upd H b (.lst (fc (as.map V.ref) (some (n:Int)) none))) c (.lst (fc (as.map V.ref) none (some (n:Int))))) p (.lst (fc (as.map V.ref) (some (n:Int)) none++fc (as.map V.ref) none (some (n:Int)))) y=some o:=λy o z=>by
     rw[aq (by rintro rfl;rw[hpH] at z;cases z),aq (by rintro rfl;rw[hcH] at z;cases z),aq (by rintro rfl;rw[hb] at z;cases z)];exact z
    have sH:ao H (upd (upd (upd H b (.lst (fc (as.map V.ref) (some (n:Int)) none))) c (.lst (fc (as.map V.ref) none (some (n:Int))))) p (.lst (fc (as.map V.ref) (some (n:Int)) none++fc (as.map V.ref) none (some (n:Int))))):=keep;have pas:p∉as:=λm=>by
     obtain ⟨d,_,_,z⟩:=gR pr p m;exact z.there hpH
    have wb:Wd H0 G0 (upd (upd (upd H b (.lst (fc (as.map V.ref) (some (n:Int)) none))) c (.lst (fc (as.map V.ref) none (some (n:Int))))) p (.lst (fc (as.map V.ref) (some (n:Int)) none++fc (as.map V.ref) none (some (n:Int))))) G:=⟨w.hh.trans sH,w.gg,w.gh.trans sH,w.old⟩
    have pr2:=cG (F':=λx d=>H0 x=none/\cm X.K G (upd (upd (upd H b (.lst (fc (as.map V.ref) (some (n:Int)) none))) c (.lst (fc (as.map V.ref) none (some (n:Int))))) p (.lst (fc (as.map V.ref) (some (n:Int)) none++fc (as.map V.ref) none (some (n:Int))))) x d) (by rintro x d _ ⟨k1,_,k3⟩;exact ⟨k1,k3.d7 (ao.refl _) k3.1 λo z=>keep _ _ z⟩) pr;refine eo.rt (.n false (dss.drop n++dss.take n)) _ _ G wb ⟨p,as.drop n++as.take n,rfl,w.hh.free hpH,w.gh.free hpH,?_,λm=>?_,?_,bA (jN n pr2) (jO n pr2)⟩ h
    .rw[aA,jq,jq,lO,sy,LI]
    .rcases mem_append.mp m with m | m
     .exact pas (mem_of_mem_drop m)
     .exact pas (mem_of_mem_take m)
    .have pm:=perm_append_comm (l₁:=as.drop n) (l₂:=as.take n);rw[take_append_drop] at pm;exact pm.nodup_iff.mpr nd
  .exact h.elim
end
noncomputable def jl (i j k n:Nat)(a:Addr)(σ:L2.St)(H:Hp)(ρ:ax):Prop:=(∃dss,aG ρ i=some (.n false dss)/\dss.length=n)/\σ[i]?=some (some (.ref a))/\∃(as:List Addr) (x:Addr),H a=some (.lst (as.map V.ref))/\as[k]?=some x/\σ[j]?=some (some (.ref x))
noncomputable def Df (i k:Nat)(ρ:ax):D:=match aG ρ i with
 | some (.n false dss)=>dss.getD k .non
 | _=>.non
noncomputable def yf (i j k:Nat)(ρ:ax):ax:=dput (cc ρ) j (.p (Df i k ρ))
noncomputable abbrev xq:=Nat->(ax->Prop)->ax->Prop
structure Hs (K:Frag)(H0 G0:Hp)(i j k n:Nat)(a:Addr)(N:ax->Prop)(Dn:Ends):Prop where
 nx:∀σ H G ρ,Wd H0 G0 H G->aJ K H0 G H σ ρ->jl i j k n a σ H ρ->N ρ->Dn.nx σ H
noncomputable def KJ (K:Frag)(i j:Nat)(t:xq):TS:=λDn σ H=>∃(H0 G0:Hp) (k n:Nat) (a:Addr) (N:ax->Prop) (G:Hp) (ρ:ax),Hs K H0 G0 i j k n a N Dn/\Wd H0 G0 H G/\aJ K H0 G H σ ρ/\jl i j k n a σ H ρ/\t k N ρ
structure Hk (X:Cx)(i j:Nat)(st:Stmt)(t:xq):Prop where
 ps:PS X st (KJ X.K i j t)
structure Fp (X:Cx)(i j:Nat)(st:List Stmt)(t:xq):Prop where
 Aq:oH X st (KJ X.K i j t)
theorem yj:∀{ρ:ax} {i:Nat} {b:B},aG ρ i=some b->aG (cc ρ) i=some (.p b.val)
 | [],_,_,h=>by cases h
 | none::_,0,_,h=>by cases h
 | some b::_,0,_,h=>by cases h;rfl
 | _::r,i+1,_,h=>yj (ρ:=r) h
theorem nM {α β:Type}{F:α->β->Prop}:∀{l:List α} {r:List β} {i:Nat} {a:α},Paired F l r->l[i]?=some a->∃b,r[i]?=some b/\F a b
 | _,_,_,_,.nil,e=>by simp at e
 | _,_,0,_,.cons h _,e=>by simp at e;subst e;exact ⟨_,rfl,h⟩
 | _,_,i+1,a,.cons _ t,e=>by
  obtain ⟨b,h1,h2⟩:=nM (i:=i) (a:=a) t (by simpa using e);exact ⟨b,by simpa using h1,h2⟩
section
variable {K:Frag} {H0 G0 G H H':Hp} {σ:L2.St} {ρ:ax} {i j k n:Nat} {a:Addr}
theorem jl.back (h:jl i j k n a σ H ρ)(s:ao H H'):jl i j k n a σ H' ρ:=by
 obtain ⟨h1,h2,as,x,h3,h4,h5⟩:=h;exact ⟨h1,h2,as,x,s _ _ h3,h4,h5⟩
theorem jl.seen (h:jl i j k n a σ H ρ)(w:Wd H0 G0 H G)(en:aJ K H0 G H σ ρ):∃G1,Wd H0 G0 H G1/\ao G G1/\eF K G1 σ (yf i j k ρ):=by
 obtain ⟨⟨dss,q,_⟩,h2,as,x,h3,h4,h5⟩:=h;obtain ⟨G1,w1,sg,e1⟩:=en.freeze w;refine ⟨G1,w1,sg,λm d e=>?_⟩;unfold yf at e;rcases aN e with ⟨rfl,_,e⟩ | ⟨_,e⟩
 .cases e;refine ⟨_,h5,?_⟩;have qf:aG (cc ρ) i=some (.p (.lst dss)):=yj q;obtain ⟨v,hv,rv⟩:=e1.p i _ qf;rw[h2] at hv;cases hv;obtain ⟨a',us,e2,e3,rr⟩:=rv.lst_inv;cases e2;have e4:=w1.gh _ _ e3;rw[h3] at e4;cases e4;have hk:(as.map V.ref)[k]?=some (.ref x):=by rw[LC,h4];rfl
  obtain ⟨d,hd,rd⟩:=nM rr hk;unfold Df;rw[q];dsimp only;rw[getD_eq_getElem?_getD,hd];exact rd
 .exact e1.p m d e
theorem jD {b:B}:∀{ρ:ax} {i j:Nat},i≠j->aG (dput ρ i b) j=aG ρ j
 | [],_,_,_=>rfl
 | _::_,0,0,h=>absurd rfl h
 | _::_,0,_+1,_=>rfl
 | _::_,_+1,0,_=>rfl
 | _::r,i+1,j+1,h=>jD (ρ:=r) (λz=>h (by rw[z]))
theorem nG {b:B}:∀{ρ:ax} {i:Nat} {c:B},aG ρ i=some c->aG (dput ρ i b) i=some b
 | [],_,_,h=>by cases h
 | _::_,0,_,_=>rfl
 | _::r,i+1,_,h=>nG (ρ:=r) h
theorem jl.other (h:jl i j k n a σ H ρ){m:Nat}{v:V}{b:B}(mi:m≠i)(mj:m≠j):jl i j k n a (σ.set m (some v)) H (dput ρ m b):=by
 obtain ⟨⟨dss,q,l⟩,h2,as,x,h3,h4,h5⟩:=h;exact ⟨⟨dss,by rw[jD (ρ:=ρ) mi];exact q,l⟩,by rw[ba mi];exact h2,as,x,h3,h4,by rw[ba mj];exact h5⟩
theorem own_apart (e:aJ K H0 G H σ ρ){dss:List D}{d:D}{m:Nat}{b:Addr}(q:aG ρ i=some (.n false dss))(hσ:σ[i]?=some (some (.ref a)))(qm:aG ρ m=some (.o d))(hm:σ[m]?=some (some (.ref b))):a≠b:=by
 obtain ⟨o,e⟩:=e;obtain ⟨a',s1,as,nd,pr,q1,q2,q3,q4,q5⟩:=e.n i false dss q;rw[hσ] at s1;cases s1;obtain ⟨b',s2,k2,k2',k3⟩:=e.o m d qm;rw[hm] at s2;cases s2;rintro rfl;rw[q2] at k2';subst k2';rw[q] at qm;cases qm
theorem wL (e:aJ K H0 G H σ ρ){dss:List D}{as:List Addr}{y:Addr}(q:aG ρ i=some (.n false dss))(hσ:σ[i]?=some (some (.ref a)))(ha:H a=some (.lst (as.map V.ref)))(hy:y∈as):a≠y:=by
 obtain ⟨o,e⟩:=e;obtain ⟨a',s1,as',nd,pr,q1,q2,q3,q4,q5⟩:=e.n i false dss q;rw[hσ] at s1;cases s1;rw[ha] at q5;have em:as.map V.ref=as'.map V.ref:=HO.lst.inj (Option.some.inj q5);have:as=as':=by
  have inj:∀{l l':List Addr},l.map V.ref=l'.map V.ref->l=l':=λ{l}=>by
   induction l with
   | nil=>intro l' h;cases l' with
    | nil=>rfl
    | cons _ _=>cases h
   | cons x l ih=>intro l' h;cases l' with
    | nil=>cases h
    | cons z l' =>
     rw[LK,LK] at h;obtain ⟨h1,h2⟩:=List.cons.inj h;cases h1;rw[ih h2]
  exact inj em
 subst this;rintro rfl;exact q4 hy
end
section
variable {X:Cx} {i j m:Nat} {e c:Expr} {te:DT} {x:Str} {pos px:Pos} {t u:xq} {st:Stmt} {rest:List Stmt}
noncomputable def Ba (t u:xq):xq:=λk N ρ=>t k (u k N) ρ
theorem xV (h:Hk X i j st t):Fp X i j [st] t:=⟨yU h.ps⟩
theorem lT (h1:Hk X i j st t)(h2:Fp X i j rest u):Fp X i j (st::rest) (Ba t u):=⟨oH.imp (vG h1.ps h2.Aq) λDn σ H ⟨H0,G0,k,n,a,N,G,ρ,eo,w,en,al,h⟩ =>
 ⟨H0,G0,k,n,a,u k N,G,ρ,⟨λσ' H' G' ρ' w' en' al' h'=>⟨H0,G0,k,n,a,N,G',ρ',⟨eo.nx⟩,w',en',al',h'⟩⟩,w,en,al,h⟩⟩
theorem Dr:Fp X i j [] (λ_ N ρ=>N ρ):=⟨oH.imp yT (by rintro Dn σ H ⟨H0,G0,k,n,a,N,G,ρ,eo,w,en,al,h⟩;exact eo.nx σ H G ρ w en al h)⟩
noncomputable def Bb (i j m:Nat)(te:DT):xq:=λk N ρ=>te (yf i j k ρ) λb=>b.val.sc=true/\N (dput ρ m (.p b.val))
theorem wu (hmi:m≠i)(hmj:m≠j)(hN:X.N.Nodup)(hi:X.N[m]?=some x)(hx:Loc X.env.scope x)(he:DE X e te)(hs:autoParam (swapsWith e (some (.Name x px)) pos.line X.env=pure false) aZa._auto_1)(hf:autoParam (X.fn x=true\/X.env.scope.names.lookup x=some .local) aZd._auto_1) :
  Hk X i j (.Assign [.Name x px] e pos) (Bb i j m te):=⟨PS.imp (lu hN hi hx he.pe hs hf)<|by
 rintro Dn σ H ⟨H0,G0,k,n,a,N,G,ρ,eo,w,en,al,h⟩;obtain ⟨G1,w1,sg,re⟩:=al.seen w en;refine ⟨G1,yf i j k ρ,_,w1.gh,re,h,λb v H' G' p' w' r'=>?_⟩;obtain ⟨G2,w2,r2⟩:=r'.give w';exact eo.nx _ H' G _ (w.back w') ((en.back w'.hh).tQ m (r2.sc p'.1)) ((al.back w'.hh).other hmi hmj) p'.2⟩
noncomputable def FJ (i j:Nat)(tc:iY)(t u:xq):xq:=λk N ρ=>tc (yf i j k ρ) λc=>(c=true->t k N ρ)/\(c=false->u k N ρ)
theorem HJ {a b:List Stmt}{tc:iY}(hc:qL X c tc)(ha:Fp X i j a t)(hb:Fp X i j b u):Hk X i j (.If c a b pos) (FJ i j tc t u):=⟨PS.imp (E9 hc.pt ha.Aq hb.Aq)<|by
 rintro Dn σ H ⟨H0,G0,k,n,a,N,G,ρ,eo,w,en,al,h⟩;obtain ⟨G1,w1,sg,re⟩:=al.seen w en;refine ⟨G1,yf i j k ρ,_,w1.gh,re,h,λb H' G' p' w'=>?_⟩;cases b with
 | true=>exact zU ⟨H0,G0,k,n,a,N,G,ρ,⟨eo.nx⟩,w.back w',en.back w'.hh,al.back w'.hh,p'.1 rfl⟩
 | false=>exact zT ⟨H0,G0,k,n,a,N,G,ρ,⟨eo.nx⟩,w.back w',en.back w'.hh,al.back w'.hh,p'.2 rfl⟩⟩
variable {apos cpos spos:Pos}
noncomputable def xH (i j m:Nat)(te:DT):xq:=λk N ρ=>match aG ρ m with
 | some (.o (.lst ds))=>te (yf i j k ρ) λb=>match b.val with
  | .tup es=>es.all D.sc=true/\ds.length<sizeLine/\N (dput ρ m (.o (.lst (ds++[.tup es]))))
  | _=>False
 | _=>False
theorem FL (hmi:m≠i)(hmj:m≠j)(hN:X.N[m]?=some x)(hv:uk X.env.scope x)(he:DE X e te)(hd:autoParam ((x == ("__debug__" : Str))=false) aZb._auto_1)(hcd:autoParam ((x == ("__classdict__" : Str))=false) aZb._auto_1)
  (hbase:autoParam (attributeBase (.Name x px) "append" X.env (eval (.Name x px) X.env)=eval (.Name x px) X.env) aZa._auto_1)
  (hfew:autoParam (((backTo cpos (starEach (e::[]) X.env)).all (λx=>!x.1) && (backToKw cpos (keywordEach [] X.env)).all (λx=>x.1.isSome)
   && decide ((e::[]).length+([]:List Keyword).length+(if ([]:List Keyword).isEmpty then 0 else 1)<30))=true) aZa._auto_1)
  (hline:autoParam ((apos.endLine == cpos.line)=true) aZa._auto_1) (hs:autoParam (starEach (e::[]) X.env=(false,eval e X.env)::starEach [] X.env) aZa._auto_1) (hplain:autoParam ((backTo cpos (starEach [] X.env)).any (·.1)=false) aZa._auto_1)
  (hsw:autoParam (swapsWith (.Call (.Attribute (.Name x px) "append" apos) [e] [] cpos) none spos.line X.env=pure false) aZa._auto_1) :
  Hk X i j (.Expr (.Call (.Attribute (.Name x px) "append" apos) [e] [] cpos) spos) (xH i j m te):=
 ⟨PS.imp (oz (yO PySem.F.plainAttrs_list PySem.F.slot_list_append PySem.F.type_list_append ku (dF hN hv hd hcd) (fu he.pe iI hs) hbase hfew hline hs hplain) hsw)<|by
  rintro Dn σ H ⟨H0,G0,k,n,a,N,G,ρ,eo,w,en,al,h⟩;unfold xH at h;split at h
  .rename_i ds q;obtain ⟨b,h1,h2,h3,vs,h4,h5⟩:=en.o m _ q;obtain ⟨G1,w1,sg,re⟩:=al.seen w en;refine ⟨_,h1,.inl ⟨rfl,_,dA.of h4⟩,G1,yf i j k ρ,_,w1.gh,re,h,λbb v H' G' p' w' r'=>?_⟩;obtain ⟨G2,w2,r2⟩:=r'.give w';split at p'
   .rename_i es ee;rw[ee] at r2;obtain ⟨G3,w3,s3,e3,r3⟩:=C0 w w1 sg w2 (en.back w2.hh) r2 p'.1;obtain ⟨b',k1,k2,k3⟩:=e3.o m _ q;rw[h1] at k1;cases k1;have al2:=al.back w2.hh;obtain ⟨⟨dss,qi,hl⟩,sa,as,xx,ha,hk,hx⟩:=al2;have ab:=own_apart e3 qi sa q h1;refine ⟨b,vs,v,rfl,rfl,w2.hh _ _ h4,by rw[Paired.length h5];exact p'.2.1,eo.nx σ _ G3 _ (w3.own k2 k3.1) (e3.GS q h1 (bA (aY.mono s3 h5) (.cons r3 .nil))) ⟨⟨dss,by rw[jD (ρ:=ρ) hmi];exact qi,hl⟩,sa,as,xx,by rw[aq ab];exact ha,hk,hx⟩ p'.2.2⟩
   .exact p'.elim
  .exact h.elim⟩
noncomputable def A8 (i j:Nat)(tk te:DT):xq:=λk N ρ=>te (yf i j k ρ) λb=>b.val.sc=true/\match aG ρ i with
 | some (.n false dss)=>tk (yf i j k ρ) λq=>match q.val with
  | .int z=>∃ds j',dss[k]?=some (.lst ds)/\yt ds.length z=some j'/\N (dput ρ i (.n false (dss.set k (.lst (ds.set j' b.val)))))
  | _=>False
 | _=>False
theorem FN {kx:Expr}{tk:DT}{tpos:Pos}(hij:i≠j)(hN:X.N[j]?=some x)(hv:uk X.env.scope x)(hk:DE X kx tk)(he:DE X e te)(hd:autoParam ((x == ("__debug__" : Str))=false) aZb._auto_1)(hcd:autoParam ((x == ("__classdict__" : Str))=false) aZb._auto_1)
    (ha:autoParam (∀v,assign (.Subscript (.Name x px) kx tpos) X.env v=(do
      let ov <-holding [v] (eval (.Name x px) X.env)
      let iv <-holding [v,ov] (eval kx X.env)
      standAt tpos
      holding [v,ov,iv] (setItem ov iv v)
      release [v,ov,iv] [])) aZc._auto_1)
    (hs:autoParam (swapsWithSole [.Subscript (.Name x px) kx tpos] e pos.line X.env=pure false) aZa._auto_1) (hw:autoParam (swappedStores [.Subscript (.Name x px) kx tpos] e X.env=pure none) aZa._auto_1)
    (h1:autoParam ((assignEach [.Subscript (.Name x px) kx tpos] X.env).map (·.2) = [assign (.Subscript (.Name x px) kx tpos) X.env]) aZa._auto_1) :
    Hk X i j (.Assign [.Subscript (.Name x px) kx tpos] e pos) (A8 i j tk te):=
  ⟨PS.imp (tN he.pe (wZ (dF hN hv hd hcd) hk.pe set_list ha) hs hw h1)<|by
    rintro Dn σ H ⟨H0,G0,k,n,a,N,G,ρ,eo,w,en,al,h⟩;obtain ⟨G1,w1,sg,re⟩:=al.seen w en;refine ⟨G1,yf i j k ρ,_,w1.gh,re,h,λb v H' G' p' w' r'=>?_⟩;obtain ⟨G2,w2,r2⟩:=r'.give w';obtain ⟨sc,p'⟩:=p';split at p'
    · rename_i dss q;obtain ⟨⟨dss',q',hl⟩,sa,as,xx,hA,hkx,hxj⟩:=al;rw[q] at q';cases q';refine ⟨.ref xx,hxj,G2,yf i j k ρ,_,w2.gh,eF.mono w2.gg re,p',λb3 v3 H3 G3 p3 w3 r3=>?_⟩;split at p3
      · rename_i z ez;obtain ⟨ds,j',hds,hj',p3⟩:=p3;obtain ⟨a2,as2,hσ2,ho,hl2,hin⟩:=en.inner q;rw[sa] at hσ2;cases hσ2;have ho:H a=some (.lst (as2.map V.ref)):=ho;obtain ⟨y,vs,hy,y0,yg,yh,yr,fin⟩:=hin k ds hds;have exy:xx=y:=by
          rw[hA] at ho;have em:as.map V.ref=as2.map V.ref:=HO.lst.inj (Option.some.inj ho);have e1:(as.map V.ref)[k]?=some (.ref xx):=by rw[LC,hkx];rfl
          rw[em,LC,hy] at e1;cases e1;rfl
        subst exy;have s3:ao H H3:=w2.hh.trans w3.hh;have wb:Wd H0 G0 H3 G:=⟨w.hh.trans s3,w.gg,w.gh.trans s3,w.old⟩
        have ne:a≠xx:=wL en q sa hA (Ls hkx);refine ⟨xx,vs,z,j',rfl,eK w3 r3 ez,s3 _ _ yh,by rw[Paired.length yr];exact hj',?_⟩;exact eo.nx σ _ G _ (wb.own y0 yg) (fin H3 _ _ s3 (pL (r2.sc sc) j' yr)) ⟨⟨_,nG q,by rw[length_set];exact hl⟩,sa,as,xx,by rw[aq ne];exact s3 _ _ hA,hkx,hxj⟩ p3
      · exact p3.elim
    · exact p'.elim⟩
end
noncomputable def qu:ax->Nat->ax
 | [],_=>[]
 | _::r,0=>none::r
 | c::r,n+1=>c::qu r n
theorem uJ:∀(ρ:ax) (j:Nat),(qu ρ j).length=ρ.length
 | [],_=>rfl
 | _::_,0=>rfl
 | _::r,n+1=>by show (qu r n).length+1=_;rw[uJ r n];rfl
theorem lU:∀{ρ:ax} {j m:Nat} {b:B},aG (qu ρ j) m=some b->j≠m/\aG ρ m=some b
 | [],_,_,_,h=>by cases h
 | _::_,0,0,_,h=>by cases h
 | _::_,0,_+1,_,h=>⟨Nat.succ_ne_zero _ |>.symm,h⟩
 | _::_,_+1,0,_,h=>⟨Nat.succ_ne_zero _,h⟩
 | _::r,j+1,m+1,_,h=>by
  obtain ⟨h1,h2⟩:=lU (ρ:=r) h;exact ⟨λz=>h1 (Nat.succ.inj z),h2⟩
theorem nF:∀{ρ:ax} {j m:Nat},j≠m->aG (qu ρ j) m=aG ρ m
 | [],_,_,_=>rfl
 | _::_,0,0,h=>absurd rfl h
 | _::_,0,_+1,_=>rfl
 | _::_,_+1,0,_=>rfl
 | _::r,j+1,m+1,h=>nF (ρ:=r) λz=>h (by rw[z])
theorem aJ.K1 {K:Frag}{H0 G H:Hp}{σ:L2.St}{ρ:ax}{v:V}(h:aJ K H0 G H σ ρ)(j:Nat):aJ K H0 G H (σ.set j (some v)) (qu ρ j):=by
 obtain ⟨o,h⟩:=h;refine ⟨o,by rw[length_set,uJ];exact h.len,λm d e=>?_,λm d e=>?_,λm t dss e=>?_⟩
 .obtain ⟨h1,e⟩:=lU e;obtain ⟨w,k1,k2⟩:=h.p m d e;exact ⟨w,by rw[ba h1];exact k1,k2⟩
 .obtain ⟨h1,e⟩:=lU e;obtain ⟨b,k1,k2⟩:=h.o m d e;exact ⟨b,by rw[ba h1];exact k1,k2⟩
 .obtain ⟨h1,e⟩:=lU e;obtain ⟨b,k1,k2⟩:=h.n m t dss e;exact ⟨b,by rw[ba h1];exact k1,k2⟩
section
variable {X:Cx} {i j:Nat} {x y:Str} {pos px py:Pos} {tb:xq} {body:List Stmt}
noncomputable def A6 (i j:Nat)(tb:xq):fL:=λE ρ=>match aG ρ i with
 | some (.n false dss)=>j<ρ.length/\∃I:Nat->ax->Prop,I 0 ρ/\(∀k ρ,k<dss.length->I k ρ->(∃dss',aG ρ i=some (.n false dss')/\dss'.length=dss.length)/\tb k (I (k+1)) (qu ρ j))/\∀ρ,I dss.length ρ->E.nx ρ
 | _=>False
theorem DD (hij:i≠j)(hp:PassesOwn (model X.prog X.w) X.A X.env X.xe)(hc:X.calm=true)(hN:X.N[i]?=some x)(hv:uk X.env.scope x)(hg:PG X (.Name y py) (uP j))(hb:Fp X i j body tb)(hd:autoParam ((x == ("__debug__" : Str))=false) aZb._auto_1)(hcd:autoParam ((x == ("__classdict__" : Str))=false) aZb._auto_1)(hs:autoParam (∀z,foldedSetIterable (.Name x px) X.env z=pure z) aZc._auto_1) :
    DS X (.For (.Name y py) (.Name x px) body [] pos) (A6 i j tb):=DS.mk λH0 G0 =>
  PS.imp (xc hp hc (yQ (dF hN hv hd hcd)) hg hb.Aq hs)<|by
    rintro Dn σ H ⟨E,G,ρ,eo,w,en,h⟩;unfold A6 at h;split at h
    · rename_i dss q;obtain ⟨hjl,I,i0,is,ie⟩:=h;have en0:=en;obtain ⟨o,e⟩:=en0;obtain ⟨a,hσ,as,nd,pr,q1,q2,q3,q4,q5⟩:=e.n i false dss q;have hl:as.length=dss.length:=Paired.length pr;refine ⟨_,hσ,a,rfl,⟨_,dA.of q5⟩,?_⟩;refine ⟨λk m σ H=>m=dss.length - k/\k<=dss.length/\∃G ρ,Wd H0 G0 H G/\aJ X.K H0 G H σ ρ/\(∃dss',aG ρ i=some (.n false dss')/\dss'.length=dss.length)/\σ[i]?=some (some (.ref a))/\j<σ.length/\I k ρ,⟨dss.length,by simp,LS _,G,ρ,w,en,⟨dss,q,rfl⟩,hσ,?_,i0⟩,?_⟩
      · rw[en.len];exact hjl
      rintro k m σ H ⟨rfl,hk,G,ρ,w,en,⟨dss',qi,hl'⟩,sa,hjσ,p⟩;have en0:=en;obtain ⟨o,e⟩:=en0;obtain ⟨a',s1,as',nd',pr',z1,z2,z3,z4,z5⟩:=e.n i false dss' qi;rw[sa] at s1;cases s1;have hl2:as'.length=dss.length:=(Paired.length pr').trans hl';by_cases hlt:k<dss.length
      · obtain ⟨_,pt⟩:=is k ρ hlt p;have hx:as'[k]?=some as'[k]:=Lm (by lia);have hxv:(as'.map V.ref)[k]?=some (.ref as'[k]):=by rw[LC,hx];rfl
        refine .inr ⟨⟨_,_,dA.of z5,hxv⟩,λσ2 H2=>∃G2 ρ2,Wd H0 G0 H2 G2/\aJ X.K H0 G2 H2 σ2 ρ2/\jl i j k dss.length a σ2 H2 ρ2/\I (k+1) ρ2,λσ2 H2 ⟨G2,ρ2,w2,e2,al2,p2⟩=>?_,λv H2 ⟨eH,yv⟩=>?_⟩
        · obtain ⟨⟨d2,q2',l2⟩,sa2,as2,x2,h3,h4,h5⟩:=al2;exact ⟨dss.length - (k+1),by lia,rfl,hlt,G2,ρ2,w2,e2,⟨d2,q2',l2⟩,sa2,(Lp.mp h5).1,p2⟩
        · have:=yv _ (dA.of z5);rw[hxv] at this;cases this;subst eH;exact ⟨H0,G0,k,dss.length,a,I (k+1),G,qu ρ j,⟨λσ4 H4 G4 ρ4 w4 e4 al4 p4=>⟨G4,ρ4,w4,e4,al4,p4⟩⟩,w,en.K1 j,⟨⟨dss',by rw[nF (λz=>hij z.symm)];exact qi,hl'⟩,by rw[ba (λz=>hij z.symm)];exact sa,as',as'[k],z5,hx,jY hjσ⟩,pt⟩
      · have e : k = dss.length := by lia
        subst e;exact .inl ⟨⟨_,dA.of z5,by rw[Lk];lia⟩,eo.nx σ H G ρ w en (ie ρ p)⟩
    · exact h.elim
end
end DL
namespace L2
open PySem PySem.Spec PyProof.Rows
section
variable {κ:Type} [DecidableEq κ]
noncomputable def iW (kvs:List (κ×V))(k:κ):Option V:=(kvs.find? λkv=>decide (kv.1=k)).map (·.2)
noncomputable def putK (kvs:List (κ×V))(k:κ)(v:V):List (κ×V):=
 if (kvs.any λkv=>decide (kv.1=k))=true then kvs.map (λkv=>if kv.1=k then (kv.1,v) else kv) else kvs++[(k,v)]
noncomputable def rq (kvs:List (κ×V))(k:κ):List (κ×V):=kvs.filter λkv=>decide (kv.1≠k)
theorem qk {p:κ×V}{r:List (κ×V)}{k:κ}(e:p.1=k):iW (p::r) k=some p.2:=by simp[iW,List.find?_cons,e]
theorem qj {p:κ×V}{r:List (κ×V)}{k:κ}(e:¬p.1=k):iW (p::r) k=iW r k:=by simp[iW,List.find?_cons,e]
theorem mN (k:κ):∀kvs:List (κ×V),(kvs.any λkv=>decide (kv.1=k))=(iW kvs k).isSome
 | []=>rfl
 | p::r=>by
  rw[List.any_cons];by_cases e:p.1=k
  .simp only[qk e,decide_eq_true e,Bool.true_or,Option.isSome_some]
  .rw[qj e,decide_eq_false e,Bool.false_or];exact mN k r
theorem uZ (kvs:List (κ×V))(k:κ)(v:V):(putK kvs k v).length<=kvs.length+1:=by
 unfold putK;split
 .rw[Lk];lia
 .rw[LA,LN,List.length_nil];lia
theorem oI.rF {o:Option V}{u:Option Lg}(r:oI o u):o.isSome=u.isSome:=by
 cases o with
 | none=>cases u with
  | none=>rfl
  | some _=>exact (show False from r).elim
 | some _=>cases u with
  | none=>exact (show False from r).elim
  | some _=>rfl
theorem oI.getD {o:Option V}{u:Option Lg}{d:V}{d':Lg}(r:oI o u)(rd:RelV d d'):RelV (o.getD d) (u.getD d'):=by
 cases o with
 | none=>cases u with
  | none=>exact rd
  | some _=>exact (show False from r).elim
 | some _=>cases u with
  | none=>exact (show False from r).elim
  | some _=>exact r
theorem Bj (kvs:List (κ×V))(k:κ):(rq kvs k).length<=kvs.length:=List.length_filter_le _ _
end
theorem Ig {P:LH}{w:LR}{k:Key}{u:Lg}(r:RelV (kV k) u):(bx P w).is k u=true:=by
 cases k with
 | inl i=>obtain ⟨t,e⟩:=(show ∃t,u=Value.int i t from r);subst e;exact vj P w i t
 | inr x=>obtain ⟨t,e⟩:=(show ∃t,u=Value.str x t from r);subst e;exact vk P w x t
theorem mX {P:LH}{w:LR}:∀{ks:List Key} {us:List Lg},Vals (ks.map kV) us->ItemsAre (bx P w) ks us
 | [],_,r=>by rw[List.map_nil] at r;cases r;exact .nil
 | k::ks,_,r=>by
  rw[LK] at r;cases r with
  | cons h t=>exact .cons (Ig h) (mX t)
noncomputable abbrev KT (H:Hp):List (List Key×V)->List (List Key×Addr×Lg)->Prop:=Paired λp q=>p.1=q.1/\H q.2.1=some (.tup (p.1.map kV))/\RelV p.2 q.2.2
theorem KT.val {H:Hp}{kvs:List (List Key×V)}{xs:List (List Key×Addr×Lg)}(r:KT H kvs xs)(k:List Key):oI (iW kvs k) ((atKey xs k).map (·.2)):=by
 induction r with
 | nil=>exact True.intro
 | @cons p q ps qs h t ih =>
  obtain ⟨h1,_,h2⟩:=h;by_cases e:p.1=k
  .have e':q.1=k:=h1.symm.trans e;have b:atKey (q::qs) k=some q.2:=by simp[atKey,List.find?_cons,e']
   rw[qk e,b];exact h2
  .have e':¬q.1=k:=λz=>e (h1.trans z);have b:atKey (q::qs) k=atKey qs k:=by simp[atKey,List.find?_cons,e']
   rw[qj e,b];exact ih
theorem KT.IS {H:Hp}{kvs:List (List Key×V)}{xs:List (List Key×Addr×Lg)}(r:KT H kvs xs)(k:List Key){y:V}{u:Lg}(ry:RelV y u) :
  KT H (kvs.map λkv=>if kv.1=k then (kv.1,y) else kv) (xs.map (putAt k u)):=by
 induction r with
 | nil=>exact .nil
 | @cons p q ps qs h t ih =>
  rw[LK,LK];refine .cons ?_ ih;obtain ⟨h1,h2,h3⟩:=h;unfold putAt;by_cases e:p.1=k
  .rw[if_pos e,if_pos (h1.symm.trans e)];exact ⟨h1,h2,ry⟩
  .rw[if_neg e,if_neg (λz=>e (h1.trans z))];exact ⟨h1,h2,h3⟩
theorem KT.put {H:Hp}{kvs:List (List Key×V)}{xs:List (List Key×Addr×Lg)}(r:KT H kvs xs)(k:List Key){b:Addr}{y:V}{u:Lg}(hb:H b=some (.tup (k.map kV)))(ry:RelV y u) :
  KT H (putK kvs k y) (storedH xs k b u):=by
 have e:(kvs.any λkv=>decide (kv.1=k))=(atKey xs k).isSome:=by
  rw[mN,(r.val k).rF,Option.isSome_map]
 unfold putK storedH;rw[e];by_cases q:(atKey xs k).isSome=true
 .rw[if_pos q,if_pos q];exact r.IS k ry
 .rw[if_neg q,if_neg q];exact Paired.snoc r ⟨rfl,hb,ry⟩
theorem KT.keeps {H H':Hp}{kvs:List (List Key×V)}{xs:List (List Key×Addr×Lg)}(r:KT H kvs xs)(ht:∀b ys,H b=some (.tup ys)->H' b=some (.tup ys)):KT H' kvs xs:=
 Paired.Eh r λ_ _ z=>⟨z.1,ht _ _ z.2.1,z.2.2⟩
section
variable {P:LH} {w:LR} {H:Hp} {h:Heap} {a:Addr}
theorem Ff {u:HO}(ok:kF P w H h)(e:Rd H a u):cM P w H h a u:=e.ok ok
theorem HL {kvs:List (Key×V)}(ok:kF P w H h)(e:Rd H a (.dK kvs)):kvs.length<=sizeLine/\(a == sysModules)=false/\∃vs,KV kvs vs/\h.DictOf (bx P w) a vs:=
 show cM P w H h a (.dK kvs) from Ff ok e
theorem Ga {ks:List Key}(ok:kF P w H h)(e:H a=some (.tup (ks.map kV))):(tupleKind (bx P w)).is h ks a:=by
 obtain ⟨_,its,r,o,h1,h2,n,h3⟩:=(show cM P w H h a (.tup (ks.map kV)) from ok a _ e)
 exact ⟨o,its.toArray,n,h1,h2,h3,by simpa using mX r⟩
theorem nH {kvs:List (List Key×V)}(ok:kF P w H h)(e:Rd H a (.dT kvs)):kvs.length<=sizeLine/\(a == sysModules)=false /\
  ∃xs,KT H kvs xs/\h.DictOfH (tupleKind (bx P w)) a xs:=by
 obtain ⟨z,y,xs,r,o,es,ep,h1,h2,h3,h4,h5⟩:=(show cM P w H h a (.dT kvs) from Ff ok e)
 refine ⟨z,y,xs,r,o,es,ep,h1,h2,h3,h4,λx hx=>?_,h5⟩;have all:∀{l:List (List Key×V)} {m:List (List Key×Addr×Lg)},KT H l m->∀x∈m,(tupleKind (bx P w)).is h x.1 x.2.1:=by
  intro l m q;induction q with
  | nil=>intro x hx;exact nomatch hx
  | @cons p q ps qs hq t ih =>
   intro x hx;rcases Lz.mp hx with e | hx
   .subst e;exact Ga ok (by rw[<-hq.1];exact hq.2.1)
   .exact ih x hx
 exact all r x hx
theorem EZ {kvs:List (List Key×V)}(ok:kF P w H h)(e:H a=some (.dT kvs)):kvs.length<=sizeLine/\(a == sysModules)=false /\
  ∃xs,KT H kvs xs/\h.DictOfH (tupleKind (bx P w)) a xs:=nH ok (.inl e)
end
section
variable {X:Cx} {pins:List (Addr×Obj)} {σ:St} {H:Hp} {s:Li} {a:Addr} {y v:V} {u r:Lg} {o:Option V} {A:LQ} {E:Lg->Li->Prop}
theorem Inv.big (I:Inv X pins σ H s):sysModules<s.heap.objs.size:=by
 have h:mainGlobals<s.heap.objs.size:=(I.mod.glob.keeps I.bk).lt;exact Nat.lt_trans (by decide) h
theorem xU {h':Heap}{t':Nat}{ob:HO}(I:Inv X pins σ H s)(mu:Hv (H a))(hs:Heap.SameBut a s.heap h')(he:∃q,h'.get? a=some q)(new:cM X.prog X.w (upd H a ob) h' a ob) :
  Inv X pins σ (upd H a ob) { s with heap:=h',toks:=t' }:=
 I.write (x:=a) (e:=a) mu (.inl rfl) (λb q hb z=>(hs.2 b hb).trans z) he new
end
section
variable {X:Cx} {pins:List (Addr×Obj)} {σ:St} {H:Hp} {s:Li} {a:Addr} {kvs:List (Key×V)} {k:Key} {u:Lg} {A:LQ} {E:Lg->Li->Prop}
end
noncomputable def Fu (i:Expr):Prop:=∀ov iv,subscripted i false ov iv=operate [ov,iv] (getItem ov iv)
theorem ED {prog:LH}{w:LR}{A:LQ}{E:Lg->Li->Prop}{s:Li}{env:Env}{value slice:Expr}{pos:Pos}{T id:String}{Q:Lg->Li->Prop}
  (hl:typeLookup (.type T) "__getitem__" = pure (some (.builtin id))) (hs:Fu slice)
  (h:wpAny (model prog w) A (eval value env) (λo s₁=>wpAny (model prog w) A (eval slice env) (λi s₂=>s₂.TypeIs o T/\wpAny (model prog w) A (getItem o i) Q E s₂) E s₁) E s) :
  wpAny (model prog w) A (eval (.Subscript value slice pos) env) Q E s:=by
 refine Subscript_ (wpAny_mono h (λo s₁ h₁=>wpAny_mono h₁ (λi s₂ h₂=>?_) λ_ _ x=>x) λ_ _ x=>x);obtain ⟨hT,h₂⟩:=h₂;unfold subscriptTail;refine Lh ?_;rw[getitemInPython_of_ne hT.not_modules];refine Lh (wpAny_specialOf hT hl ?_);have fin:wpAny (model prog w) A (subscripted slice false o i) (λr s₃=>wpAny (model prog w) A (letTemporaryGo value o r >>= λ_=>pure r) Q E s₃) E s₂:=by
  rw[hs o i];exact wpAny_operating (wpAny_mono h₂ (λr s₃ h₃=>Lh (wpAny_letTemporaryGo (Lj h₃))) λ_ _ x=>x)
 first
  | exact Lj (Lh fin)
  | exact Lh (Lj (Lh fin))
  | exact Lh fin
section
variable {X:Cx} {o i e value:Expr} {pos pos' tpos:Pos} {td ty tv:TE}
end
theorem Bp {P:LH}{w:LR}{H:Hp}(h:Heap)(hb:sysModules<h.objs.size):cM P w H (h.push { cls:=.type "dict",data:=.dict #[] }) h.objs.size (.dT []):=
 ⟨LS _,beq_eq_false_iff_ne.mpr (Ne.symm (LF hb)),[],.nil,_,#[],0,LP _ rfl,⟨rfl,rfl,rfl⟩,rfl,rfl,List.nodup_nil⟩
noncomputable def GX:TE:=λ_ H Q=>∀p,H p=none->Q (.ref p) (upd H p (.dT []))
section
variable {X:Cx} {pos:Pos}
theorem Ci:PE X (.Dict [] [] pos) GX:=λpins s σ H Q I h =>
 wpAny_Dict_empty ⟨.ref s.heap.objs.size,_,I.laid (a:=s.heap.objs.size) (o:=.dT []) (t':=s.toks) (λ_ _ q=>Ln _ q) (Ll _) (Bp s.heap I.big),rfl,h _ (I.bC.fresh (Ll _))⟩
end
structure M1 (X:Cx)(o:Expr)(m:Str)(apos:Pos)(e:Expr)(cpos:Pos):Prop where
 base:attributeBase o m X.env (eval o X.env)=eval o X.env
 HQ:((backTo cpos (starEach [e] X.env)).all (λx=>!x.1) && (backToKw cpos (keywordEach [] X.env)).all (λx=>x.1.isSome)
  && decide (([e]:List Expr).length+([]:List Keyword).length+(if ([]:List Keyword).isEmpty then 0 else 1)<30))=true
 line:(apos.endLine == cpos.line)=true
 trees:backTo cpos (starEach [e] X.env) = [(false,eval e X.env)]
structure M2 (X:Cx)(o:Expr)(m:Str)(apos:Pos)(e f:Expr)(cpos:Pos):Prop where
 base:attributeBase o m X.env (eval o X.env)=eval o X.env
 HQ:((backTo cpos (starEach [e,f] X.env)).all (λx=>!x.1) && (backToKw cpos (keywordEach [] X.env)).all (λx=>x.1.isSome)
  && decide (([e,f]:List Expr).length+([]:List Keyword).length+(if ([]:List Keyword).isEmpty then 0 else 1)<30))=true
 line:(apos.endLine == cpos.line)=true
 trees:backTo cpos (starEach [e,f] X.env) = [(false,eval e X.env),(false,eval f X.env)]
noncomputable def JF (H:Hp)(a:Addr):Prop:=(∃kvs,Rd H a (.dK kvs))\/∃kvs,Rd H a (.dT kvs)
theorem BL {X:Cx}{pins:List (Addr×Obj)}{σ:St}{H:Hp}{s:Li}{a:Addr}(I:Inv X pins σ H s)(d:JF H a) :
  s.TypeIs (.ref a) "dict"/\(∀b,Value.ref a=.ref b->∃ob,s.heap.get? b=some ob/\ob.dict=none)/\(a == sysModules)=false:=by
 rcases d with ⟨kvs,e⟩ | ⟨kvs,e⟩
 .obtain ⟨_,hd,vs,_,dd⟩:=HL I.bC e;refine ⟨dd.typeIs,λb q=>?_,hd⟩;cases q;obtain ⟨ob,_,_,h1,h2,_⟩:=dd;exact ⟨ob,h1,h2.2.1⟩
 .obtain ⟨_,hd,xs,_,dd⟩:=nH I.bC e;refine ⟨dd.typeIs,λb q=>?_,hd⟩;cases q;obtain ⟨ob,_,_,h1,h2,_⟩:=dd;exact ⟨ob,h1,h2.2.1⟩
section
variable {X:Cx} {pins:List (Addr×Obj)} {σ:St} {H:Hp} {s:Li} {a:Addr} {y d:V} {u r:Lg} {o:Option V} {A:LQ} {E:Lg->Li->Prop}
end
section
variable {X:Cx} {o e f:Expr} {apos cpos:Pos} {td ty tx:TE}
end
section
variable {X:Cx} {pins:List (Addr×Obj)} {σ:St} {H:Hp} {s:Li} {a:Addr} {kvs:List (Key×V)} {A:LQ} {E:Lg->Li->Prop}
end
section
variable {X:Cx} {pins:List (Addr×Obj)} {σ:St} {H:Hp} {s:Li} {a:Addr} {y:V} {u:Lg} {A:LQ} {E:Lg->Li->Prop}
end
section
variable {X:Cx}
end
section
variable {κ:Type} [DecidableEq κ]
end
end L2
namespace L2
open PySem PySem.Spec PyProof.Rows
section
variable {X:Cx} {pins:List (Addr×Obj)} {σ:St} {H:Hp} {s:Li} {a b:Addr}
theorem kZ {ks:List Key}(I:Inv X pins σ H s)(h:i7 X.K H b (ks.map kV)):(tupleKind (bx X.prog X.w)).is s.heap ks b:=by
 obtain ⟨its,r,⟨o,h1,h2,n,h3⟩,z⟩:=I.tuple h;exact ⟨o,its.toArray,n,h1,h2,h3,by simpa using mX r⟩
noncomputable def CB (K:Frag):V->V->Hp->VK->Prop:=λx y H Q=>∃a b kvs ks v,x=.ref a/\y=.ref b/\Rd H a (.dT kvs)/\i7 K H b (ks.map kV)/\iW kvs ks=some v/\Q v H
theorem uQ {A:LQ}{E:Lg->Li->Prop}{kvs:List (List Key×V)}{ks:List Key}{v:V}{Q:Lg->Li->Prop}(hu:A.units+1<cLine)(I:Inv X pins σ H s)(e:Rd H a (.dT kvs))(hb:i7 X.K H b (ks.map kV))(l:iW kvs ks=some v)
  (h:∀w' s',Inv X pins σ H s'->RelV v w'->Q w' s'):wpAny (model X.prog X.w) A (getItem (.ref a) (.ref b)) Q E s:=by
 obtain ⟨z,hd,xs,rel,dd⟩:=nH I.bC e;obtain ⟨w',hw,rw'⟩:=oI.some_of (v:=v) (o:=(atKey xs ks).map (·.2)) (by rw[<-l];exact rel.val ks);obtain ⟨p,hp,hp2⟩:=Option.map_eq_some_iff.mp hw;exact wpAny_getItem_heap (tupleKind_room_in1 hu) (kZ I hb) dd hp (by rw[hp2];exact h w' _ (I.tok _) rw')
theorem get_dict (hu:X.A.units+1<cLine):Hw X (CB X.K):=by
 intro pins s σ H o i ov iv Q I ro ri h;obtain ⟨a,b,kvs,ks,v,rfl,rfl,e,hb,l,q⟩:=h;cases ro;cases ri;exact uQ hu I e hb l λw' s' I' rw'=>⟨v,H,I',rw',q⟩
noncomputable def Fe (K:Frag):g9:=λx y v H Q=>∃a b kvs ks,x=.ref a/\y=.ref b/\H a=some (.dT kvs)/\i7 K H b (ks.map kV)/\(iW kvs ks≠none\/H b=some (.tup (ks.map kV)))/\kvs.length<sizeLine/\Q (upd H a (.dT (putK kvs ks v)))
theorem KT.old {H:Hp}{kvs:List (List Key×V)}{xs:List (List Key×Addr×Lg)}(r:KT H kvs xs)(k:List Key){b:Addr}{y:V}{u:Lg}(hb:iW kvs k≠none)(ry:RelV y u):KT H (putK kvs k y) (storedH xs k b u):=by
 have e:(kvs.any λkv=>decide (kv.1=k))=(atKey xs k).isSome:=by rw[mN,(r.val k).rF,Option.isSome_map]
 have q:(atKey xs k).isSome=true:=by
  rw[<-e,mN];cases z:iW kvs k with
  | none=>exact absurd z hb
  | some _=>rfl
 unfold putK storedH;rw[e,if_pos q,if_pos q];exact r.IS k ry
theorem set_dict (hu:X.A.units+1<cLine):Dd X (Fe X.K):=by
 intro pins s σ H o i v ov iv u Q I ro ri rv h;obtain ⟨a,b,kvs,ks,rfl,rfl,e,hb,hk,l,q⟩:=h;cases ro;cases ri;obtain ⟨z,hd,xs,rel,dd⟩:=EZ I.bC e;have hz:xs.length<=sizeLine:=by rw[<-Paired.length rel];exact z
 have hl:(putK kvs ks v).length<=sizeLine:=by have:=uZ kvs ks v;lia
 have rel':KT H (putK kvs ks v) (storedH xs ks b u):=by
  rcases hk with hk | hk
  .exact rel.old ks hk rv
  .exact rel.put ks hk rv
 refine wpAny_setItem_heap (hsz:=hz) (tupleKind_room_in1 hu) (kZ I hb) dd λh' dd' hs=>⟨_,?_,q⟩
 obtain ⟨o',es,ep,hq,h2,h3,h4,_,h5⟩:=dd';exact xU I (by rw[e];exact True.intro) hs ⟨o',hq⟩ ⟨hl,hd,_,rel'.keeps λc ys ec=>by rw[aq (yG ec e λz=>nomatch z)];exact ec,o',es,ep,hq,h2,h3,h4,h5⟩
theorem Es {o i:Expr}{pos:Pos}{td ty:TE}(hu:X.A.units+1<cLine)(ho:PE X o td)(hi:PE X i ty)(hs:Fu i):PE X (.Subscript o i pos) (GZ (CB X.K) td ty):=by
 intro pins s σ H Q I h;refine ED PySem.F.slot_dict_getitem.lookup hs (cj (ho pins s σ H _ I h) λu s1 ⟨x,H1,I1,rx,q1⟩=>cj (hi pins s1 σ H1 _ I1 q1) ?_);rintro iv s2 ⟨y,H2,I2,ry,a,b,kvs,ks,v,ex,ey,e,hb,l,q2⟩;subst ex ey;cases rx;cases ry;obtain ⟨_,_,xs,_,ob,_,_,h1,h2,_⟩:=nH I2.bC e;exact ⟨⟨ob,h1,h2.1⟩,uQ hu I2 e hb l λw' s3 I3 rw'=>⟨v,H2,I3,rw',q2⟩⟩
end
end L2
namespace DL
open PySem L2
noncomputable abbrev cn:=List ((Int×Int)×Int)
noncomputable def aQ (kvs:cn)(k:Int×Int):Option Int:=(kvs.find? λp=>decide (p.1=k)).map (·.2)
noncomputable def putD (kvs:cn)(k:Int×Int)(v:Int):cn:=if (kvs.any λp=>decide (p.1=k))=true then kvs.map (λp=>if p.1=k then (p.1,v) else p) else kvs++[(k,v)]
noncomputable def k2 (k:Int×Int):List Key:=[Sum.inl k.1,Sum.inl k.2]
theorem kY {a b:Int×Int}:k2 a=k2 b↔a=b:=by
 constructor
 .intro h;unfold k2 at h;injection h with h1 h2
  injection h2 with h2 _
  exact Prod.ext (Sum.inl.inj h1) (Sum.inl.inj h2)
 .rintro rfl;rfl
theorem iw (kvs:cn)(k:Int×Int):iW (encD kvs) (k2 k)=(aQ kvs k).map V.int:=by
 induction kvs with
 | nil=>rfl
 | cons p r ih =>
  have e:encD (p::r)=(k2 p.1,V.int p.2)::encD r:=rfl;rw[e];by_cases h:p.1=k
  .rw[qk (p:=(k2 p.1,V.int p.2)) (kY.mpr h)];simp[aQ,List.find?_cons,h]
  .rw[qj (p:=(k2 p.1,V.int p.2)) (λz=>h (kY.mp z)),ih];simp[aQ,List.find?_cons,h]
theorem Di (kvs:cn)(k:Int×Int):((encD kvs).any λkv=>decide (kv.1=k2 k))=kvs.any λp=>decide (p.1=k):=by
 induction kvs with
 | nil=>rfl
 | cons p r ih =>
  have e:encD (p::r)=(k2 p.1,V.int p.2)::encD r:=rfl;rw[e,List.any_cons,List.any_cons,ih];congr 1;exact decide_eq_decide.mpr kY
theorem pR (kvs:cn)(k:Int×Int)(v:Int):putK (encD kvs) (k2 k) (.int v)=encD (putD kvs k v):=by
 unfold putK putD;rw[Di];by_cases h:(kvs.any λp=>decide (p.1=k))=true
 .rw[if_pos h,if_pos h];unfold encD;rw[map_map,map_map];refine map_congr_left λp _=>?_;show (if k2 p.1=k2 k then (k2 p.1,V.int v) else (k2 p.1,V.int p.2))=_;show _=(k2 (if p.1=k then (p.1,v) else p).1,V.int (if p.1=k then (p.1,v) else p).2)
  by_cases e:p.1=k
  .rw[if_pos (kY.mpr e),if_pos e]
  .rw[if_neg (λz=>e (kY.mp z)),if_neg e]
 .rw[if_neg h,if_neg h];unfold encD;rw[LI];rfl
theorem ma (kvs:cn):(encD kvs).length=kvs.length:=by unfold encD;rw[Lk]
theorem ox {K:Frag}{G:Hp}{v:V}{i j:Int}(r:Rep K G v (.tup [.int i,.int j])):∃b,v=.ref b/\i7 K G b ((k2 (i,j)).map kV):=by
 obtain ⟨b,vs,rfl,e,rr⟩:=r.d4;refine ⟨b,rfl,?_⟩;cases rr with
 | cons r1 rr=>cases rr with
  | cons r2 rr=>cases rr;cases r1;cases r2;exact e
theorem Eo {K:Frag}{G:Hp}{v:V}{i j:Int}(r:Rep K G v (.tup [.int i,.int j])):∃b,v=.ref b/\G b=some (.tup ((k2 (i,j)).map kV)):=by
 obtain ⟨b,vs,rfl,e,rr⟩:=r.ud;refine ⟨b,rfl,?_⟩;cases rr with
 | cons r1 rr=>cases rr with
  | cons r2 rr=>cases rr;cases r1;cases r2;exact e
theorem aJ.CK {K:Frag}{H0 G H:Hp}{σ:St}{ρ:ax}{i:Nat}{a:Addr}{d d':D}{ob:HO}(e:aJ K H0 G H σ ρ)(h1:aG ρ i=some (.o d))(h2:σ[i]?=some (some (.ref a)))(r:cm K G (upd H a ob) a d'):aJ K H0 G (upd H a ob) σ (dput ρ i (.o d')):=by
 obtain ⟨o,e⟩:=e;obtain ⟨a',h3,h4,h4',h5⟩:=e.o i _ h1;rw[h2] at h3;cases h3;refine ⟨o,by rw[eP];exact e.len,λj d q=>?_,λj d q=>?_,λj t dss q=>?_⟩
 .rcases aN q with ⟨rfl,_,q⟩ | ⟨hne,q⟩
  .cases q
  .exact e.p j d q
 .rcases aN q with ⟨rfl,_,q⟩ | ⟨hne,q⟩
  .cases q;exact ⟨a,h2,h4,h4',r⟩
  .obtain ⟨b,k1,k2,k2',k3⟩:=e.o j d q;refine ⟨b,k1,k2,k2',k3.d7 (ao.refl _) k3.1 λo z=>?_⟩;rw[aq (by rintro rfl;exact hne (h4'.symm.trans k2'))];exact z
 .rcases aN q with ⟨rfl,_,q⟩ | ⟨hne,q⟩
  .cases q
  .obtain ⟨b,k1,k2⟩:=e.n j t dss q;refine ⟨b,k1,k2.d7 (ao.refl _) λx z1 z2 z3 z4=>⟨z3,z2,λo z=>?_⟩⟩;rw[aq (by rintro rfl;exact hne (h4'.symm.trans z2))];exact z
section
variable {X:Cx} {e e1 e2 o k:Expr} {te t1 t2 ta tk:DT} {i:Nat} {x:Str} {pos px lp tpos sp:Pos}
noncomputable def A9:DT:=λ_ Q=>Q (.o (.dct []))
theorem xW:DE X (.Dict [] [] pos) A9:=
 DE.of Ci (by rintro σ H Q ⟨G,ρ,P,s,_,h,k⟩ p hp;exact k _ _ _ G h ((Wd.refl s).own hp (s.free hp)) ⟨p,rfl,hp,s.free hp,aA⟩)
noncomputable def uC:D2:=λx y Q=>match x,y with
 | .dct kvs,.tup [.int i,.int j]=>∃v,aQ kvs (i,j)=some v/\Q (.p (.int v))
 | _,_=>False
theorem ot {n:Nat}(hr:cN n X.A)(ha:DE X o ta)(hk:DE X k tk)(hs:autoParam (Fu k) aZi._auto_1):DE X (.Subscript o k pos) (i6 uC ta tk):=
 DE.of (Es (mq hr) ha.pe hk.pe hs) (oO λH G x y dx dy P Q s rx ry h kk=>by
  unfold uC at h;split at h
  .obtain ⟨v,h1,h2⟩:=h;obtain ⟨b,rfl,hb⟩:=ox ry;cases rx with
   | dct e=>exact ⟨_,b,_,_,.int v,rfl,rfl,fS s e,aw s hb,by rw[iw,h1];rfl,kk _ _ H G h2 (Wd.refl s) (.int _)⟩
  .exact h.elim)
noncomputable def xJ (i:Nat)(t1 t2 te:DT):fL:=λE ρ=>match aG ρ i with
 | some (.o (.dct kvs))=>te (cc ρ) λb=>match b.val with
  | .int v=>t1 (cc ρ) λb1=>match b1.val with
   | .int z=>t2 (cc ρ) λb2=>match b2.val with
    | .int y=>kvs.length<sizeLine/\E.nx (dput ρ i (.o (.dct (putD kvs (z,y) v))))
    | _=>False
   | _=>False
  | _=>False
 | _=>False
theorem DB {n:Nat}{x1}(hr:cN n X.A)(hN:X.N[i]?=some x)(hv:uk X.env.scope x)(h1:DE X e1 t1)(h2:DE X e2 t2)(he:DE X e te)(hd:autoParam ((x == ("__debug__" : Str))=false) aZb._auto_1)(hcd:autoParam ((x == ("__classdict__" : Str))=false) aZb._auto_1)
    (hs0:autoParam (starEach [e1,e2] X.env=(false,eval e1 X.env)::starEach [e2] X.env) aZa._auto_1) (hs1:autoParam (starEach [e2] X.env=(false,eval e2 X.env)::starEach [] X.env) aZa._auto_1)
    (ha:autoParam (∀v,assign (.Subscript (.Name x px) (.Tuple [e1,e2] x1 lp) tpos) X.env v=(do
      let ov <-holding [v] (eval (.Name x px) X.env)
      let iv <-holding [v,ov] (eval (.Tuple [e1,e2] x1 lp) X.env)
      standAt tpos
      holding [v,ov,iv] (setItem ov iv v)
      release [v,ov,iv] [])) aZc._auto_1)
    (hs:autoParam (swapsWithSole [.Subscript (.Name x px) (.Tuple [e1,e2] x1 lp) tpos] e pos.line X.env=pure false) aZa._auto_1) (hw:autoParam (swappedStores [.Subscript (.Name x px) (.Tuple [e1,e2] x1 lp) tpos] e X.env=pure none) aZa._auto_1)
    (h0:autoParam ((assignEach [.Subscript (.Name x px) (.Tuple [e1,e2] x1 lp) tpos] X.env).map (·.2) = [assign (.Subscript (.Name x px) (.Tuple [e1,e2] x1 lp) tpos) X.env]) aZa._auto_1) :
    DS X (.Assign [.Subscript (.Name x px) (.Tuple [e1,e2] x1 lp) tpos] e pos) (xJ i t1 t2 te):=DS.mk λH0 G0 =>
  PS.imp (tN he.pe (wZ (dF hN hv hd hcd) (Cp (fu h1.pe (fu h2.pe iI hs1) hs0)) (set_dict (mq hr)) ha) hs hw h0)<|by
    rintro Dn σ H ⟨E,G,ρ,eo,w,en,h⟩;unfold xJ at h;split at h
    · rename_i kvs q;obtain ⟨a,ha1,ha2,ha3,ha4⟩:=en.o i _ q;have ha4:H a=some (.dT (encD kvs)):=ha4;obtain ⟨G1,w1,sg,en1⟩:=en.freeze w;refine ⟨G1,cc ρ,_,w1.gh,en1.p,h,λb v H' G' p' w' r'=>?_⟩;split at p'
      · rename_i vv ev;have hvv:=eK w' r' ev;subst hvv;refine ⟨.ref a,ha1,G',cc ρ,_,w'.gh,eF.mono w'.gg en1.p,p',λb1 v1 H1 G1' p1 w1' r1=>?_⟩;split at p1
        · rename_i z ez;have hz:=eK w1' r1 ez;subst hz;refine ⟨G1',cc ρ,_,w1'.gh,eF.mono (w'.trans w1').gg en1.p,p1,λb2 v2 H2 G2 p2 w2 r2=>?_⟩;split at p2
          · rename_i y ey;have hy:=eK w2 r2 ey;subst hy;obtain ⟨hl,p2⟩:=p2;refine ⟨fW (by show 2<=1000;decide),λp hp=>?_⟩;have s2:ao H H2:=(w'.hh.trans w1'.hh).trans w2.hh;have e2:H2 a=some (.dT (encD kvs)):=s2 _ _ ha4;have pa:a≠p:=by rintro rfl;rw[e2] at hp;cases hp
            have hu:upd H2 p (.tup [.int z,.int y]) a=some (.dT (encD kvs)):=by rw[aq pa];exact e2
            refine ⟨a,p,encD kvs,k2 (z,y),rfl,rfl,hu,.inl (.inl aA),.inr aA,by rw[ma];exact hl,?_⟩;rw[pR];have s3:ao H (upd H2 p (.tup [.int z,.int y])):=s2.trans (eZ hp);have wb:Wd H0 G0 (upd H2 p (.tup [.int z,.int y])) G:=⟨w.hh.trans s3,w.gg,w.gh.trans s3,w.old⟩
            exact eo.nx σ _ G _ (wb.own ha2 ha3) ((en.back s3).CK q ha1 ⟨ha3,aA⟩) p2
          · exact p2.elim
        · exact p1.elim
      · exact p'.elim
    · exact h.elim
noncomputable def xI (i:Nat)(tk te:DT)(f:Int->Int->Int):fL:=λE ρ=>match aG ρ i with
 | some (.o (.dct kvs))=>tk (cc ρ) λb=>match b.val with
  | .tup [.int z,.int y]=>∃m,aQ kvs (z,y)=some m/\te (cc ρ) λb=>match b.val with
   | .int v=>kvs.length<sizeLine/\E.nx (dput ρ i (.o (.dct (putD kvs (z,y) (f m v)))))
   | _=>False
  | _=>False
 | _=>False
theorem Dz {op:Operator}{f:Int->Int->Int}(h:PS X (.AugAssign (.Subscript (.Name x px) k tpos) op e pos) (Fi (Hd i) (cE X.K tk) (cE X.K te) (CB X.K) (Ju f) (Fe X.K))) :
  DS X (.AugAssign (.Subscript (.Name x px) k tpos) op e pos) (xI i tk te f):=DS.mk λH0 G0 =>
 PS.imp h<|by
  rintro Dn σ H ⟨E,G,ρ,eo,w,en,h⟩;unfold xI at h;split at h
  .rename_i kvs q;obtain ⟨a,ha1,ha2,ha3,ha4⟩:=en.o i _ q;have ha4:H a=some (.dT (encD kvs)):=ha4;obtain ⟨G1,w1,sg,en1⟩:=en.freeze w;refine ⟨.ref a,ha1,G1,cc ρ,_,w1.gh,en1.p,h,λb v H' G' p' w' r'=>?_⟩;obtain ⟨G2,w2,r2⟩:=r'.give w';split at p'
   .rename_i z y ez;rw[ez] at r2;obtain ⟨m,hm,p'⟩:=p';obtain ⟨c,rfl,hc⟩:=ox r2;have hv:iW (encD kvs) (k2 (z,y))=some (.int m):=by rw[iw,hm];rfl
    refine ⟨a,c,encD kvs,k2 (z,y),.int m,rfl,rfl,.inl (w2.hh _ _ ha4),aw w2.gh hc,hv,?_⟩;refine ⟨G2,cc ρ,_,w2.gh,eF.mono w2.gg en1.p,p',λb3 v3 H3 G3 p3 w3 r3=>?_⟩;split at p3
    .rename_i n en3;obtain ⟨hl,p3⟩:=p3;have s3:ao H H3:=w2.hh.trans w3.hh;refine ⟨m,n,rfl,eK w3 r3 en3,a,c,encD kvs,k2 (z,y),rfl,rfl,s3 _ _ ha4,aw (w2.gh.trans w3.hh) hc,.inl (by rw[hv];simp),by rw[ma];exact hl,?_⟩;rw[pR];have wb:Wd H0 G0 H3 G:=⟨w.hh.trans s3,w.gg,w.gh.trans s3,w.old⟩
     exact eo.nx σ _ G _ (wb.own ha2 ha3) ((en.back s3).CK q ha1 ⟨ha3,aA⟩) p3
    .exact p3.elim
   .exact p'.elim
  .exact h.elim
end
end DL
namespace DL
open PySem L2
theorem Hy {K:Frag}{H0 G0 G H G1 H' G':Hp}(w:Wd H0 G0 H G)(w1:Wd H0 G0 H G1)(w':Wd H G1 H' G') :
  ∃G3,Wd H0 G0 H' G3/\ao G G3/\(∀c us,i7 K G' c us->i7 K G3 c us)/\(∀c us,H' c=some (.tup us)->G3 c=some (.tup us))/\∀x,(∀us,H' x≠some (.tup us))->(∀o us,H' x≠some (.cc o us))->G3 x=G x:=by
 classical
 have gh':ao G H':=w.gh.trans w'.hh;let C:Addr->Prop:=λc=>(∃us,H' c=some (.tup us))\/(H0 c=none/\∃o us,H' c=some (.cc o us))
 obtain ⟨G3,yes,no⟩ : ∃G3:Hp,(∀c,C c->G3 c=H' c)/\∀c,¬C c->G3 c=G c:=⟨λc=>if C c then H' c else G c,λc h=>if_pos h,λc h=>if_neg h⟩
 have sg:ao G G3:=λc o e=>by
  by_cases z:C c
  .rw[yes c z];exact gh' _ _ e
  .rw[no c z];exact e
 refine ⟨G3,⟨w.hh.trans w'.hh,w.gg.trans sg,λc o e=>?_,λc hc=>?_⟩,sg,λc us h=>?_,λc us h=>by rw[yes c (.inl ⟨us,h⟩)];exact h,λx h1 h2=>no x ?_⟩
 .by_cases z:C c
  .rw[yes c z] at e;exact e
  .rw[no c z] at e;exact gh' _ _ e
 .rw[no c ?_]
  .exact w.old c hc
  .obtain ⟨o,e,n⟩:=hc;rintro (⟨us,z⟩ | ⟨z,_⟩)
   .have:=(w.hh.trans w'.hh) _ _ e;rw[z] at this;cases this;exact n us rfl
   .rw[z] at e;cases e
 .rcases h with h | h
  .rcases h with h | ⟨o,h⟩
   .have e:=w'.gh _ _ h;exact .inl (.inl (by rw[yes c (.inl ⟨us,e⟩)];exact e))
   .have e:=w'.gh _ _ h;by_cases z:H0 c=none
    .exact .inl (.inr ⟨o,by rw[yes c (.inr ⟨z,o,_,e⟩)];exact e⟩)
    .have cg:Fo H0 c:=by
      cases q:H0 c with
      | none=>exact absurd q z
      | some y =>
       have:=(w.hh.trans w'.hh) _ _ q;rw[e] at this;cases this;exact ⟨_,q,λ_ z=>nomatch z⟩
     have n:¬C c:=by
      rintro (⟨us',k⟩ | ⟨k,_⟩)
      .rw[e] at k;cases k
      .exact z k
     refine .inl (.inr ⟨o,?_⟩);rw[no c n,w.old c cg,<-(w1.trans w').old c cg];exact h
  .exact .inr h
 .rintro (⟨us,z⟩ | ⟨_,o,us,z⟩)
  .exact h1 us z
  .exact h2 o us z
theorem aJ.more {K:Frag}{H0 G H G3:Hp}{σ:St}{ρ:ax}(e:aJ K H0 G H σ ρ)(sg:ao G G3)(hk:∀x,G x=none->((∃vs,H x=some (.lst vs))\/∃kvs,H x=some (.dT kvs))->G3 x=none):aJ K H0 G3 H σ ρ:=by
 obtain ⟨o,e⟩:=e;have own:∀x d,cm K G H x d->cm K G3 H x d:=λx d q=>by
  refine q.d7 sg (hk x q.1 ?_) λo z=>z;obtain ⟨k1,k2⟩:=q;cases d with
  | lst ds=>obtain ⟨vs,k3,_⟩:=k2;exact .inl ⟨vs,k3⟩
  | dct kvs=>exact .inr ⟨_,k2⟩
  | non=>exact k2.elim
  | bl _=>exact k2.elim
  | int _=>exact k2.elim
  | str _=>exact k2.elim
  | tup _=>exact k2.elim
  | scr _=>exact k2.elim
 refine ⟨o,e.len,λi d q=>?_,λi d q=>?_,λi t dss q=>?_⟩
 .obtain ⟨v,h1,h2⟩:=e.p i d q;exact ⟨v,h1,h2.mono sg⟩
 .obtain ⟨b,h1,h2,h3,h4⟩:=e.o i d q;exact ⟨b,h1,h2,h3,own b d h4⟩
 .obtain ⟨b,h1,as,nd,pr,z⟩:=e.n i t dss q;refine ⟨b,h1,as,nd,cG (by rintro x d _ ⟨k1,k2,k3⟩;exact ⟨k1,k2,own x _ k3⟩) pr,?_⟩;cases t with
  | true=>exact sg _ _ z
  | false =>
   obtain ⟨z1,z2,z3,z4,z5⟩:=z;exact ⟨z1,z2,hk b z3 (.inl ⟨_,z5⟩),z4,z5⟩
noncomputable def D.flat:D->Bool
 | .tup es=>es.all D.sc
 | d=>d.sc
theorem Rep.flat {K:Frag}{G' G3:Hp}{v:V}{d:D}(k:∀c us,G' c=some (.tup us)->G3 c=some (.tup us))(r:Rep K G' v d)(f:d.flat=true):Rep K G3 v d:=by
 cases d with
 | tup es =>
  obtain ⟨a,vs,rfl,e,rr⟩:=r.ud;exact Rep.uc (k _ _ e) (oA rr f)
 | non=>exact r.sc f
 | bl _=>exact r.sc f
 | int _=>exact r.sc f
 | str _=>exact r.sc f
 | lst _=>exact r.sc f
 | scr _=>exact r.sc f
 | dct _=>exact r.sc f
theorem aY.flat {K:Frag}{G' G3:Hp}{vs:List V}{ds:List D}(k:∀c us,G' c=some (.tup us)->G3 c=some (.tup us))(r:aY K G' vs ds)(f:ds.all D.flat=true):aY K G3 vs ds:=by
 induction r with
 | nil=>exact .nil
 | cons h _ ih =>
  rw[List.all_cons,LV] at f;exact .cons (h.flat k f.1) (ih f.2)
section
variable {X:Cx} {tg iter:Expr} {te:DT} {body:List Stmt} {g:Tg} {tb:fL} {pos:Pos}
end
section
variable {X:Cx} {e k m:Expr} {tk tm te:DT} {i:Nat} {x:Str} {pos px sp tpos:Pos}
end
end DL
namespace DIt
open PySem PySem.W PySem.Calls PyProof.Rows
structure At (h:Heap)(d:Addr)(es:Array DictEntry)(ep:Nat):Prop where
 ex:∃o,h.get? d=some o/\o.ExactDict/\o.data=.dict es ep
theorem At.ty {s:Li}{d es ep}(x:At s.heap d es ep):s.TypeIs (.ref d) "dict":=by
 obtain ⟨o,h1,h2,_⟩:=x.ex;exact ⟨o,h1,h2.1⟩
theorem At.keep {h h':Heap}{d es ep}(x:At h d es ep)(k:∀o,h.get? d=some o->h'.get? d=some o):At h' d es ep:=by
 obtain ⟨o,h1,r⟩:=x.ex;exact ⟨o,k _ h1,r⟩
theorem At.lt {h:Heap}{d es ep}(x:At h d es ep):d<h.objs.size:=by
 obtain ⟨o,h1,_⟩:=x.ex;exact Lv h1
section
variable {prog:LH} {w:LR} {A:LQ} {E:Lg->Li->Prop} {s:Li} {d it:Addr} {es:Array DictEntry} {ep i:Nat}
theorem start {Q:Lg->Li->Prop}(hd:(d == sysModules)=false)(x:At s.heap d es ep)
  (q:Q (.ref s.heap.objs.size) { s with heap:=s.heap.push { cls:=.type "dict_keyiterator",data:=.fields #[.ref d,.int 0 0,.int es.size 0,.int ep 0] } }):wpAny (model prog w) A (pyIter (.ref d)) Q E s:=by
 obtain ⟨o,e1,e2,e3⟩:=x.ex;have ty:=x.ty;refine wpAny_pyIter_slot ty PySem.F.slot_dict_iter (wpAny_call_entry PySem.F.slot_dict_iter ty PySem.F.entry_dict_iter ?_ (PySem.F.args_dict_iter_1 _));unfold Builtin.«dict.__iter__» Builtin.Dict.dictSlotNone;refine Lh (Lh (wpAny_notOrdered_dict ty (show wpAny _ _ (pure (Value.ref d)) _ _ s from Lj ?_)));show wpAny _ _ (Builtin.Dict.showsAll d >>= _) _ _ s;unfold Builtin.Dict.showsAll;rw[if_neg (show ¬(d == sysModules)=true by rw[hd];exact LM)];refine Lh (Lj (Lh (wpAny_dictEntries e1 e3 (Lh (wpAny_dictEpoch e1 e3 ?_)))));refine Lh (wpAny_newObj_type (Lj ⟨_,rfl,"dict_keyiterator",_,⟨_,LP _ rfl,rfl⟩,PySem.F.slot_dict_keyiterator_next.lookup,?_⟩));simpa [rawInt] using q
theorem item {Q:Option Lg->Li->Prop}(hit:s.heap.IsKeyIter it d i es.size ep)(x:At s.heap d es ep)(hi:i<es.size)
  (hQ:∀h',h'.IsKeyIter it d (i+1) es.size ep->Heap.SameBut it s.heap h'->Q (some es[i].key) { s with heap:=h' }):wpAny (model prog w) A (pyNext (.ref it)) Q E s:=by
 obtain ⟨o,f1,f2,f3⟩:=id hit;obtain ⟨od,e1,e2,e3⟩:=x.ex;unfold pyNext;refine Lh (wpAny_attempt (wpAny_callSpecial?_slot (name:=Str.ofString "__next__") hit.typeIs PySem.F.slot_dict_keyiterator_next (wpAny_call_entry PySem.F.slot_dict_keyiterator_next hit.typeIs PySem.F.entry_dict_keyiterator_next ?_ (PySem.F.args_dict_keyiterator_next_1 _))));refine Lh (Lj (Lh (Lh ?_)));first | refine Lh (wpAny_typeNameOfWhole_keyiter hit.typeIs (Lj (Lh (wpAny_fieldsOf f1 f3 ?_)))) | refine Lh (wpAny_typeNameOf_keyiter hit.typeIs (Lj (Lh (wpAny_fieldsOf f1 f3 ?_))))
 have own:Builtin.Dict_items.ownsTuple "dict_keyiterator" = false:=by decide
 simp only[own,LB,if_false];show wpAny _ _ (if (Value.ref d == Value.none)=true then _ else _) _ _ s;rw[if_neg (show ¬(Value.ref d == Value.none)=true from LM)];refine Lh (Lj (Lh (wpAny_dictEntries e1 e3 ?_)));rw[if_neg (show ¬_ by simp)];refine Lh (Lj (Lh (wpAny_dictEpoch e1 e3 ?_)));rw[if_neg (show ¬_ by simp)];refine Lj ?_;simp only[show ¬((i:Int)<0) from by lia,if_false,Int.toNat_natCast,Lq hi];refine Lh ?_;first | refine Lh (wpAny_typeNameOfWhole_keyiter hit.typeIs (Lj (Lh (wpAny_isOneOf_keyiter hit.typeIs ?_)))) | refine Lh (wpAny_typeNameOf_keyiter hit.typeIs (Lj (Lh (wpAny_isOneOf_keyiter hit.typeIs ?_))))
 first | refine Lh (wpAny_isOneOf_keyiter hit.typeIs ?_) | skip
 show wpAny _ _ (setField (.ref it) 1 (rawInt ((i:Int)+1)) >>= _) _ _ s;refine Lh (wpAny_setField f1 f3 (by simp) ?_);have hit':(s.heap.update it (Obj.mapFields (·.setIfInBounds 1 (rawInt ((i:Int)+1))))).IsKeyIter it d (i+1) es.size ep:=
  ⟨_,Heap.get?_update_self _ f1 (Obj.isFreed_of_fields (Obj.data_mapFields f3 _)),(Obj.cls_mapFields ..).trans f2,by rw[Obj.data_mapFields f3];simp[rawInt]⟩
 refine Lh (wpAny_holding (Lh (wpAny_isOneOf_keyiter (s:={ s with heap:=s.heap.update it (Obj.mapFields (·.setIfInBounds 1 (rawInt ((i:Int)+1)))) }) hit'.typeIs ?_)));show wpAny _ _ (pure es[i].key) _ _ _;exact Lj (Lj ⟨_,rfl,Lj (hQ _ hit' (Heap.SameBut.update ..))⟩)
theorem done {Q:Option Lg->Li->Prop}(hh:A.handled=none)(hit:s.heap.IsKeyIter it d es.size es.size ep)(x:At s.heap d es ep)(hQ:∀h',Heap.ExtBut it s.heap h'->Q none { s with heap:=h' }):wpAny (model prog w) A (pyNext (.ref it)) Q E s:=by
 obtain ⟨o,f1,f2,f3⟩:=id hit;obtain ⟨od,e1,e2,e3⟩:=x.ex;unfold pyNext;refine Lh (wpAny_attempt (wpAny_callSpecial?_slot (name:=Str.ofString "__next__") hit.typeIs PySem.F.slot_dict_keyiterator_next (wpAny_call_entry PySem.F.slot_dict_keyiterator_next hit.typeIs PySem.F.entry_dict_keyiterator_next ?_ (PySem.F.args_dict_keyiterator_next_1 _))));refine Lh (Lj (Lh (Lh ?_)));first | refine Lh (wpAny_typeNameOfWhole_keyiter hit.typeIs (Lj (Lh (wpAny_fieldsOf f1 f3 ?_)))) | refine Lh (wpAny_typeNameOf_keyiter hit.typeIs (Lj (Lh (wpAny_fieldsOf f1 f3 ?_))))
 have own:Builtin.Dict_items.ownsTuple "dict_keyiterator" = false:=by decide
 simp only[own,LB,if_false];show wpAny _ _ (if (Value.ref d == Value.none)=true then _ else _) _ _ s;rw[if_neg (show ¬(Value.ref d == Value.none)=true from LM)];refine Lh (Lj (Lh (wpAny_dictEntries e1 e3 ?_)));rw[if_neg (show ¬_ by simp)];refine Lh (Lj (Lh (wpAny_dictEpoch e1 e3 ?_)));rw[if_neg (show ¬_ by simp)];refine Lj ?_;simp only[show ¬((es.size:Int)<0) from by lia,if_false,Int.toNat_natCast,Array.getElem?_eq_none (Ll es.size)];refine Lh ?_;first | refine Lh (wpAny_typeNameOfWhole_keyiter hit.typeIs (Lj ?_)) | skip
 show wpAny _ _ (setField (.ref it) 0 .none >>= _) _ _ s;refine Lh (wpAny_setField f1 f3 (by simp) ?_);show wpAny _ _ (newExc (.type "StopIteration") [] >>= _) _ _ _;refine Lh ?_;simp only[newExc,newTuple];refine Lh (wpAny_newObj_type (Lh (m:=firstArgMember _ _) (wpAny_of_eq (a:=Value.none) (by first | rfl | (simp only[firstArgMember];rfl)) (wpAny_newObj_type ?_ (by size_fits)))) (by size_fits));simp only[raiseNew];refine Lh (wpAny_handled ?_);rw[show A.in1.handled=none from hh];refine Lh (Lj (wpAny_throw ?_));refine Lh (wpAny_isInstance (T:="StopIteration") (b:=true) ⟨_,LP _ rfl,rfl⟩ isSubtype_stop (Lj (hQ _ (((Heap.SameBut.update ..).extBut.push _).push _))))
theorem walk (hh:A.handled=none)(I d:Addr)(hne:d≠I)(es:Array DictEntry)(ep:Nat) :
  Walks prog w A I [I,d] [I] es.size (λi v=>∃e,es[i]?=some e/\v=e.key) (λi h=>h.IsKeyIter I d i es.size ep/\At h d es ep) where
 sub:=λb hb=>by simp at hb;simp[hb]
 frame:=λ_ _ _ st hk=>⟨st.1.at λo e=>hk I (by simp) o e,st.2.keep λo e=>hk d (by simp) o e⟩
 item:=λi s Q E hi st hQ=>item st.1 st.2 hi λh' k hs'=>hQ _ h' s.toks ⟨es[i],by simp[hi],rfl⟩ ⟨k,st.2.keep λo e=>hs'.extBut d o hne e⟩ λb o hb e=>hs'.extBut b o (λh=>hb (by simp[h])) e
 done:=λs Q E st hQ=>done hh st.1 st.2 λh' he'=>hQ h' s.toks λb o hb e=>he' b o (λh=>hb (by simp[h])) e
 self:=λ_ _ _ _ st hQ=>wpAny_pyIter_keyiter st.1 hQ
theorem src (lo:(d == sysModules)=false):KdlSrc prog w "dict" d d es.size (λi v=>∃e,es[i]?=some e/\v=e.key) (λh=>At h d es ep) where
 type:=λ_ hm=>hm.ty
 there:=λ_ hm=>⟨hm.lt,hm.lt⟩
 keep:=λ_ _ hm hk=>hm.keep λo e=>hk d (.inl rfl) o e
 notList:=by decide
 notTuple:=by decide
 hint:=λ_ _ _ _ hm hq=>kdl_hint_dict hm.ty hq
 iter:=λ_ _ hh hm=>⟨_,_,(λ_ _ hq=>start lo hm hq),walk hh _ d (LF hm.lt) es ep,⟨⟨_,LP _ rfl,rfl,rfl⟩,hm.keep λo e=>Ln _ e⟩⟩
end
end DIt
namespace SoT
open PySem PySem.W PySem.Calls PyProof.Rows
noncomputable def BV (fin:Bool):List Int->List Int->Bool
 | a::r,b::r'=>if a=b then BV fin r r' else decide (a<b)
 | _,_=>fin
noncomputable def Tp (h:Heap)(v:Lg)(ns:List Int):Prop:=∃a o xs n,v=.ref a/\h.get? a=some o/\o.cls=.type "tuple"/\o.data=.seq xs n/\IntsAre xs.toList ns
theorem Tp.keep {h h':Heap}{v:Lg}{ns:List Int}(k:∀b o,h.get? b=some o->o.cls=.type "tuple"->h'.get? b=some o)(t:Tp h v ns):Tp h' v ns:=by
 obtain ⟨a,o,xs,n,e,h1,h2,r⟩:=t;exact ⟨a,o,xs,n,e,k a o h1 h2,h2,r⟩
section
variable {prog:LH} {w:LR} {A:LQ} {E:Lg->Li->Prop} {s:Li}
theorem Gn {b:Bool}{x y:Int}{t u:Tok}{Q:Bool->Li->Prop}(h:Q (decide (x<y)) s):wpAny (model prog w) A (oneLt' b (.int x t) (.int y u)) Q E s:=by
 cases b with
 | true=>exact oneLt_int h
 | false=>exact kat_one _ _ (PyProof.Rows.lt_int (show Q (decide (x<y)) s from h))
theorem yE {b fin:Bool}{Q:Bool->Li->Prop}:∀{us vs:List Lg} {ns ms:List Int} (i:Nat),IntsAre us ns->IntsAre vs ms->Q (BV fin ns ms) s->KatLex prog w A b fin Q (us.zip vs) i s
 | _,_,_,_,_,.nil,.nil,h=>h
 | _,_,_,_,_,.nil,.cons _ _ _,h=>h
 | _,_,_,_,_,.cons _ _ _,.nil,h=>h
 | _,_,_,_,i,.cons x t r,.cons y u r',h=>by
  rw[List.zip_cons_cons];refine kat_cons (wpAny_eqBool_int ?_);have h':Q (if x=y then BV fin _ _ else decide (x<y)) s:=h;by_cases e:x=y
  .rw[if_pos e] at h';rw[show (x == y)=true by simp[e]];exact kat_yes (yE (i+1) r r' h')
  .rw[if_neg e] at h';rw[show (x == y)=false by simp[e]];exact kat_no (Gn h')
theorem F0 {v u:Lg}{ns ms:List Int}{Q:Bool->Li->Prop}(hv:Tp s.heap v ns)(hu:Tp s.heap u ms)(h:Q (BV (decide (ns.length<ms.length)) ns ms) s):wpAny (model prog w) A (keyLt' (tuples' true) v u) Q E s:=by
 obtain ⟨a,o,xs,n,rfl,h1,h2,h3,h4⟩:=hv;obtain ⟨a',o',xs',n',rfl,g1,g2,g3,g4⟩:=hu;have il:∀{us:List Lg} {ns:List Int},IntsAre us ns->us.length=ns.length:=λr=>by
  induction r with
  | nil=>rfl
  | cons _ _ _ ih=>simp[ih]
 have e1:xs.size=ns.length:=by rw[<-il h4];simp
 have e2:xs'.size=ms.length:=by rw[<-il g4];simp
 refine kat_lt h1 h3 g1 g3 (yE 0 h4 g4 ?_);rw[e1,e2];exact h
theorem BP {h:Heap}:∀{vs:List Lg} {nss:List (List Int)},vs.length=nss.length->(∀(i:Nat) v ns,vs[i]?=some v->nss[i]?=some ns->0<ns.length/\Tp h v ns)->∃fs,KatTups h vs fs/\fs.length=vs.length/\∀f∈fs,∃n t,f=Value.int n t
 | [],[],_,_=>⟨[],KatTups.nil,rfl,λ_ z=>nomatch z⟩
 | v::vs,ns::nss,e,f=>by
  obtain ⟨fs,h1,h2,h3⟩:=BP (vs:=vs) (nss:=nss) (by simpa using e) λi v ns a b=>f (i+1) v ns (by simpa using a) (by simpa using b);obtain ⟨hl,a,o,xs,n,rfl,g1,g2,g3,g4⟩:=f 0 v ns rfl rfl;cases ns with
  | nil=>simp at hl
  | cons x r =>
   cases q:xs.toList with
   | nil=>rw[q] at g4;cases g4
   | cons u us =>
    rw[q] at g4;cases g4 with
    | cons _ t _ =>
     refine ⟨.int x t::fs,KatTups.cons g1 g2 g3 (by rw[<-Lo,q];rfl) h1,by simp[h2],λf hf=>?_⟩;rcases Lz.mp hf with rfl | hf
     .exact ⟨x,t,rfl⟩
     .exact h3 f hf
theorem n6 {h:Heap}{a:Addr}{vs:List Lg}{out:Array Lg}{b:Addr}{o:Obj}(hb:b≠a)(e:h.get? b=some o):(sortedHeap h a vs out).get? b=some o:=by
 unfold sortedHeap;refine (Heap.get?_update_other _ _ (Ne.symm hb)).trans (Ln _ (Ln _ ((Heap.get?_update_other _ _ (Ne.symm hb)).trans e)))
end
end SoT
namespace L2
open PySem PySem.Spec PyProof.Rows
section
variable {X:Cx}
theorem o7 {P:LH}{w:LR}{H:Hp}:∀{ps:List ((Int×Int)×Int)} {xs:List (List Key×Addr×Lg)},KT H (DL.encD ps) xs->∃bs:List Addr,Paired (λb p=>H b=some (.tup [.int p.1.1,.int p.1.2])) bs ps/\(xs.map (entryOfKey (tupleKind (bx P w)))).map (·.key)=bs.map Value.ref
 | [],_,r=>by
  have r':KT H [] _:=r;cases r';exact ⟨[],.nil,rfl⟩
 | p::ps,_,r=>by
  have r':KT H ((DL.k2 p.1,V.int p.2)::DL.encD ps) _:=r;cases r' with
  | cons h t =>
   obtain ⟨bs,h1,h2⟩:=o7 (P:=P) (w:=w) t;rename_i q qs;refine ⟨q.2.1::bs,.cons h.2.1 h1,?_⟩;rw[LK,LK,LK,h2];rfl
end
end L2
namespace DL
open PySem L2
noncomputable def BQ (kvs:cn):List D:=kvs.map λp=>.tup [.int p.1.1,.int p.1.2]
theorem AQ {K:Frag}{H G:Hp}{l:Addr}{bs:List Addr}{ps:cn}(s:ao G H)(hl:H l=none)(hb:Paired (λb p=>H b=some (.tup [.int p.1.1,.int p.1.2])) bs ps) :
  ∃G',Wd H G (upd H l (.lst (bs.map V.ref))) G'/\gY K H G' (upd H l (.lst (bs.map V.ref))) (.ref l) (.o (.lst (BQ ps))):=by
 obtain ⟨G3,w3,s3,k3,t3,o3⟩:=Hy (K:=K) (Wd.refl s) (Wd.refl s) ((Wd.refl s).own hl (s.free hl) (o:=.lst (bs.map V.ref)));have hl3:G3 l=none:=by
  rw[o3 l (λus z=>by rw[aA] at z;cases z) (λo us z=>by rw[aA] at z;cases z)];exact s.free hl
 refine ⟨G3,w3,l,rfl,hl,hl3,bs.map V.ref,aA,?_⟩;unfold BQ;clear w3 s3 k3 o3 hl3;induction hb with
 | nil=>exact .nil
 | @cons b p bs ps h _ ih =>
  refine .cons ?_ (ih ?_)
  .refine Rep.uc (t3 b _ ?_) (.cons (.int _) (.cons (.int _) .nil));rw[aq (by rintro rfl;rw[h] at hl;cases hl)];exact h
  .intro c us z;refine t3 c us ?_;by_cases e:c=l
   .subst e;rw[aA] at z;cases z
   .rw[aq e] at z ⊢;exact z
end DL
namespace L2
open PySem PySem.Spec PyProof.Rows
end L2
namespace DL
open PySem L2
end DL
namespace PySem
section
variable {prog:LH} {w:LR} {K:Type} [DecidableEq K] {knd:HeapKind prog w K} {A:LQ} {E:Lg->Li->Prop} {s:Li}
noncomputable def dO (xs:List (K×Addr×Lg))(k:K):List (K×Addr×Lg):=xs.filter λx=>decide (x.1≠k)
theorem rA {α β:Type}(f:α->β):∀(xs:List α) (j:Nat),(xs.eraseIdx j).map f=(xs.map f).eraseIdx j
 | [],_=>rfl
 | x::xs,0=>rfl
 | x::xs,j+1=>by
  rw[List.eraseIdx_cons_succ,LK,LK,List.eraseIdx_cons_succ,rA f xs j]
theorem kN:∀{xs:List (K×Addr×Lg)} {j:Nat} {k:K} {p:Addr×Lg},(xs.map (·.1)).Nodup->xs[j]?=some (k,p)->xs.eraseIdx j=dO xs k
 | [],j,k,p,_,h=>by simp at h
 | x::xs,0,k,p,hn,h=>by
  rw[LK,nodup_cons] at hn;simp only[List.getElem?_cons_zero,Option.some.injEq] at h;subst h;unfold dO;rw[List.eraseIdx_zero,List.tail_cons,List.filter_cons_of_neg (by simp)];symm;rw[List.filter_eq_self];intro y hy;rw[decide_eq_true_eq];exact λe=>hn.1 (Lx.mpr ⟨y,hy,e⟩)
 | x::xs,j+1,k,p,hn,h=>by
  rw[LK,nodup_cons] at hn;simp only[List.getElem?_cons_succ] at h;have hne:x.1≠k:=λe=>hn.1 (Lx.mpr ⟨(k,p),Ls h,e.symm⟩);unfold dO;rw[List.eraseIdx_cons_succ,List.filter_cons_of_pos (by rw[decide_eq_true_eq];exact hne)];have:=kN hn.2 h;unfold dO at this;rw[this]
theorem pF {xs:List (K×Addr×Lg)}(hn:(xs.map (·.1)).Nodup)(k:K):((dO xs k).map (·.1)).Nodup:=by
 unfold dO;exact List.Nodup.sublist (List.Sublist.map _ filter_sublist) hn
theorem t8 {d a:Addr}{xs:List (K×Addr×Lg)}{k:K}{Q:Option DictEntry->Li->Prop}(hu:knd.room A)(hkey:knd.is s.heap k a)(hm:s.heap.DictOfH knd d xs)(hz:xs.length<=sizeLine)
  (hnone:atKey xs k=none->Q none { s with toks:=s.toks+knd.draws k })
  (hsome:∀p e,atKey xs k=some p->e.val=p.2->∀h',h'.DictOfH knd d (dO xs k)->Heap.SameBut d s.heap h'->Q (some e) { s with heap:=h',toks:=s.toks+knd.draws k }) :
  wpAny (model prog w) A (Builtin.Dict.takeOut d (.ref a)) Q E s:=by
 obtain ⟨o,es,ep,ho,hc,hd,he,his,hn⟩:=hm;have hes:es.size<=sizeLine:=by rw[size_of_entries he];exact hz
 unfold Builtin.Dict.takeOut;try with_reducible refine wpAny_holding ?_
 refine Lh (knd.pyHash hu hkey ?_);refine Lh (wpAny_dictFind_heap (s:={ s with toks:=s.toks+knd.draws k }) hu hkey ho hd he his hn ?_ ?_)
 .intro hno;exact Lj (hnone (atKey_none_of_get hno))
 .intro j p hj;dsimp only;refine Lh (wpAny_dictEntries (s:={ s with toks:=s.toks+knd.draws k }) ho hd ?_);rw[entry_at he j,hj];dsimp only[Option.map_some];refine Lh (wpAny_updateDictKeys (hz:=hes) (s:={ s with toks:=s.toks+knd.draws k }) ho hd (Lj (hsome p _ (atKey_of_get hn hj) rfl _ ⟨_,_,ep+1,Heap.get?_update_self _ ho (Obj.isFreed_of_dict (Obj.data_mapDictKeys hd _)),
   hc.mapDictKeys _,Obj.data_mapDictKeys hd _,?_,?_,pF hn k⟩ (Heap.SameBut.update ..))))
  .rw[<-kN hn hj,Array.toList_eraseIdxIfInBounds,he];exact (rA _ xs j).symm
  .intro x hx;exact knd.keeps (his x (List.mem_filter.mp hx).1) ho hd (Heap.SameBut.update ..)
theorem Cu {d a:Addr}(hd:(d == sysModules)=false)(dflt:Lg) :
  MeetsIn prog w (Builtin.«dict.pop» ⟨[.ref d,.ref a,dflt],[]⟩) (λA R s=>knd.room A.in1/\∃k xs,knd.is s.heap k a/\s.heap.DictOfH knd d xs/\xs.length<=sizeLine /\
   (atKey xs k=none->∀tk,R (.ok (.ret dflt)) { s with toks:=tk })/\∀p,atKey xs k=some p->∀h' tk,h'.DictOfH knd d (dO xs k)->Heap.SameBut d s.heap h'->R (.ok (.ret p.2)) { s with heap:=h',toks:=tk }):=
 .of_wp<|by
  rintro A R s ⟨hu,k,xs,hkey,hm,hz,h0,h1⟩;unfold Builtin.«dict.pop»;refine Lh ?_;unfold Builtin.Dict.keyAndDefault;refine Lh (wpAny_notOrdered_dict hm.typeIs ?_);show wpAny _ _ (pure (d,Value.ref a,some dflt)) _ _ s;refine Lj ?_;have hp:(keyPart (Value.ref a)).isSome=false:=rfl;simp only[hp,LB,if_false];have hm':=hm;obtain ⟨o,es,ep,ho,hc,hdd,he,his,hn⟩:=hm';refine Lh (wpAny_dictEntries ho hdd (Lh (Lj ?_)));by_cases hem:es.isEmpty=true
  .rw[if_pos hem];have hx:xs = []:=by
    have:=size_of_entries he;rw[Array.isEmpty_iff_size_eq_zero] at hem;exact length_eq_zero_iff.mp (by lia)
   refine Lh (wpAny_rule (Lh (Lj ?_)));simp only[Option.isNone_none,if_true];refine Lh (wpAny_missedRemoval_other hd ?_);refine Lh (wpAny_rule (Lj ⟨dflt,rfl,?_⟩));exact h0 (by rw[hx];rfl) s.toks
  .rw[if_neg hem];refine Lh (t8 hu hkey hm hz (λhno=>?_) λp e hp hv h' hm'' hs'=>?_)
   .simp only[Option.isNone_none,if_true];refine Lh (wpAny_missedRemoval_other hd ?_);exact Lh (wpAny_rule (Lj ⟨dflt,rfl,h0 hno _⟩))
   .simp only[Option.isNone_some,LB,if_false];exact Lh (wpAny_letGo (Lj ⟨e.val,rfl,by rw[hv];exact h1 p hp h' _ hm'' hs'⟩))
noncomputable def jW (yb:List (K×Addr×Lg))(x:K×Addr×Lg):Bool:=
 match atKey yb x.1,x.2.2 with
 | some (_,.int m _),.int n _=>n == m
 | _,_=>false
theorem pZ {nm:String}{a b:Addr}{xa yb:List (K×Addr×Lg)}{Q:Bool->Li->Prop}(hu:knd.room A)(ha:(a == sysModules)=false)(hb:(b == sysModules)=false)
    (da:s.heap.DictOfH knd a xa) (db:s.heap.DictOfH knd b yb) (ia:∀x∈xa,∃n t,x.2.2=Value.int n t) (ib:∀x∈yb,∃n t,x.2.2=Value.int n t) (h:Q (xa.length == yb.length && xa.all (jW yb)) s) :
    wpAny (model prog w) A (Builtin.Dict.samePairs nm a b) Q E s:=by
  obtain ⟨oa,es,ep,hoa,_,hda,hea,hisa,hna⟩:=da;obtain ⟨ob,es',ep',hob,_,hdb,heb,hisb,hnb⟩:=db;have hla:es.size=xa.length:=size_of_entries hea;have hlb:es'.size=yb.length:=size_of_entries heb;rw[<-hla,<-hlb] at h;unfold Builtin.Dict.samePairs Builtin.Dict.showsAll;rw[if_neg (show ¬(a == sysModules)=true by rw[ha];exact LM),if_neg (show ¬(b == sysModules)=true by rw[hb];exact LM)];refine Lh (Lj (Lh (Lj ?_)));refine Lh (wpAny_dictEntries hoa hda ?_);dsimp only;refine Lh (wpAny_dictEntries hob hdb ?_);by_cases hsz:es.size=es'.size
  case neg =>
    rw[if_pos (by simpa using hsz)];have hbf:(es.size == es'.size)=false:=by simpa using hsz
    rw[hbf,Bool.false_and] at h;exact Lh (wpAny_rule (Lj h))
  case pos =>
    have h':Q (xa.all (jW yb)) s:=by simpa [hsz] using h
    rw[if_neg (by rw[hsz];simp)];refine Lh (wpAny_dictEpoch hoa hda ?_);refine Lh ?_;rw[Std.Legacy.Range.forIn_eq_forIn_range'];simp only[Std.Legacy.Range.size,Nat.sub_zero,Nat.add_sub_cancel,Nat.div_one];refine wpAny_forIn_list _
      (λrest q s'=>s'=s/\q=(none,())/\∃i,rest=List.range' i (es.size - i)/\i<=es.size/\(xa.drop i).all (jW yb)=xa.all (jW yb))
      _ ?_ ?_ _ _ ⟨rfl,rfl,0,by simp,LS _,rfl⟩
    · rintro x rest q s' ⟨rfl,rfl,i,hr,hi,hpre⟩;have hlt:i<es.size:=by
        rcases Nat.lt_or_ge i es.size with h | h
        · exact h
        · rw[Nat.sub_eq_zero_of_le h] at hr;simp at hr
      obtain ⟨rfl,hrest⟩ : x=i/\rest=List.range' (i+1) (es.size - (i+1)):=by
        have e:es.size - i=(es.size - (i+1))+1:=by lia
        rw[e,List.range'_succ] at hr;injection hr with h1 h2
        exact ⟨h1,h2⟩
      refine Lh (wpAny_dictEntries hoa hda ?_);have hlt':x<xa.length:=by rw[<-hla];exact hlt
      obtain ⟨⟨k,c,v⟩,hkv⟩ : ∃y,xa[x]?=some y:=⟨xa[x],Lm hlt'⟩
      have hmem:=Ls hkv;obtain ⟨n,t,hv⟩:=ia _ hmem;dsimp only at hv;subst hv;have hdrop:xa.drop x=(k,c,Value.int n t)::xa.drop (x+1):=by
        rw[drop_eq_getElem_cons hlt'];rw[Lm hlt'] at hkv;rw[Option.some.inj hkv]
      rw[hdrop,List.all_cons] at hpre;rw[entry_at hea x,hkv];show wpAny _ _ (holding [Value.ref c,Value.int n t] _ >>= _) _ _ _;refine Lh (wpAny_holding (Lh (wpAny_dictFind_heap hu (hisa _ hmem) hob hdb heb hisb hnb (λhno=>?_) λj p hj=>?_)))
      · have hn0:jW yb (k,c,Value.int n t)=false:=by
          unfold jW;rw[show atKey yb (k,c,Value.int n t).1=none from atKey_none_of_get hno]
        rw[hn0,Bool.false_and] at hpre;dsimp only;refine Lj ?_;rw[if_pos (by decide)];exact Lj (Lj (by rw[hpre];exact h'))
      · dsimp only;refine Lh (wpAny_dictEntries hob hdb ?_);obtain ⟨m,u,hm⟩:=ib _ (Ls hj);obtain ⟨pa,pv⟩:=p;dsimp only at hm;subst hm;rw[entry_at heb j,hj];have hs1:jW yb (k,c,Value.int n t)=(n == m):=by
          unfold jW;rw[show atKey yb (k,c,Value.int n t).1=some (pa,Value.int m u) from atKey_of_get hnb hj]
        rw[hs1] at hpre;dsimp only[Option.map_some];refine wpAny_holding (wpAny_eqBool_int ?_);cases e:(n == m) with
        | false =>
          rw[e,Bool.false_and] at hpre;rw[if_pos (by decide)];exact Lj (Lj (by rw[hpre];exact h'))
        | true =>
          rw[e,Bool.true_and] at hpre;rw[if_neg (by decide)];refine Lh (wpAny_dictEpoch hoa hda ?_);rw[if_neg (by simp)];exact Lj ⟨rfl,rfl,x+1,hrest,hlt,hpre⟩
    · rintro q s' ⟨rfl,rfl,i,hr,hi,hpre⟩;have hin:i=es.size:=by
        rcases Nat.lt_or_ge i es.size with h | h
        · have e : es.size - i = (es.size - (i + 1)) + 1 := by lia
          rw[e,List.range'_succ] at hr;exact nomatch hr
        · exact Nat.le_antisymm hi h
      refine Lj ?_;rw[hin,hla,List.drop_length] at hpre;rw[<-hpre] at h';exact h'
theorem Ei {a b:Addr}{xa yb:List (K×Addr×Lg)}{Q:Lg->Li->Prop}(hr:knd.room A.in1)(hu:A.units<cLine)(ha:(a == sysModules)=false)(hb:(b == sysModules)=false)
  (da:s.heap.DictOfH knd a xa) (db:s.heap.DictOfH knd b yb) (ia:∀x∈xa,∃n t,x.2.2=Value.int n t) (ib:∀x∈yb,∃n t,x.2.2=Value.int n t) (h:Q (.bool (!(xa.length == yb.length && xa.all (jW yb)))) s) :
  wpAny (model prog w) A (compareOp .NotEq (.ref a) (.ref b)) Q E s:=by
 refine wpAny_richCompare_same_room (op:=.NotEq) da.typeIs db.typeIs PySem.F.slot_dict_ne (wpAny_call_entry PySem.F.slot_dict_ne da.typeIs PySem.F.entry_dict_ne ?_ (PySem.F.args_dict_ne_2 _ _)) hu;show wpAny _ _ (Builtin.Dict.dictSlotArgs "__ne__" ⟨[.ref a,.ref b],[]⟩ >>= _) _ _ s;refine Lh ?_;unfold Builtin.Dict.dictSlotArgs;refine Lh (wpAny_notOrdered_dict da.typeIs ?_);show wpAny _ _ (pure (Value.ref a,Value.ref b)) _ _ s;refine Lj ?_;refine Lh (wpAny_isInstance (T:="dict") db.typeIs PySem.F.sub_dict_dict ?_);simp only[Bool.not_true,LB,if_false];refine Lh (Lj (Lh (Lj ?_)));refine Lh (pZ hr ha hb da db ia ib ?_);refine Lj ⟨_,rfl,?_,?_⟩
 .exact λx=>nomatch x
 .simpa using h
end
end PySem
namespace L2
open PySem PySem.Spec PyProof.Rows
section
variable {X:Cx} {pins:List (Addr×Obj)} {σ:St} {H:Hp} {s:Li} {a b:Addr}
theorem KT.drop {kvs:List (List Key×V)}{xs:List (List Key×Addr×Lg)}(r:KT H kvs xs)(k:List Key):KT H (rq kvs k) (dO xs k):=by
  unfold rq dO;induction r with
  | nil=>exact .nil
  | @cons p q ps qs h t ih =>
    obtain ⟨h1,h2⟩:=h;rw[filter_cons,filter_cons];by_cases e:p.1=k
    · have a : ¬ decide (p.1 ≠ k) = true := by simp [e]
      have b:¬decide (q.1≠k)=true:=by simp[h1.symm.trans e]
      rw[if_neg a,if_neg b];exact ih
    · have e':¬q.1=k:=λz=>e (h1.trans z);have a:decide (p.1≠k)=true:=by simp[e]
      have b:decide (q.1≠k)=true:=by simp[e']
      rw[if_pos a,if_pos b];exact .cons ⟨h1,h2⟩ ih
noncomputable def GY (K:Frag)(td ty tx:TE):TE:=λσ H Q=>td σ H λx H1=>∃a,x=.ref a/\JF H1 a/\ty σ H1 λy H2=>tx σ H2 λz H3=>∃kvs ks b,Rd H3 a (.dT kvs)/\y=.ref b/\i7 K H3 b (ks.map kV)/\Q ((iW kvs ks).getD z) H3
noncomputable def Ha (K:Frag)(td ty tx:TE):TE:=λσ H Q=>td σ H λx H1=>∃a,x=.ref a/\JF H1 a/\ty σ H1 λy H2=>tx σ H2 λz H3=>∃kvs ks b,H3 a=some (.dT kvs)/\y=.ref b/\i7 K H3 b (ks.map kV) /\
 (∀v,iW kvs ks=some v->Q v (upd H3 a (.dT (rq kvs ks))))/\(iW kvs ks=none->Q z H3)
variable {o e f:Expr} {apos cpos:Pos} {td ty tx:TE}
theorem Cj (hu:X.A.units+1<cLine)(ho:PE X o td)(he:PE X e ty)(hf:PE X f tx)(m:M2 X o "get" apos e f cpos):PE X (.Call (.Attribute o "get" apos) [e,f] [] cpos) (GY X.K td ty tx):=by
 intro pins s σ H Q I h;refine wpAny_Call_method m.base m.HQ m.line PySem.F.plainAttrs_dict PySem.F.slot_dict_get PySem.F.type_dict_get (cj (ho pins s σ H _ I h) ?_);rintro u s1 ⟨x,H1,I1,rx,a,ex,d,q1⟩;subst ex;obtain rfl:u=Value.ref a:=rx;obtain ⟨t1,t2,_⟩:=BL I1 d;refine ⟨t1,t2,?_⟩;rw[m.trees];refine Calls.callWith_builtin rfl (Calls.evalArgs_plain (Calls.spliced_cons (cj (he pins s1 σ H1 _ I1 q1) λiv s2 ⟨y,H2,I2,ry,q2⟩ =>
  Calls.spliced_cons (cj (hf pins s2 σ H2 _ I2 q2) λfv s3 ⟨z,H3,I3,rz,kvs,ks,b,ea,ey,hb,q3⟩=>Calls.spliced_nil ?_))))
 subst ey;obtain rfl:iv=Value.ref b:=ry;obtain ⟨zz,hd,xs,rel,dd⟩:=nH I3.bC ea;refine call_meetsIn PySem.F.slot_dict_get dd.typeIs PySem.F.entry_dict_get (PySem.F.args_dict_get_3 _ _ _) (meetsH_dict_get_default (tupleKind (bx X.prog X.w)) a b hd fv) ⟨tupleKind_room_in1 hu,ks,xs,kZ I3 hb,dd,⟨_,H3,I3.tok _,?_,q3⟩⟩;exact (rel.val ks).getD rz
theorem Cn (hu:X.A.units+1<cLine)(ho:PE X o td)(he:PE X e ty)(hf:PE X f tx)(m:M2 X o "pop" apos e f cpos):PE X (.Call (.Attribute o "pop" apos) [e,f] [] cpos) (Ha X.K td ty tx):=by
 intro pins s σ H Q I h;refine wpAny_Call_method m.base m.HQ m.line PySem.F.plainAttrs_dict PySem.F.slot_dict_pop PySem.F.type_dict_pop (cj (ho pins s σ H _ I h) ?_);rintro u s1 ⟨x,H1,I1,rx,a,ex,d,q1⟩;subst ex;obtain rfl:u=Value.ref a:=rx;obtain ⟨t1,t2,_⟩:=BL I1 d;refine ⟨t1,t2,?_⟩;rw[m.trees];refine Calls.callWith_builtin rfl (Calls.evalArgs_plain (Calls.spliced_cons (cj (he pins s1 σ H1 _ I1 q1) λiv s2 ⟨y,H2,I2,ry,q2⟩ =>
  Calls.spliced_cons (cj (hf pins s2 σ H2 _ I2 q2) λfv s3 ⟨z,H3,I3,rz,kvs,ks,b,ea,ey,hb,q3,q4⟩=>Calls.spliced_nil ?_))))
 subst ey;obtain rfl:iv=Value.ref b:=ry;obtain ⟨zz,hd,xs,rel,dd⟩:=EZ I3.bC ea;have hz:xs.length<=sizeLine:=by rw[<-Paired.length rel];exact zz
 refine call_meetsIn PySem.F.slot_dict_pop dd.typeIs PySem.F.entry_dict_pop (PySem.F.args_dict_pop_3 _ _ _) (Cu (knd:=tupleKind (bx X.prog X.w)) (a:=b) hd fv) ⟨tupleKind_room_in1 hu,ks,xs,kZ I3 hb,dd,hz,λhno tk=>?_,λp hp h' tk dd' hs=>?_⟩
 .refine ⟨z,H3,I3.tok tk,rz,q4 ?_⟩;have:=rel.val ks;rw[hno] at this;cases e:iW kvs ks with
  | none=>rfl
  | some v=>rw[e] at this;exact this.elim
 .have hv:=rel.val ks;rw[hp] at hv;cases e:iW kvs ks with
  | none=>rw[e] at hv;exact hv.elim
  | some v =>
   rw[e] at hv;refine ⟨v,_,?_,hv,q3 v e⟩;obtain ⟨o',es,ep,hq,h2,h3,h4,_,h5⟩:=dd';refine xU I3 (by rw[ea];exact True.intro) hs ⟨o',hq⟩ ⟨Nat.le_trans (Bj kvs ks) zz,hd,_,(rel.drop ks).keeps λc ys ec=>by rw[aq (yG ec ea λz=>nomatch z)];exact ec,o',es,ep,hq,h2,h3,h4,h5⟩
noncomputable def II (K:Frag):R2:=λx y H Q=>∃(a b:Addr) (ks ms:List Key),x=V.ref a/\y=V.ref b/\i7 K H a (ks.map kV)/\i7 K H b (ms.map kV)/\Q (.bl (decide (ks=ms))) H
theorem Gu (hu:X.A.units<cLine):kG X (compareOp .Eq) (II X.K):=by
 intro pins s σ H x y v u Q I rx ry h;obtain ⟨a,b,ks,ms,rfl,rfl,ha,hb,q⟩:=h;cases rx;cases ry;have hx:IsTupleKey (bx X.prog X.w) s.heap ks a:=kZ I ha;have hy:IsTupleKey (bx X.prog X.w) s.heap ms b:=kZ I hb;exact wpAny_richCompare_same_room (op:=.Eq) hx.typeIs hy.typeIs PySem.F.slot_tuple_eq
   (wpAny_call_entry PySem.F.slot_tuple_eq hx.typeIs PySem.F.entry_tuple_eq (tuple_eq_tree hx hy ⟨_,rfl,(λe=>nomatch e),⟨.bl _,H,I,rfl,q⟩⟩) (PySem.F.args_tuple_eq_2 _ _)) hu
end
end L2
namespace DL
open PySem L2
noncomputable def vR (ka kb:cn):Bool:=ka.length == kb.length && ka.all λp=>aQ kb p.1 == some p.2
noncomputable def lY (kvs:cn)(k:Int×Int):cn:=kvs.filter λp=>decide (p.1≠k)
theorem zJ (kvs:cn)(k:Int×Int):rq (encD kvs) (k2 k)=encD (lY kvs k):=by
 unfold rq lY encD;rw[List.filter_map];congr 1;refine List.filter_congr λp _=>?_;show decide (k2 p.1≠k2 k)=decide (p.1≠k);rw[decide_eq_decide];exact not_congr kY
theorem Aw {H:Hp}{ka kb:cn}{xa yb:List (List Key×Addr×Lg)}(ra:KT H (encD ka) xa)(rb:KT H (encD kb) yb):xa.all (jW yb)=ka.all λp=>aQ kb p.1 == some p.2:=by
 induction ka generalizing xa with
 | nil =>
  have:KT H [] xa:=ra;cases this;rfl
 | cons p ps ih =>
  have:KT H ((k2 p.1,V.int p.2)::encD ps) xa:=ra;cases this with
  | @cons _ q _ qs h t =>
   rw[List.all_cons,List.all_cons,ih t];congr 1;obtain ⟨h1,_,h3⟩:=h;obtain ⟨tk,h3⟩:=h3;have hv:=rb.val q.1;rw[<-h1,iw] at hv;unfold jW;rw[h3,<-h1];cases e:atKey yb (k2 p.1) with
   | none =>
    rw[e] at hv;cases e2:aQ kb p.1 with
    | none=>simp
    | some w=>rw[e2] at hv;exact hv.elim
   | some r =>
    rw[e] at hv;cases e2:aQ kb p.1 with
    | none=>rw[e2] at hv;exact hv.elim
    | some w =>
     rw[e2] at hv;obtain ⟨t2,h4⟩:=(show ∃t,r.2=Value.int w t from hv)
     obtain ⟨r1,r2⟩:=r;dsimp only at h4;subst h4;show (p.2 == w)=(some w == some p.2)
     rw[Bool.eq_iff_iff,beq_iff_eq,beq_iff_eq];exact ⟨λz=>by rw[z],λz=>(Option.some.inj z).symm⟩
theorem pz {H:Hp}:∀{ka:cn} {xa:List (List Key×Addr×Lg)},KT H (encD ka) xa->∀x∈xa,∃n t,x.2.2=Value.int n t
 | [],_,r=>by
  have r':KT H [] _:=r;cases r';intro x hx;cases hx
 | p::ps,_,r=>by
  have r':KT H ((k2 p.1,V.int p.2)::encD ps) _:=r;cases r' with
  | cons h t =>
   intro x hx;rcases Lz.mp hx with rfl | hx
   .obtain ⟨tk,e⟩:=h.2.2;exact ⟨_,tk,e⟩
   .exact pz t x hx
section
variable {X:Cx} {e f o k:Expr} {te tf td tk:DT} {i j:Nat} {x y:Str} {pos px py apos cpos lp tpos sp:Pos}
theorem GA (hu:X.A.units+1<cLine):kG X (compareOp .NotEq) (λx y H Q=>∃a b ka kb,x=V.ref a/\y=V.ref b/\Rd H a (.dT (encD ka))/\Rd H b (.dT (encD kb))/\Q (.bl (!vR ka kb)) H):=by
 intro pins s σ H x y v u Q I rx ry h;obtain ⟨a,b,ka,kb,rfl,rfl,ea,eb,q⟩:=h;cases rx;cases ry;obtain ⟨za,hda,xa,ra,da⟩:=nH I.bC ea;obtain ⟨zb,hdb,yb,rb,db⟩:=nH I.bC eb;refine Ei (knd:=tupleKind (bx X.prog X.w)) (tupleKind_room_in1 hu) (Nat.lt_of_succ_lt hu) hda hdb da db (pz ra) (pz rb) ⟨.bl _,H,I,?_,q⟩;have l1:=Paired.length ra;have l2:=Paired.length rb;rw[ma] at l1 l2;rw[Aw ra rb,<-l1,<-l2];rfl
noncomputable def oo:D2:=λx y Q=>match x,y with
 | .dct ka,.dct kb=>Q (.p (.bl (!vR ka kb)))
 | _,_=>False
theorem rO {n:Nat}(hr:cN n X.A):qN X (compareOp .NotEq) oo:=by
 refine ⟨_,GA (mq hr),λH G x y dx dy P Q s rx ry h kk=>?_⟩;unfold oo at h;split at h
 .cases rx with
  | dct e =>
   cases ry with
   | dct e'=>exact ⟨_,_,_,_,rfl,rfl,fS s e,fS s e',kk _ _ H G h (Wd.refl s) (.bl _)⟩
 .exact h.elim
noncomputable def A7 (td tk tf:DT):DT:=λρ Q=>td ρ λb=>match b.val with
 | .dct kvs=>tk ρ λb1=>match b1.val with
  | .tup [.int z,.int y]=>tf ρ λb2=>match b2.val with
   | .int d=>Q (.p (.int ((aQ kvs (z,y)).getD d)))
   | _=>False
  | _=>False
 | _=>False
theorem Dv {n:Nat}(hr:cN n X.A)(ho:DE X o td)(hk:DE X k tk)(hf:DE X f tf)(m:M2 X o "get" apos k f cpos):DE X (.Call (.Attribute o "get" apos) [k,f] [] cpos) (A7 td tk tf):=
 DE.of (Cj (mq hr) ho.pe hk.pe hf.pe m)<|by
  rintro σ H Q ⟨G,ρ,P,s,re,h,kk⟩;refine ⟨G,ρ,_,s,re,h,λb v H1 G1 p1 w1 r1=>?_⟩;obtain ⟨G1,w1,r1⟩:=r1.give w1;split at p1
  .rename_i kvs ev;rw[ev] at r1;cases r1 with
   | dct ea =>
    refine ⟨_,rfl,.inr ⟨_,fS w1.gh ea⟩,G1,ρ,_,w1.gh,eF.mono w1.gg re,p1,λb2 v2 H2 G2 p2 w2 r2=>?_⟩;obtain ⟨G2,w2,r2⟩:=r2.give w2;split at p2
    .rename_i z y ez;rw[ez] at r2;obtain ⟨c,rfl,hc⟩:=ox r2;refine ⟨G2,ρ,_,w2.gh,eF.mono (w1.trans w2).gg re,p2,λb3 v3 H3 G3 p3 w3 r3=>?_⟩;split at p3
     .rename_i d ed;have hd:=eK w3 r3 ed;subst hd;refine ⟨encD kvs,k2 (z,y),c,fS (w2.hh.trans w3.hh) (fS w1.gh ea),rfl,aw (w2.gh.trans w3.hh) hc,?_⟩;rw[iw];have:((aQ kvs (z,y)).map V.int).getD (.int d)=.int ((aQ kvs (z,y)).getD d):=by cases aQ kvs (z,y)<;>rfl
      rw[this];exact kk _ _ H3 G3 p3 ((w1.trans w2).trans w3) (.int _)
     .exact p3.elim
    .exact p2.elim
  .exact p1.elim
noncomputable def sC (i:Nat)(tk te:DT):fL:=λE ρ=>match aG ρ i with
 | some (.o (.dct kvs))=>te (cc ρ) λb=>match b.val with
  | .int v=>tk (cc ρ) λb1=>match b1.val with
   | .tup [.int z,.int y]=>kvs.length<sizeLine/\E.nx (dput ρ i (.o (.dct (putD kvs (z,y) v))))
   | _=>False
  | _=>False
 | _=>False
theorem Bl {n:Nat}(hr:cN n X.A)(hN:X.N[i]?=some x)(hv:uk X.env.scope x)(hk:DE X k tk)(he:DE X e te)(hd:autoParam ((x == ("__debug__" : Str))=false) aZb._auto_1)(hcd:autoParam ((x == ("__classdict__" : Str))=false) aZb._auto_1)
    (ha:autoParam (∀v,assign (.Subscript (.Name x px) k tpos) X.env v=(do
      let ov <-holding [v] (eval (.Name x px) X.env)
      let iv <-holding [v,ov] (eval k X.env)
      standAt tpos
      holding [v,ov,iv] (setItem ov iv v)
      release [v,ov,iv] [])) aZc._auto_1)
    (hs:autoParam (swapsWithSole [.Subscript (.Name x px) k tpos] e pos.line X.env=pure false) aZa._auto_1) (hw:autoParam (swappedStores [.Subscript (.Name x px) k tpos] e X.env=pure none) aZa._auto_1)
    (h0:autoParam ((assignEach [.Subscript (.Name x px) k tpos] X.env).map (·.2) = [assign (.Subscript (.Name x px) k tpos) X.env]) aZa._auto_1) :
    DS X (.Assign [.Subscript (.Name x px) k tpos] e pos) (sC i tk te):=DS.mk λH0 G0 =>
  PS.imp (tN he.pe (wZ (dF hN hv hd hcd) hk.pe (set_dict (mq hr)) ha) hs hw h0)<|by
    rintro Dn σ H ⟨E,G,ρ,eo,w,en,h⟩;unfold sC at h;split at h
    · rename_i kvs q;obtain ⟨a,ha1,ha2,ha3,ha4⟩:=en.o i _ q;have ha4:H a=some (.dT (encD kvs)):=ha4;obtain ⟨G1,w1,sg,en1⟩:=en.freeze w;refine ⟨G1,cc ρ,_,w1.gh,en1.p,h,λb v H' G' p' w' r'=>?_⟩;split at p'
      · rename_i vv ev;have hvv:=eK w' r' ev;subst hvv;refine ⟨.ref a,ha1,G',cc ρ,_,w'.gh,eF.mono w'.gg en1.p,p',λb1 v1 H1 G1' p1 w1' r1=>?_⟩;obtain ⟨G2,w2,r2⟩:=r1.give w1';split at p1
        · rename_i z y ez;rw[ez] at r2;obtain ⟨hl,p1⟩:=p1;obtain ⟨c,rfl,hc⟩:=Eo r2;have s2:ao H H1:=w'.hh.trans w2.hh;have e2:H1 a=some (.dT (encD kvs)):=s2 _ _ ha4;refine ⟨a,c,encD kvs,k2 (z,y),rfl,rfl,e2,.inl (.inl (w2.gh _ _ hc)),.inr (w2.gh _ _ hc),by rw[ma];exact hl,?_⟩;rw[pR];have wb:Wd H0 G0 H1 G:=⟨w.hh.trans s2,w.gg,w.gh.trans s2,w.old⟩
          exact eo.nx σ _ G _ (wb.own ha2 ha3) ((en.back s2).CK q ha1 ⟨ha3,aA⟩) p1
        · exact p1.elim
      · exact p'.elim
    · exact h.elim
noncomputable def CT (K:Frag)(mg:Str->Option Lg)(x:Str)(i j:Int):Prop:=∃a,mg x=some (.ref a)/\∀H,i7 K H a [.int i,.int j]
noncomputable def Dp (z y:Int)(te:DT):DT:=λρ Q=>te ρ λb=>match b.val with
 | .tup [.int z',.int y']=>Q (.p (.bl (decide (z'=z/\y'=y))))
 | _=>False
theorem DG {K:Frag}{c:Addr}{z y:Int}(hc:∀H,i7 K H c [.int z,.int y])(σ:St)(H:Hp)(Q:VK):cE K (Dp z y te) σ H Q->GZ (II K) (cE K te) (tC (.ref c)) σ H Q:=by
 rintro ⟨G,ρ,P,s,re,h,kk⟩;refine ⟨G,ρ,_,s,re,h,λb v H1 G1 p1 w1 r1=>?_⟩;obtain ⟨G2,w2,r2⟩:=r1.give w1;split at p1
 .rename_i z' y' ez;rw[ez] at r2;obtain ⟨d,rfl,hd⟩:=ox r2;refine ⟨d,c,k2 (z',y'),k2 (z,y),rfl,rfl,aw w2.gh hd,hc H1,?_⟩;have e:decide (k2 (z',y')=k2 (z,y))=decide (z'=z/\y'=y):=by
   rw[decide_eq_decide,kY,Prod.mk.injEq]
  rw[e];exact kk _ _ H1 G2 p1 w2 (.bl _)
 .exact p1.elim
theorem Bq {n:Nat}{z y:Int}(hr:cN n X.A)(he:DE X e te)(hB:CT X.K X.mg x z y)(hg:Gl X x)(hdb:autoParam ((x == ("__debug__" : Str))=false) aZb._auto_1):qL X (.Compare e [.Eq] [.Name x px] pos) (gc (Dp z y te)):=by
 obtain ⟨c,hm,hc⟩:=hB;refine qL.of (yV (Gu (Nat.lt_of_succ_lt (mq hr))) he.pe (mC (v:=.ref c) hg hm rfl hdb) (aF _)) ?_;rintro σ H Q ⟨G,ρ,P,s,re,h,k⟩;refine DG hc σ H _ ⟨G,ρ,_,s,re,h,λb v H1 G1 p1 w1 r1=>?_⟩;split at p1
 .rename_i c e;exact ⟨c,sq w1 r1 e,k _ H1 G1 p1 w1⟩
 .exact p1.elim
noncomputable def xR (i j:Nat)(z y d:Int):fL:=λE ρ=>match aG ρ i with
 | some (.o (.dct kvs))=>i≠j/\E.nx (dput (dput ρ i (.o (.dct (lY kvs (z,y))))) j (.p (.int ((aQ kvs (z,y)).getD d))))
 | _=>False
theorem wy {kvs:cn}{k:Int×Int}(h:aQ kvs k=none):lY kvs k=kvs:=by
 unfold lY;rw[List.filter_eq_self];intro p hp;rw[decide_eq_true_eq];intro e;unfold aQ at h;rw[Option.map_eq_none_iff,List.find?_eq_none] at h;exact h p hp (by rw[decide_eq_true_eq];exact e)
theorem x9 {n:Nat}{z y' d:Int}{jj:Nat}{b:Str}{pb pc:Pos}(hr:cN n X.A)(hN:X.N.Nodup)(hj:X.N[j]?=some y)(hy:Loc X.env.scope y)(hi:X.N[i]?=some x)(hv:uk X.env.scope x)(hB:CT X.K X.mg b z y')(hg:Gl X b)
  (m:M2 X (.Name x px) "pop" apos (.Name b pb) (.Constant (.int d) jj pc) cpos) (hdb:autoParam ((b == ("__debug__" : Str))=false) aZb._auto_1) (hd:autoParam ((x == ("__debug__" : Str))=false) aZb._auto_1) (hcd:autoParam ((x == ("__classdict__" : Str))=false) aZb._auto_1)
  (hs:autoParam (swapsWith (.Call (.Attribute (.Name x px) "pop" apos) [.Name b pb,.Constant (.int d) jj pc] [] cpos) (some (.Name y py)) pos.line X.env=pure false) aZa._auto_1) (hf:autoParam (X.fn y=true\/X.env.scope.names.lookup y=some .local) aZd._auto_1) :
  DS X (.Assign [.Name y py] (.Call (.Attribute (.Name x px) "pop" apos) [.Name b pb,.Constant (.int d) jj pc] [] cpos) pos) (xR i j z y' d):=by
 obtain ⟨c,hm,hc⟩:=hB;refine DS.mk λH0 G0=>PS.imp (lu hN hj hy (Cn (mq hr) (dF hi hv hd hcd) (mC (v:=.ref c) hg hm rfl hdb) Ck m) hs hf) ?_;rintro Dn σ H ⟨E,G,ρ,eo,w,en,h⟩;unfold xR at h;split at h
 .rename_i kvs q;obtain ⟨hij,h⟩:=h;obtain ⟨a,ha1,ha2,ha3,ha4⟩:=en.o i _ q;have ha4:H a=some (.dT (encD kvs)):=ha4;refine ⟨.ref a,ha1,a,rfl,.inr ⟨_,.inl ha4⟩,encD kvs,k2 (z,y'),c,ha4,rfl,hc H,λv hv=>?_,λhv=>?_⟩
  .rw[iw] at hv;cases ev:aQ kvs (z,y') with
   | none=>rw[ev] at hv;cases hv
   | some v' =>
    rw[ev] at hv h;cases hv;rw[zJ];exact eo.nx _ _ G _ (w.own ha2 ha3) ((en.CK q ha1 ⟨ha3,aA⟩).tQ j (.int v')) h
  .rw[iw] at hv;cases ev:aQ kvs (z,y') with
   | some v'=>rw[ev] at hv;cases hv
   | none =>
    rw[ev] at h;rw[wy ev] at h;have e2:=en.CK (ob:=.dT (encD kvs)) (d':=.dct kvs) q ha1 ⟨ha3,aA⟩;have eu:upd H a (.dT (encD kvs))=H:=by
     funext c'
     unfold upd;split
     .rename_i ec;rw[ec,ha4]
     .rfl
    rw[eu] at e2;exact eo.nx _ _ G _ w (e2.tQ j (.int d)) h
 .exact h.elim
end
end DL
namespace L2
open PySem PySem.Spec PyProof.Rows
section
variable {prog:LH} {w:LR} {A:LQ} {E:Lg->Li->Prop} {s:Li}
variable {h₀:Heap} {L:Addr} {m:Str->Option Lg} {news:List (Addr×Obj)} {b:Bool}
end
end L2
namespace L2
open PySem PySem.Spec PyProof.Rows PySem.W
noncomputable def TabAt (H:Hp)(P:Addr)(q:Str):Prop:=∃qs t,H P=some (.tbl qs)/\qs[0]?=some (.str q t)
theorem TabAt.un {fs ex:List Addr}{H H':Hp}{h h':Heap}{P:Addr}{q:Str}(u:Un fs ex H H' h h')(x:TabAt H P q):TabAt H' P q:=by
 obtain ⟨qs,t,e,e2⟩:=x;obtain ⟨more,e3⟩:=u.qg P qs e;refine ⟨_,t,e3,?_⟩;have hl:0<qs.size:=by
  rcases Nat.eq_zero_or_pos qs.size with z | z
  .rw[Array.getElem?_eq_none (by lia)] at e2;cases e2
  .exact z
 rw[Array.getElem?_append_left hl];exact e2
theorem nQ {a b:Int}{t u:Tok}{c:Lg}:∀{l:List Lg},TriplesOk l->TriplesOk (l++[.int a t,.int b u,c])
 | [],_=>trivial
 | .int _ _::.int _ _::_::rest,h=>nQ (l:=rest) h
theorem qQ {p:Pos}{a b:Int}{t u:Tok}{c cv:Lg}:∀{l:List Lg},TriplesOk l->codeAmong p (l++[.int a t,.int b u,c])=some cv->codeAmong p l=some cv\/cv=c
 | [],_,h=>by
  simp only[List.nil_append,codeAmong] at h;split at h
  .exact .inr (Option.some.inj h).symm
  .cases h
 | .int x _::.int y _::d::rest,ht,h=>by
  simp only[List.cons_append,codeAmong] at h ⊢;split at h
  .rename_i hc;rw[if_pos hc];exact .inl h
  .rename_i hc;rw[if_neg hc];exact qQ (l:=rest) ht h
noncomputable def bM (mg:Str->Option Lg)(h:Heap):Prop:=∃bm ob,mg "__builtins__" = some (.ref bm)/\bm≠builtinsNs/\h.get? bm=some ob/\ob.cls=.type "module"/\ob.dict=some builtinsNs/\ob.data=.plain
section
variable {X:Cx} {pins:List (Addr×Obj)} {σ:St} {H:Hp} {s:Li} {P c:Addr} {E:Lg->Li->Prop} {Q:Lg->Li->Prop}
theorem BU {params:Arguments}{body:Expr}{scope:Scope}{pos:Pos}{clos:List (Str×Addr)}(I:Inv X pins σ H s)(hcode:X.env.code=.ref c)(C:CodeHd X.base c P)(B:bM X.mg X.base)
  (hT:TabAt X.H₀ P (X.env.qual++"<lambda>")) (hcl:closureFor scope X.env=pure clos) (hdef:defaultsOf params X.env=([],[]))
  (h:∀f c' ctv pm h' tk H',Inv X pins σ H' { s with heap:=h',toks:=tk }->(H'=H\/(H c'=none/\H'=upd H c' (.own P)))->h'.get? f=some (kla_obj "<lambda>" (X.env.qual++"<lambda>") params body scope clos pm c' ctv)->H' f=none->s.heap.objs.size<=f ->
   h'.CodeRec (.ref c') (X.env.qual++"<lambda>")->Q (.ref f) { s with heap:=h',toks:=tk }) :
  wpAny (model X.prog X.w) X.A (eval (.Lambda params body scope pos) X.env) Q E s:=by
 obtain ⟨qs,t,hP,hq0⟩:=hT.un I.base;obtain ⟨tb,htb,htr,hcs⟩:=I.bC P _ hP;have hg:=I.mod.glob.keeps I.bk;have hgP:mainGlobals≠P:=λz=>by
  obtain ⟨o,es,ep,e,hd,_⟩:=hg;rw[z,htb] at e;cases e;cases hd
 obtain ⟨bm,ob,b1,b2,b3,b4,b5,b6⟩:=B;have b3':=I.bk _ _ b3;have hbP:bm≠P:=λz=>by rw[z,htb] at b3';cases b3';cases b4
 have hbG:bm≠mainGlobals:=λz=>by
  obtain ⟨o,es,ep,e,hd,_⟩:=hg;rw[z,e] at b3';cases b3';rw[hd] at b6;cases b6
 have hB:s.heap.BuiltinsAt X.mg P:=⟨bm,ob,b1,b2,hbG,hbP,b3',b4,b5,b6⟩
 refine kla_eval hdef ?_;cases hf:codeAmong pos tb.toList with
 | none =>
  refine kla_makeFunction hcl I.ok.glob hg hcode (C.keeps I.bk) htb htr hf hgP hB λc' ctv h' tk hx hge hlt hrec htb'=>?_;have hn:H c'=none:=I.bC.fresh hge;have hPc:P≠c':=bo hP hn;have keep:∀b o,b≠P->s.heap.get? b=some o->(h'.push (kla_obj "<lambda>" (X.env.qual++"<lambda>") params body scope clos ((X.mg "__name__").getD .none) c' ctv)).get? b=some o:=λb o hb e=>Ln _ (hx b o hb e);have neP:∀b,H b=none->b≠P:=λb e z=>by rw[z,hP] at e;cases e
  have hrec':=hrec.push (kla_obj "<lambda>" (X.env.qual++"<lambda>") params body scope clos ((X.mg "__name__").getD .none) c' ctv);have htb2:=Ln (kla_obj "<lambda>" (X.env.qual++"<lambda>") params body scope clos ((X.mg "__name__").getD .none) c' ctv) htb';have hown:upd H c' (.own P) P=some (.tbl qs):=by rw[aq hPc];exact hP
  have nc:∀b u,H b=some u->upd H c' (.own P) b=some u:=λb u e=>by rw[aq (bo e hn)];exact e
  have bC:kF X.prog X.w (upd H c' (.own P)) (h'.push (kla_obj "<lambda>" (X.env.qual++"<lambda>") params body scope clos ((X.mg "__name__").getD .none) c' ctv)):=λb u e=>by
   by_cases hb:b=c'
   .subst hb;rw[aA] at e;cases e;obtain ⟨c2,o2,vs2,t2,e2,g2,_⟩:=hrec';cases e2;exact ⟨_,g2⟩
   .rw[aq hb] at e;by_cases hbP':b=P
    .subst hbP';rw[hP] at e;cases e;have el:(tb++#[rawInt pos.line,rawInt pos.col,Value.ref c']).toList=tb.toList++[rawInt pos.line,rawInt pos.col,Value.ref c']:=by simp
     refine ⟨_,htb2,by rw[el];exact nQ htr,λp cv z=>?_⟩;rw[el] at z;rcases qQ htr z with z | z
     .obtain ⟨d,q,u,r1,r2,r3,r4⟩:=hcs p cv z;refine ⟨d,q,u,r1,r2,nc _ _ r3,?_⟩;obtain ⟨d2,o2,vs2,t2,e2,g2,r5⟩:=r4;cases e2;exact ⟨d,o2,vs2,t2,rfl,keep _ _ (yG r3 hP (by intro z;cases z)) g2,r5⟩
     .exact ⟨c',_,t,z,hq0,aA,hrec'⟩
    .refine (I.bC b u e).d7 (λd v hd g=>keep d v ?_ g) (λd q=>nc _ _ q) λd xs q=>nc _ _ q;rcases hd with rfl | hd
     .exact hbP'
     .exact yG hd hP (by intro z;cases z)
  have hfn:H h'.objs.size=none:=I.bC.fresh (Nat.le_trans hge (Nat.le_of_lt hlt));refine h h'.objs.size c' ctv _ _ tk (upd H c' (.own P)) (I.un (t':=tk) ⟨λb o e n _ _=>keep b o (neP b n) e,λb o e n _ _=>⟨o.slots,keep b o (neP b n) e⟩,λb o e n _=>?_,λb o e _=>?_,λb xs e=>nc _ _ e,λb o u e=>nc _ _ e,λb ps e=>⟨#[],by rw[nc _ _ e];simp⟩⟩ bC) (.inr ⟨hn,rfl⟩)
   (LP _ rfl) ?_ (Nat.le_trans hge (Nat.le_of_lt hlt)) hrec'
  .rw[aq (LF (LJ (Lv e) hge))];exact n
  .by_cases hb:b=P
   .subst hb;exact ⟨_,htb2⟩
   .exact ⟨_,keep b o hb e⟩
  .rw[aq (Nat.ne_of_gt hlt)];exact hfn
 | some cv =>
  obtain ⟨c',q,u,rfl,r2,r3,r4⟩:=hcs pos cv hf;rw[hq0] at r2;cases r2;refine kla_makeFunctionHit hcl I.ok.glob hg hcode (C.keeps I.bk) htb htr hf hB λctv h' tk hk hsz=>?_;have keep:∀b o,s.heap.get? b=some o->(h'.push (kla_obj "<lambda>" (X.env.qual++"<lambda>") params body scope clos ((X.mg "__name__").getD .none) c' ctv)).get? b=some o:=λb o e=>Ln _ (hk b o e);exact h h'.objs.size c' ctv _ _ tk H (I.kept keep) (.inl rfl) (LP _ rfl) (I.bC.fresh hsz) hsz (r4.keeps keep)
end
end L2
namespace L2
open PySem PySem.Spec PyProof.Rows PySem.W
section
variable {X:Cx} {pins:List (Addr×Obj)} {σ:St} {H:Hp} {s:Li} {A:LQ} {E:Lg->Li->Prop} {Q:Lg->Li->Prop}
end
end L2
namespace L2
open PySem PySem.Spec PyProof.Rows PySem.W
end L2
namespace L2
open PySem PySem.Spec PyProof.Rows PySem.W
section
variable {X:Cx} {pins:List (Addr×Obj)} {σ:St} {H:Hp} {s:Li}
end
section
variable {X:Cx}
end
end L2
namespace L2
open PySem PySem.Spec PyProof.Rows PySem.W
theorem TabAt.same {H H':Hp}{P:Addr}{q:Str}(s:ao H H')(x:TabAt H P q):TabAt H' P q:=by
 obtain ⟨qs,t,e,e2⟩:=x;exact ⟨qs,t,s _ _ e,e2⟩
theorem PE.tab {X:Cx}{e:Expr}{t:TE}{P:Addr}{q:Str}(h:PE X e t)(hT:TabAt X.H₀ P q):PE X e (λσ H Q=>TabAt H P q->t σ H Q):=
 λpins s σ H Q I hw=>h pins s σ H Q I (hw (hT.un I.base))
structure Fq (K:Frag)(x qual:Str)(st:Stmt)(f:Addr)(fd:FuncData)(P:Addr):Prop where
 ex:∃(oc:Lg) (od:Option Addr) (kV doc pm:Lg) (an:Option Addr) (c:Addr) (ct:Lg) (osl:Array (Option Lg)),
  fd=fnOf x qual (aR st) (aI st) (af st) .none kV doc pm an (.ref c) ct/\K.lookup f=some ⟨oc,od,.func fd,osl⟩/\codeIn K (.ref c) qual=true/\codeHdIn K c P=true
theorem DK {K:Frag}{x qual:Str}{st:Stmt}{f c P:Addr}{oc:Lg}{od an:Option Addr}{osl:Array (Option Lg)}{kV doc pm ct:Lg}(l:K.lookup f=some ⟨oc,od,.func (fnOf x qual (aR st) (aI st) (af st) .none kV doc pm an (.ref c) ct),osl⟩)
  (h:codeIn K (.ref c) qual=true) (h2:codeHdIn K c P=true):Fq K x qual st f (fnOf x qual (aR st) (aI st) (af st) .none kV doc pm an (.ref c) ct) P:=⟨oc,od,kV,doc,pm,an,c,ct,osl,rfl,l,h,h2⟩
end L2
namespace DL
open PySem L2 PyProof.Rows PySem.W
noncomputable def oe (K:Frag)(P:Addr)(q:Str)(R:DR):Sp:=λvs H Q E=>TabAt H P q/\dN K R vs H Q E
section
variable {X:Cx} {e:Expr} {es:List Expr} {pos:Pos}
theorem wx {x:Str}{k:Nat}{ps:List Str}{R:DR}{p:Pos}{t:fq}{P:Addr}{q:Str}(hT:TabAt X.H₀ P q)(F:Fn X.prog X.w X.K X.mg X.base x k ps (oe X.K P q R))(hr:cN k X.A)(hg:Gl X x)(ha:DA X (e::es) t)
  (hdb:autoParam ((x == ("__debug__" : Str))=false) aZb._auto_1) (he:autoParam (starEach (e::es) X.env=(false,eval e X.env)::starEach es X.env) aZa._auto_1) (hpl:autoParam ((backTo pos (starEach es X.env)).any (·.1)=false) aZa._auto_1) :
  DE X (.Call (.Name x p) (e::es) [] pos) (dG R t):=
 DE.of ((E8 F hr hg ha.pa hdb he hpl).tab hT)<|by
  rintro σ H Q ⟨G,ρ,PP,s,re,h,k⟩ tb;refine ⟨G,ρ,_,s,re,h,λds vs H1 G1 p1 l1 w1 r1=>?_⟩;show oe X.K P q R (vs++[]) H1 Q E0;rw[append_nil];exact ⟨tb.same w1.hh,ds,G1,PP,w1.gh,r1,p1,yl k w1⟩
end
section
variable {P:LH} {w:LR} {K:Frag} {mg:Str->Option Lg} {base:Heap}
theorem Io {x qual:Str}{st:Stmt}{f Pt:Addr}{q:Str}{fd:FuncData}{N ps:List Str}{k:Nat}{R:DR}(F:lH K x qual st f fd)(S:aX N ps (af st))(len:∀ds Q,R ds Q->ds.length=ps.length)
  (hbody:∀(cdv:Lg) (A:LQ) (outer:List Env) (s:Li) (H:Hp) (E:XK),cN k (A.deeper (envOfC qual (af st) s.heap.objs.size f cdv))->TabAt H Pt q ->
   ∃t,uj (sA iX P w K mg base N qual (af st) f cdv A outer s H E).E7 (aI st) t/\∀ds Q,R ds Q->t { nx:=λ_=>Q (.p .non),rt:=Q } (bu N.length ds)):cH P w K mg base iX (k+1) f fd ps (oe K Pt q R):=by
 refine F.ok S (by rintro vs H Q E ⟨_,ds,G,P,s,r,h,_⟩;rw[Paired.length r];exact len ds P h) ?_;rintro cdv A outer s H vs Q E hr ⟨tb,ds,G,P,sg,r,h,k⟩;obtain ⟨t,h1,h2⟩:=hbody cdv A outer s H E hr tb;obtain ⟨e1,e2,e3⟩:=fX (K:=K) N.length r;refine ⟨_,h1.Aq H G,_,G,_,?_,Wd.refl sg,aJ.only e2 e1 (iq _ _),h2 ds P h⟩;exact ⟨λσ H' G' ρ w' _ p=>k _ _ H' G' p w' (show Rep K G' V.non D.non from .non),λσ H' G' ρ w' _ p=>p.elim,λσ H' G' ρ w' _ p=>p.elim,λb v H' G' w' r' p=>k b v H' G' p w' r'⟩
theorem J8 {x qual:Str}{st:Stmt}{f Pt:Addr}{q:Str}{fd:FuncData}{N ps:List Str}{k:Nat}{R:DR}(F:Fq K x qual st f fd Pt)(S:aX N ps (af st))(len:∀ds Q,R ds Q->ds.length=ps.length)
  (hbody:∀(c:Addr) (A:LQ) (outer:List Env) (s:Li) (H:Hp) (E:XK),cN k (A.deeper (envOfC qual (af st) s.heap.objs.size f (.ref c)))->TabAt H Pt q->codeHdIn K c Pt=true ->
   ∃t,uj (sA iX P w K mg base N qual (af st) f (.ref c) A outer s H E).E7 (aI st) t/\∀ds Q,R ds Q->t { nx:=λ_=>Q (.p .non),rt:=Q } (bu N.length ds)):cH P w K mg base iX (k+1) f fd ps (oe K Pt q R):=by
 obtain ⟨oc,od,kV,doc,pm,an,c,ct,osl,rfl,lk,hcd,hC⟩:=F.ex;refine E2 lk hcd S (by rintro vs H Q E ⟨_,ds,G,P,s,r,h,_⟩;rw[Paired.length r];exact len ds P h) ?_;rintro A outer s H vs Q E hr ⟨tb,ds,G,P,sg,r,h,k⟩;obtain ⟨t,h1,h2⟩:=hbody c A outer s H E hr tb hC;obtain ⟨e1,e2,e3⟩:=fX (K:=K) N.length r;refine ⟨_,(h1.Aq H G).E7,_,G,_,?_,Wd.refl sg,aJ.only e2 e1 (iq _ _),h2 ds P h⟩;exact ⟨λσ H' G' ρ w' _ p=>k _ _ H' G' p w' (show Rep K G' V.non D.non from .non),λσ H' G' ρ w' _ p=>p.elim,λσ H' G' ρ w' _ p=>p.elim,λb v H' G' w' r' p=>k b v H' G' p w' r'⟩
end
noncomputable def tZ (K:Frag)(P:Addr)(q:Str):Sp:=λvs H Q E=>TabAt H P q/\IY K vs H Q E
theorem D4 {P:LH}{w:LR}{K:Frag}{mg:Str->Option Lg}{base:Heap}{k:Nat}{f Pt:Addr}{q:Str}{fd:FuncData}{ps:List Str}(h:cH P w K mg base iX k f fd ps (oe K Pt q CD)):cH P w K mg base iX k f fd ps (tZ K Pt q):=
 h.imp λvs H Q E ⟨tb,a,ns,e,hs,hl,q⟩=>⟨tb,[.scr ns],H,λb=>b=.p (.bl true),ao.refl _,by rw[e];exact .cons (.scr hs) .nil,⟨ns,rfl,hl,rfl⟩,λb v H' G' hb w r=>by
  subst hb;have:v=.bl true:=Rep.we r;rw[this];exact q H'⟩
end DL
namespace DL
open PySem PySem.Spec PyProof.Rows L2
noncomputable def lC (K:Frag)(Pt a:Addr)(qn:Str)(o:Obj)(xs:List V):Hp:=λb=>if b=Pt then some (.tbl #[.str qn 0]) else if b=a/\K.lookup a=none then some (.cc o (.lst xs)) else none
theorem t7 {K:Frag}{Pt a b:Addr}{qn:Str}{o:Obj}{xs:List V}(h1:b≠Pt)(h2:b≠a):lC K Pt a qn o xs b=none:=by
 unfold lC;rw[if_neg h1,if_neg λz=>h2 z.1]
theorem Aa {P:LH}{w:LR}{K:Frag}{mg mb:Str->Option Lg}{k:Nat}{fa a Pt c:Addr}{qn:Str}{fd:FuncData}{x:Str}{s₁:Li}{vs:List Lg}{ns:List Int}
  (KX:K.In s₁.heap) (hns:s₁.heap.Ns mainGlobals mg) (hb:s₁.heap.Ns builtinsNs mb) (hbb:∀x:Str,x≠"__name__"->mb x=bootBuiltins x) (hlim:s₁.heap.NoLimit) (hg:s₁.gens = #[]) (BM:bM mg s₁.heap)
  (hPt:s₁.heap.get? Pt=some (tabObj #[])) (hK:K.lookup Pt=none) (hC:PySem.W.codeHdIn K c Pt=true)
  (ha:s₁.heap.get? a=some { cls:=.type "list",data:=.seq vs.toArray }) (hi:IntsAre vs ns) (hl:ns.length<=63) (hr:cN k callerA)
  (F:∀base:Heap,K.In base->base.Ns mainGlobals mg->bM mg base->cH P w K mg base iX k fa fd [x] (tZ K Pt qn)) (hbind:∀(s:Li) (u:Lg),BindsTo s fd ⟨[u],[]⟩ [(x,u)]) :
  codeAny (model P w) callerA (.call (.ref fa) ⟨[.ref a],[]⟩) (λr s'=>r=.ok (.ret (.bool true))/\OldK s₁.heap s'.heap/\s'.os=s₁.os/\AllBare s'.gens) s₁:=by
 have rv:=sd hi;have lenV:=hi.length;have haP:a≠Pt:=λz=>by rw[z,hPt] at ha;cases ha
 generalize hH:lC K Pt a qn { cls:=.type "list",data:=.seq vs.toArray } (ns.map V.int)=H;have hHP:H Pt=some (.tbl #[.str qn 0]):=by rw[<-hH];unfold lC;rw[if_pos rfl]
 have hHo:∀b,b≠Pt->b≠a->H b=none:=λb h1 h2=>by rw[<-hH];exact t7 h1 h2
 have hHa:H a=none/\(∃o,K.lookup a=some o)\/H a=some (.cc { cls:=.type "list",data:=.seq vs.toArray } (.lst (ns.map V.int)))/\K.lookup a=none:=by
  rw[<-hH];unfold lC;rw[if_neg haP];cases q:K.lookup a with
  | none=>exact .inr ⟨by rw[if_pos ⟨rfl,rfl⟩],rfl⟩
  | some o=>exact .inl ⟨by rw[if_neg (λz=>nomatch z.2)],o,rfl⟩
 have small:ns.length<=sizeLine:=by rw[sizeLine_eq];lia
 have bC:kF P w H s₁.heap:=λb u e=>by
  by_cases h1:b=Pt
  .subst h1;rw[hHP] at e;cases e;exact ⟨#[],hPt,trivial,λpos cv z=>nomatch z⟩
  .by_cases h2:b=a
   .subst h2;rcases hHa with ⟨z,_⟩ | ⟨z,_⟩
    .rw[z] at e;cases e
    .rw[z] at e;cases e;exact ⟨ha,by rw[Lk];exact small,vs,_,rv,ha⟩
   .rw[hHo b h1 h2] at e;cases e
 have dictFree:∀{b:Addr} {o:Obj},s₁.heap.get? b=some o->o.cls≠.none->o.cls≠.type "list"->H b=none:=λ{b o} e d1 d2=>hHo b (λz=>by rw[z,hPt] at e;cases e;exact d1 rfl) (λz=>by rw[z,ha] at e;cases e;exact d2 rfl);have nsFree:∀{b:Addr} {m:Str->Option Lg},s₁.heap.Ns b m->(sQ s₁.heap H).Ns b m:=λ{b m} ⟨o,es,ep,e,d,r⟩ =>
  ⟨o,es,ep,pk e (hHo b (λz=>by rw[z,hPt] at e;cases e;cases d) (λz=>by rw[z,ha] at e;cases e;cases d)),d,r⟩
 have hKb:K.In (sQ s₁.heap H):=λb o e=>pk (KX b o e) (by
  by_cases h1:b=Pt
  .subst h1;rw[hK] at e;cases e
  .by_cases h2:b=a
   .subst h2;rcases hHa with ⟨z,_⟩ | ⟨_,z⟩
    .exact z
    .rw[z] at e;cases e
   .exact hHo b h1 h2)
 have hM:Mod K mg (sQ s₁.heap H):=⟨hKb,nsFree hns,⟨mb,nsFree hb,hbb⟩,let ⟨mc,h1,h2⟩:=hlim;⟨mc,nsFree h1,h2⟩⟩
 have hB:bM mg (sQ s₁.heap H):=by
  obtain ⟨bm,ob,b1,b2,b3,b4,b5,b6⟩:=BM;exact ⟨bm,ob,b1,b2,pk b3 (dictFree b3 (by rw[b4];intro z;cases z) (by rw[b4];decide)),b4,b5,b6⟩
 have e0:C7 P w K mg (sQ s₁.heap H) callerA [] s₁ H:=⟨rfl,hM,λb o e=>El e,Nat.le_of_eq (zQ _ _),trivial,λb hb=>absurd (show b∈([]:List Addr) from hb) (by simp),bC,.of_eq hg⟩
 have hS:dA K H a (ns.map V.int):=by
  rcases hHa with ⟨_,o,z⟩ | ⟨z,_⟩
  .have e:=KX a o z;rw[ha] at e;cases e;exact .inr ⟨_,vs.toArray,_,z,rfl,rfl,rfl,by rw[LG,lenV];exact small,by simpa using rv⟩
  .exact .inl (.inr ⟨_,z⟩)
 refine codeAny_mono ((F _ hKb (nsFree hns) hB).run callerA [] s₁ H ⟨[.ref a],[]⟩ [.ref a] [.ref a] (λv _=>v=.bl true) (λ_ _ _=>False) hr e0 (hbind s₁ (.ref a)) (.cons rfl .nil) ⟨⟨_,0,hHP,rfl⟩,a,ns,rfl,hS,hl,λ_=>rfl⟩) λr s' h=>?_;cases r with
 | error e=>exact False.elim h
 | ok fl =>
  cases fl with
  | next=>exact False.elim h
  | brk=>exact False.elim h
  | cont=>exact False.elim h
  | ret u =>
   obtain ⟨v,H',os,bare,un,hok',r',q⟩:=h;have q':v=.bl true:=q;subst q';obtain rfl:u=Value.bool true:=r';refine ⟨rfl,⟨λb o e=>?_,λb o e=>un.there b o e (by simp)⟩,os,bare⟩;by_cases h1:b=Pt
   .subst h1;rw[hPt] at e;cases e;obtain ⟨more,e2⟩:=un.qg _ _ hHP;obtain ⟨tb,e3,_⟩:=hok' _ _ e2;refine .inr (.inl ⟨((codeHd_of_K KX hC).tab hPt).isCodeTable,rfl,#[],tb,rfl,?_⟩);rw[e3];simp
   .refine .inl ?_;cases q:H b with
    | none=>exact un.keep b o e q (by intro z;exact absurd (show b∈([]:List Addr) from z) (by simp)) (by simp)
    | some u =>
     by_cases h2:b=a
     .subst h2;rcases hHa with ⟨z,_⟩ | ⟨z,_⟩
      .rw[q] at z;cases z
      .obtain ⟨e2,_⟩:=hok' _ _ (un.qv _ _ _ z);rw[ha] at e;cases e;exact e2
     .rw[hHo b h1 h2] at q;cases q
theorem C2 {l:PySem.W.OpenLaw}{k:Nat}{q:LH}{loose:List Str}{XP:(Str->Option Lg)->Heap->Prop}{YP:LR->Heap->Prop}{d:DefRec}{K:Params->Frag}{x qn:Str}{Pt:Addr}
  (hn:l.most=some 63) (hdf:d.params.defaults = []) (hr:cN k callerA) (hY:∀(w:LR) (h:Heap),YP w h->(K w.params).In h/\h.get? Pt=some (tabObj #[]))
  (F:∀(w:LR) (mg:Str->Option Lg) (fa:Addr) (h:Heap),(K w.params).In h->h.Ns mainGlobals mg->mg d.name=some (.ref fa) ->
   ∃(fd:FuncData) (c:Addr),(K w.params).lookup Pt=none/\PySem.W.codeHdIn (K w.params) c Pt=true/\(∀(s:Li) (u:Lg),BindsTo s fd ⟨[u],[]⟩ [(x,u)]) /\
    ∀base:Heap,(K w.params).In base->base.Ns mainGlobals mg->bM mg base->cH l.prog w (K w.params) mg base iX k fa fd [x] (tZ (K w.params) Pt qn)) :
  PySem.W.WalkO q loose XP YP l.row.toRowW d [] (λf vs=>PySem.call f vs):=by
 refine Att.um hn hdf λw s₀ s₁ mg mb fa o pm cd doc a vs ns G Y ho hd hcd hmg hobj hints hlen hg=>?_;obtain ⟨KX,hPt⟩:=hY w _ Y;obtain ⟨fd,c,hK,hC,hb,hF⟩:=F w mg fa _ KX G.T.g hmg;obtain ⟨bm,ob,b1,b2,b3,b4,b5,b6⟩:=G.T.bmain;exact Aa KX G.T.g G.T.b G.T.builtins G.T.nolimit hg ⟨bm,ob,b1,b2,b3,b4,b5,b6⟩ hPt hK hC hobj hints hlen hr hF hb
end DL
namespace Tim
open PySem PyProof.Rows
theorem GK {α:Type}{R:α->α->Prop}:∀{l:List α},l.length=1->l.Pairwise R
 | [_],_=>List.pairwise_singleton _ _
theorem GN {α:Type}{R:α->α->Prop}:∀{l:List α},l.length<2->l.Pairwise R
 | [],_=>.nil
 | [_],_=>List.pairwise_singleton _ _
noncomputable def cW:Bool->Keyed->Array Keyed->Nat->Nat->Nat->StateT Ly Sem (Option Nat):=sortPriv% PySem.Builtin.gallop
noncomputable def beyond (left:Bool)(key:Keyed)(arr:Array Keyed)(base:Nat)(i:Nat):StateT Ly Sem (Option Bool):=do
  let x <-elem' arr (base+i)
  if left then lt' x key else return (<-lt' key x).map (!·)
noncomputable def sP (left:Bool)(key:Keyed)(arr:Array Keyed)(base n lo0 hi0:Nat):StateT Ly Sem (Option Nat):=do
  let mut lo:=lo0
  let mut hi:=hi0
  for _ in [0:n] do
    if lo>=hi then break
    let m:=lo+(hi - lo) / 2
    let some more <-beyond left key arr base m | return none
    if more then lo:=m+1 else hi:=m
  return some hi
theorem wG (left:Bool)(key:Keyed)(arr:Array Keyed)(base n hint:Nat):cW left key arr base n hint=(do
  let mut lastofs:=0
  let mut ofs:=1
  let some right <-beyond left key arr base hint | return none
  if right then
    let maxofs:=n - hint
    for _ in [0:n] do
      if ofs>=maxofs then break
      let some more <-beyond left key arr base (hint+ofs) | return none
      if !more then break
      lastofs:=ofs
      ofs:=2*ofs+1
    sP left key arr base n (hint+lastofs+1) (hint+min ofs maxofs)
  else
    let maxofs:=hint+1
    for _ in [0:n] do
      if ofs>=maxofs then break
      let some found <-beyond left key arr base (hint - ofs) | return none
      if found then break
      lastofs:=ofs
      ofs:=2*ofs+1
    sP left key arr base n (hint+1 - min ofs maxofs) (hint - lastofs)):=rfl
section
variable {prog:LH} {w:LR} {A:LQ} {E:Lg->Li->Prop} {s:Li}
theorem E5 {left:Bool}{key:Keyed}{arr:Array Keyed}{base n lo0 hi0:Nat}{st:Ly}{Q:Option Nat->Ly->Prop}(p:Nat->Bool)(mono:∀i j,i<=j->j<n->p j=true->p i=true)
  (hb:∀i,i<n->∀Q':Option Bool->Ly->Prop,Q' (some (p i)) st->wpS (model prog w) A E s (beyond left key arr base i) Q' st)
  (h:∀k,k<=n->(∀i,i<k->p i=true)->(∀i,k<=i->i<n->p i=false)->Q (some k) st)
  (h1:lo0<=hi0) (h2:hi0<=n) (h3:∀i,i<lo0->p i=true) (h4:∀i,hi0<=i->i<n->p i=false) :
  wpS (model prog w) A E s (sP left key arr base n lo0 hi0) Q st:=by
 unfold sP;refine Lr (wpS_mono (wpS_forRange (I:=λx c st'=>st'=st/\∃lo hi,c=(none,lo,hi)/\lo<=hi/\hi<=n/\hi - lo<=n - x/\(∀i,i<lo->p i=true)/\∀i,hi<=i->i<n->p i=false)
  (Q:=λc st'=>st'=st/\∃k,c.1=none/\c.2.2=k/\k<=n/\(∀i,i<k->p i=true)/\∀i,k<=i->i<n->p i=false) ?step ?fin ⟨rfl,lo0,hi0,rfl,h1,h2,by lia,h3,h4⟩) ?post)
 case step =>
  rintro x c st' _ hx ⟨rfl,lo,hi,rfl,a1,a2,a3,a4,a5⟩;dsimp only;by_cases c:lo>=hi
  .rw[if_pos c];have:lo=hi:=by lia
   subst this;exact Lu ⟨rfl,lo,rfl,rfl,a2,a4,a5⟩
  .rw[if_neg c];refine Lr (hb _ (by lia) _ ?_);dsimp only;cases hp:p (lo+(hi - lo) / 2) with
   | true =>
    simp only[if_true];exact Lu ⟨rfl,_,_,rfl,by lia,a2,by lia,λi hi'=>mono i _ (by lia) (by lia) hp,a5⟩
   | false =>
    simp only[LB,if_false];refine Lu ⟨rfl,_,_,rfl,by lia,by lia,by lia,a4,λi h5 h6=>?_⟩;cases hq:p i with
    | false=>rfl
    | true =>
     have:=mono _ i h5 h6 hq;rw[hp] at this;cases this
 case fin =>
  rintro c st' ⟨rfl,lo,hi,rfl,a1,a2,a3,a4,a5⟩;have:lo=hi:=by lia
  subst this;exact ⟨rfl,lo,rfl,rfl,a2,a4,a5⟩
 case post =>
  rintro c st' ⟨rfl,k,e1,e2,a2,a4,a5⟩;rw[e1];dsimp only;rw[e2];exact Lu (h k a2 a4 a5)
theorem ph {left:Bool}{key:Keyed}{arr:Array Keyed}{base n hint:Nat}{st:Ly}{Q:Option Nat->Ly->Prop}(p:Nat->Bool)(hh:hint<n)(mono:∀i j,i<=j->j<n->p j=true->p i=true)
  (hb:∀i,i<n->∀Q':Option Bool->Ly->Prop,Q' (some (p i)) st->wpS (model prog w) A E s (beyond left key arr base i) Q' st)
  (h:∀k,k<=n->(∀i,i<k->p i=true)->(∀i,k<=i->i<n->p i=false)->Q (some k) st):wpS (model prog w) A E s (cW left key arr base n hint) Q st:=by
 have anti:∀i j,i<=j->j<n->p i=false->p j=false:=λi j h1 h2 h3=>by
  cases hq:p j with
  | false=>rfl
  | true =>
   have:=mono i j h1 h2 hq;rw[h3] at this;cases this
 rw[wG];refine Lr (hb hint hh _ ?_);dsimp only;cases hp:p hint with
 | true =>
  simp only[if_true];refine Lr (wpS_mono (wpS_forRange (I:=λx c st'=>st'=st/\∃last ofs,c=(none,last,ofs)/\last<ofs/\x<ofs/\hint+last<n/\p (hint+last)=true)
   (Q:=λc st'=>st'=st/\∃last ofs,c=(none,last,ofs)/\last<ofs/\hint+last<n/\p (hint+last)=true/\(n - hint<=ofs\/(hint+ofs<n/\p (hint+ofs)=false))) ?step ?fin ⟨rfl,0,1,rfl,by lia,by lia,by lia,by rw[Nat.add_zero];exact hp⟩) ?post)
  case step =>
   rintro x c st' _ hx ⟨rfl,last,ofs,rfl,a1,a2,a3,a4⟩;dsimp only;by_cases c:ofs>=n - hint
   .rw[if_pos c];exact Lu ⟨rfl,last,ofs,rfl,a1,a3,a4,.inl c⟩
   .rw[if_neg c];refine Lr (hb _ (by lia) _ ?_);dsimp only;cases hq:p (hint+ofs) with
    | true =>
     simp only[Bool.not_true,LB,if_false];exact Lu ⟨rfl,ofs,_,rfl,by lia,by lia,by lia,hq⟩
    | false =>
     simp only[Bool.not_false,if_true];exact Lu ⟨rfl,last,ofs,rfl,a1,a3,a4,.inr ⟨by lia,hq⟩⟩
  case fin =>
   rintro c st' ⟨rfl,last,ofs,rfl,a1,a2,a3,a4⟩;exact ⟨rfl,last,ofs,rfl,a1,a3,a4,.inl (by lia)⟩
  case post =>
   rintro c st' ⟨rfl,last,ofs,rfl,a1,a3,a4,a5⟩;dsimp only;refine E5 (lo0:=hint+last+1) (hi0:=hint+min ofs (n - hint)) p mono hb h (by lia) (by lia) (λi hi=>mono i (hint+last) (by lia) a3 a4) λi h5 h6=>?_;rcases a5 with z | ⟨z1,z2⟩
   .lia
   .exact anti (hint+ofs) i (by lia) h6 z2
 | false =>
  simp only[LB,if_false];refine Lr (wpS_mono (wpS_forRange (I:=λx c st'=>st'=st/\∃last ofs,c=(none,last,ofs)/\last<ofs/\x<ofs/\last<=hint/\p (hint - last)=false)
   (Q:=λc st'=>st'=st/\∃last ofs,c=(none,last,ofs)/\last<ofs/\last<=hint/\p (hint - last)=false/\(hint+1<=ofs\/(ofs<=hint/\p (hint - ofs)=true))) ?step ?fin ⟨rfl,0,1,rfl,by lia,by lia,by lia,by rw[Nat.sub_zero];exact hp⟩) ?post)
  case step =>
   rintro x c st' _ hx ⟨rfl,last,ofs,rfl,a1,a2,a3,a4⟩;dsimp only;by_cases c:ofs>=hint+1
   .rw[if_pos c];exact Lu ⟨rfl,last,ofs,rfl,a1,a3,a4,.inl c⟩
   .rw[if_neg c];refine Lr (hb _ (by lia) _ ?_);dsimp only;cases hq:p (hint - ofs) with
    | true =>
     simp only[if_true];exact Lu ⟨rfl,last,ofs,rfl,a1,a3,a4,.inr ⟨by lia,hq⟩⟩
    | false =>
     simp only[LB,if_false];exact Lu ⟨rfl,ofs,_,rfl,by lia,by lia,by lia,hq⟩
  case fin =>
   rintro c st' ⟨rfl,last,ofs,rfl,a1,a2,a3,a4⟩;exact ⟨rfl,last,ofs,rfl,a1,a3,a4,.inl (by lia)⟩
  case post =>
   rintro c st' ⟨rfl,last,ofs,rfl,a1,a3,a4,a5⟩;dsimp only;refine E5 (lo0:=hint+1 - min ofs (hint+1)) (hi0:=hint - last) p mono hb h (by lia) (by lia) (λi hi=>?_) λi h5 h6=>anti (hint - last) i (by lia) h6 a4;rcases a5 with z | ⟨z1,z2⟩
   .lia
   .exact mono i (hint - ofs) (by lia) (by lia) z2
end
end Tim
namespace Tim
open PySem PyProof.Rows
noncomputable def bw:Nat->StateT Ly Sem Unit:=sortPriv% PySem.Builtin.setMinGallop
noncomputable def my:Array Keyed->Array Keyed->StateT Ly Sem (Array Keyed):=sortPriv% PySem.Builtin.mergeLo
noncomputable def setG (st:Ly)(g:Nat):Ly:=SortSt.mk' (kindOf st) (arrOf st) (pendingOf st) g (failedOf st)
theorem dz (g:Nat):bw g=modify λs=>setG s g:=rfl
noncomputable def d9 (a b out:Array Keyed)(ia ib:Nat):Array Keyed:=out++a.extract ia a.size++b.extract ib b.size
noncomputable def jJ (a b out:Array Keyed)(ia ib:Nat):Array Keyed:=out++b.extract ib b.size++a.extract ia a.size
theorem sZ (a b:Array Keyed):my a b=(do
  rule "list.sort.merge-lo"
  let total:=a.size+b.size
  let mut out:Array Keyed:=#[<-elem' b 0]
  let mut ia:=0
  let mut ib:=1
  if ib == b.size then return d9 a b out ia ib
  if ia+1 == a.size then return jJ a b out ia ib
  let mut minGallop:=gallopOf (<-get)
  for _ in [0:total] do
    let mut acount:=0
    let mut bcount:=0
    for _ in [0:total] do
      let some bWins <-lt' (<-elem' b ib) (<-elem' a ia) | return d9 a b out ia ib
      if bWins then
        out:=out.push (<-elem' b ib);ib:=ib+1;bcount:=bcount+1;acount:=0
        if ib == b.size then return d9 a b out ia ib
        if bcount>=minGallop then break
      else
        out:=out.push (<-elem' a ia);ia:=ia+1;acount:=acount+1;bcount:=0
        if ia+1 == a.size then return jJ a b out ia ib
        if acount>=minGallop then break
    rule "list.sort.gallop"
    minGallop:=minGallop+1
    for _ in [0:total] do
      if minGallop>1 then minGallop:=minGallop - 1
      bw minGallop
      let some k <-cW false (<-elem' b ib) a ia (a.size - ia) 0 | return d9 a b out ia ib
      acount:=k
      if k>0 then
        out:=out++a.extract ia (ia+k);ia:=ia+k
        if ia+1 == a.size then return jJ a b out ia ib
        if ia == a.size then return d9 a b out ia ib
      out:=out.push (<-elem' b ib);ib:=ib+1
      if ib == b.size then return d9 a b out ia ib
      let some k <-cW true (<-elem' a ia) b ib (b.size - ib) 0 | return d9 a b out ia ib
      bcount:=k
      if k>0 then
        out:=out++b.extract ib (ib+k);ib:=ib+k
        if ib == b.size then return d9 a b out ia ib
      out:=out.push (<-elem' a ia);ia:=ia+1
      if ia+1 == a.size then return jJ a b out ia ib
      if acount<7 && bcount<7 then break
    minGallop:=minGallop+1
    bw minGallop
  unsupported "internal:list.sort.merge-bound"):=rfl
structure Ord (Dm:Keyed->Prop)(R:Keyed->Keyed->Bool):Prop where
 tr:∀x y z,Dm x->Dm y->Dm z->R y x=false->R z y=false->R z x=false
 ES:∀x y,Dm x->Dm y->R x y=true->R y x=false
noncomputable def fY (R:Keyed->Keyed->Bool)(l:List Keyed):Prop:=l.Pairwise λx y=>R y x=false
structure MI (R:Keyed->Keyed->Bool)(la lb:List Keyed)(out:List Keyed)(ia ib:Nat):Prop where
 perm:out.Perm (la.take ia++lb.take ib)
 GW:fY R out
 HG:∀x∈out,∀y∈la.drop ia++lb.drop ib,R y x=false
section
variable {R:Keyed->Keyed->Bool} {la lb out:List Keyed} {ia ib:Nat}
theorem jZ (l:List Keyed)(i k:Nat):l.take (i+k)=l.take i++(l.drop i).take k:=by rw[List.take_add]
theorem MI.xg (M:MI R la lb out ia ib)(k:Nat)(hs:fY R la)(hc:∀x∈(la.drop ia).take k,∀y∈lb.drop ib,R y x=false):MI R la lb (out++(la.drop ia).take k) (ia+k) ib:=by
 have hd:fY R (la.drop ia):=List.Pairwise.sublist (List.drop_sublist _ _) hs;have hsplit:(la.drop ia)=(la.drop ia).take k++la.drop (ia+k):=by rw[<-List.drop_drop,take_append_drop]
 refine ⟨?_,?_,?_⟩
 .rw[jZ];have:=M.perm.append_right ((la.drop ia).take k);refine this.trans ?_;rw[LX,LX];exact List.Perm.append_left _ perm_append_comm
 .refine pairwise_append.mpr ⟨M.GW,List.Pairwise.sublist (List.take_sublist _ _) hd,λx hx y hy=>M.HG x hx y (mem_append_left _ (mem_of_mem_take hy))⟩
 .intro x hx y hy;rcases mem_append.mp hx with z | z
  .refine M.HG x z y ?_;rcases mem_append.mp hy with u | u
   .rw[<-List.drop_drop] at u;exact mem_append_left _ (mem_of_mem_drop u)
   .exact mem_append_right _ u
  .rcases mem_append.mp hy with u | u
   .unfold fY at hd;rw[hsplit] at hd;exact (pairwise_append.mp hd).2.2 x z y u
   .exact hc x z y u
theorem MI.xh (M:MI R la lb out ia ib)(k:Nat)(hs:fY R lb)(hc:∀x∈(lb.drop ib).take k,∀y∈la.drop ia,R y x=false):MI R la lb (out++(lb.drop ib).take k) ia (ib+k):=by
 have hd:fY R (lb.drop ib):=List.Pairwise.sublist (List.drop_sublist _ _) hs;have hsplit:(lb.drop ib)=(lb.drop ib).take k++lb.drop (ib+k):=by rw[<-List.drop_drop,take_append_drop]
 refine ⟨?_,?_,?_⟩
 .rw[jZ,<-LX];exact M.perm.append_right _
 .refine pairwise_append.mpr ⟨M.GW,List.Pairwise.sublist (List.take_sublist _ _) hd,λx hx y hy=>M.HG x hx y (mem_append_right _ (mem_of_mem_take hy))⟩
 .intro x hx y hy;rcases mem_append.mp hx with z | z
  .refine M.HG x z y ?_;rcases mem_append.mp hy with u | u
   .exact mem_append_left _ u
   .rw[<-List.drop_drop] at u;exact mem_append_right _ (mem_of_mem_drop u)
  .rcases mem_append.mp hy with u | u
   .exact hc x z y u
   .unfold fY at hd;rw[hsplit] at hd;exact (pairwise_append.mp hd).2.2 x z y u
theorem MI.fin (M:MI R la lb out ia ib){r:List Keyed}(hp:r.Perm (la.drop ia++lb.drop ib))(hs:fY R r):(out++r).Perm (la++lb)/\fY R (out++r):=by
 constructor
 .refine (M.perm.append hp).trans ?_;have e:la++lb=(la.take ia++la.drop ia)++(lb.take ib++lb.drop ib):=by rw[take_append_drop,take_append_drop]
  rw[e,LX,LX];refine List.Perm.append_left _ ?_;rw[<-LX,<-LX];exact List.Perm.append_right _ perm_append_comm
 .exact pairwise_append.mpr ⟨M.GW,hs,λx hx y hy=>M.HG x hx y (hp.mem_iff.mp hy)⟩
end
noncomputable def Good (R:Keyed->Keyed->Bool)(a b out:Array Keyed):Prop:=out.toList.Perm (a.toList++b.toList)/\fY R out.toList
section
variable {R:Keyed->Keyed->Bool} {a b out:Array Keyed} {ia ib:Nat}
theorem hX (a:Array Keyed)(i j:Nat):(a.extract i j).toList=(a.toList.drop i).take (j - i):=by rw[Array.toList_extract,List.extract_eq_take_drop]
theorem kf (a:Array Keyed)(i:Nat):(a.extract i a.size).toList=a.toList.drop i:=by
 rw[hX,take_of_length_le];rw[length_drop,Lw];exact Ll _
theorem MI.x8 (M:MI R a.toList b.toList out.toList ia ib)(ha:fY R a.toList)(h:b.size<=ib):Good R a b (d9 a b out ia ib):=by
 have e:b.toList.drop ib = []:=List.drop_eq_nil_of_le (by rw[Lw];exact h);have:=M.fin (r:=a.toList.drop ia) (by rw[e,append_nil]) (List.Pairwise.sublist (List.drop_sublist _ _) ha);unfold Good d9;rw[Array.toList_append,Array.toList_append,kf,kf,e,append_nil];exact this
theorem MI.HM (M:MI R a.toList b.toList out.toList ia ib)(hb:fY R b.toList)(h:a.size<=ia):Good R a b (d9 a b out ia ib):=by
 have e:a.toList.drop ia = []:=List.drop_eq_nil_of_le (by rw[Lw];exact h);have:=M.fin (r:=b.toList.drop ib) (by rw[e,List.nil_append]) (List.Pairwise.sublist (List.drop_sublist _ _) hb);unfold Good d9;rw[Array.toList_append,Array.toList_append,kf,kf,e,append_nil];exact this
theorem MI.last (M:MI R a.toList b.toList out.toList ia ib)(hb:fY R b.toList)(h:ia+1=a.size)(hz:∀y∈b.toList,∀z∈a.toList.drop (a.size - 1),R z y=false):Good R a b (jJ a b out ia ib):=by
 have hia:ia=a.size - 1:=by lia
 have hl:(a.toList.drop ia).length=1:=by rw[length_drop,Lw];lia
 have hs1:fY R (a.toList.drop ia):=GK hl;have:=M.fin (r:=b.toList.drop ib++a.toList.drop ia) perm_append_comm (pairwise_append.mpr ⟨List.Pairwise.sublist (List.drop_sublist _ _) hb,hs1,λx hx y hy=>hz x (mem_of_mem_drop hx) y (by rw[<-hia];exact hy)⟩);unfold Good jJ;rw[Array.toList_append,Array.toList_append,kf,kf,LX];exact this
end
end Tim
namespace Tim
open PySem PyProof.Rows
section
variable {Dm:Keyed->Prop} {R:Keyed->Keyed->Bool}
theorem Ord.JX (o:Ord Dm R){x:Keyed}(d:Dm x):R x x=false:=by
 cases h:R x x with
 | false=>rfl
 | true=>exact h.symm.trans (o.ES x x d d h)
theorem fD {l:List Keyed}{i:Nat}{y:Keyed}(h:y∈l.drop i):∃j,i<=j/\l[j]?=some y:=by
 obtain ⟨n,hn,e⟩:=List.mem_iff_getElem.mp h;refine ⟨i+n,Nat.le_add_right _ _,?_⟩;rw[<-e,List.getElem_drop];rw[length_drop] at hn;exact Lm (by lia)
theorem bG {l:List Keyed}{i k:Nat}{y:Keyed}(h:y∈(l.drop i).take k):∃j,j<k/\l[i+j]?=some y:=by
 obtain ⟨n,hn,e⟩:=List.mem_iff_getElem.mp h;rw[length_take,length_drop] at hn;refine ⟨n,by lia,?_⟩;rw[<-e,List.getElem_take,List.getElem_drop];exact Lm (by lia)
theorem fY.le (o:Ord Dm R){l:List Keyed}(hs:fY R l)(d:∀x∈l,Dm x){i j:Nat}{x y:Keyed}(h:i<=j)(ex:l[i]?=some x)(ey:l[j]?=some y):R y x=false:=by
 by_cases e:i=j
 .subst e;rw[ex] at ey;cases ey;exact o.JX (d x (Ls ex))
 .obtain ⟨h1,e1⟩:=Lp.mp ex;obtain ⟨h2,e2⟩:=Lp.mp ey;have:=pairwise_iff_getElem.mp hs i j h1 h2 (by lia);rw[e1,e2] at this;exact this
structure Pre (Dm:Keyed->Prop)(R:Keyed->Keyed->Bool)(a b:Array Keyed):Prop where
 o:Ord Dm R
 da:∀x∈a.toList,Dm x
 db:∀x∈b.toList,Dm x
 sa:fY R a.toList
 sb:fY R b.toList
 fst:∀x∈a.toList,∀y,b[0]?=some y->R y x=true
 lst:∀y∈b.toList,∀z,a[a.size - 1]?=some z->R y z=true
 na:0<a.size
 nb:0<b.size
variable {a b out:Array Keyed} {ia ib:Nat} {x y:Keyed}
noncomputable abbrev ML (R:Keyed->Keyed->Bool)(a b out:Array Keyed)(ia ib:Nat):Prop:=MI R a.toList b.toList out.toList ia ib
theorem xo {a:Array Keyed}{i:Nat}{x:Keyed}(h:a[i]?=some x):a.toList[i]?=some x:=by rw[Lo];exact h
theorem Pre.Cy (P:Pre Dm R a b)(M:ML R a b out ia ib)(hy:b[ib]?=some y)(h:∀j x,ia<=j->a[j]?=some x->R y x=true):ML R a b (out.push y) ia (ib+1):=by
 have e:(b.toList.drop ib).take 1 = [y]:=by
  have:=xo hy;obtain ⟨h1,e1⟩:=Lp.mp this;rw[drop_eq_getElem_cons h1,e1];rfl
 have:=M.xh 1 P.sb λz hz u hu=>by
  rw[e] at hz;cases mem_singleton.mp hz;obtain ⟨j,h1,h2⟩:=fD hu;rw[Lo] at h2;exact P.o.ES _ _ (P.db _ (Ls (xo hy))) (P.da _ (mem_of_mem_drop hu)) (h j u h1 h2)
 rw[e] at this;unfold ML;rw[Array.toList_push];exact this
theorem Pre.Fb (P:Pre Dm R a b)(M:ML R a b out ia ib)(hx:a[ia]?=some x)(h:∀j y,ib<=j->b[j]?=some y->R y x=false):ML R a b (out.push x) (ia+1) ib:=by
 have e:(a.toList.drop ia).take 1 = [x]:=by
  have:=xo hx;obtain ⟨h1,e1⟩:=Lp.mp this;rw[drop_eq_getElem_cons h1,e1];rfl
 have:=M.xg 1 P.sa λz hz u hu=>by
  rw[e] at hz;cases mem_singleton.mp hz;obtain ⟨j,h1,h2⟩:=fD hu;rw[Lo] at h2;exact h j u h1 h2
 rw[e] at this;unfold ML;rw[Array.toList_push];exact this
theorem Pre.Da (P:Pre Dm R a b){i:Nat}(h:a[i]?=some x):Dm x:=P.da _ (Ls (xo h))
theorem Pre.Db (P:Pre Dm R a b){i:Nat}(h:b[i]?=some x):Dm x:=P.db _ (Ls (xo h))
theorem Pre.KO (P:Pre Dm R a b){i j:Nat}(h:i<=j)(hx:a[i]?=some x)(hy:a[j]?=some y):R y x=false:=P.sa.le P.o P.da h (xo hx) (xo hy)
theorem Pre.leB (P:Pre Dm R a b){i j:Nat}(h:i<=j)(hx:b[i]?=some x)(hy:b[j]?=some y):R y x=false:=P.sb.le P.o P.db h (xo hx) (xo hy)
theorem Pre.KU (P:Pre Dm R a b){i j:Nat}{z:Keyed}(dy:Dm y)(h:i<=j)(hx:a[i]?=some x)(hz:a[j]?=some z)(hl:R y x=true):R y z=true:=by
 cases q:R y z with
 | true=>rfl
 | false =>
  have:=P.o.tr x z y (P.Da hx) (P.Da hz) dy (P.KO h hx hz) q;rw[hl] at this;cases this
theorem Pre.Kx (P:Pre Dm R a b){i j:Nat}{z:Keyed}(dx:Dm x)(h:i<=j)(hy:b[i]?=some y)(hz:b[j]?=some z)(hl:R y x=false):R z x=false:=
 P.o.tr x y z dx (P.Db hy) (P.Db hz) hl (P.leB h hy hz)
theorem Pre.Js (P:Pre Dm R a b){i j:Nat}{z:Keyed}(dy:Dm y)(h:i<=j)(hx:a[i]?=some x)(hz:a[j]?=some z)(hl:R y z=false):R y x=false:=
 P.o.tr x z y (P.Da hx) (P.Da hz) dy (P.KO h hx hz) hl
theorem Pre.KN (P:Pre Dm R a b){i j:Nat}{z:Keyed}(dx:Dm x)(h:i<=j)(hy:b[i]?=some y)(hz:b[j]?=some z)(hl:R z x=true):R y x=true:=by
 cases q:R y x with
 | true=>rfl
 | false =>
  have:=P.Kx dx h hy hz q;rw[hl] at this;cases this
theorem Pre.Ja (P:Pre Dm R a b)(M:ML R a b out ia ib)(hx:a[ia]?=some x)(hy:b[ib]?=some y)(h:R y x=true):ML R a b (out.push y) ia (ib+1):=
 P.Cy M hy λj z h1 h2=>P.KU (P.Db hy) h1 hx h2 h
theorem Pre.IZ (P:Pre Dm R a b)(M:ML R a b out ia ib)(hx:a[ia]?=some x)(hy:b[ib]?=some y)(h:R y x=false):ML R a b (out.push x) (ia+1) ib:=
 P.Fb M hx λj z h1 h2=>P.Kx (P.Da hx) h1 hy h2 h
theorem Pre.Kj (P:Pre Dm R a b)(M:ML R a b out ia ib)(k:Nat)(hy:b[ib]?=some y)(h:∀i x,i<k->a[ia+i]?=some x->R y x=false):ML R a b (out++a.extract ia (ia+k)) (ia+k) ib:=by
 have:=M.xg k P.sa λz hz u hu=>by
  obtain ⟨j,h1,h2⟩:=fD hu;obtain ⟨i,h3,h4⟩:=bG hz;rw[Lo] at h2 h4;exact P.Kx (P.Da h4) h1 hy h2 (h i z h3 h4)
 unfold ML;rw[Array.toList_append,hX,show ia+k - ia=k by lia];exact this
theorem Pre.Kk (P:Pre Dm R a b)(M:ML R a b out ia ib)(k:Nat)(hx:a[ia]?=some x)(h:∀i y,i<k->b[ib+i]?=some y->R y x=true):ML R a b (out++b.extract ib (ib+k)) ia (ib+k):=by
 have:=M.xh k P.sb λz hz u hu=>by
  obtain ⟨j,h1,h2⟩:=fD hu;obtain ⟨i,h3,h4⟩:=bG hz;rw[Lo] at h2 h4;exact P.o.ES _ _ (P.Db h4) (P.Da h2) (P.KU (P.Db h4) h1 hx h2 (h i z h3 h4))
 unfold ML;rw[Array.toList_append,hX,show ib+k - ib=k by lia];exact this
theorem Pre.last (P:Pre Dm R a b)(M:ML R a b out ia ib)(h:ia+1=a.size):Good R a b (jJ a b out ia ib):=
 M.last P.sb h λy hy z hz=>by
  obtain ⟨j,h1,h2⟩:=fD hz;rw[Lo] at h2;have h3:j<a.size:=(Array.getElem?_eq_some_iff.mp h2).1;have e:j=a.size - 1:=by lia
  subst e;exact P.o.ES _ _ (P.db _ hy) (P.Da h2) (P.lst y hy z h2)
theorem Pre.start (P:Pre Dm R a b)(hy:b[0]?=some y):ML R a b #[y] 0 1:=by
 have M0:ML R a b #[] 0 0:=⟨List.Perm.nil,List.Pairwise.nil,λx hx=>nomatch hx⟩
 have:=P.Cy M0 hy λj x _ hx=>P.fst x (Ls (xo hx)) y hy;exact this
end
section
variable {prog:LH} {w:LR} {A:LQ} {E:Lg->Li->Prop} {s:Li}
theorem aU {arr:Array Keyed}{i:Nat}{p:Keyed}{st:Ly}{Q:Keyed->Ly->Prop}(h:arr[i]?=some p)(hq:Q p st):wpS (model prog w) A E s (elem' arr i) Q st:=by
 rw[elem'_eq,h];exact Lu hq
noncomputable def ao (st st':Ly):Prop:=kindOf st'=kindOf st/\arrOf st'=arrOf st/\pendingOf st'=pendingOf st/\failedOf st'=failedOf st
theorem ao.As {st:Ly}:ao st st:=⟨rfl,rfl,rfl,rfl⟩
theorem ao.setG {st st':Ly}(h:ao st st')(g:Nat):ao st (setG st' g):=h
noncomputable def fO (prog:LH)(w:LR)(A:LQ)(E:Lg->Li->Prop)(s:Li)(Dm:Keyed->Prop)(R:Keyed->Keyed->Bool)(κ:SortKind):Prop:=
 ∀(x y:Keyed) (st:Ly) (Q:Option Bool->Ly->Prop),Dm x->Dm y->kindOf st=κ->Q (some (R x y)) st->wpS (model prog w) A E s (lt' x y) Q st
variable {Dm:Keyed->Prop} {R:Keyed->Keyed->Bool} {κ:SortKind}
theorem mV (L:fO prog w A E s Dm R κ){key:Keyed}{arr:Array Keyed}{base n hint:Nat}{st:Ly}{Q:Option Nat->Ly->Prop}(hk:kindOf st=κ)(dk:Dm key)(hh:hint<n)(hn:base+n<=arr.size)
    (da:∀i x,i<n->arr[base+i]?=some x->Dm x) (mono:∀i j x y,i<=j->j<n->arr[base+i]?=some x->arr[base+j]?=some y->R key y=false->R key x=false)
    (h:∀k,k<=n->(∀i x,i<k->arr[base+i]?=some x->R key x=false)->(∀i x,k<=i->i<n->arr[base+i]?=some x->R key x=true)->Q (some k) st):wpS (model prog w) A E s (cW false key arr base n hint) Q st:=by
  have at_:∀i,i<n->∃x,arr[base+i]?=some x:=λi hi=>⟨arr[base+i]'(by lia),Lq (by lia)⟩
  let p:Nat->Bool:=λi=>match arr[base+i]? with | some x=>!R key x | none=>false
  have pe:∀i x,arr[base+i]?=some x->p i = !R key x:=λi x e=>by show (match arr[base+i]? with | some x=>!R key x | none=>false)=_;rw[e]
  refine ph p hh (λi j h1 h2 h3=>?_) (λi hi Q' hq=>?_) λk hk h1 h2=>h k hk (λi x hi hx=>?_) λi x hi hin hx=>?_
  · obtain ⟨x, hx⟩ := at_ i (by lia);obtain ⟨y,hy⟩:=at_ j h2;rw[pe j y hy] at h3;rw[pe i x hx,mono i j x y h1 h2 hx hy (by simpa using h3)];rfl
  · obtain ⟨x,hx⟩:=at_ i hi;rw[pe i x hx] at hq;unfold beyond;refine Lr (aU hx ?_);simp only[LB,if_false];refine Lr (L key x st _ dk (da i x hi hx) hk ?_);exact Lu hq
  · have:=h1 i hi;rw[pe i x hx] at this;simpa using this
  · have:=h2 i hi hin;rw[pe i x hx] at this;simpa using this
theorem pd (L:fO prog w A E s Dm R κ){key:Keyed}{arr:Array Keyed}{base n hint:Nat}{st:Ly}{Q:Option Nat->Ly->Prop}(hk:kindOf st=κ)(dk:Dm key)(hh:hint<n)(hn:base+n<=arr.size)
    (da:∀i x,i<n->arr[base+i]?=some x->Dm x) (mono:∀i j x y,i<=j->j<n->arr[base+i]?=some x->arr[base+j]?=some y->R y key=true->R x key=true)
    (h:∀k,k<=n->(∀i x,i<k->arr[base+i]?=some x->R x key=true)->(∀i x,k<=i->i<n->arr[base+i]?=some x->R x key=false)->Q (some k) st):wpS (model prog w) A E s (cW true key arr base n hint) Q st:=by
  have at_:∀i,i<n->∃x,arr[base+i]?=some x:=λi hi=>⟨arr[base+i]'(by lia),Lq (by lia)⟩
  let p:Nat->Bool:=λi=>match arr[base+i]? with | some x=>R x key | none=>false
  have pe:∀i x,arr[base+i]?=some x->p i=R x key:=λi x e=>by show (match arr[base+i]? with | some x=>R x key | none=>false)=_;rw[e]
  refine ph p hh (λi j h1 h2 h3=>?_) (λi hi Q' hq=>?_) λk hk h1 h2=>h k hk (λi x hi hx=>?_) λi x hi hin hx=>?_
  · obtain ⟨x, hx⟩ := at_ i (by lia);obtain ⟨y,hy⟩:=at_ j h2;rw[pe j y hy] at h3;rw[pe i x hx,mono i j x y h1 h2 hx hy h3]
  · obtain ⟨x,hx⟩:=at_ i hi;rw[pe i x hx] at hq;unfold beyond;refine Lr (aU hx ?_);simp only[if_true];exact L x key st _ (da i x hi hx) dk hk hq
  · have:=h1 i hi;rw[pe i x hx] at this;exact this
  · have:=h2 i hi hin;rw[pe i x hx] at this;exact this
end
end Tim
namespace Tim
open PySem PyProof.Rows
section
variable {prog:LH} {w:LR} {A:LQ} {E:Lg->Li->Prop} {s:Li}
variable {Dm:Keyed->Prop} {R:Keyed->Keyed->Bool} {κ:SortKind}
noncomputable abbrev zk:=Option (Array Keyed)×Array Keyed×Nat×Nat×Nat×Nat×Nat
noncomputable def Ed (a b out:Array Keyed)(ia ib g k k1:Nat):StateT Ly Sem (ForInStep zk):=do
  let y <-elem' a ia
  if (ia+1+1 == a.size)=true then pure (.done (some (jJ a b (out.push y) (ia+1) ib),out.push y,ia+1,ib,g,k,k1))
  else if (decide (k<7) && decide (k1<7))=true then pure (.done (none,out.push y,ia+1,ib,g,k,k1))
  else pure (.yield (none,out.push y,ia+1,ib,g,k,k1))
noncomputable def Ec (a b out:Array Keyed)(ia ib g k bc:Nat):StateT Ly Sem (ForInStep zk):=do
  let y <-elem' b ib
  if (ib+1 == b.size)=true then pure (.done (some (d9 a b (out.push y) ia (ib+1)),out.push y,ia,ib+1,g,k,bc))
  else do
    let v <-elem' a ia
    let r <-cW true v b (ib+1) (b.size - (ib+1)) 0
    match r with
    | some k1 =>
      if k1>0 then
        if (ib+1+k1 == b.size)=true then pure (.done (some (d9 a b (out.push y++b.extract (ib+1) (ib+1+k1)) ia (ib+1+k1)),out.push y++b.extract (ib+1) (ib+1+k1),ia,ib+1+k1,g,k,k1))
        else Ed a b (out.push y++b.extract (ib+1) (ib+1+k1)) ia (ib+1+k1) g k k1
      else Ed a b (out.push y) ia (ib+1) g k k1
    | _=>pure (.done (some (d9 a b (out.push y) ia (ib+1)),out.push y,ia,ib+1,g,k,bc))
noncomputable def BY (a b out:Array Keyed)(ia ib g ac bc:Nat):StateT Ly Sem (ForInStep zk):=do
  bw g
  let y <-elem' b ib
  let r <-cW false y a ia (a.size - ia) 0
  match r with
  | some k =>
    if k>0 then
      if (ia+k+1 == a.size)=true then pure (.done (some (jJ a b (out++a.extract ia (ia+k)) (ia+k) ib),out++a.extract ia (ia+k),ia+k,ib,g,k,bc))
      else if (ia+k == a.size)=true then pure (.done (some (d9 a b (out++a.extract ia (ia+k)) (ia+k) ib),out++a.extract ia (ia+k),ia+k,ib,g,k,bc))
      else Ec a b (out++a.extract ia (ia+k)) (ia+k) ib g k bc
    else Ec a b out ia ib g k bc
  | _=>pure (.done (some (d9 a b out ia ib),out,ia,ib,g,ac,bc))
section
variable {a b out:Array Keyed} {ia ib g k k1 bc ac n0:Nat} {st:Ly} {Q:ForInStep zk->Ly->Prop}
noncomputable def QD (R:Keyed->Keyed->Bool)(a b:Array Keyed)(Q:ForInStep zk->Ly->Prop)(st:Ly):Prop:=∀r c,Good R a b r->Q (.done (some r,c)) st
noncomputable def QN (R:Keyed->Keyed->Bool)(a b:Array Keyed)(n0:Nat)(Q:ForInStep zk->Ly->Prop)(st:Ly):Prop:=∀out ia ib g k k1,ML R a b out ia ib->ib<b.size->ia+1<a.size->n0<ia+ib->Q (.done (none,out,ia,ib,g,k,k1)) st/\Q (.yield (none,out,ia,ib,g,k,k1)) st
theorem u9 (P:Pre Dm R a b)(M:ML R a b out ia ib)(h1:ib<b.size)(h2:ia+1<a.size){v:Keyed}(hv:a[ia]?=some v)(hb:∀j x,ib<=j->b[j]?=some x->R x v=false)(hn:n0<=ia+ib)(qd:QD R a b Q st)(qn:QN R a b n0 Q st):wpS (model prog w) A E s (Ed a b out ia ib g k k1) Q st:=by
 unfold Ed;refine Lr (aU hv ?_);have M3:=P.Fb M hv hb;split
 case isTrue c=>exact Lu (qd _ _ (P.last M3 (beq_iff_eq.mp c)))
 case isFalse c =>
  rw[beq_iff_eq] at c;have z:=qn _ _ _ g k k1 M3 h1 (by lia) (by lia);split
  .exact Lu z.1
  .exact Lu z.2
theorem u7 (L:fO prog w A E s Dm R κ)(P:Pre Dm R a b)(hk:kindOf st=κ)(M:ML R a b out ia ib)(h1:ib<b.size)(h2:ia+1<a.size){u:Keyed}(hu:b[ib]?=some u)(ha:∀j x,ia<=j->a[j]?=some x->R u x=true)(hn:n0<=ia+ib)(qd:QD R a b Q st)(qn:QN R a b n0 Q st):wpS (model prog w) A E s (Ec a b out ia ib g k bc) Q st:=by
 unfold Ec;refine Lr (aU hu ?_);have M2:=P.Cy M hu ha;by_cases c7:(ib+1 == b.size)=true
 .rw[if_pos c7];exact Lu (qd _ _ (M2.x8 P.sa (by rw[<-beq_iff_eq.mp c7];exact Ll _)))
 rw[if_neg c7];have h1':ib+1<b.size:=by
  have:¬ib+1=b.size:=λe=>c7 (beq_iff_eq.mpr e);lia
 obtain ⟨v,hv⟩ : ∃x,a[ia]?=some x:=⟨a[ia],Lq (by lia)⟩
 refine Lr (aU hv ?_);refine Lr (pd L hk (P.Da hv) (by lia) (by lia) (λi x _ hx=>P.Db hx) (λi j x y hij _ hx hy=>P.KN (P.Da hv) (by lia) hx hy) λm hm m1 m2=>?_);dsimp only;have m2':∀j x,ib+1+m<=j->b[j]?=some x->R x v=false:=λj x hj hx=>by
  have hjs:j<b.size:=(Array.getElem?_eq_some_iff.mp hx).1;exact m2 (j - (ib+1)) x (by lia) (by lia) (by rw[show ib+1+(j - (ib+1))=j by lia];exact hx)
 by_cases c8:m>0
 .rw[if_pos c8];have Mm:=P.Kk M2 m hv m1;by_cases c9:(ib+1+m == b.size)=true
  .rw[if_pos c9];exact Lu (qd _ _ (Mm.x8 P.sa (by rw[<-beq_iff_eq.mp c9];exact Ll _)))
  rw[if_neg c9];have h1'':ib+1+m<b.size:=by
   have:¬ib+1+m=b.size:=λe=>c9 (beq_iff_eq.mpr e);lia
  exact u9 P Mm h1'' h2 hv m2' (by lia) qd qn
 .rw[if_neg c8];have e0:m=0:=by lia
  subst e0;exact u9 P M2 h1' h2 hv m2' (by lia) qd qn
theorem BZ (L:fO prog w A E s Dm R κ)(P:Pre Dm R a b)(hk:kindOf st=κ)(M:ML R a b out ia ib)(h1:ib<b.size)(h2:ia+1<a.size)(hn:n0<=ia+ib)(qd:QD R a b Q (setG st g))(qn:QN R a b n0 Q (setG st g)):wpS (model prog w) A E s (BY a b out ia ib g ac bc) Q st:=by
 unfold BY;rw[dz];obtain ⟨u,hu⟩ : ∃x,b[ib]?=some x:=⟨b[ib],Lq h1⟩
 refine Lr (wpS_modify (Lr (aU hu ?_)));have hk':kindOf (setG st g)=κ:=hk;refine Lr (mV L hk' (P.Db hu) (by lia) (by lia) (λi x _ hx=>P.Da hx) (λi j x y hij _ hx hy=>P.Js (P.Db hu) (by lia) hx hy) λk hkn k1 k2=>?_);dsimp only;have k2':∀j x,ia+k<=j->a[j]?=some x->R u x=true:=λj x hj hx=>by
  have hjs:j<a.size:=(Array.getElem?_eq_some_iff.mp hx).1;exact k2 (j - ia) x (by lia) (by lia) (by rw[show ia+(j - ia)=j by lia];exact hx)
 by_cases c4:k>0
 .rw[if_pos c4];have Mk:=P.Kj M k hu k1;by_cases c5:(ia+k+1 == a.size)=true
  .rw[if_pos c5];exact Lu (qd _ _ (P.last Mk (beq_iff_eq.mp c5)))
  rw[if_neg c5];by_cases c6:(ia+k == a.size)=true
  .rw[if_pos c6];exact Lu (qd _ _ (Mk.HM P.sb (by rw[<-beq_iff_eq.mp c6];exact Ll _)))
  rw[if_neg c6];have h2':ia+k+1<a.size:=by
   have:¬ia+k+1=a.size:=λe=>c5 (beq_iff_eq.mpr e);have:¬ia+k=a.size:=λe=>c6 (beq_iff_eq.mpr e);lia
  exact u7 L P hk' Mk h1 h2' hu k2' (by lia) qd qn
 .rw[if_neg c4];have e0:k=0:=by lia
  subst e0;exact u7 L P hk' M h1 h2 hu k2' hn qd qn
end
noncomputable abbrev EO:=Option (Array Keyed)×Array Keyed×Nat×Nat×Nat×Nat
noncomputable abbrev Dc:=Option (Array Keyed)×Array Keyed×Nat×Nat×Nat
noncomputable def J5 (a b:Array Keyed)(g:Nat)(c:EO):StateT Ly Sem (ForInStep EO):=do
  let y <-elem' b c.2.2.2.1
  let x <-elem' a c.2.2.1
  let r <-lt' y x
  match r with
  | some bW =>
    if bW=true then do
      let z <-elem' b c.2.2.2.1
      if (c.2.2.2.1+1 == b.size)=true then pure (.done (some (d9 a b (c.2.1.push z) c.2.2.1 (c.2.2.2.1+1)),c.2.1.push z,c.2.2.1,c.2.2.2.1+1,0,c.2.2.2.2.2+1))
      else if c.2.2.2.2.2+1>=g then pure (.done (none,c.2.1.push z,c.2.2.1,c.2.2.2.1+1,0,c.2.2.2.2.2+1))
      else pure (.yield (none,c.2.1.push z,c.2.2.1,c.2.2.2.1+1,0,c.2.2.2.2.2+1))
    else do
      let z <-elem' a c.2.2.1
      if (c.2.2.1+1+1 == a.size)=true then pure (.done (some (jJ a b (c.2.1.push z) (c.2.2.1+1) c.2.2.2.1),c.2.1.push z,c.2.2.1+1,c.2.2.2.1,c.2.2.2.2.1+1,0))
      else if c.2.2.2.2.1+1>=g then pure (.done (none,c.2.1.push z,c.2.2.1+1,c.2.2.2.1,c.2.2.2.2.1+1,0))
      else pure (.yield (none,c.2.1.push z,c.2.2.1+1,c.2.2.2.1,c.2.2.2.2.1+1,0))
  | _=>pure (.done (some (d9 a b c.2.1 c.2.2.1 c.2.2.2.1),c.2.1,c.2.2.1,c.2.2.2.1,c.2.2.2.2.1,c.2.2.2.2.2))
noncomputable def J3 (a b:Array Keyed)(c:zk):StateT Ly Sem (ForInStep zk):=if c.2.2.2.2.1>1 then BY a b c.2.1 c.2.2.1 c.2.2.2.1 (c.2.2.2.2.1 - 1) c.2.2.2.2.2.1 c.2.2.2.2.2.2 else BY a b c.2.1 c.2.2.1 c.2.2.2.1 c.2.2.2.2.1 c.2.2.2.2.2.1 c.2.2.2.2.2.2
noncomputable def J2 (a b:Array Keyed)(g:Nat)(c:EO):StateT Ly Sem (ForInStep Dc):=do
  liftM (rule "list.sort.gallop")
  let d <-forIn [:a.size+b.size] ((none,c.2.1,c.2.2.1,c.2.2.2.1,g+1,c.2.2.2.2.1,c.2.2.2.2.2):zk) λ_ d=>J3 a b d
  match d.1 with
  | some r=>pure (.done (some r,d.2.1,d.2.2.1,d.2.2.2.1,d.2.2.2.2.1))
  | none=>do
    bw (d.2.2.2.2.1+1)
    pure (.yield (none,d.2.1,d.2.2.1,d.2.2.2.1,d.2.2.2.2.1+1))
noncomputable def J4 (a b:Array Keyed)(c:Dc):StateT Ly Sem (ForInStep Dc):=do
  let d <-forIn [:a.size+b.size] ((none,c.2.1,c.2.2.1,c.2.2.2.1,0,0):EO) λ_ d=>J5 a b c.2.2.2.2 d
  match d.1 with
  | some r=>pure (.done (some r,d.2.1,d.2.2.1,d.2.2.2.1,c.2.2.2.2))
  | none=>J2 a b c.2.2.2.2 d
theorem bind_eq {α β:Type}{x y:StateT Ly Sem α}{f g:α->StateT Ly Sem β}(h1:x=y)(h2:∀a,f a=g a):(x >>= f)=(y >>= g):=by rw[h1,funext h2]
theorem tj (a b:Array Keyed):my a b=(do
  liftM (rule "list.sort.merge-lo")
  let x <-elem' b 0
  if (1 == b.size)=true then pure (d9 a b #[x] 0 1)
  else if (0+1 == a.size)=true then pure (jJ a b #[x] 0 1)
  else do
    let s <-get
    let c <-forIn [:a.size+b.size] ((none,#[x],0,1,gallopOf s):Dc) λ_ c=>J4 a b c
    match c.1 with
    | some r=>pure r
    | none=>liftM (unsupported "internal:list.sort.merge-bound")):=by
  rw[sZ];dsimp only;refine bind_eq rfl λ_=>bind_eq rfl λx=>congrArg _ (congrArg _ (bind_eq rfl λs=>bind_eq (congrArg _ (funext λ_=>funext λc=>bind_eq rfl λd=>?_)) λc=>?_))
  · rcases d with ⟨_ | r,d⟩
    · refine bind_eq rfl λ_=>bind_eq rfl λd=>?_;rcases d with ⟨_ | r,d⟩<;>rfl
    · rfl
  · rcases c with ⟨_ | r,c⟩<;>rfl
section
variable {a b:Array Keyed} {st:Ly}
noncomputable def zj (R:Keyed->Keyed->Bool)(a b:Array Keyed)(n:Nat)(out:Array Keyed)(ia ib:Nat):Prop:=ML R a b out ia ib/\ib<b.size/\ia+1<a.size/\n<=ia+ib
theorem Eb (L:fO prog w A E s Dm R κ)(P:Pre Dm R a b)(hk:kindOf st=κ){n g ia ib ac bc:Nat}{out:Array Keyed}{Q:ForInStep EO->Ly->Prop}(M0:zj R a b n out ia ib)(qd:∀r c,Good R a b r->Q (.done (some r,c)) st)(qn:∀out ia ib ac bc,zj R a b (n+1) out ia ib->Q (.done (none,out,ia,ib,ac,bc)) st/\Q (.yield (none,out,ia,ib,ac,bc)) st):wpS (model prog w) A E s (J5 a b g (none,out,ia,ib,ac,bc)) Q st:=by
 obtain ⟨M,h1,h2,h3⟩:=M0;unfold J5;obtain ⟨u,hu⟩ : ∃x,b[ib]?=some x:=⟨b[ib],Lq h1⟩
 obtain ⟨v,hv⟩ : ∃x,a[ia]?=some x:=⟨a[ia],Lq (by lia)⟩
 refine Lr (aU hu (Lr (aU hv (Lr (L u v _ _ (P.Db hu) (P.Da hv) hk ?_)))));cases c3:R u v with
 | true =>
  have M':=P.Ja M hv hu c3;refine Lr (aU hu ?_);split
  case isTrue c=>exact Lu (qd _ _ (M'.x8 P.sa (by rw[<-beq_iff_eq.mp c];exact Ll _)))
  case isFalse c =>
   have c:¬ib+1=b.size:=λz=>c (beq_iff_eq.mpr z);have z:=qn (out.push u) ia (ib+1) 0 (bc+1) ⟨M',by lia,h2,by lia⟩;split
   .exact Lu z.1
   .exact Lu z.2
 | false =>
  have M':=P.IZ M hv hu c3;refine Lr (aU hv ?_);split
  case isTrue c=>exact Lu (qd _ _ (P.last M' (beq_iff_eq.mp c)))
  case isFalse c =>
   have c:¬ia+1+1=a.size:=λz=>c (beq_iff_eq.mpr z);have z:=qn (out.push v) (ia+1) ib (ac+1) 0 ⟨M',h1,by lia,by lia⟩;split
   .exact Lu z.1
   .exact Lu z.2
theorem D9 (L:fO prog w A E s Dm R κ)(P:Pre Dm R a b){st0:Ly}(hk:kindOf st0=κ)(hS:ao st0 st){n:Nat}{d:zk}(h:d.1=none/\zj R a b n d.2.1 d.2.2.1 d.2.2.2.1){Q:ForInStep zk->Ly->Prop}(qd:∀r c st',ao st0 st'->Good R a b r->Q (.done (some r,c)) st')(qn:∀d st',ao st0 st'->d.1=none/\zj R a b (n+1) d.2.1 d.2.2.1 d.2.2.2.1->Q (.done d) st'/\Q (.yield d) st'):wpS (model prog w) A E s (J3 a b d) Q st:=by
 obtain ⟨_,M,h1,h2,h3⟩:=h;have key:∀g,wpS (model prog w) A E s (BY a b d.2.1 d.2.2.1 d.2.2.2.1 g d.2.2.2.2.2.1 d.2.2.2.2.2.2) Q st:=λg =>
  BZ (n0:=d.2.2.1+d.2.2.2.1) L P (hS.1.trans hk) M h1 h2 (Ll _) (λr c hG=>qd r c _ (hS.setG _) hG) λout' ia' ib' g2 k k1 M' i1 i2 i3=>qn _ _ (hS.setG _) ⟨rfl,M',i1,i2,by dsimp only;lia⟩
 unfold J3;split
 .exact key _
 .exact key _
theorem D8 (L:fO prog w A E s Dm R κ)(P:Pre Dm R a b){st0:Ly}(hk:kindOf st0=κ)(hS:ao st0 st){n g:Nat}{c:EO}(h:zj R a b n c.2.1 c.2.2.1 c.2.2.2.1){Q:ForInStep Dc->Ly->Prop}(qd:∀r c st',ao st0 st'->Good R a b r->Q (.done (some r,c)) st')(qn:∀d st',ao st0 st'->d.1=none/\zj R a b n d.2.1 d.2.2.1 d.2.2.2.1->Q (.yield d) st'):wpS (model prog w) A E s (J2 a b g c) Q st:=by
 unfold J2;refine Lr (wpS_lift (wpAny_rule ⟨rfl,Lr (wpS_mono (wpS_forRange
  (I:=λy (d:zk) st'=>ao st0 st'/\d.1=none/\zj R a b (n+y) d.2.1 d.2.2.1 d.2.2.2.1)
  (Q:=λ(d:zk) st'=>ao st0 st'/\((∃r,d.1=some r/\Good R a b r)\/d.1=none/\zj R a b n d.2.1 d.2.2.1 d.2.2.2.1)) ?_ ?_ ⟨hS,rfl,h⟩) ?_)⟩))
 .rintro y d st' _ hy ⟨hS,z⟩;refine D9 L P hk hS z (λr c st' hS hG=>⟨hS,.inl ⟨r,rfl,hG⟩⟩) λd st' hS z=>⟨⟨hS,.inr ⟨z.1,z.2.1,z.2.2.1,z.2.2.2.1,?_⟩⟩,hS,z⟩
  have:=z.2.2.2.2;lia
 .rintro d st' ⟨hS,_,M,h1,h2,h3⟩;lia
 .rintro d st' ⟨hS,⟨r,e,hG⟩ | ⟨e,z⟩⟩
  .rw[e];exact Lu (qd _ _ _ hS hG)
  .rw[e];dsimp only;rw[dz];exact Lr (wpS_modify (Lu (qn _ _ (hS.setG _) ⟨rfl,z⟩)))
theorem Ea (L:fO prog w A E s Dm R κ)(P:Pre Dm R a b){st0:Ly}(hk:kindOf st0=κ)(hS:ao st0 st){n:Nat}{c:Dc}(h:zj R a b n c.2.1 c.2.2.1 c.2.2.2.1){Q:ForInStep Dc->Ly->Prop}(qd:∀r c st',ao st0 st'->Good R a b r->Q (.done (some r,c)) st')(qn:∀d st',ao st0 st'->d.1=none/\zj R a b (n+1) d.2.1 d.2.2.1 d.2.2.2.1->Q (.yield d) st'):wpS (model prog w) A E s (J4 a b c) Q st:=by
 unfold J4;refine Lr (wpS_mono (wpS_forRange
  (I:=λy (d:EO) st'=>st'=st/\d.1=none/\zj R a b (n+y) d.2.1 d.2.2.1 d.2.2.2.1)
  (Q:=λ(d:EO) st'=>st'=st/\((∃r,d.1=some r/\Good R a b r)\/d.1=none/\zj R a b (n+1) d.2.1 d.2.2.1 d.2.2.2.1)) ?_ ?_ ⟨rfl,rfl,h⟩) ?_)
 .rintro y ⟨x,out,ia,ib,ac,bc⟩ st' _ hy ⟨rfl,e,z⟩;obtain rfl:x=none:=e;refine Eb L P (hS.1.trans hk) z (λr c hG=>⟨rfl,.inl ⟨r,rfl,hG⟩⟩) λout ia ib ac bc z=>⟨⟨rfl,.inr ⟨rfl,z.1,z.2.1,z.2.2.1,?_⟩⟩,rfl,rfl,z⟩
  have:=z.2.2.2;dsimp only;lia
 .rintro d st' ⟨rfl,_,M,h1,h2,h3⟩;lia
 .rintro d st' ⟨rfl,⟨r,e,hG⟩ | ⟨e,z⟩⟩
  .rw[e];exact Lu (qd _ _ _ hS hG)
  .rw[e];exact D8 L P hk hS z qd qn
end
theorem vi (L:fO prog w A E s Dm R κ){a b:Array Keyed}(P:Pre Dm R a b){st:Ly}(hk:kindOf st=κ){Q:Array Keyed->Ly->Prop}(h:∀r st',ao st st'->Good R a b r->Q r st'):wpS (model prog w) A E s (my a b) Q st:=by
 have pa:=P.na;have pb:=P.nb;obtain ⟨b0,hb0⟩ : ∃x,b[0]?=some x:=⟨b[0],Lq pb⟩
 have M1:=P.start hb0;rw[tj];refine Lr (wpS_lift (wpAny_rule ⟨rfl,Lr (aU hb0 ?_)⟩));split
 case isTrue c=>exact Lu (h _ _ .As (M1.x8 P.sa (by rw[<-beq_iff_eq.mp c];exact Ll _)))
 case isFalse c1 =>
  split
  case isTrue c=>exact Lu (h _ _ .As (P.last M1 (beq_iff_eq.mp c)))
  case isFalse c2 =>
   rw[beq_iff_eq] at c1 c2;refine Lr (wpS_get (Lr (wpS_mono (wpS_forRange
    (I:=λx (c:Dc) st'=>ao st st'/\c.1=none/\zj R a b (1+x) c.2.1 c.2.2.1 c.2.2.2.1)
    (Q:=λ(c:Dc) st'=>ao st st'/\∃r,c.1=some r/\Good R a b r) ?_ ?_ ⟨.As,rfl,M1,?_⟩) ?_)))
   .rintro x c st' _ hx ⟨hS,_,z⟩;exact Ea L P hk hS z (λr c st' hS hG=>⟨hS,r,rfl,hG⟩) λd st' hS z=>⟨hS,z⟩
   .rintro c st' ⟨hS,_,M,h1,h2,h3⟩;lia
   .dsimp only;lia
   .rintro c st' ⟨hS,r,e,hG⟩;rw[e];exact Lu (h _ _ hS hG)
end
end Tim
namespace Tim
open PySem PyProof.Rows
noncomputable def mw:Array Keyed->Array Keyed->StateT Ly Sem (Array Keyed):=sortPriv% PySem.Builtin.mergeHi
noncomputable def d8 (a b out:Array Keyed)(na nb:Nat):Array Keyed:=a.extract 0 na++b.extract 0 nb++out.reverse
noncomputable def qw (a b out:Array Keyed)(na nb:Nat):Array Keyed:=b.extract 0 nb++a.extract 0 na++out.reverse
theorem sV (a b:Array Keyed):mw a b=(do
  rule "list.sort.merge-hi"
  let total:=a.size+b.size
  let mut na:=a.size - 1
  let mut nb:=b.size
  let mut out:Array Keyed:=#[<-elem' a na]
  if na == 0 then return d8 a b out na nb
  if nb == 1 then return qw a b out na nb
  let mut minGallop:=gallopOf (<-get)
  for _ in [0:total] do
    let mut acount:=0
    let mut bcount:=0
    for _ in [0:total] do
      let some aWins <-lt' (<-elem' b (nb - 1)) (<-elem' a (na - 1)) | return d8 a b out na nb
      if aWins then
        na:=na - 1;out:=out.push (<-elem' a na);acount:=acount+1;bcount:=0
        if na == 0 then return d8 a b out na nb
        if acount>=minGallop then break
      else
        nb:=nb - 1;out:=out.push (<-elem' b nb);bcount:=bcount+1;acount:=0
        if nb == 1 then return qw a b out na nb
        if bcount>=minGallop then break
    rule "list.sort.gallop"
    minGallop:=minGallop+1
    for _ in [0:total] do
      if minGallop>1 then minGallop:=minGallop - 1
      bw minGallop
      let some at_ <-cW false (<-elem' b (nb - 1)) a 0 na (na - 1) | return d8 a b out na nb
      let k:=na - at_
      acount:=k
      if k>0 then
        out:=out++(a.extract at_ na).reverse;na:=at_
        if na == 0 then return d8 a b out na nb
      nb:=nb - 1;out:=out.push (<-elem' b nb)
      if nb == 1 then return qw a b out na nb
      let some at_ <-cW true (<-elem' a (na - 1)) b 0 nb (nb - 1) | return d8 a b out na nb
      let k:=nb - at_
      bcount:=k
      if k>0 then
        out:=out++(b.extract at_ nb).reverse;nb:=at_
        if nb == 1 then return qw a b out na nb
        if nb == 0 then return d8 a b out na nb
      na:=na - 1;out:=out.push (<-elem' a na)
      if na == 0 then return d8 a b out na nb
      if acount<7 && bcount<7 then break
    minGallop:=minGallop+1
    bw minGallop
  unsupported "internal:list.sort.merge-bound"):=rfl
section
variable {Dm:Keyed->Prop} {R:Keyed->Keyed->Bool}
noncomputable abbrev Rf (R:Keyed->Keyed->Bool):Keyed->Keyed->Bool:=λx y=>R y x
theorem fY.rev {l:List Keyed}(h:fY R l):fY (Rf R) l.reverse:=List.pairwise_reverse.mpr h
theorem fY.Jn {l:List Keyed}(h:fY (Rf R) l):fY R l.reverse:=List.pairwise_reverse.mpr h
theorem oC (l:List Keyed){n m:Nat}(h1:m<=n)(h2:n<=l.length):(l.reverse.drop (l.length - n)).take (n - m)=((l.drop m).take (n - m)).reverse:=by
 rw[List.drop_reverse,List.take_reverse,<-List.drop_take,length_take];congr 2
 .congr 1;lia
 .congr 1;lia
theorem oB (l:List Keyed){n:Nat}(h2:n<=l.length):l.reverse.drop (l.length - n)=(l.take n).reverse:=by
 rw[List.drop_reverse];congr 2;lia
variable {a b out:Array Keyed} {na nb:Nat} {x y:Keyed}
noncomputable abbrev MH (R:Keyed->Keyed->Bool)(a b out:Array Keyed)(na nb:Nat):Prop:=MI (Rf R) a.toList.reverse b.toList.reverse out.toList (a.toList.length - na) (b.toList.length - nb)
theorem jK {l:List Keyed}{i:Nat}{y:Keyed}(h:y∈l.take i):∃j,j<i/\l[j]?=some y:=by
 have:=bG (i:=0) (by simpa using h);simpa using this
theorem Pre.IU (P:Pre Dm R a b)(M:MH R a b out na nb){m:Nat}(h1:m<=na)(h2:na<=a.size)(h3:nb<=b.size)(h:∀i x,m<=i->i<na->a[i]?=some x->∀j y,j<nb->b[j]?=some y->R x y=false){out':Array Keyed}(eo:out'.toList=out.toList++((a.toList.drop m).take (na - m)).reverse):MH R a b out' m nb:=by
 have hl:na<=a.toList.length:=by rw[Lw];exact h2
 have hl':nb<=b.toList.length:=by rw[Lw];exact h3
 have:=M.xg (na - m) P.sa.rev λz hz u hu=>by
  rw[oC _ h1 hl,List.mem_reverse] at hz;rw[oB _ hl',List.mem_reverse] at hu;obtain ⟨j,h4,h5⟩:=jK hu;obtain ⟨i,h6,h7⟩:=bG hz;rw[Lo] at h5 h7;exact h (m+i) z (by lia) (by lia) h7 j u h4 h5
 rw[oC _ h1 hl,<-eo,show a.toList.length - na+(na - m)=a.toList.length - m by lia] at this;exact this
theorem Pre.IV (P:Pre Dm R a b)(M:MH R a b out na nb){m:Nat}(h1:m<=nb)(h2:na<=a.size)(h3:nb<=b.size)(h:∀i x,m<=i->i<nb->b[i]?=some x->∀j y,j<na->a[j]?=some y->R x y=false){out':Array Keyed}(eo:out'.toList=out.toList++((b.toList.drop m).take (nb - m)).reverse):MH R a b out' na m:=by
 have hl:na<=a.toList.length:=by rw[Lw];exact h2
 have hl':nb<=b.toList.length:=by rw[Lw];exact h3
 have:=M.xh (nb - m) P.sb.rev λz hz u hu=>by
  rw[oC _ h1 hl',List.mem_reverse] at hz;rw[oB _ hl,List.mem_reverse] at hu;obtain ⟨j,h4,h5⟩:=jK hu;obtain ⟨i,h6,h7⟩:=bG hz;rw[Lo] at h5 h7;exact h (m+i) z (by lia) (by lia) h7 j u h4 h5
 rw[oC _ h1 hl',<-eo,show b.toList.length - nb+(nb - m)=b.toList.length - m by lia] at this;exact this
theorem yL {a:Array Keyed}{n:Nat}{x:Keyed}(h0:0<n)(h:a[n - 1]?=some x):((a.toList.drop (n - 1)).take (n - (n - 1))).reverse = [x]:=by
 have:=xo h;obtain ⟨h1,e1⟩:=Lp.mp this;rw[drop_eq_getElem_cons h1,e1,show n - (n - 1)=1 by lia];rfl
theorem Pre.FQ (P:Pre Dm R a b)(M:MH R a b out na nb)(h0:0<na)(h2:na<=a.size)(h3:nb<=b.size)(hx:a[na - 1]?=some x)(h:∀j y,j<nb->b[j]?=some y->R x y=false):MH R a b (out.push x) (na - 1) nb:=
 P.IU M (by lia) h2 h3 (λi z h4 h5 h6=>by
  have e:i=na - 1:=by lia
  subst e;rw[hx] at h6;cases h6;exact h) (by rw[yL h0 hx,Array.toList_push])
theorem Pre.HN (P:Pre Dm R a b)(M:MH R a b out na nb)(h0:0<nb)(h2:na<=a.size)(h3:nb<=b.size)(hx:b[nb - 1]?=some x)(h:∀j y,j<na->a[j]?=some y->R x y=false):MH R a b (out.push x) na (nb - 1):=
 P.IV M (by lia) h2 h3 (λi z h4 h5 h6=>by
  have e:i=nb - 1:=by lia
  subst e;rw[hx] at h6;cases h6;exact h) (by rw[yL h0 hx,Array.toList_push])
theorem yd {a out:Array Keyed}{m n:Nat}:(out++(a.extract m n).reverse).toList=out.toList++((a.toList.drop m).take (n - m)).reverse:=by
 rw[Array.toList_append,Array.toList_reverse,hX]
theorem Pre.KH (P:Pre Dm R a b){i j:Nat}{z:Keyed}(dx:Dm x)(h:j<=i)(hy:b[i]?=some y)(hz:b[j]?=some z)(hl:R y x=true):R x z=false:=
 P.o.tr z y x (P.Db hz) (P.Db hy) dx (P.leB h hz hy) (P.o.ES _ _ (P.Db hy) dx hl)
theorem FT {res:Array Keyed}{r:List Keyed}(M:MH R a b out na nb)(h2:na<=a.size)(h3:nb<=b.size)(hp:r.Perm (a.toList.take na++b.toList.take nb))(hs:fY R r)(e:res.toList=r++out.toList.reverse):Good R a b res:=by
 have hl:na<=a.toList.length:=by rw[Lw];exact h2
 have hl':nb<=b.toList.length:=by rw[Lw];exact h3
 have:=M.fin (r:=r.reverse) (by
  rw[oB _ hl,oB _ hl'];exact (List.reverse_perm _).trans (hp.trans ((List.reverse_perm _).symm.append (List.reverse_perm _).symm))) hs.rev
 have e':res.toList=(out.toList++r.reverse).reverse:=by rw[e,List.reverse_append,List.reverse_reverse]
 refine ⟨?_,?_⟩
 .rw[e'];refine (List.reverse_perm _).trans (this.1.trans ((List.reverse_perm _).append (List.reverse_perm _)))
 .rw[e'];exact this.2.Jn
theorem zN (a:Array Keyed)(n:Nat):(a.extract 0 n).toList=a.toList.take n:=by
 rw[hX];simp
theorem Pre.E6 (P:Pre Dm R a b)(M:MH R a b out 0 nb)(h3:nb<=b.size):Good R a b (d8 a b out 0 nb):=
 FT (r:=b.toList.take nb) M (LS _) h3 (by simp) (List.Pairwise.sublist (List.take_sublist _ _) P.sb) (by
  unfold d8;rw[Array.toList_append,Array.toList_append,zN,zN,Array.toList_reverse];simp)
theorem Pre.Jw (P:Pre Dm R a b)(M:MH R a b out na 0)(h3:na<=a.size):Good R a b (d8 a b out na 0):=
 FT (r:=a.toList.take na) M h3 (LS _) (by simp) (List.Pairwise.sublist (List.take_sublist _ _) P.sa) (by
  unfold d8;rw[Array.toList_append,Array.toList_append,zN,zN,Array.toList_reverse];simp)
theorem Pre.Em (P:Pre Dm R a b)(M:MH R a b out na 1)(h2:na<=a.size)(h3:1<=b.size):Good R a b (qw a b out na 1):=by
 refine FT (r:=b.toList.take 1++a.toList.take na) M h2 h3 perm_append_comm ?_ (by
  unfold qw;rw[Array.toList_append,Array.toList_append,zN,zN,Array.toList_reverse])
 refine pairwise_append.mpr ⟨List.Pairwise.sublist (List.take_sublist _ _) P.sb,List.Pairwise.sublist (List.take_sublist _ _) P.sa,λx hx y hy=>?_⟩;obtain ⟨j,h4,h5⟩:=jK hx;have e:j=0:=by lia
 subst e;rw[Lo] at h5;exact P.o.ES _ _ (P.Db h5) (P.da _ (mem_of_mem_take hy)) (P.fst y (mem_of_mem_take hy) x h5)
theorem Pre.lC (P:Pre Dm R a b)(hx:a[a.size - 1]?=some x):MH R a b #[x] (a.size - 1) b.size:=by
 have M0:MH R a b #[] a.size b.size:=by
  have e1:a.toList.length - a.size=0:=by rw[Lw];lia
  have e2:b.toList.length - b.size=0:=by rw[Lw];lia
  unfold MH;rw[e1,e2];exact ⟨List.Perm.nil,List.Pairwise.nil,λx hx=>nomatch hx⟩
 exact P.FQ M0 P.na (Ll _) (Ll _) hx λj y _ hy=>P.o.ES _ _ (P.Db hy) (P.Da hx) (P.lst y (Ls (xo hy)) x hx)
end
end Tim
namespace Tim
open PySem PyProof.Rows
section
variable {prog:LH} {w:LR} {A:LQ} {E:Lg->Li->Prop} {s:Li}
variable {Dm:Keyed->Prop} {R:Keyed->Keyed->Bool} {κ:SortKind}
noncomputable abbrev zi:=Option (Array Keyed)×Nat×Nat×Array Keyed×Nat×Nat×Nat
noncomputable def DY (a b out:Array Keyed)(na nb g k k1:Nat):StateT Ly Sem (ForInStep zi):=do
  let y <-elem' a (na - 1)
  if (na - 1 == 0)=true then pure (.done (some (d8 a b (out.push y) (na - 1) nb),na - 1,nb,out.push y,g,k,k1))
  else if (decide (k<7) && decide (k1<7))=true then pure (.done (none,na - 1,nb,out.push y,g,k,k1))
  else pure (.yield (none,na - 1,nb,out.push y,g,k,k1))
noncomputable def DX (a b out:Array Keyed)(na nb g k bc:Nat):StateT Ly Sem (ForInStep zi):=do
  let y <-elem' b (nb - 1)
  if (nb - 1 == 1)=true then pure (.done (some (qw a b (out.push y) na (nb - 1)),na,nb - 1,out.push y,g,k,bc))
  else do
    let v <-elem' a (na - 1)
    let r <-cW true v b 0 (nb - 1) (nb - 1 - 1)
    match r with
    | some m =>
      if nb - 1 - m>0 then
        if (m == 1)=true then pure (.done (some (qw a b (out.push y++(b.extract m (nb - 1)).reverse) na m),na,m,out.push y++(b.extract m (nb - 1)).reverse,g,k,nb - 1 - m))
        else if (m == 0)=true then pure (.done (some (d8 a b (out.push y++(b.extract m (nb - 1)).reverse) na m),na,m,out.push y++(b.extract m (nb - 1)).reverse,g,k,nb - 1 - m))
        else DY a b (out.push y++(b.extract m (nb - 1)).reverse) na m g k (nb - 1 - m)
      else DY a b (out.push y) na (nb - 1) g k (nb - 1 - m)
    | _=>pure (.done (some (d8 a b (out.push y) na (nb - 1)),na,nb - 1,out.push y,g,k,bc))
noncomputable def BG (a b out:Array Keyed)(na nb g ac bc:Nat):StateT Ly Sem (ForInStep zi):=do
  bw g
  let y <-elem' b (nb - 1)
  let r <-cW false y a 0 na (na - 1)
  match r with
  | some k =>
    if na - k>0 then
      if (k == 0)=true then pure (.done (some (d8 a b (out++(a.extract k na).reverse) k nb),k,nb,out++(a.extract k na).reverse,g,na - k,bc))
      else DX a b (out++(a.extract k na).reverse) k nb g (na - k) bc
    else DX a b out na nb g (na - k) bc
  | _=>pure (.done (some (d8 a b out na nb),na,nb,out,g,ac,bc))
section
variable {a b out:Array Keyed} {na nb g k k1 bc ac n0:Nat} {st:Ly} {Q:ForInStep zi->Ly->Prop}
noncomputable def JJ (R:Keyed->Keyed->Bool)(a b:Array Keyed)(Q:ForInStep zi->Ly->Prop)(st:Ly):Prop:=∀r c,Good R a b r->Q (.done (some r,c)) st
noncomputable def JK (R:Keyed->Keyed->Bool)(a b:Array Keyed)(n0:Nat)(Q:ForInStep zi->Ly->Prop)(st:Ly):Prop:=∀na nb out g k k1,MH R a b out na nb->1<=na->2<=nb->na<=a.size->nb<=b.size->na+nb<n0->Q (.done (none,na,nb,out,g,k,k1)) st/\Q (.yield (none,na,nb,out,g,k,k1)) st
theorem uU (P:Pre Dm R a b)(M:MH R a b out na nb)(h1:1<=na)(h2:2<=nb)(ha:na<=a.size)(hb:nb<=b.size){v:Keyed}(hv:a[na - 1]?=some v)(hlt:∀j y,j<nb->b[j]?=some y->R y v=true)(hn:na+nb<=n0)(qd:JJ R a b Q st)(qn:JK R a b n0 Q st):wpS (model prog w) A E s (DY a b out na nb g k k1) Q st:=by
 unfold DY;refine Lr (aU hv ?_);have M3:=P.FQ M (by lia) ha hb hv λj y hj hy=>P.o.ES _ _ (P.Db hy) (P.Da hv) (hlt j y hj hy);split
 case isTrue c =>
  rw[beq_iff_eq] at c;rw[c] at M3 ⊢;exact Lu (qd _ _ (P.E6 M3 hb))
 case isFalse c =>
  rw[beq_iff_eq] at c;have z:=qn _ _ _ g k k1 M3 (by lia) h2 (by lia) hb (by lia);split
  .exact Lu z.1
  .exact Lu z.2
theorem uT (L:fO prog w A E s Dm R κ)(P:Pre Dm R a b)(hk:kindOf st=κ)(M:MH R a b out na nb)(h1:1<=na)(h2:2<=nb)(ha:na<=a.size)(hb:nb<=b.size){u:Keyed}(hu:b[nb - 1]?=some u)(hle:∀j y,j<na->a[j]?=some y->R u y=false)(hn:na+nb<=n0)(qd:JJ R a b Q st)(qn:JK R a b n0 Q st):wpS (model prog w) A E s (DX a b out na nb g k bc) Q st:=by
 unfold DX;have pb:=P.nb;refine Lr (aU hu ?_);have M2:=P.HN M (by lia) ha hb hu λj y hj hy=>hle j y hj hy;by_cases c7:(nb - 1 == 1)=true
 .rw[if_pos c7];rw[beq_iff_eq] at c7;rw[c7] at M2 ⊢;exact Lu (qd _ _ (P.Em M2 ha pb))
 rw[if_neg c7];rw[beq_iff_eq] at c7;obtain ⟨v,hv⟩ : ∃x,a[na - 1]?=some x:=⟨a[na - 1],Lq (by lia)⟩
 refine Lr (aU hv ?_);refine Lr (pd L hk (P.Da hv) (by lia) (by lia) (λi x _ hx=>P.Db hx) (λi j x y hij _ hx hy=>P.KN (P.Da hv) (by lia) hx hy) λm hm m1 m2=>?_);dsimp only;simp only[Nat.zero_add] at m1 m2;by_cases c8:nb - 1 - m>0
 .rw[if_pos c8];have Mm:=P.IV M2 hm ha (by lia) (λi x h4 h5 hx j y hj hy=>P.Js (P.Db hx) (by lia) hy hv (m2 i x h4 h5 hx)) (out':=_++(b.extract m (nb - 1)).reverse) yd;by_cases c9:(m == 1)=true
  .rw[if_pos c9];rw[beq_iff_eq] at c9;rw[c9] at Mm ⊢;exact Lu (qd _ _ (P.Em Mm ha pb))
  rw[if_neg c9];by_cases c10:(m == 0)=true
  .rw[if_pos c10];rw[beq_iff_eq] at c10;rw[c10] at Mm ⊢;exact Lu (qd _ _ (P.Jw Mm ha))
  rw[if_neg c10];rw[beq_iff_eq] at c9 c10;exact uU P Mm h1 (by lia) ha (by lia) hv m1 (by lia) qd qn
 .rw[if_neg c8];have e0:m=nb - 1:=by lia
  subst e0;exact uU P M2 h1 (by lia) ha (by lia) hv m1 (by lia) qd qn
theorem BH (L:fO prog w A E s Dm R κ)(P:Pre Dm R a b)(hk:kindOf st=κ)(M:MH R a b out na nb)(h1:1<=na)(h2:2<=nb)(ha:na<=a.size)(hb:nb<=b.size)(hn:na+nb<=n0)(qd:JJ R a b Q (setG st g))(qn:JK R a b n0 Q (setG st g)):wpS (model prog w) A E s (BG a b out na nb g ac bc) Q st:=by
 unfold BG;rw[dz];obtain ⟨u,hu⟩ : ∃x,b[nb - 1]?=some x:=⟨b[nb - 1],Lq (by lia)⟩
 refine Lr (wpS_modify (Lr (aU hu ?_)));have hk':kindOf (setG st g)=κ:=hk;refine Lr (mV L hk' (P.Db hu) (by lia) (by lia) (λi x _ hx=>P.Da hx) (λi j x y hij _ hx hy=>P.Js (P.Db hu) (by lia) hx hy) λk hkn k1 k2=>?_);dsimp only;simp only[Nat.zero_add] at k1 k2;by_cases c4:na - k>0
 .rw[if_pos c4];have Mk:=P.IU M hkn ha hb (λi x h4 h5 hx j y hj hy=>P.KH (P.Da hx) (by lia) hu hy (k2 i x h4 h5 hx)) (out':=out++(a.extract k na).reverse) yd;by_cases c5:(k == 0)=true
  .rw[if_pos c5];rw[beq_iff_eq] at c5;rw[c5] at Mk ⊢;exact Lu (qd _ _ (P.E6 Mk hb))
  rw[if_neg c5];rw[beq_iff_eq] at c5;exact uT L P hk' Mk (by lia) h2 (by lia) hb hu k1 (by lia) qd qn
 .rw[if_neg c4];have e0:k=na:=by lia
  subst e0;exact uT L P hk' M h1 h2 ha hb hu k1 hn qd qn
end
noncomputable abbrev EN:=Option (Array Keyed)×Nat×Nat×Array Keyed×Nat×Nat
noncomputable abbrev C8:=Option (Array Keyed)×Nat×Nat×Array Keyed×Nat
noncomputable def JW (a b:Array Keyed)(g:Nat)(c:EN):StateT Ly Sem (ForInStep EN):=do
  let y <-elem' b (c.2.2.1 - 1)
  let x <-elem' a (c.2.1 - 1)
  let r <-lt' y x
  match r with
  | some aW =>
    if aW=true then do
      let z <-elem' a (c.2.1 - 1)
      if (c.2.1 - 1 == 0)=true then pure (.done (some (d8 a b (c.2.2.2.1.push z) (c.2.1 - 1) c.2.2.1),c.2.1 - 1,c.2.2.1,c.2.2.2.1.push z,c.2.2.2.2.1+1,0))
      else if c.2.2.2.2.1+1>=g then pure (.done (none,c.2.1 - 1,c.2.2.1,c.2.2.2.1.push z,c.2.2.2.2.1+1,0))
      else pure (.yield (none,c.2.1 - 1,c.2.2.1,c.2.2.2.1.push z,c.2.2.2.2.1+1,0))
    else do
      let z <-elem' b (c.2.2.1 - 1)
      if (c.2.2.1 - 1 == 1)=true then pure (.done (some (qw a b (c.2.2.2.1.push z) c.2.1 (c.2.2.1 - 1)),c.2.1,c.2.2.1 - 1,c.2.2.2.1.push z,0,c.2.2.2.2.2+1))
      else if c.2.2.2.2.2+1>=g then pure (.done (none,c.2.1,c.2.2.1 - 1,c.2.2.2.1.push z,0,c.2.2.2.2.2+1))
      else pure (.yield (none,c.2.1,c.2.2.1 - 1,c.2.2.2.1.push z,0,c.2.2.2.2.2+1))
  | _=>pure (.done (some (d8 a b c.2.2.2.1 c.2.1 c.2.2.1),c.2.1,c.2.2.1,c.2.2.2.1,c.2.2.2.2.1,c.2.2.2.2.2))
noncomputable def JU (a b:Array Keyed)(c:zi):StateT Ly Sem (ForInStep zi):=if c.2.2.2.2.1>1 then BG a b c.2.2.2.1 c.2.1 c.2.2.1 (c.2.2.2.2.1 - 1) c.2.2.2.2.2.1 c.2.2.2.2.2.2 else BG a b c.2.2.2.1 c.2.1 c.2.2.1 c.2.2.2.2.1 c.2.2.2.2.2.1 c.2.2.2.2.2.2
noncomputable def JT (a b:Array Keyed)(g:Nat)(c:EN):StateT Ly Sem (ForInStep C8):=do
  liftM (rule "list.sort.gallop")
  let d <-forIn [:a.size+b.size] ((none,c.2.1,c.2.2.1,c.2.2.2.1,g+1,c.2.2.2.2.1,c.2.2.2.2.2):zi) λ_ d=>JU a b d
  match d.1 with
  | some r=>pure (.done (some r,d.2.1,d.2.2.1,d.2.2.2.1,d.2.2.2.2.1))
  | none=>do
    bw (d.2.2.2.2.1+1)
    pure (.yield (none,d.2.1,d.2.2.1,d.2.2.2.1,d.2.2.2.2.1+1))
noncomputable def JV (a b:Array Keyed)(c:C8):StateT Ly Sem (ForInStep C8):=do
  let d <-forIn [:a.size+b.size] ((none,c.2.1,c.2.2.1,c.2.2.2.1,0,0):EN) λ_ d=>JW a b c.2.2.2.2 d
  match d.1 with
  | some r=>pure (.done (some r,d.2.1,d.2.2.1,d.2.2.2.1,c.2.2.2.2))
  | none=>JT a b c.2.2.2.2 d
theorem sW (a b:Array Keyed):mw a b=(do
  liftM (rule "list.sort.merge-hi")
  let x <-elem' a (a.size - 1)
  if (a.size - 1 == 0)=true then pure (d8 a b #[x] (a.size - 1) b.size)
  else if (b.size == 1)=true then pure (qw a b #[x] (a.size - 1) b.size)
  else do
    let s <-get
    let c <-forIn [:a.size+b.size] ((none,a.size - 1,b.size,#[x],gallopOf s):C8) λ_ c=>JV a b c
    match c.1 with
    | some r=>pure r
    | none=>liftM (unsupported "internal:list.sort.merge-bound")):=by
  rw[sV];dsimp only;refine bind_eq rfl λ_=>bind_eq rfl λx=>congrArg _ (congrArg _ (bind_eq rfl λs=>bind_eq (congrArg _ (funext λ_=>funext λc=>bind_eq rfl λd=>?_)) λc=>?_))
  · rcases d with ⟨_ | r,d⟩
    · refine bind_eq rfl λ_=>bind_eq rfl λd=>?_;rcases d with ⟨_ | r,d⟩<;>rfl
    · rfl
  · rcases c with ⟨_ | r,c⟩<;>rfl
section
variable {a b:Array Keyed} {st:Ly}
noncomputable def zh (R:Keyed->Keyed->Bool)(a b:Array Keyed)(n na nb:Nat)(out:Array Keyed):Prop:=MH R a b out na nb/\1<=na/\2<=nb/\na<=a.size/\nb<=b.size/\n+na+nb<=a.size+b.size
theorem DV (L:fO prog w A E s Dm R κ)(P:Pre Dm R a b)(hk:kindOf st=κ){n g na nb ac bc:Nat}{out:Array Keyed}{Q:ForInStep EN->Ly->Prop}(M0:zh R a b n na nb out)(qd:∀r c,Good R a b r->Q (.done (some r,c)) st)(qn:∀na nb out ac bc,zh R a b (n+1) na nb out->Q (.done (none,na,nb,out,ac,bc)) st/\Q (.yield (none,na,nb,out,ac,bc)) st):wpS (model prog w) A E s (JW a b g (none,na,nb,out,ac,bc)) Q st:=by
 obtain ⟨M,h1,h2,ha,hb,h3⟩:=M0;unfold JW;obtain ⟨u,hu⟩ : ∃x,b[nb - 1]?=some x:=⟨b[nb - 1],Lq (by lia)⟩
 obtain ⟨v,hv⟩ : ∃x,a[na - 1]?=some x:=⟨a[na - 1],Lq (by lia)⟩
 refine Lr (aU hu (Lr (aU hv (Lr (L u v _ _ (P.Db hu) (P.Da hv) hk ?_)))));cases c3:R u v with
 | true =>
  have M':=P.FQ M (by lia) ha hb hv λj y hj hy=>P.KH (P.Da hv) (by lia) hu hy c3;refine Lr (aU hv ?_);split
  case isTrue c =>
   have c:na - 1=0:=beq_iff_eq.mp c;refine Lu (qd _ _ ?_);dsimp only;rw[c] at M' ⊢;exact P.E6 M' hb
  case isFalse c =>
   have c:¬na - 1=0:=λz=>c (beq_iff_eq.mpr z);have z:=qn (na - 1) nb (out.push v) (ac+1) 0 ⟨M',by lia,h2,by lia,hb,by lia⟩;split
   .exact Lu z.1
   .exact Lu z.2
 | false =>
  have M':=P.HN M (by lia) ha hb hu λj y hj hy=>P.Js (P.Db hu) (by lia) hy hv c3;refine Lr (aU hu ?_);split
  case isTrue c =>
   have c:nb - 1=1:=beq_iff_eq.mp c;refine Lu (qd _ _ ?_);dsimp only;rw[c] at M' ⊢;exact P.Em M' ha P.nb
  case isFalse c =>
   have c:¬nb - 1=1:=λz=>c (beq_iff_eq.mpr z);have z:=qn na (nb - 1) (out.push u) 0 (bc+1) ⟨M',h1,by lia,ha,by lia,by lia⟩;split
   .exact Lu z.1
   .exact Lu z.2
theorem DQ (L:fO prog w A E s Dm R κ)(P:Pre Dm R a b){st0:Ly}(hk:kindOf st0=κ)(hS:ao st0 st){n:Nat}{d:zi}(h:d.1=none/\zh R a b n d.2.1 d.2.2.1 d.2.2.2.1){Q:ForInStep zi->Ly->Prop}(qd:∀r c st',ao st0 st'->Good R a b r->Q (.done (some r,c)) st')(qn:∀d st',ao st0 st'->d.1=none/\zh R a b (n+1) d.2.1 d.2.2.1 d.2.2.2.1->Q (.done d) st'/\Q (.yield d) st'):wpS (model prog w) A E s (JU a b d) Q st:=by
 obtain ⟨_,M,h1,h2,ha,hb,h3⟩:=h;have key:∀g,wpS (model prog w) A E s (BG a b d.2.2.2.1 d.2.1 d.2.2.1 g d.2.2.2.2.2.1 d.2.2.2.2.2.2) Q st:=λg =>
  BH (n0:=d.2.1+d.2.2.1) L P (hS.1.trans hk) M h1 h2 ha hb (Ll _) (λr c hG=>qd r c _ (hS.setG _) hG) λna' nb' out' g2 k k1 M' i1 i2 i3 i4 i5=>qn _ _ (hS.setG _) ⟨rfl,M',i1,i2,i3,i4,by dsimp only;lia⟩
 unfold JU;split
 .exact key _
 .exact key _
theorem DP (L:fO prog w A E s Dm R κ)(P:Pre Dm R a b){st0:Ly}(hk:kindOf st0=κ)(hS:ao st0 st){n g:Nat}{c:EN}(h:zh R a b n c.2.1 c.2.2.1 c.2.2.2.1){Q:ForInStep C8->Ly->Prop}(qd:∀r c st',ao st0 st'->Good R a b r->Q (.done (some r,c)) st')(qn:∀d st',ao st0 st'->d.1=none/\zh R a b n d.2.1 d.2.2.1 d.2.2.2.1->Q (.yield d) st'):wpS (model prog w) A E s (JT a b g c) Q st:=by
 unfold JT;refine Lr (wpS_lift (wpAny_rule ⟨rfl,Lr (wpS_mono (wpS_forRange
  (I:=λy (d:zi) st'=>ao st0 st'/\d.1=none/\zh R a b (n+y) d.2.1 d.2.2.1 d.2.2.2.1)
  (Q:=λ(d:zi) st'=>ao st0 st'/\((∃r,d.1=some r/\Good R a b r)\/d.1=none/\zh R a b n d.2.1 d.2.2.1 d.2.2.2.1)) ?_ ?_ ⟨hS,rfl,h⟩) ?_)⟩))
 .rintro y d st' _ hy ⟨hS,z⟩;refine DQ L P hk hS z (λr c st' hS hG=>⟨hS,.inl ⟨r,rfl,hG⟩⟩) λd st' hS z=>⟨⟨hS,.inr ⟨z.1,z.2.1,z.2.2.1,z.2.2.2.1,z.2.2.2.2.1,z.2.2.2.2.2.1,?_⟩⟩,hS,z⟩
  have:=z.2.2.2.2.2.2;lia
 .rintro d st' ⟨hS,_,M,h1,h2,h3,h4,h5⟩;lia
 .rintro d st' ⟨hS,⟨r,e,hG⟩ | ⟨e,z⟩⟩
  .rw[e];exact Lu (qd _ _ _ hS hG)
  .rw[e];dsimp only;rw[dz];exact Lr (wpS_modify (Lu (qn _ _ (hS.setG _) ⟨rfl,z⟩)))
theorem DU (L:fO prog w A E s Dm R κ)(P:Pre Dm R a b){st0:Ly}(hk:kindOf st0=κ)(hS:ao st0 st){n:Nat}{c:C8}(h:zh R a b n c.2.1 c.2.2.1 c.2.2.2.1){Q:ForInStep C8->Ly->Prop}(qd:∀r c st',ao st0 st'->Good R a b r->Q (.done (some r,c)) st')(qn:∀d st',ao st0 st'->d.1=none/\zh R a b (n+1) d.2.1 d.2.2.1 d.2.2.2.1->Q (.yield d) st'):wpS (model prog w) A E s (JV a b c) Q st:=by
 unfold JV;refine Lr (wpS_mono (wpS_forRange
  (I:=λy (d:EN) st'=>st'=st/\d.1=none/\zh R a b (n+y) d.2.1 d.2.2.1 d.2.2.2.1)
  (Q:=λ(d:EN) st'=>st'=st/\((∃r,d.1=some r/\Good R a b r)\/d.1=none/\zh R a b (n+1) d.2.1 d.2.2.1 d.2.2.2.1)) ?_ ?_ ⟨rfl,rfl,h⟩) ?_)
 .rintro y ⟨x,na,nb,out,ac,bc⟩ st' _ hy ⟨rfl,e,z⟩;obtain rfl:x=none:=e;refine DV L P (hS.1.trans hk) z (λr c hG=>⟨rfl,.inl ⟨r,rfl,hG⟩⟩) λna nb out ac bc z=>⟨⟨rfl,.inr ⟨rfl,z.1,z.2.1,z.2.2.1,z.2.2.2.1,z.2.2.2.2.1,?_⟩⟩,rfl,rfl,z⟩
  have:=z.2.2.2.2.2;dsimp only;lia
 .rintro d st' ⟨rfl,_,M,h1,h2,h3,h4,h5⟩;lia
 .rintro d st' ⟨rfl,⟨r,e,hG⟩ | ⟨e,z⟩⟩
  .rw[e];exact Lu (qd _ _ _ hS hG)
  .rw[e];exact DP L P hk hS z qd qn
end
theorem vf (L:fO prog w A E s Dm R κ){a b:Array Keyed}(P:Pre Dm R a b){st:Ly}(hk:kindOf st=κ){Q:Array Keyed->Ly->Prop}(h:∀r st',ao st st'->Good R a b r->Q r st'):wpS (model prog w) A E s (mw a b) Q st:=by
 have pa:=P.na;have pb:=P.nb;obtain ⟨a0,ha0⟩ : ∃x,a[a.size - 1]?=some x:=⟨a[a.size - 1],Lq (by lia)⟩
 have M1:=P.lC ha0;rw[sW];refine Lr (wpS_lift (wpAny_rule ⟨rfl,Lr (aU ha0 ?_)⟩));split
 case isTrue c =>
  rw[beq_iff_eq] at c;rw[c] at M1 ⊢;exact Lu (h _ _ .As (P.E6 M1 (Ll _)))
 case isFalse c1 =>
  split
  case isTrue c =>
   rw[beq_iff_eq] at c;rw[c] at M1 ⊢;exact Lu (h _ _ .As (P.Em M1 (by lia) pb))
  case isFalse c2 =>
   rw[beq_iff_eq] at c1 c2;refine Lr (wpS_get (Lr (wpS_mono (wpS_forRange
    (I:=λx (c:C8) st'=>ao st st'/\c.1=none/\zh R a b (1+x) c.2.1 c.2.2.1 c.2.2.2.1)
    (Q:=λ(c:C8) st'=>ao st st'/\∃r,c.1=some r/\Good R a b r) ?_ ?_ ⟨.As,rfl,M1,?_⟩) ?_)))
   .rintro x c st' _ hx ⟨hS,_,z⟩;exact DU L P hk hS z (λr c st' hS hG=>⟨hS,r,rfl,hG⟩) λd st' hS z=>⟨hS,z⟩
   .rintro c st' ⟨hS,_,M,h1,h2,h3,h4,h5⟩;lia
   .dsimp only;lia
   .rintro c st' ⟨hS,r,e,hG⟩;rw[e];exact Lu (h _ _ hS hG)
end
end Tim
namespace Tim
open PySem PyProof.Rows
noncomputable def putBack (sa:Nat)(merged:Array Keyed)(a:Array Keyed):Array Keyed:=merged.toList.zipIdx.foldl (λa (p,j)=>a.setIfInBounds (sa+j) p) a
theorem vd (i:Nat):mergeAt' i=(do
  let s <-get
  let (some (sa,na,power),some (sb,nb,_)):=((pendingOf s)[i]?,(pendingOf s)[i+1]?) | unsupported "internal:list.sort.pending"
  set (setPending s (((pendingOf s).setIfInBounds i (sa,na+nb,power)).eraseIdxIfInBounds (i+1)))
  let some k <-cW false (<-elem' (arrOf s) sb) (arrOf s) sa na 0 | return false
  let (sa,na):=(sa+k,na - k)
  if na == 0 then return true
  let some nb <-cW true (<-elem' (arrOf s) (sa+na - 1)) (arrOf s) sb nb (nb - 1) | return false
  if nb == 0 then return true
  let x:=(arrOf s).extract sa sb
  let y:=(arrOf s).extract sb (sb+nb)
  let merged <-if na<=nb then my x y else mw x y
  modify λs=>setArr s (putBack sa merged (arrOf s))
  return (failedOf (<-get)).isNone):=rfl
theorem pQ (sa:Nat):∀(ms:List Keyed) (k:Nat) (arr:Array Keyed),sa+k+ms.length<=arr.size->((ms.zipIdx k).foldl (λ(a:Array Keyed) (pj:Keyed×Nat)=>a.setIfInBounds (sa+pj.2) pj.1) arr).toList=arr.toList.take (sa+k)++ms++arr.toList.drop (sa+k+ms.length)
 | [],k,arr,h=>by simp
 | m::ms,k,arr,h=>by
  rw[List.zipIdx_cons,List.foldl_cons,pQ sa ms (k+1) _ (by rw[Array.size_setIfInBounds];simp at h;lia),Array.toList_setIfInBounds];have hl:sa+k<arr.toList.length:=by rw[Lw];simp at h;lia
  dsimp only;rw[show sa+(k+1)=sa+k+1 by lia,List.take_succ_eq_append_getElem (by rw[length_set];exact hl),List.getElem_set_self,List.take_set_of_le (Ll _),List.drop_set_of_lt (by lia)];rw[LX,LX,LX];simp only[List.singleton_append,List.cons_append,List.nil_append,LN];rw[show sa+k+1+ms.length=sa+k+(ms.length+1) by lia]
theorem tO {sa:Nat}{merged arr:Array Keyed}(h:sa+merged.size<=arr.size):(putBack sa merged arr).toList=arr.toList.take sa++merged.toList++arr.toList.drop (sa+merged.size):=by
 have:=pQ sa merged.toList 0 arr (by rw[Lw];lia);rw[Nat.add_zero,Lw] at this;exact this
section
variable {Dm:Keyed->Prop} {R:Keyed->Keyed->Bool}
noncomputable def seg (l:List Keyed)(s n:Nat):List Keyed:=(l.drop s).take n
theorem seg_at {l:List Keyed}{s n i:Nat}(h:i<n):(seg l s n)[i]?=l[s+i]?:=by
 unfold seg;rw[List.getElem?_take_of_lt h,List.getElem?_drop]
theorem gW {l:List Keyed}{s n i:Nat}{x:Keyed}(h:(seg l s n)[i]?=some x):i<n/\l[s+i]?=some x:=by
 have:i<n:=by
  have:=(Lp.mp h).1;unfold seg at this;rw[length_take] at this;lia
 exact ⟨this,by rw[<-seg_at this];exact h⟩
theorem gX {l:List Keyed}{s n:Nat}{x:Keyed}(h:x∈seg l s n):∃i,i<n/\l[s+i]?=some x:=bG h
theorem mH (l:List Keyed)(s n m:Nat):seg l s (n+m)=seg l s n++seg l (s+n) m:=by
 unfold seg;rw[List.take_add,List.drop_drop]
theorem nj (l:List Keyed)(s n:Nat):l=l.take s++seg l s n++l.drop (s+n):=by
 unfold seg;rw[LX,<-List.drop_drop,take_append_drop,take_append_drop]
theorem oE (a:Array Keyed)(i j:Nat):(a.extract i j).toList=seg a.toList i (j - i):=hX a i j
theorem BO (o:Ord Dm R){X0 X1 Y0 Y1 m:List Keyed}(hd:∀x,x∈X0++X1++(Y0++Y1)->Dm x)(sX:fY R (X0++X1))(sY:fY R (Y0++Y1))(hm:m.Perm (X1++Y0))(sm:fY R m)
  (h0:∀x∈X0,∀y∈Y0++Y1,R y x=false) (h1:∀x∈X1,∀y∈Y1,R y x=false):fY R (X0++m++Y1):=by
 have a:=pairwise_append.mp sX;have b:=pairwise_append.mp sY;refine pairwise_append.mpr ⟨pairwise_append.mpr ⟨a.1,sm,λx hx y hy=>?_⟩,b.2.1,λx hx y hy=>?_⟩
 .rcases mem_append.mp (hm.mem_iff.mp hy) with z | z
  .exact a.2.2 x hx y z
  .exact h0 x hx y (mem_append_left _ z)
 .rcases mem_append.mp hx with z | z
  .exact h0 x z y (mem_append_right _ hy)
  .rcases mem_append.mp (hm.mem_iff.mp z) with u | u
   .exact h1 x u y hy
   .exact b.2.2 x u y hy
variable {prog:LH} {w:LR} {A:LQ} {E:Lg->Li->Prop} {s:Li} {κ:SortKind}
theorem EK {σ:Type}{M:Model}{st st':σ}{Q:PUnit->σ->Prop}(h:Q ⟨⟩ st'):wpS M A E s (set st':StateT σ Sem PUnit) Q st:=by
 unfold wpS;rw[StateT.run_set];exact Lj ⟨rfl,h⟩
noncomputable def Done (R:Keyed->Keyed->Bool)(l l':List Keyed)(s n:Nat):Prop:=∃m,l'=l.take s++m++l.drop (s+n)/\m.Perm (seg l s n)/\fY R m
theorem ve (L:fO prog w A E s Dm R κ)(o:Ord Dm R){st:Ly}(hk:kindOf st=κ)(hf:failedOf st=none)(hd:∀x∈(arrOf st).toList,Dm x){i sa na pw sb nb pb:Nat}
    (h1:(pendingOf st)[i]?=some (sa,na,pw)) (h2:(pendingOf st)[i+1]?=some (sb,nb,pb)) (hs:sa+na=sb) (hn:1<=na) (hm:1<=nb) (hz:sb+nb<=(arrOf st).size)
    (sX:fY R (seg (arrOf st).toList sa na)) (sY:fY R (seg (arrOf st).toList sb nb)) {Q:Bool->Ly->Prop}
    (h:∀st',kindOf st'=κ->failedOf st'=none->pendingOf st'=((pendingOf st).setIfInBounds i (sa,na+nb,pw)).eraseIdxIfInBounds (i+1)->Done R (arrOf st).toList (arrOf st').toList sa (na+nb)->Q true st'):wpS (model prog w) A E s (mergeAt' i) Q st:=by
  subst hs;generalize hl:(arrOf st).toList=l at *;have hlen:l.length=(arrOf st).size:=by rw[<-hl,Lw]
  have at_:∀j,j<sa+na+nb->∃x,(arrOf st)[j]?=some x:=λj hj=>⟨(arrOf st)[j]'(by lia),Lq (by lia)⟩
  have toL':∀{j x},(arrOf st)[j]?=some x->l[j]?=some x:=λ{j x} e=>by rw[<-hl];exact xo e
  have D:∀{j x},(arrOf st)[j]?=some x->Dm x:=λ{j x} e=>hd x (Ls (toL' e));have dX:∀x∈seg l sa na,Dm x:=λx hx=>by obtain ⟨j,_,e⟩:=gX hx;exact hd x (Ls e)
  have dY:∀x∈seg l (sa+na) nb,Dm x:=λx hx=>by obtain ⟨j,_,e⟩:=gX hx;exact hd x (Ls e)
  have leX:∀{i j x y},i<=j->j<na->(arrOf st)[sa+i]?=some x->(arrOf st)[sa+j]?=some y->R y x=false:=λ{i j x y} hij hj hx hy =>
    sX.le o dX hij (by rw[seg_at (by lia)];exact toL' hx) (by rw[seg_at hj];exact toL' hy)
  have leY:∀{i j x y},i<=j->j<nb->(arrOf st)[sa+na+i]?=some x->(arrOf st)[sa+na+j]?=some y->R y x=false:=λ{i j x y} hij hj hx hy =>
    sY.le o dY hij (by rw[seg_at (by lia)];exact toL' hx) (by rw[seg_at hj];exact toL' hy)
  obtain ⟨y0,hy0⟩:=at_ (sa+na) (by lia);rw[vd];refine Lr (wpS_get ?_);rw[h1,h2];dsimp (config:={ zeta:=false }) only;refine Lr (EK (Lr (aU hy0 ?_)));refine Lr (mV L hk (D hy0) (by lia) (by lia) (λi x _ hx=>D hx) (λi j x y hij hj hx hy hr=>o.tr x y y0 (D hx) (D hy) (D hy0) (leX hij hj hx hy) hr) λk hkn k1 k2=>?_);dsimp (config:={ zeta:=false }) only;have low:∀x∈seg l sa k,∀y∈seg l (sa+na) nb,R y x=false:=λx hx y hy=>by
    obtain ⟨i,h3,h4⟩:=gX hx;obtain ⟨j,h5,h6⟩:=gX hy;rw[<-hl,Lo] at h4 h6;exact o.tr x y0 y (D h4) (D hy0) (D h6) (k1 i x h3 h4) (leY (i:=0) (LS _) h5 (by rw[Nat.add_zero];exact hy0) h6)
  by_cases c1:(na - k == 0)=true
  · rw[if_pos c1];rw[beq_iff_eq] at c1;have e:k=na:=by lia
    subst e;refine Lu (h _ hk hf rfl ⟨seg l sa (k+nb),?_,.refl _,?_⟩)
    · show (arrOf st).toList=_;rw[hl];exact nj _ _ _
    · rw[mH];exact pairwise_append.mpr ⟨sX,sY,low⟩
  rw[if_neg c1];rw[beq_iff_eq] at c1;obtain ⟨z,hz'⟩:=at_ (sa+k+(na - k) - 1) (by lia);refine Lr (aU hz' ?_);rw[show sa+k+(na - k) - 1=sa+(na - 1) by lia] at hz';refine Lr (pd L hk (D hz') (by lia) (by lia) (λi x _ hx=>D hx) (λi j x y hij hj hx hy hr=>by
    cases q:R x z with
    | true=>rfl
    | false =>
      have:=o.tr z x y (D hz') (D hx) (D hy) q (leY hij hj hx hy);rw[hr] at this;cases this) λn hnn n1 n2=>?_)
  dsimp (config:={ zeta:=false }) only;have eX:seg l sa na=seg l sa k++seg l (sa+k) (na - k):=by rw[<-mH];congr 1;lia
  have eY:seg l (sa+na) nb=seg l (sa+na) n++seg l (sa+na+n) (nb - n):=by rw[<-mH];congr 1;lia
  have high:∀x∈seg l (sa+k) (na - k),∀y∈seg l (sa+na+n) (nb - n),R y x=false:=λx hx y hy=>by
    obtain ⟨i,h3,h4⟩:=gX hx;obtain ⟨j,h5,h6⟩:=gX hy;rw[<-hl,Lo] at h4 h6;rw[Nat.add_assoc] at h4;rw[Nat.add_assoc (sa+na)] at h6;exact o.tr x z y (D h4) (D hz') (D h6) (leX (by lia) (by lia) h4 hz') (n2 _ y (by lia) (by lia) h6)
  have fin:∀m:List Keyed,m.Perm (seg l (sa+k) (na - k)++seg l (sa+na) n)->fY R m->(seg l sa k++m++seg l (sa+na+n) (nb - n)).Perm (seg l sa (na+nb))/\fY R (seg l sa k++m++seg l (sa+na+n) (nb - n)):=λm hp hs=>by
    constructor
    · rw[mH,eX,eY,LX,LX];refine List.Perm.append_left _ ?_;rw[<-LX];exact hp.append_right _
    · exact BO o (X1:=seg l (sa+k) (na - k)) (Y0:=seg l (sa+na) n) (λx hx=>by
        rw[<-eX,<-eY] at hx;rcases mem_append.mp hx with q | q
        · exact dX x q
        · exact dY x q) (by rw[<-eX];exact sX) (by rw[<-eY];exact sY) hp hs (by rw[<-eY];exact low) high
  by_cases c2:(n == 0)=true
  · rw[if_pos c2];rw[beq_iff_eq] at c2;subst c2;have:=fin (seg l (sa+k) (na - k)) (by unfold seg;simp) (by
      rw[eX] at sX;exact (pairwise_append.mp sX).2.1)
    refine Lu (h _ hk hf rfl ⟨_,?_,this.1,this.2⟩);show (arrOf st).toList=_;rw[hl,<-eX];rw[show sa+na+0=sa+na by lia,show nb - 0=nb by lia,<-mH];exact nj _ _ _
  rw[if_neg c2];rw[beq_iff_eq] at c2;have P:Pre Dm R ((arrOf st).extract (sa+k) (sa+na)) ((arrOf st).extract (sa+na) (sa+na+n)):=by
    have e1:((arrOf st).extract (sa+k) (sa+na)).toList=seg l (sa+k) (na - k):=by rw[oE,hl];congr 1;lia
    have e2:((arrOf st).extract (sa+na) (sa+na+n)).toList=seg l (sa+na) n:=by rw[oE,hl];congr 1;lia
    have z1:((arrOf st).extract (sa+k) (sa+na)).size=na - k:=by rw[Array.size_extract];lia
    have z2:((arrOf st).extract (sa+na) (sa+na+n)).size=n:=by rw[Array.size_extract];lia
    refine ⟨o,?_,?_,?_,?_,?_,?_,by lia,by lia⟩
    · rw[e1];exact λx hx=>dX x (by rw[eX];exact mem_append_right _ hx)
    · rw[e2];exact λx hx=>dY x (by rw[eY];exact mem_append_left _ hx)
    · rw[e1];rw[eX] at sX;exact (pairwise_append.mp sX).2.1
    · rw[e2];rw[eY] at sY;exact (pairwise_append.mp sY).1
    · rw[e1];intro x hx y hy;have hy':=xo hy;rw[e2] at hy';obtain ⟨h3,h4⟩:=gW hy';rw[<-hl,Lo,Nat.add_zero,hy0] at h4;cases h4;obtain ⟨j,h5,h6⟩:=gX hx;rw[<-hl,Lo,Nat.add_assoc] at h6;exact k2 _ x (by lia) (by lia) h6
    · rw[e2];intro y hy x hx;have hx':=xo hx;rw[e1,z1] at hx';obtain ⟨h3,h4⟩:=gW hx';rw[<-hl,Lo,show sa+k+(na - k - 1)=sa+(na - 1) by lia,hz'] at h4;cases h4;obtain ⟨j,h5,h6⟩:=gX hy;rw[<-hl,Lo] at h6;exact n1 j y h5 h6
  have back:∀(r:Array Keyed) (st':Ly),ao (setPending st (((pendingOf st).setIfInBounds i (sa,na+nb,pw)).eraseIdxIfInBounds (i+1))) st'->Good R ((arrOf st).extract (sa+k) (sa+na)) ((arrOf st).extract (sa+na) (sa+na+n)) r ->
      Q true (setArr st' (putBack (sa+k) r (arrOf st')))/\failedOf st'=none:=λr st' hS hG=>by
    have hS1:kindOf st'=κ:=hS.1.trans hk;have hS2:arrOf st'=arrOf st:=hS.2.1;have hS4:failedOf st'=none:=hS.2.2.2.trans hf;obtain ⟨hp,hs⟩:=hG;rw[oE,oE,hl,show sa+na - (sa+k)=na - k by lia,show sa+na+n - (sa+na)=n by lia] at hp;have:=fin r.toList hp hs;have hlen2:r.size=na - k+n:=by
      have:=hp.length_eq;rw[LA] at this;unfold seg at this;rw[length_take,length_take,length_drop,length_drop,Lw] at this;lia
    refine ⟨h _ hS1 hS4 hS.2.2.1 ⟨_,?_,this.1,this.2⟩,hS4⟩;show (putBack (sa+k) r (arrOf st')).toList=_;rw[hS2,tO (by lia),hl];have t1:l.take (sa+k)=l.take sa++seg l sa k:=by unfold seg;rw[List.take_add]
    have t2:l.drop (sa+k+r.size)=seg l (sa+na+n) (nb - n)++l.drop (sa+(na+nb)):=by
      unfold seg;rw[show sa+k+r.size=sa+na+n by lia,show sa+(na+nb)=sa+na+n+(nb - n) by lia];have:=take_append_drop (nb - n) (l.drop (sa+na+n));rw[List.drop_drop] at this;exact this.symm
    rw[t1,t2];simp only[LX]
  dsimp only;have post:∀(r:Array Keyed) (st':Ly),ao (setPending st (((pendingOf st).setIfInBounds i (sa,na+nb,pw)).eraseIdxIfInBounds (i+1))) st'->Good R ((arrOf st).extract (sa+k) (sa+na)) ((arrOf st).extract (sa+na) (sa+na+n)) r ->
      wpS (model prog w) A E s (do modify λs=>setArr s (putBack (sa+k) r (arrOf s));let t <-get;pure (failedOf t).isNone) Q st':=λr st' hS hG=>by
    obtain ⟨q1,q2⟩:=back r st' hS hG;refine Lr (wpS_modify (Lr (wpS_get (Lu ?_))));show Q (failedOf st').isNone _;rw[q2];exact q1
  split
  · exact Lr (vi L P (st:=setPending st (((pendingOf st).setIfInBounds i (sa,na+nb,pw)).eraseIdxIfInBounds (i+1))) hk post)
  · exact Lr (vf L P (st:=setPending st (((pendingOf st).setIfInBounds i (sa,na+nb,pw)).eraseIdxIfInBounds (i+1))) hk post)
end
end Tim
namespace Tim
open PySem PyProof.Rows
section
variable {prog:LH} {w:LR} {A:LQ} {E:Lg->Li->Prop} {s:Li}
variable {Dm:Keyed->Prop} {rk:Keyed->Int} {κ:SortKind}
noncomputable def eI (rk:Keyed->Int):Keyed->Keyed->Bool:=λx y=>decide (rk x<rk y)
theorem A1:Ord Dm (eI rk):=⟨λx y z _ _ _ h1 h2=>by unfold eI at *;simp only[decide_eq_false_iff_not,Int.not_lt] at *;lia,λx y _ _ h=>by unfold eI at *;simp only[decide_eq_true_eq,decide_eq_false_iff_not] at *;lia⟩
noncomputable def Kr (rk:Keyed->Int)(xs:Array Keyed)(i:Nat):Int:=match xs[i]? with
 | some p=>rk p
 | none=>0
theorem jm {xs ys:Array Keyed}{i j:Nat}(h:xs[i]?=ys[j]?):Kr rk xs i=Kr rk ys j:=by unfold Kr;rw[h]
theorem og {xs:Array Keyed}{i:Nat}{x:Keyed}(h:xs[i]?=some x):Kr rk xs i=rk x:=by unfold Kr;rw[h]
theorem mR {xs:Array Keyed}{i j:Nat}(hj:j<=xs.size)(k:Nat):Kr rk (mirror xs i j ((j - i) / 2)) k=if i<=k/\k<j then Kr rk xs (i+j - 1 - k) else Kr rk xs k:=by
 have e:=getElem?_mirror_all (i:=i) hj k;split
 .rename_i c;rw[if_pos c] at e;exact jm e
 .rename_i c;rw[if_neg c] at e;exact jm e
theorem sf {xs:Array Keyed}{i j:Nat}(hj:j<=xs.size)(heq:∀k,i<=k->k<j->Kr rk xs k=Kr rk xs (j - 1))(k:Nat):Kr rk (mirror xs i j ((j - i) / 2)) k=Kr rk xs k:=by
 rw[mR hj];split
 .rw[heq _ (by lia) (by lia),heq k (by lia) (by lia)]
 .rfl
structure Bs (κ:SortKind)(xs:Array Keyed)(p:Array (Nat×Nat×Nat))(lo:Nat)(st:Ly):Prop where
 perm:(arrOf st).Perm xs
 kind:kindOf st=κ
 failed:failedOf st=none
 pend:pendingOf st=p
 low:∀i,i<lo->(arrOf st)[i]?=xs[i]?
variable {xs:Array Keyed} {p:Array (Nat×Nat×Nat)} {lo:Nat}
theorem Bs.size {st:Ly}(B:Bs κ xs p lo st):(arrOf st).size=xs.size:=B.perm.size_eq
theorem Bs.mirror {st:Ly}(B:Bs κ xs p lo st){i j:Nat}(h:lo<=i)(hj:j<=xs.size):Bs κ xs p lo (setArr st (mirror (arrOf st) i j ((j - i) / 2))):=
 ⟨(mirror_perm _ _ _ _).trans B.perm,B.kind,B.failed,B.pend,λk hk=>by
  show (PyProof.Rows.mirror (arrOf st) i j ((j - i) / 2))[k]?=_;rw[getElem?_mirror_all (by rw[B.size];exact hj),if_neg (by lia)];exact B.low k hk⟩
theorem Bs.bubble {st:Ly}(B:Bs κ xs p lo st){k d:Nat}(hk:k<xs.size)(h:lo+d<=k):Bs κ xs p lo (setArr st (bubble (arrOf st) k d)):=
 ⟨(bubble_perm _ _ _).trans B.perm,B.kind,B.failed,B.pend,λi hi=>by
  show (PyProof.Rows.bubble (arrOf st) k d)[i]?=_;rw[getElem?_bubble (by rw[B.size];exact hk) d (by lia),if_neg (by lia),if_neg (by lia)];exact B.low i hi⟩
theorem Bs.lt (L:fO prog w A E s Dm (eI rk) κ)(D:∀x∈xs.toList,Dm x){st:Ly}(B:Bs κ xs p lo st){i j:Nat}(hi:i<xs.size)(hj:j<xs.size){Q:Option Bool->Ly->Prop}(h:Q (some (decide (Kr rk (arrOf st) i<Kr rk (arrOf st) j))) st):wpS (model prog w) A E s (ltAt' i j) Q st:=by
 have at_:∀k,k<xs.size->∃x,(arrOf st)[k]?=some x/\Dm x:=λk hk=>by
  have hk':k<(arrOf st).size:=by rw[B.size];exact hk
  exact ⟨(arrOf st)[k],Lq hk',D _ ((Array.perm_iff_toList_perm.mp B.perm).mem_iff.mp (by simp))⟩
 obtain ⟨x,hx,dx⟩:=at_ i hi;obtain ⟨y,hy,dy⟩:=at_ j hj;rw[ltAt'_eq];refine Lr (wpS_get ?_);refine Lr (aU hx (Lr (aU hy (L x y st _ dx dy B.kind ?_))));rw[og hx,og hy] at h;exact h
noncomputable def Up (rk:Keyed->Int)(lo:Nat)(xs:Array Keyed)(n:Nat):Prop:=∀i j,i<=j->j<n->Kr rk xs (lo+i)<=Kr rk xs (lo+j)
noncomputable def Dn (rk:Keyed->Int)(lo:Nat)(xs:Array Keyed)(n:Nat):Prop:=∀i j,i<=j->j<n->Kr rk xs (lo+j)<=Kr rk xs (lo+i)
theorem Up.step {ys:Array Keyed}{n:Nat}(h:Up rk lo ys n)(h1:1<=n)(hl:¬Kr rk ys (lo+n)<Kr rk ys (lo+n - 1)):Up rk lo ys (n+1):=λi j hij hj=>by
  by_cases c:j<n
  · exact h i j hij c
  · have e : j = n := by lia
    subst e;by_cases c2:i=j
    · subst c2;exact Int.le_refl _
    · have := h i (j - 1) (by lia) (by lia);rw[show lo+(j - 1)=lo+j - 1 by lia] at this;lia
theorem Dn.step {ys:Array Keyed}{n:Nat}(h:Dn rk lo ys n)(h1:1<=n)(hl:Kr rk ys (lo+n)<=Kr rk ys (lo+n - 1)):Dn rk lo ys (n+1):=λi j hij hj=>by
  by_cases c:j<n
  · exact h i j hij c
  · have e : j = n := by lia
    subst e;by_cases c2:i=j
    · subst c2;exact Int.le_refl _
    · have := h i (j - 1) (by lia) (by lia);rw[show lo+(j - 1)=lo+j - 1 by lia] at this;lia
theorem Dn.congr {ys zs:Array Keyed}{n:Nat}(h:Dn rk lo ys n)(e:∀k,Kr rk zs k=Kr rk ys k):Dn rk lo zs n:=λi j hij hj=>by rw[e,e];exact h i j hij hj
theorem Dn.rev {ys:Array Keyed}{n:Nat}(h:Dn rk lo ys n)(hn:lo+n<=ys.size):Up rk lo (mirror ys lo (lo+n) ((lo+n - lo) / 2)) n:=λi j hij hj=>by
 rw[mR hn,mR hn,if_pos (by lia),if_pos (by lia)];have:=h (n - 1 - j) (n - 1 - i) (by lia) (by lia);rw[show lo+(n - 1 - j)=lo+(lo+n) - 1 - (lo+j) by lia,show lo+(n - 1 - i)=lo+(lo+n) - 1 - (lo+i) by lia] at this;exact this
theorem Up.one {ys:Array Keyed}:Up rk lo ys 1:=λi j hij hj=>by
 have e1:i=0:=by lia
 have e2:j=0:=by lia
 subst e1 e2;exact Int.le_refl _
theorem Dn.one {ys:Array Keyed}:Dn rk lo ys 1:=λi j hij hj=>by
 have e1:i=0:=by lia
 have e2:j=0:=by lia
 subst e1 e2;exact Int.le_refl _
theorem sx (L:fO prog w A E s Dm (eI rk) κ)(D:∀x∈xs.toList,Dm x){st:Ly}(B:Bs κ xs p lo st){nrem:Nat}(h1:1<=nrem)(h2:lo+nrem<=xs.size){Q:Option Nat->Ly->Prop}
    (h:∀m st',Bs κ xs p lo st'->1<=m->m<=nrem->Up rk lo (arrOf st') m->Q (some m) st'):wpS (model prog w) A E s (countRun' lo nrem) Q st:=by
  rw[countRun'_eq];refine Lr (wpS_mono (wpS_forRange (I:=λx c st'=>st'=st/\c=(none,x)/\Up rk lo (arrOf st) x)
    (Q:=λc st'=>st'=st/\∃n,c=(none,n)/\1<=n/\n<=nrem/\Up rk lo (arrOf st) n/\(n=nrem\/Kr rk (arrOf st) (lo+n)<Kr rk (arrOf st) (lo+n - 1))) ?s1 ?f1 ⟨rfl,rfl,.one⟩) ?post)
  case f1 =>
    rintro c st' ⟨rfl,rfl,hu⟩;rw[show max 1 nrem=nrem by lia] at hu ⊢;exact ⟨rfl,nrem,rfl,h1,Ll _,hu,.inl rfl⟩
  case s1 =>
    rintro x c st' hx1 hx2 ⟨rfl,rfl,hu⟩;dsimp (config:={ zeta:=false }) only;refine Lr (B.lt L D (by lia) (by lia) ?_);dsimp (config:={ zeta:=false }) only;split
    · rename_i c;exact Lu ⟨rfl,x,rfl,hx1,by lia,hu,.inr (of_decide_eq_true c)⟩
    · rename_i c;exact Lu ⟨rfl,rfl,hu.step hx1 λz=>c (decide_eq_true z)⟩
  case post =>
    rintro c st' ⟨rfl,n,rfl,n1,n2,hu,hor⟩;dsimp only;by_cases c1:(n == nrem)=true
    · rw[if_pos c1];exact Lu (h n _ B n1 n2 hu)
    rw[if_neg c1];rw[beq_iff_eq] at c1;have hlt:=hor.resolve_left c1;have hsz:=B.size;refine (λ(tail:∀st1,Bs κ xs p lo st1->Dn rk lo (arrOf st1) (n+1)->wpS (model prog w) A E s ?X Q st1)=>?main) ?tl
    case main =>
     by_cases c2:n>1
     case pos =>
      rw[if_pos c2];refine Lr (B.lt L D (by lia) (by lia) ?_);dsimp only;by_cases c3:Kr rk (arrOf st') lo<Kr rk (arrOf st') (lo+n - 1)
      · rw[if_pos (decide_eq_true c3)];exact Lu (h n _ B n1 n2 hu)
      rw[if_neg (λz=>c3 (of_decide_eq_true z))];refine Lr (wpS_reverse ?_);have heq:∀k,lo<=k->k<lo+n->Kr rk (arrOf st') k=Kr rk (arrOf st') (lo+n - 1):=λk k1 k2=>by
        have a1:=hu 0 (k - lo) (by lia) (by lia);have a2:=hu (k - lo) (n - 1) (by lia) (by lia);rw[show lo+(k - lo)=k by lia] at a1 a2;rw[show lo+(n - 1)=lo+n - 1 by lia] at a2;rw[Nat.add_zero] at a1;lia
      have ke:=sf (rk:=rk) (xs:=arrOf st') (i:=lo) (j:=lo+n) (by lia) heq;have B1:=B.mirror (i:=lo) (j:=lo+n) (Ll _) (by lia);have d0:Dn rk lo (arrOf st') n:=λi j hij hj=>by
        rw[heq (lo+i) (by lia) (by lia),heq (lo+j) (by lia) (by lia)];exact Int.le_refl _
      have d1:Dn rk lo (mirror (arrOf st') lo (lo+n) ((lo+n - lo) / 2)) (n+1):=(d0.step n1 (by lia)).congr ke;exact tail _ B1 d1
     case neg =>
      rw[if_neg c2];have e:n=1:=by lia
      have B1:=B;have d1:Dn rk lo (arrOf st') (n+1):=Dn.step (by rw[e];exact .one) n1 (by lia);exact tail _ B1 d1
    case tl =>
      intro st1 B1 d1;refine Lr (wpS_lift (wpAny_rule ⟨rfl,?_⟩));refine Lr (wpS_mono (wpS_forRange (I:=λx c st2=>∃neq,c=(none,x,neq)/\Bs κ xs p lo st2/\Dn rk lo (arrOf st2) x/\neq+1<=x/\∀k,lo+x - (neq+1)<=k->k<lo+x->Kr rk (arrOf st2) k=Kr rk (arrOf st2) (lo+x - 1))
        (Q:=λc st2=>∃m neq,c=(none,m,neq)/\Bs κ xs p lo st2/\n+1<=m/\m<=nrem/\Dn rk lo (arrOf st2) m/\neq+1<=m/\∀k,lo+m - (neq+1)<=k->k<lo+m->Kr rk (arrOf st2) k=Kr rk (arrOf st2) (lo+m - 1)) ?s2 ?f2 ⟨0,rfl,B1,d1,by lia,λk k1 k2=>by congr 1;lia⟩) ?post2)
      case f2 =>
        rintro c st2 ⟨neq,rfl,B2,d2,q1,q2⟩;rw[show max (n+1) nrem=nrem by lia] at d2 q1 q2 ⊢;exact ⟨nrem,neq,rfl,B2,by lia,Ll _,d2,q1,q2⟩
      case s2 =>
        rintro x c st2 hx1 hx2 ⟨neq,rfl,B2,d2,q1,q2⟩;have hs2:=B2.size;dsimp only;refine Lr (B2.lt L D (by lia) (by lia) ?_);dsimp only;by_cases c4:Kr rk (arrOf st2) (lo+x)<Kr rk (arrOf st2) (lo+x - 1)
        · rw[if_pos (decide_eq_true c4)];have d3:=d2.step (by lia) (Int.le_of_lt c4);by_cases c5:neq>0
          · rw[if_pos c5];refine Lr (wpS_reverse (Lu ⟨0,rfl,B2.mirror (by lia) (by lia),d3.congr (sf (by lia) q2),by lia,λk k1 k2=>by congr 1;lia⟩))
          · rw[if_neg c5];exact Lu ⟨0,rfl,B2,d3,by lia,λk k1 k2=>by congr 1;lia⟩
        · rw[if_neg (λz=>c4 (of_decide_eq_true z))];refine Lr (B2.lt L D (by lia) (by lia) ?_);dsimp only;by_cases c5:Kr rk (arrOf st2) (lo+x - 1)<Kr rk (arrOf st2) (lo+x)
          · rw[if_pos (decide_eq_true c5)];exact Lu ⟨x,neq,rfl,B2,by lia,by lia,d2,q1,q2⟩
          · rw[if_neg (λz=>c5 (of_decide_eq_true z))];refine Lu ⟨neq+1,rfl,B2,d2.step (by lia) (by lia),by lia,λk k1 k2=>?_⟩;rw[show lo+(x+1) - 1=lo+x by lia];by_cases c6:k=lo+x
            · rw[c6]
            · have := q2 k (by lia) (by lia);lia
      case post2 =>
        rintro c st2 ⟨m,neq,rfl,B2,m1,m2,d2,q1,q2⟩;dsimp only;have hs2:=B2.size;refine (λ(tail:∀st3,Bs κ xs p lo st3->Dn rk lo (arrOf st3) m->wpS (model prog w) A E s ?X2 Q st3)=>?main) ?tl
        case main =>
         by_cases c4:neq>0
         case pos =>
          rw[if_pos c4];refine Lr (wpS_reverse ?_);have B3:=B2.mirror (i:=lo+m - (neq+1)) (j:=lo+m) (by lia) (by lia);have d3:=d2.congr (zs:=mirror (arrOf st2) (lo+m - (neq+1)) (lo+m) ((lo+m - (lo+m - (neq+1))) / 2)) (sf (by lia) q2);exact tail _ B3 d3
         case neg =>
          rw[if_neg c4];have B3:=B2;have d3:=d2;exact tail _ B3 d3
        case tl =>
          intro st3 B3 d3;have hs3:=B3.size;refine Lr (wpS_reverse ?_);have hs3:=B3.size;have B4:=B3.mirror (i:=lo) (j:=lo+m) (Ll _) (by lia);have u4:=d3.rev (by lia);generalize hst4:setArr st3 (mirror (arrOf st3) lo (lo+m) ((lo+m - lo) / 2))=st4 at B4 ⊢;replace u4:Up rk lo (arrOf st4) m:=by rw[<-hst4];exact u4
          refine Lr (wpS_mono (wpS_forRange (I:=λx c st'=>st'=st4/\c=(none,x)/\Up rk lo (arrOf st4) x)
            (Q:=λc st'=>st'=st4/\∃n,c=(none,n)/\1<=n/\n<=nrem/\Up rk lo (arrOf st4) n) ?s3 ?f3 ⟨rfl,rfl,u4⟩) ?post3)
          case f3 =>
            rintro c st' ⟨rfl,rfl,hu⟩;rw[show max m nrem=nrem by lia] at hu ⊢;exact ⟨rfl,nrem,rfl,h1,Ll _,hu⟩
          case s3 =>
            rintro x c st' hx1 hx2 ⟨rfl,rfl,hu⟩;dsimp only;refine Lr (B4.lt L D (by lia) (by lia) ?_);dsimp only;split
            · exact Lu ⟨rfl,x,rfl,by lia,by lia,hu⟩
            · rename_i c;exact Lu ⟨rfl,rfl,hu.step (by lia) λz=>c (decide_eq_true z)⟩
          case post3 =>
            rintro c st' ⟨rfl,n',rfl,z1,z2,hu⟩;dsimp only;exact Lu (h n' _ B4 z1 z2 hu)
theorem qM {xs:Array Keyed}{src d:Nat}(hs:src<xs.size)(hd:d<=src)(k:Nat):Kr rk (bubble xs src d) k=if k=src - d then Kr rk xs src else if src - d<k/\k<=src then Kr rk xs (k - 1) else Kr rk xs k:=by
 have e:=getElem?_bubble hs d hd k;by_cases h1:k=src - d
 .rw[if_pos h1] at e ⊢;exact jm e
 .rw[if_neg h1] at e ⊢;by_cases h2:src - d<k/\k<=src
  .rw[if_pos h2] at e ⊢;exact jm e
  .rw[if_neg h2] at e ⊢;exact jm e
theorem oN (L:fO prog w A E s Dm (eI rk) κ)(D:∀x∈xs.toList,Dm x){st:Ly}(B:Bs κ xs p lo st){n ok:Nat}(h2:lo+n<=xs.size)(hu:Up rk lo (arrOf st) ok)(h1:1<=ok)(bC:ok<=n){Q:Bool->Ly->Prop}
    (h:∀st',Bs κ xs p lo st'->Up rk lo (arrOf st') n->Q true st'):wpS (model prog w) A E s (binarySort' lo n ok) Q st:=by
  rw[binarySort'_eq];refine Lr (wpS_mono (wpS_forRange (I:=λk c st'=>c=(none,())/\Bs κ xs p lo st'/\Up rk lo (arrOf st') k)
    (Q:=λc st'=>c=(none,())/\Bs κ xs p lo st'/\Up rk lo (arrOf st') n) ?step ?fin ⟨rfl,B,by rw[show max ok 1=ok by lia];exact hu⟩) ?post)
  case post =>
    rintro c st' ⟨rfl,B',hs'⟩;exact Lu (h st' B' hs')
  case fin =>
    rintro c st' ⟨hc,B',hs'⟩;rw[show max (max ok 1) n=n by lia] at hs';exact ⟨hc,B',hs'⟩
  case step =>
    rintro k c st' hk1 hk2 ⟨rfl,B',hs'⟩;have hsz:=B'.size;dsimp only;refine Lr (wpS_mono (wpS_forRange (I:=λx c st2=>st2=st'/\∃l r,c=(none,l,r)/\l<=r/\r<=k/\r - l<=k - x/\(∀i,i<l->Kr rk (arrOf st') (lo+i)<=Kr rk (arrOf st') (lo+k))/\∀i,r<=i->i<k->Kr rk (arrOf st') (lo+k)<Kr rk (arrOf st') (lo+i))
      (Q:=λc st2=>st2=st'/\∃l r,c=(none,l,r)/\l<=k/\(∀i,i<l->Kr rk (arrOf st') (lo+i)<=Kr rk (arrOf st') (lo+k))/\∀i,l<=i->i<k->Kr rk (arrOf st') (lo+k)<Kr rk (arrOf st') (lo+i)) ?istep ?ifin ⟨rfl,0,k,rfl,by lia,by lia,by lia,λi hi=>by lia,λi h1 h2=>by lia⟩) ?ipost)
    case ifin =>
      rintro c st2 ⟨rfl,l,r,rfl,a1,a2,a3,a4,a5⟩;have:l=r:=by lia
      subst this;exact ⟨rfl,l,l,rfl,a2,a4,a5⟩
    case istep =>
      rintro x c st2 _ hx ⟨rfl,l,r,rfl,a1,a2,a3,a4,a5⟩;dsimp only;by_cases c1:l>=r
      · rw[if_pos c1];have:l=r:=by lia
        subst this;exact Lu ⟨rfl,l,l,rfl,a2,a4,a5⟩
      rw[if_neg c1];refine Lr (B'.lt L D (by lia) (by lia) ?_);dsimp only;by_cases c2:Kr rk (arrOf st2) (lo+k)<Kr rk (arrOf st2) (lo+(l+r) / 2)
      · rw[if_pos (decide_eq_true c2)];refine Lu ⟨rfl,l,_,rfl,by lia,by lia,by lia,a4,λi b1 b2=>?_⟩;have:=hs' ((l+r) / 2) i b1 b2;lia
      · rw[if_neg (λz=>c2 (of_decide_eq_true z))];refine Lu ⟨rfl,_,r,rfl,by lia,by lia,by lia,λi b1=>?_,a5⟩;have:=hs' i ((l+r) / 2) (by lia) (by lia);lia
    case ipost =>
      rintro c st2 ⟨rfl,l,r,rfl,a1,a4,a5⟩;dsimp only;rw[moveDown'_eq];refine Lr (wpS_modify (Lu ⟨rfl,B'.bubble (by lia) (by lia),?_⟩));intro i j hij hj;show Kr rk (bubble (arrOf st2) (lo+k) (lo+k - (lo+l))) _<=Kr rk (bubble (arrOf st2) (lo+k) (lo+k - (lo+l))) _;rw[qM (by lia) (by lia),qM (by lia) (by lia),show lo+k - (lo+k - (lo+l))=lo+l by lia];have back:∀q,lo+l<lo+q->Kr rk (arrOf st2) (lo+q - 1)=Kr rk (arrOf st2) (lo+(q - 1)):=λq hq=>by congr 1;lia
      by_cases i1:lo+i=lo+l
      · rw[if_pos i1];by_cases j1:lo+j=lo+l
        · rw[if_pos j1];exact Int.le_refl _
        rw[if_neg j1,if_pos (by lia),back j (by lia)];exact Int.le_of_lt (a5 _ (by lia) (by lia))
      rw[if_neg i1];by_cases i2:lo+l<lo+i/\lo+i<=lo+k
      · rw [if_pos i2, if_neg (by lia), if_pos (by lia), back i (by lia), back j (by lia)];exact hs' _ _ (by lia) (by lia)
      rw[if_neg i2];by_cases j1:lo+j=lo+l
      · rw[if_pos j1];exact a4 _ (by lia)
      rw[if_neg j1];by_cases j2:lo+l<lo+j/\lo+j<=lo+k
      · rw [if_pos j2, back j (by lia)];exact hs' _ _ (by lia) (by lia)
      · rw[if_neg j2];exact hs' _ _ (by lia) (by lia)
end
end Tim
namespace Tim
open PySem PyProof.Rows
section
variable {R:Keyed->Keyed->Bool}
inductive Runs (R:Keyed->Keyed->Bool)(l:List Keyed):Nat->List (Nat×Nat×Nat)->Nat->Prop where
 | nil (s:Nat):Runs R l s [] s
 | cons {s n pw e:Nat} {rest:List (Nat×Nat×Nat)}:1<=n->fY R (seg l s n)->Runs R l (s+n) rest e->Runs R l s ((s,n,pw)::rest) e
theorem Runs.le {l:List Keyed}{s e:Nat}{p:List (Nat×Nat×Nat)}(h:Runs R l s p e):s+p.length<=e:=by
 induction h with
 | nil s=>exact Ll _
 | cons h1 _ _ ih=>simp;lia
theorem Runs.append {l:List Keyed}{s m e:Nat}{p q:List (Nat×Nat×Nat)}(h:Runs R l s p m)(h':Runs R l m q e):Runs R l s (p++q) e:=by
 induction h with
 | nil s=>exact h'
 | cons h1 h2 _ ih=>exact .cons h1 h2 (ih h')
theorem Runs.split {l:List Keyed}{e:Nat}{q:List (Nat×Nat×Nat)}:∀{p:List (Nat×Nat×Nat)} {s:Nat},Runs R l s (p++q) e->∃m,Runs R l s p m/\Runs R l m q e
 | [],s,h=>⟨s,.nil s,h⟩
 | _::p,s,.cons h1 h2 h3=>by
  obtain ⟨m,a,b⟩:=Runs.split h3;exact ⟨m,.cons h1 h2 a,b⟩
theorem Runs.congr {l l':List Keyed}{s e:Nat}{p:List (Nat×Nat×Nat)}(h:Runs R l s p e)(hc:∀s' n',s<=s'->s'+n'<=e->seg l' s' n'=seg l s' n'):Runs R l' s p e:=by
 induction h with
 | nil s=>exact .nil s
 | cons h1 h2 h3 ih =>
  have:=h3.le;exact .cons h1 (by rw[hc _ _ (Ll _) (by lia)];exact h2) (ih λs' n' a b=>hc s' n' (by lia) b)
theorem iR {l l':List Keyed}{s n:Nat}(h:∀i,i<n->l'[s+i]?=l[s+i]?):seg l' s n=seg l s n:=by
  refine List.ext_getElem? λi=>?_;by_cases c:i<n
  · rw[seg_at c,seg_at c,h i c]
  · have : ∀ z : List Keyed, (seg z s n)[i]? = none := λz => List.getElem?_eq_none (by unfold seg;rw [length_take];lia);rw[this,this]
theorem Done.len {l l':List Keyed}{s n:Nat}(h:Done R l l' s n):l'.Perm l:=by
 obtain ⟨m,e,hp,_⟩:=h;rw[e];conv=>rhs;rw[nj l s n]
 exact (hp.append_left _).append_right _
theorem Done.below {l l':List Keyed}{s n i:Nat}(h:Done R l l' s n)(hz:s+n<=l.length)(hi:i<s):l'[i]?=l[i]?:=by
 obtain ⟨m,e,hp,_⟩:=h;rw[e,LX,List.getElem?_append_left (by rw[length_take];lia),List.getElem?_take_of_lt hi]
theorem Done.Il {l m:List Keyed}{s n:Nat}(hp:m.Perm (seg l s n))(hz:s+n<=l.length):m.length=n:=by
 rw[hp.length_eq];unfold seg;rw[length_take,length_drop];lia
theorem Done.above {l l':List Keyed}{s n i:Nat}(h:Done R l l' s n)(hz:s+n<=l.length)(hi:s+n<=i):l'[i]?=l[i]?:=by
 obtain ⟨m,e,hp,_⟩:=h;have hm:=Done.Il hp hz;rw[e,List.getElem?_append_right (by rw[LA,length_take,hm];lia),LA,length_take,hm,List.getElem?_drop];congr 1;lia
theorem Done.GW {l l':List Keyed}{s n:Nat}(h:Done R l l' s n)(hz:s+n<=l.length):fY R (seg l' s n):=by
 obtain ⟨m,e,hp,hs⟩:=h;have hm:=Done.Il hp hz;have:seg l' s n=m:=by
  unfold seg;rw[e,LX,List.drop_append_of_le_length (by rw[length_take];lia),List.drop_eq_nil_of_le (by rw[length_take];lia),List.nil_append,List.take_append_of_le_length (by lia),take_of_length_le (by lia)]
 rw[this];exact hs
theorem rB (X a b:Nat×Nat×Nat)(post:List (Nat×Nat×Nat)):∀pre:List (Nat×Nat×Nat),((pre++a::b::post).set pre.length X).eraseIdx (pre.length+1)=pre++X::post
 | []=>rfl
 | c::pre=>by
  have:=rB X a b post pre;simp only[List.cons_append,LN,List.set_cons_succ,List.eraseIdx_cons_succ];rw[this]
end
section
variable {prog:LH} {w:LR} {A:LQ} {E:Lg->Li->Prop} {s:Li}
variable {Dm:Keyed->Prop} {rk:Keyed->Int} {κ:SortKind}
structure v9 (κ:SortKind)(rk:Keyed->Int)(xs:Array Keyed)(lo:Nat)(st:Ly):Prop where
 perm:(arrOf st).Perm xs
 kind:kindOf st=κ
 failed:failedOf st=none
 runs:Runs (eI rk) (arrOf st).toList 0 (pendingOf st).toList lo
variable {xs:Array Keyed} {lo:Nat}
theorem v9.size {st:Ly}(B:v9 κ rk xs lo st):(arrOf st).size=xs.size:=B.perm.size_eq
theorem v9.merge (L:fO prog w A E s Dm (eI rk) κ)(D:∀x∈xs.toList,Dm x){st:Ly}(B:v9 κ rk xs lo st)(hlo:lo<=xs.size){i:Nat}(hi:i+1<(pendingOf st).size){Q:Bool->Ly->Prop}
  (h:∀st',v9 κ rk xs lo st'->(pendingOf st').size+1=(pendingOf st).size->(∀j,lo<=j->(arrOf st')[j]?=(arrOf st)[j]?)->Q true st'):wpS (model prog w) A E s (mergeAt' i) Q st:=by
 have hl:(pendingOf st).toList.length=(pendingOf st).size:=Lw;obtain ⟨⟨sa,na,pw⟩,ha⟩ : ∃x,(pendingOf st)[i]?=some x:=⟨(pendingOf st)[i]'(by lia),Lq (by lia)⟩
 obtain ⟨⟨sb,nb,pb⟩,hb⟩ : ∃x,(pendingOf st)[i+1]?=some x:=⟨(pendingOf st)[i+1]'(by lia),Lq (by lia)⟩
 have e:(pendingOf st).toList=(pendingOf st).toList.take i++(sa,na,pw)::(sb,nb,pb)::(pendingOf st).toList.drop (i+2):=by
  conv=>lhs;rw[<-take_append_drop i (pendingOf st).toList]
  congr 1;rw[drop_eq_getElem_cons (by lia),drop_eq_getElem_cons (by lia)];rw[<-Lo,Lp] at ha hb;rw[ha.2,hb.2]
 have hr:=B.runs;rw[e] at hr;obtain ⟨m,r1,r2⟩:=hr.split;obtain ⟨rfl,na1,sX,r3⟩ : sa=m/\1<=na/\fY (eI rk) (seg (arrOf st).toList sa na)/\Runs (eI rk) (arrOf st).toList (sa+na) ((sb,nb,pb)::(pendingOf st).toList.drop (i+2)) lo:=by
  cases r2 with
  | cons a b c=>exact ⟨rfl,a,b,c⟩
 obtain ⟨rfl,nb1,sY,r4⟩ : sb=sa+na/\1<=nb/\fY (eI rk) (seg (arrOf st).toList sb nb)/\Runs (eI rk) (arrOf st).toList (sb+nb) ((pendingOf st).toList.drop (i+2)) lo:=by
  cases r3 with
  | cons a b c=>exact ⟨rfl,a,b,c⟩
 have hle:=r4.le;have hsz:=B.size;have hpl:((pendingOf st).toList.take i).length=i:=by rw[length_take];lia
 refine ve L A1 B.kind B.failed (λx hx=>D x ((Array.perm_iff_toList_perm.mp B.perm).mem_iff.mp hx)) ha hb rfl na1 nb1 (by lia) sX sY λst' k' f' p' d'=>?_;have hz:sa+(na+nb)<=(arrOf st).toList.length:=by rw[Lw];lia
 have pe:(pendingOf st').toList=(pendingOf st).toList.take i++(sa,na+nb,pw)::(pendingOf st).toList.drop (i+2):=by
  rw[p',Array.toList_eraseIdxIfInBounds,Array.toList_setIfInBounds];conv=>lhs;rw[e]
  have:=rB (sa,na+nb,pw) (sa,na,pw) (sa+na,nb,pb) ((pendingOf st).toList.drop (i+2)) ((pendingOf st).toList.take i);rw[hpl] at this;exact this
 refine h st' ⟨(Array.perm_iff_toList_perm.mpr d'.len).trans B.perm,k',f',?_⟩ ?_ ?_
 .rw[pe];have r1le:=r1.le;refine (r1.congr λs' n' _ h2=>iR λj hj=>d'.below hz (by lia)).append (.cons (by lia) (d'.GW hz) ?_);rw[<-Nat.add_assoc];exact r4.congr λs' n' h1 _=>iR λj hj=>d'.above hz (by lia)
 .have:=congrArg List.length pe;rw[Lw,LA,LN,hpl,length_drop] at this;lia
 .intro j hj;have:=d'.above (i:=j) hz (by lia);rw[Lo,Lo] at this;exact this
theorem Up.GW {ys:Array Keyed}{n:Nat}(h:Up rk lo ys n):fY (eI rk) (seg ys.toList lo n):=by
 refine pairwise_iff_getElem.mpr λi j h1 h2 hij=>?_;have e1:=gW (Lm h1);have e2:=gW (Lm h2);have:=h i j (Nat.le_of_lt hij) e2.1;rw[og (by rw[<-Lo];exact e1.2),og (by rw[<-Lo];exact e2.2)] at this;unfold eI;simp only[decide_eq_false_iff_not,Int.not_lt];exact this
theorem vV:∀(p:List (Nat×Nat×Nat)) (f:Nat×Nat×Nat->Nat×Nat×Nat),(∀t,(f t).1=t.1/\(f t).2.1=t.2.1)->∀{R:Keyed->Keyed->Bool} {l:List Keyed} {s e i:Nat},Runs R l s p e->Runs R l s (p.modify i f) e
 | [],f,hf,_,_,_,_,i,h=>by rw[List.modify_nil];exact h
 | (s1,n,pw)::p,f,hf,_,_,_,_,0,.cons h1 h2 h3=>by
  rw[List.modify_zero_cons];have e:f (s1,n,pw)=(s1,n,(f (s1,n,pw)).2.2):=Prod.ext (hf _).1 (Prod.ext (hf _).2 rfl);rw[e];exact .cons h1 h2 h3
 | (s1,n,pw)::p,f,hf,_,_,_,_,i+1,.cons h1 h2 h3=>by
  rw[List.modify_succ_cons];exact .cons h1 h2 (vV p f hf h3)
theorem mI (L:fO prog w A E s Dm (eI rk) κ)(D:∀x∈xs.toList,Dm x){st:Ly}(ha:arrOf st=xs)(hk:kindOf st=κ)(hf:failedOf st=none)(hp:pendingOf st = #[]){Q:Unit->Ly->Prop}
    (h:∀st',(arrOf st').Perm xs->failedOf st'=none->fY (eI rk) (arrOf st').toList->Q () st'):wpS (model prog w) A E s sortRuns' Q st:=by
  rw[sortRuns'_eq];refine Lr (wpS_get ?_);dsimp only;rw[ha];generalize hmr:minRun' xs.size xs.size 0=mr;refine Lr (wpS_mono (wpS_forRange (I:=λx c st'=>∃lo,c=(none,lo)/\v9 κ rk xs lo st'/\lo<=xs.size/\min x xs.size<=lo) (Q:=λc st'=>c=(none,xs.size)/\v9 κ rk xs xs.size st') ?step ?fin ⟨0,rfl,⟨by rw[ha],hk,hf,by rw[hp];exact .nil 0⟩,LS _,by lia⟩) ?post)
  case fin =>
    rintro c st' ⟨lo,rfl,S,h1,h2⟩;have e:lo=xs.size:=by lia
    subst e;exact ⟨rfl,S⟩
  case step =>
    rintro x c st' _ hx ⟨lo,rfl,S,h1,h2⟩;dsimp only;by_cases c1:lo>=xs.size
    · rw[if_pos c1];have e:lo=xs.size:=by lia
      subst e;exact Lu ⟨rfl,S⟩
    rw[if_neg c1];have B0:Bs κ (arrOf st') (pendingOf st') lo st':=⟨.refl _,S.kind,S.failed,rfl,λ_ _=>rfl⟩
    have hsz:=S.size;have D':∀x∈(arrOf st').toList,Dm x:=λx hx=>D x ((Array.perm_iff_toList_perm.mp S.perm).mem_iff.mp hx);refine Lr (sx L D' B0 (by lia) (by lia) λm st2 B1 m1 m2 u1=>?_);dsimp only;have cont:∀(n:Nat) (st3:Ly),Bs κ (arrOf st') (pendingOf st') lo st3->1<=n->n<=xs.size - lo->Up rk lo (arrOf st3) n->v9 κ rk xs lo st3/\fY (eI rk) (seg (arrOf st3).toList lo n):=λn st3 B3 n1 n2 u3 =>
      ⟨⟨B3.perm.trans S.perm,B3.kind,B3.failed,by
        rw[B3.pend];refine S.runs.congr λs' n' _ h'=>iR λj hj=>?_;rw[Lo,Lo];exact B3.low _ (by lia)⟩,u3.GW⟩
    refine (λ(tail:∀(n:Nat) (st3:Ly),v9 κ rk xs lo st3->fY (eI rk) (seg (arrOf st3).toList lo n)->1<=n/\n<=xs.size - lo->wpS (model prog w) A E s ((?X:Nat->StateT Ly Sem ?T) n) ?Q st3)=>?main) ?tl
    case main =>
     by_cases c2:m<mr
     case pos =>
      rw[if_pos c2];refine Lr (wpS_lift (wpAny_rule ⟨rfl,?_⟩));refine Lr (oN L D' B1 (by lia) u1 m1 (by lia) λst3 B3 u3=>?_);simp only[Bool.not_true,LB,if_false];obtain ⟨S3,s3⟩:=cont (min (xs.size - lo) mr) st3 B3 (by lia) (by lia) u3;have nb:1<=min (xs.size - lo) mr/\min (xs.size - lo) mr<=xs.size - lo:=by lia
      generalize min (xs.size - lo) mr=n at s3 nb ⊢;exact tail n _ S3 s3 nb
     case neg =>
      rw[if_neg c2];obtain ⟨S3,s3⟩:=cont m st2 B1 m1 m2 u1;exact tail _ _ S3 s3 ⟨m1,m2⟩
    case tl =>
      intro n st3 S3 s3 nb;refine Lr (wpS_get ?_);have pushed:∀st4:Ly,v9 κ rk xs lo st4->fY (eI rk) (seg (arrOf st4).toList lo n)->v9 κ rk xs (lo+n) (setPending st4 ((pendingOf st4).push (lo,n,0))):=λst4 S4 s4 =>
        ⟨S4.perm,S4.kind,S4.failed,by
          show Runs _ (arrOf st4).toList 0 ((pendingOf st4).push (lo,n,0)).toList (lo+n);rw[Array.toList_push];exact S4.runs.append (.cons nb.1 s4 (.nil _))⟩
      split
      · rename_i s1 n1 _ hback;generalize power' _ _ _ _=pw;refine Lr (wpS_mono (wpS_forRange (I:=λ_ c st4=>c=(none,())/\v9 κ rk xs lo st4/\fY (eI rk) (seg (arrOf st4).toList lo n)) (Q:=λc st4=>c=(none,())/\v9 κ rk xs lo st4/\fY (eI rk) (seg (arrOf st4).toList lo n)) ?ms (λ_ _ z=>z) ⟨rfl,S3,s3⟩) ?mp)
        case ms =>
          rintro y c st4 _ _ ⟨rfl,S4,s4⟩;refine Lr (wpS_get ?_);split
          · rename_i older hq;split
            · exact Lu ⟨rfl,S4,s4⟩
            · have hgt:1<(pendingOf st4).size:=by
                by_cases c:(pendingOf st4).size>1
                · exact c
                · rw[if_neg c] at hq;cases hq
              refine Lr (S4.merge L D h1 (by lia) λst5 S5 _ k5=>?_);simp only[Bool.not_true,LB,if_false];refine Lu ⟨rfl,S5,?_⟩;rw[iR (l:=(arrOf st4).toList) λj hj=>by rw[Lo,Lo];exact k5 _ (by lia)];exact s4
          · exact Lu ⟨rfl,S4,s4⟩
        case mp =>
          rintro c st4 ⟨rfl,S4,s4⟩;dsimp only;refine Lr (wpS_modify (Lr (wpS_modify (Lu ⟨_,rfl,pushed _ ⟨S4.perm,S4.kind,S4.failed,?_⟩ s4,by lia,by lia⟩))));show Runs _ (arrOf st4).toList 0 ((pendingOf st4).modify _ _).toList lo;rw[Array.toList_modify];exact vV _ (λx=>(x.1,x.2.1,pw)) (λt=>⟨rfl,rfl⟩) S4.runs
      · exact Lr (wpS_modify (Lu ⟨_,rfl,pushed _ S3 s3,by lia,by lia⟩))
  case post =>
    rintro c st' ⟨rfl,S⟩;dsimp only;refine Lr (wpS_mono (wpS_forRange (I:=λx c st'=>c=(none,())/\v9 κ rk xs xs.size st'/\((pendingOf st').size<=1\/(pendingOf st').size+x<=xs.size)) (Q:=λc st'=>c=(none,())/\v9 κ rk xs xs.size st'/\(pendingOf st').size<=1) ?s2 ?f2 ⟨rfl,S,.inr (by have:=S.runs.le;rw[Lw] at this;lia)⟩) ?post2)
    case f2 =>
      rintro c st' ⟨rfl,S,z⟩;exact ⟨rfl,S,by lia⟩
    case s2 =>
      rintro x c st' _ hx ⟨rfl,S,z⟩;refine Lr (wpS_get ?_);by_cases c1:(pendingOf st').size<=1
      · rw[if_pos c1];exact Lu ⟨rfl,S,c1⟩
      rw[if_neg c1];refine Lr (S.merge L D (Ll _) ?_ λst2 S2 e2 _=>?_)
      · (repeat' split)<;>lia
      · simp only[Bool.not_true,LB,if_false];exact Lu ⟨rfl,S2,.inr (by lia)⟩
    case post2 =>
      rintro c st' ⟨rfl,S,z⟩;dsimp only;refine Lu (h _ S.perm S.failed ?_);have hr:=S.runs;have hl:(pendingOf st').toList.length<=1:=by rw[Lw];exact z
      have hsz:=S.size;generalize (pendingOf st').toList=q at hl hr;generalize xs.size=N at hr hsz;cases hr with
      | nil =>
        have:(arrOf st').toList = []:=List.eq_nil_of_length_eq_zero (by rw[Lw,hsz]);rw[this];exact List.Pairwise.nil
      | @cons _ n pw _ rest a b c =>
        cases c with
        | nil =>
          unfold seg at b;rw[List.drop_zero,take_of_length_le (by rw[Lw];lia)] at b;exact b
        | cons=>simp at hl
end
end Tim
namespace Tim
open PySem PySem.W PySem.Calls PyProof.Rows
section
variable {α:Type}
theorem qX {p q:α->Bool}:∀{l:List α},(∀x∈l,p x=true->q x=true)->(∃x∈l,q x=true/\p x=false)->l.countP p<l.countP q
 | [],_,⟨x,hx,_⟩=>nomatch hx
 | a::l,h,⟨x,hx,h1,h2⟩=>by
  rw[List.countP_cons,List.countP_cons];have hm:l.countP p<=l.countP q:=List.countP_mono_left λx hx=>h x (LO _ hx);rcases Lz.mp hx with e | hx'
  .subst e;rw[h1,h2];simp;lia
  .have ih:=qX (l:=l) (λx hx=>h x (LO _ hx)) ⟨x,hx',h1,h2⟩;have:=h a (mem_cons_self ..);cases hp:p a with
   | true=>rw[this hp];simp;lia
   | false=>simp;lia
noncomputable def rank (lt:α->α->Bool)(l:List α)(x:α):Int:=l.countP λz=>lt z x
theorem EA {lt:α->α->Bool}{l:List α}(JX:∀x,x∈l->lt x x=false)(tr:∀x y z,x∈l->y∈l->z∈l->lt x y=true->lt y z=true->lt x z=true)(ntr:∀x y z,x∈l->y∈l->z∈l->lt x y=false->lt z y=true->lt z x=true)
  {x y:α} (hx:x∈l) (hy:y∈l):decide (rank lt l x<rank lt l y)=lt x y:=by
 cases h:lt x y with
 | true =>
  refine decide_eq_true ?_;have:=qX (p:=λz=>lt z x) (q:=λz=>lt z y) (l:=l) (λz hz h1=>tr z x y hz hx hy h1 h) ⟨x,hx,h,JX x hx⟩;unfold rank;lia
 | false =>
  refine decide_eq_false ?_;have:=List.countP_mono_left (p:=λz=>lt z y) (q:=λz=>lt z x) (l:=l) λz hz h1=>ntr x y z hx hy hz h h1;unfold rank;lia
end
noncomputable abbrev fQ:=SoT.BV false
theorem yC:∀a:List Int,fQ a a=false
 | []=>rfl
 | x::a=>by
  show (if x=x then fQ a a else decide (x<x))=false;rw[if_pos rfl];exact yC a
theorem u0 (x y:Int)(a b:List Int):fQ (x::a) (y::b)=if x=y then fQ a b else decide (x<y):=rfl
theorem BW:∀{a b c:List Int},a.length=b.length->b.length=c.length->fQ a b=true->fQ b c=true->fQ a c=true
  | [],[],[],_,_,h,_=>h
  | x::a,y::b,z::c,h1,h2,h3,h4=>by
    rw[u0] at h3 h4 ⊢;by_cases e1:x=y
    · rw[if_pos e1] at h3;by_cases e2:y=z
      · rw[if_pos e2] at h4;rw[if_pos (e1.trans e2)];exact BW (by simpa using h1) (by simpa using h2) h3 h4
      · rw[if_neg e2] at h4;rw[if_neg (by lia)];have:=of_decide_eq_true h4;exact decide_eq_true (by lia)
    · rw[if_neg e1] at h3;have d1:=of_decide_eq_true h3;by_cases e2:y=z
      · rw [if_neg (by lia)];exact decide_eq_true (by lia)
      · rw[if_neg e2] at h4;have d2:=of_decide_eq_true h4;rw[if_neg (by lia)];exact decide_eq_true (by lia)
theorem yD:∀{a b c:List Int},a.length=b.length->b.length=c.length->fQ a b=false->fQ c b=true->fQ c a=true
  | [],[],[],_,_,_,h=>h
  | x::a,y::b,z::c,h1,h2,h3,h4=>by
    rw[u0] at h3 h4 ⊢;by_cases e1:x=y
    · rw[if_pos e1] at h3;by_cases e2:z=y
      · rw[if_pos e2] at h4;rw[if_pos (by lia)];exact yD (by simpa using h1) (by simpa using h2) h3 h4
      · rw[if_neg e2] at h4;have:=of_decide_eq_true h4;rw[if_neg (by lia)];exact decide_eq_true (by lia)
    · rw[if_neg e1] at h3;have d1:=of_decide_eq_false h3;by_cases e2:z=y
      · rw [if_neg (by lia)];exact decide_eq_true (by lia)
      · rw[if_neg e2] at h4;have d2:=of_decide_eq_true h4;rw[if_neg (by lia)];exact decide_eq_true (by lia)
section
variable {prog:LH} {w:LR} {A:LQ} {E:Lg->Li->Prop} {s:Li}
noncomputable def wa (h:Heap)(vs:List Lg)(f:Lg->List Int)(c:Nat):Prop:=∀v∈vs,SoT.Tp h v (f v)/\(f v).length=c
theorem wa.keep {h h':Heap}{vs:List Lg}{f:Lg->List Int}{c:Nat}(k:∀b o,h.get? b=some o->o.cls=.type "tuple"->h'.get? b=some o)(t:wa h vs f c):wa h' vs f c:=λv hv=>⟨(t v hv).1.keep k,(t v hv).2⟩
theorem vJ {vs:List Lg}{f:Lg->List Int}{c:Nat}(hT:∀v∈vs,(f v).length=c){x y:Lg}(hx:x∈vs)(hy:y∈vs):decide (rank (λu v=>fQ (f u) (f v)) vs x<rank (λu v=>fQ (f u) (f v)) vs y)=fQ (f x) (f y):=
 EA (lt:=λu v=>fQ (f u) (f v)) (λu _=>yC _) (λu v z h1 h2 h3=>BW ((hT u h1).trans (hT v h2).symm) ((hT v h2).trans (hT z h3).symm)) (λu v z h1 h2 h3=>yD ((hT u h1).trans (hT v h2).symm) ((hT v h2).trans (hT z h3).symm)) hx hy
theorem Af {vs:List Lg}{f:Lg->List Int}{c:Nat}(hT:wa s.heap vs f c) :
  fO prog w A E s (λp=>p.1∈vs) (eI λp=>rank (λu v=>fQ (f u) (f v)) vs p.1) (tuples' true):=by
 intro x y st Q hx hy hk h;have e:eI (λp:Keyed=>rank (λu v=>fQ (f u) (f v)) vs p.1) x y=fQ (f x.1) (f y.1):=by
  unfold eI;exact vJ (λv hv=>(hT v hv).2) hx hy
 rw[e] at h;rw[lt'_eq];refine Lr (wpS_get ?_);rw[hk];refine Lr (wpS_lift (wpAny_attempt (SoT.F0 (hT _ hx).1 (hT _ hy).1 ⟨rfl,?_⟩)));rw[(hT _ hx).2,(hT _ hy).2,show decide (c<c)=false from decide_eq_false (Nat.lt_irrefl c)];exact Lu h
theorem D0 {h:Heap}{f:Lg->List Int}{c:Nat}(hc:0<c){vs:List Lg}(hT:wa h vs f c):∃fs,KatTups h vs fs/\fs.length=vs.length/\∀f∈fs,∃n t,f=Value.int n t:=
 SoT.BP (nss:=vs.map f) (by rw[Lk]) λi v ns h1 h2=>by
  rw[LC,h1] at h2;cases h2;have:=hT v (Ls h1);exact ⟨by rw[this.2];exact hc,this.1⟩
theorem qy {a:Addr}{vs:List Lg}{n c:Nat}{f:Lg->List Int}{P:PySem.Fin->Li->Prop}(ho:s.heap.get? a=some (seqObj "list" vs.toArray n))(hT:wa s.heap vs f c)(hc:0<c)(hz:vs.length<=sizeLine)
    (h:∀out:List Lg,out.Perm vs->out.Pairwise (λu v=>fQ (f v) (f u)=false)->P (.done (.ret .none)) { s with heap:=sortedHeap s.heap a vs out.toArray }):wpAny (model prog w) A (Builtin.«list.sort» ⟨[.ref a],[]⟩) P E s:=by
  rw[list_sort_plain];have ha:a<s.heap.objs.size:=Lv ho;refine Lh (listItems_at ho rfl (Lh (listUpdate_at ho rfl ?_ (by simpa using hz) (by simp))));obtain ⟨e1,ho1⟩ : ∃e1,(s.heap.update a (LU λ_=>#[])).get? a=some (seqObj "list" #[] e1):=⟨_,get?_update_seq ho (λ_=>#[])⟩
  refine Lh (seqEpoch_at ho1 rfl (Lh (wpAny_newTuple (Lh (wpAny_newList (wpAny_holding ?_))) (by simpa using hz))));have ho6:(((s.heap.update a (LU λ_=>#[])).push (seqObj "tuple" vs.toArray 0)).push (seqObj "list" #[] 0)).get? a=some (seqObj "list" #[] e1):=by
    rw[Heap.get?_push_ne _ _ _ (show a≠_ by rw[size_push',Heap.size_update];exact LF (Nat.lt_succ_of_lt ha)),Heap.get?_push_ne _ _ _ (show a≠_ by rw[Heap.size_update];exact LF ha)];exact ho1
  have keep:∀b o,s.heap.get? b=some o->o.cls=.type "tuple"->(((s.heap.update a (LU λ_=>#[])).push (seqObj "tuple" vs.toArray 0)).push (seqObj "list" #[] 0)).get? b=some o:=λb o hb hc=>by
    have hba:a≠b:=by
      rintro rfl;rw[ho] at hb;cases hb;exact absurd hc (show ¬Value.type "list" = Value.type "tuple" by decide)
    exact Ln _ (Ln _ ((Heap.get?_update_other _ _ hba).trans hb))
  have hT':=hT.keep keep;show wpAny (model prog w) A _ P E { s with heap:=((s.heap.update a (LU λ_=>#[])).push (seqObj "tuple" vs.toArray 0)).push (seqObj "list" #[] 0) };dsimp only;have zl:(vs.toArray.zip vs.toArray).toList=vs.zip vs:=by simp
  have fin:∀xs:Array Keyed,xs.Perm (vs.toArray.zip vs.toArray)->(∀p∈xs.toList,p.1=p.2/\p.1∈vs)/\(xs.map (·.2)).toList.Perm vs:=λxs hp=>by
    have hp':=Array.perm_iff_toList_perm.mp hp;rw[zl] at hp';refine ⟨λp hq=>?_,?_⟩
    · have:=hp'.mem_iff.mp hq;obtain ⟨u,v⟩:=p;exact mem_zip_self this
    · rw[Array.toList_map];have:=hp'.map (λp:Keyed=>p.2);rw[List.map_snd_zip (Ll _)] at this;exact this
  by_cases h2:vs.toArray.size<2
  · rw[if_pos h2,if_pos h2];refine Lh (Lj ?_);rw[StateT.run_pure];refine Lh (Lj ?_);dsimp only;have ef:(arrOf (SortSt.mk' general' (vs.toArray.zip vs.toArray) #[] 7 none)).map (·.2)=vs.toArray:=by
      apply Array.ext';simp[List.map_snd_zip]
    rw[ef];refine Lh (seqEpoch_at ho6 rfl (Lh (listUpdate_at ho6 rfl ?_ (by simp) (by simp;lia))));simp only[bne_self_eq_false,LB,if_false];refine Lj (h vs (.refl _) ?_);have h2':vs.length<2:=by simpa using h2
    exact GN h2'
  · rw[if_neg h2,if_neg h2];obtain ⟨fs,k1,k2,k3⟩:=D0 hc hT';have h2':2<=vs.length:=by simpa using h2
    refine Lh (kat_kind (T:=.type "int") k1 (by lia) (λv hv=>?_) (by rfl) ?_)
    · obtain ⟨m,t,rfl⟩:=k3 v hv;exact .now
    · have e0 : (Value.type "int" != Value.type "tuple") = true := by decide
      rw[e0];refine Lh (wpAny_mono (mI (xs:=vs.toArray.zip vs.toArray) (Af hT') (λp hp=>?_) (st:=SortSt.mk' (tuples' true) (vs.toArray.zip vs.toArray) #[] 7 none)
        (Q:=λ_ st'=>(arrOf st').Perm (vs.toArray.zip vs.toArray)/\failedOf st'=none/\fY (eI λp=>rank (λu v=>fQ (f u) (f v)) vs p.1) (arrOf st').toList) rfl rfl rfl rfl λst' a1 a2 a3=>⟨a1,a2,a3⟩) ?_ λ_ _ z=>z)
      · rw[zl] at hp;obtain ⟨u,v⟩:=p;exact (List.of_mem_zip hp).1
      · rintro ⟨⟨⟩,st'⟩ s' ⟨rfl,hp',hf',hs'⟩;dsimp only at hp' hf' hs' ⊢;obtain ⟨f1,f2⟩:=fin _ hp';have hsz:((arrOf st').map (·.2)).size<=sizeLine:=by
          have:=f2.length_eq;rw[Lw] at this;lia
        refine Lh (seqEpoch_at ho6 rfl (Lh (listUpdate_at ho6 rfl ?_ (by simp) (Nat.le_succ_of_le hsz))));rw[hf'];simp only[bne_self_eq_false,LB,if_false];refine Lj ?_;have:=h ((arrOf st').map (·.2)).toList f2 ?_
        · rw[Array.toArray_toList] at this;exact this
        · rw[Array.toList_map,pairwise_map];refine List.Pairwise.imp_of_mem (λ{p q} hp hq hr=>?_) hs';obtain ⟨p1,p2⟩:=f1 p hp;obtain ⟨q1,q2⟩:=f1 q hq;have e:eI (λp:Keyed=>rank (λu v=>fQ (f u) (f v)) vs p.1) q p=fQ (f q.1) (f p.1):=by
            unfold eI;exact vJ (λv hv=>(hT v hv).2) q2 p2
          rw[e] at hr;rw[<-p1,<-q1];exact hr
theorem xi {l:Addr}{vs:List Lg}{c:Nat}{f:Lg->List Int}{Q:Lg->Li->Prop}(hl:s.heap.IsList l vs.toArray)(hT:wa s.heap vs f c)(hc:0<c)(hz:vs.length<=sizeLine)
  (h:∀(D:Addr) (h':Heap) (n:Nat) (out:List Lg),s.heap.objs.size<=D->(∀b o,s.heap.get? b=some o->h'.get? b=some o)->h'.get? D=some (seqObj "list" out.toArray n)->out.Perm vs->out.Pairwise (λu v=>fQ (f v) (f u)=false)->Q (.ref D) { s with heap:=h' }) :
  wpAny (model prog w) A (call (.builtin "sorted") [.ref l]) Q E s:=by
 refine Calls.call_function_entry kind_sorted plain_sorted entry_sorted (args_sorted1 _) ?_;unfold Builtin.«sorted»;refine Lh (m:=checkCount "sorted" 1 1 _) (Lj ?_);refine Lh (collect_list hl ?_ hz);refine Lh (wpAny_newList ?_ hz);have hsz:((s.heap.push (seqObj "list" #[] 0)).update s.heap.objs.size (LU (·++vs.toArray))).objs.size=s.heap.objs.size+1:=by
  rw[Heap.size_update,size_push']
 have hoL:(((s.heap.push (seqObj "list" #[] 0)).update s.heap.objs.size (LU (·++vs.toArray))).push (seqObj "list" vs.toArray 0)).get? (s.heap.objs.size+1)=some (seqObj "list" vs.toArray 0):=by
  rw[<-hsz];exact LP _ rfl
 have keep:∀b o,s.heap.get? b=some o->(((s.heap.push (seqObj "list" #[] 0)).update s.heap.objs.size (LU (·++vs.toArray))).push (seqObj "list" vs.toArray 0)).get? b=some o:=λb o q=>by
  have hlt:b<s.heap.objs.size:=Lv q;rw[Heap.get?_push_ne _ _ _ (by rw[hsz];exact LF (Nat.lt_succ_of_lt hlt)),Heap.get?_update_ne _ _ _ _ (LF hlt),Heap.get?_push_ne _ _ _ (LF hlt)];exact q
 show wpAny _ _ _ _ _ { s with heap:=((s.heap.push (seqObj "list" #[] 0)).update s.heap.objs.size (LU (·++vs.toArray))).push (seqObj "list" vs.toArray 0) };rw[hsz];refine Lh (wpAny_holding (wpAny_call_entry slot_list_sort ⟨_,hoL,rfl⟩ entry_list_sort (qy hoL (hT.keep λb o hb _=>keep b o hb) hc hz λout p1 p2=>⟨_,rfl,?_⟩) (args_list_sort _)));obtain ⟨e1,ho1⟩ : ∃e1,(sortedHeap (((s.heap.push (seqObj "list" #[] 0)).update s.heap.objs.size (LU (·++vs.toArray))).push (seqObj "list" vs.toArray 0)) (s.heap.objs.size+1) vs out.toArray).get? (s.heap.objs.size+1)=some (seqObj "list" out.toArray e1):=by
  unfold sortedHeap;obtain ⟨e2,ho2⟩ : ∃e2,((((s.heap.push (seqObj "list" #[] 0)).update s.heap.objs.size (LU (·++vs.toArray))).push (seqObj "list" vs.toArray 0)).update (s.heap.objs.size+1) (LU λ_=>#[])).get? (s.heap.objs.size+1)=some (seqObj "list" #[] e2):=⟨_,get?_update_seq hoL (λ_=>#[])⟩
  exact ⟨_,get?_update_seq (Ln _ (Ln _ ho2)) _⟩
 exact Lj ⟨_,rfl,h _ _ e1 out (Nat.le_succ _) (λb o hb=>SoT.n6 (LF (Nat.lt_succ_of_lt (Lv hb))) (keep b o hb)) ho1 p1 p2⟩
end
end Tim
set_option maxHeartbeats 4000000
namespace Tim
open PySem PySem.W PySem.Calls PyProof.Rows
section
variable {prog:LH} {w:LR} {A:LQ} {E:Lg->Li->Prop} {s:Li}
noncomputable def BN (p:Keyed):Prop:=∃n t,p.1=Value.int n t
theorem Eg:fO prog w A E s BN (eI λp=>numOf p.1) oneType':=by
 intro x y st Q hx hy hk h;obtain ⟨x1,x2⟩:=x;obtain ⟨y1,y2⟩:=y;obtain ⟨n,t,hx⟩:=hx;obtain ⟨m,u,hy⟩:=hy;dsimp only at hx hy;subst hx hy;rw[lt'_eq];refine Lr (wpS_get ?_);rw[hk,keyLt'_oneType];refine Lr (wpS_lift (wpAny_attempt (oneLt_int ⟨rfl,?_⟩)));exact Lu h
theorem AD {xs:Array Keyed}(h:fY (eI λp=>numOf p.1) xs.toList):SortedTo xs xs.size:=λi j hij hj=>by
  by_cases e:i=j
  · subst e;exact Int.le_refl _
  · have hi : i < xs.size := by lia
    have:=pairwise_iff_getElem.mp h i j (by rw[Lw];exact hi) (by rw[Lw];exact hj) (by lia);unfold eI at this;rw[K_eq hi,K_eq hj];simp only[decide_eq_false_iff_not,Int.not_lt,Array.getElem_toList] at this;exact this
variable {a kS:Addr} {b:Bool} {vs:List Lg} {kz:List Int} {keys:Array Lg} {e e1:Nat} {P:PySem.Fin->Li->Prop}
noncomputable def Rest (h h':Heap)(a kS:Addr):Prop:=∀c o,c≠a->c≠kS->h.get? c=some o->h'.get? c=some o
theorem vb {st:Ly}(nk:s.heap.get? kS=some (seqObj "list" keys e))(na:s.heap.get? a=some (seqObj "list" #[] e1))(hka:kS≠a)
  (hk:IntsAre keys.toList kz) (hlen:kz.length=vs.length) (hz:vs.length<=sizeLine) (hp:(arrOf st).Perm (keys.zip vs.toArray)) (hs:SortedTo (arrOf st) (arrOf st).size) (hfl:failedOf st=none)
  (h:∀h' tk out c,Rest s.heap h' a kS->h'.get? a=some (seqObj "list" out c)->KskOut b kz vs out.toList->P (.done (.ret .none)) { s with heap:=h',toks:=tk }) :
  wpAny (model prog w) A (ksk_tail a b e1 (.ref kS) st) P E s:=by
 have hsz:keys.size=vs.length:=by
  have h1:=hk.length;rw[Lw] at h1;lia
 have hsz2:(arrOf st).size=vs.length:=by rw[hp.size_eq,Array.size_zip,hsz,LG,Nat.min_self]
 have hout:(if b then ((arrOf st).map (·.2)).reverse else (arrOf st).map (·.2)).size=vs.length:=by
  cases b with
  | false=>rw[if_neg (by decide),Array.size_map];exact hsz2
  | true=>rw[if_pos rfl,Array.size_reverse,Array.size_map];exact hsz2
 have s1:=Heap.SameBut.update s.heap kS (LU λ_=>(#[]:Array Lg));have na1:(s.heap.update kS (LU λ_=>(#[]:Array Lg))).get? a=some (seqObj "list" #[] e1):=(s1.2 a hka.symm).trans na;have s2:=Heap.SameBut.update (s.heap.update kS (LU λ_=>(#[]:Array Lg))) a (LU λ_=>if b then ((arrOf st).map (·.2)).reverse else (arrOf st).map (·.2));have put:∀out:Array Lg,∃c2,((s.heap.update kS (LU λ_=>(#[]:Array Lg))).update a (LU λ_=>out)).get? a=some (seqObj "list" out c2):=λout=>⟨_,get?_update_seq na1 λ_=>out⟩
 obtain ⟨c2,hc2⟩:=put (if b then ((arrOf st).map (·.2)).reverse else (arrOf st).map (·.2));unfold ksk_tail;dsimp only;refine Lh (listUpdate_at nk rfl ?_ (by rw[hsz];exact hz) (LS _));refine Lh (wpAny_letGo (Lh (seqEpoch_at na1 rfl ?_)));refine Lh (listUpdate_at na1 rfl ?_ (LS _) (Nat.le_succ_of_le (Nat.le_trans (Nat.le_of_eq hout) hz)));rw[hfl];simp only[bne_self_eq_false,LB,if_false];exact Lj (h _ _ _ c2 (λc o h1 h2 ec=>(s2.2 c h1).trans ((s1.2 c h2).trans ec)) hc2 (ksk_out hk hp hs))
theorem Ee (nk:s.heap.get? kS=some (seqObj "list" keys e))(na:s.heap.get? a=some (seqObj "list" #[] e1))(hka:kS≠a)(hk:IntsAre keys.toList kz)(hlen:kz.length=vs.length)(hz:vs.length<=sizeLine)
    (h:∀h' tk out c,Rest s.heap h' a kS->h'.get? a=some (seqObj "list" out c)->KskOut b kz vs out.toList->P (.done (.ret .none)) { s with heap:=h',toks:=tk }) :
    wpAny (model prog w) A (ksk_end a b vs.toArray e1 (.ref kS) keys) P E s:=by
  have hsz:keys.size=vs.length:=by
    have h1:=hk.length;rw[Lw] at h1;lia
  have hzs:(keys.zip vs.toArray).size=vs.length:=by rw[Array.size_zip,hsz,LG,Nat.min_self]
  have hstart:(if b=true then (keys.zip vs.toArray).reverse else keys.zip vs.toArray).Perm (keys.zip vs.toArray):=by
    cases b with
    | false=>exact Array.Perm.refl _
    | true=>exact Array.perm_iff_toList_perm.mpr (by rw[if_pos rfl,Array.toList_reverse];exact List.reverse_perm _)
  have main:wpAny (model prog w) A (do
      let kind <-if vs.toArray.size<2 then pure general' else keyKind' keys
      let ((),s) <-(if vs.toArray.size<2 then pure () else sortRuns').run (SortSt.mk' kind (if b then (keys.zip vs.toArray).reverse else keys.zip vs.toArray) #[] 7 none)
      ksk_tail a b e1 (.ref kS) s) P E s:=by
    by_cases h2:vs.toArray.size<2
    · rw[if_pos h2,if_pos h2];refine Lh (Lj ?_);dsimp only;rw[StateT.run_pure];refine Lh (Lj ?_);dsimp only;refine vb (st:=SortSt.mk' general' (if b=true then (keys.zip vs.toArray).reverse else keys.zip vs.toArray) #[] 7 none) nk na hka hk hlen hz hstart ?_ rfl h;intro i j hij hj;have hj2:j<(if b=true then (keys.zip vs.toArray).reverse else keys.zip vs.toArray).size:=hj;rw[hstart.size_eq,hzs] at hj2;rw[LG] at h2;have:i=j:=by lia
      subst this;exact Int.le_refl _
    · rw[if_neg h2,if_neg h2];rw[LG] at h2;rw[ksk_kind hk (by rw[hsz];lia)];refine Lh (Lj ?_);refine Lh (wpAny_mono (mI (xs:=if b=true then (keys.zip vs.toArray).reverse else keys.zip vs.toArray) Eg (λp hp=>?_) (st:=SortSt.mk' oneType' (if b=true then (keys.zip vs.toArray).reverse else keys.zip vs.toArray) #[] 7 none)
        (Q:=λ_ st'=>(arrOf st').Perm (keys.zip vs.toArray)/\failedOf st'=none/\SortedTo (arrOf st') (arrOf st').size) rfl rfl rfl rfl λst' a1 a2 a3=>⟨a1.trans hstart,a2,AD a3⟩) ?_ λ_ _ z=>z)
      · exact ksk_intKeys hk p ((Array.perm_iff_toList_perm.mp hstart).mem_iff.mp hp)
      · rintro ⟨⟨⟩,st'⟩ s' ⟨rfl,hp,hf,hs⟩;dsimp only at hp hf hs ⊢;exact vb nk na hka hk hlen hz hp hs hf h
  unfold ksk_end;dsimp only;cases b with
  | false=>exact main
  | true=>exact Lh (wpAny_rule main)
noncomputable def Keeps (h h':Heap):Prop:=∀c o,h.get? c=some o->h'.get? c=some o
theorem B5 {f:Lg}{h₀:Heap}(K0:Keeps h₀ s.heap)(fa:h₀.get? a=none)(fk:h₀.get? kS=none)(nk:s.heap.get? kS=some (seqObj "list" #[] 0))(na:s.heap.get? a=some (seqObj "list" #[] e1))(hka:kS≠a)(hlen:kz.length=vs.length)(hz:vs.length<=sizeLine)
  (turn:∀(i:Nat) (v:Lg) (k:Int),vs[i]?=some v->kz[i]?=some k->∀(h:Heap) (tk:Nat),Keeps h₀ h->∀Q:Lg->Li->Prop,(∀h' tk' t',Keeps h h'->Q (.int k t') { s with heap:=h',toks:=tk' }) ->
   wpAny (model prog w) A (call f [v]) Q (λ_ _=>False) { s with heap:=h,toks:=tk })
  (h:∀h' tk out c,Keeps h₀ h'->h'.get? a=some (seqObj "list" out c)->KskOut b kz vs out.toList->P (.done (.ret .none)) { s with heap:=h',toks:=tk }) :
  wpAny (model prog w) A (ksk_rest a f b vs.toArray e1 (.ref kS)) P E s:=by
 unfold ksk_rest;refine Lh (wpAny_rule ?_);rw[List.forIn_toArray];refine Lh (ksk_fold (λi s'=>∃h' tk kA e,s' = { s with heap:=h',toks:=tk }/\Keeps h₀ h'/\h'.get? kS=some (seqObj "list" kA e)/\h'.get? a=some (seqObj "list" #[] e1)/\IntsAre kA.toList (kz.take i)) vs 0 s
  ⟨s.heap,s.toks,#[],0,rfl,K0,nk,na,by simpa using IntsAre.nil⟩ ?step ?done)
 case step =>
  rintro j x s' hx ⟨h',tk,kA,e,rfl,K',nk',na',hk⟩;simp only[Nat.zero_add] at hk ⊢;have hj:j<vs.length:=(Lp.mp hx).1;obtain ⟨k,hkj⟩ : ∃k,kz[j]?=some k:=⟨_,Lm (by lia)⟩
  have hzz:kA.size<=j:=by
   have h1:=hk.length;rw[Lw,length_take] at h1;lia
  refine Lh (wpAny_attempt (wpAny_mono (turn j x k hx hkj h' tk K' _ λg tk2 t2 kg=>?_) (λv s'' he=>he) λ_ _ hF=>hF.elim));dsimp only;have nk2:=kg _ _ nk';have na2:=kg _ _ na';have s1:=Heap.SameBut.update g kS (LU (·.push (.int k t2)));obtain ⟨c2,hc2⟩ : ∃c2,(g.update kS (LU (·.push (.int k t2)))).get? kS=some (seqObj "list" (kA.push (.int k t2)) c2):=⟨_,get?_update_seq nk2 (·.push (.int k t2))⟩
  have ek:kz.take (j+1)=kz.take j++[k]:=by rw[List.take_add_one,hkj];simp
  have ea:(kA.push (Value.int k t2)).toList=kA.toList++[Value.int k t2]:=by simp
  refine Lh (listUpdate_at nk2 rfl ?_ (by lia) (Nat.le_trans (Nat.le_of_eq (Array.size_push ..)) (by lia)));refine Lj ⟨rfl,_,_,kA.push (.int k t2),c2,rfl,λc o ec=>?_,hc2,(s1.2 a hka.symm).trans na2,by rw[ea,ek];exact ksk_snoc hk⟩;have hc:c≠kS:=λz=>by rw[z,fk] at ec;cases ec
  exact (s1.2 c hc).trans (kg _ _ (K' _ _ ec))
 case done =>
  rintro s' ⟨h',tk,kA,e,rfl,K',nk',na',hk⟩;have hk':IntsAre kA.toList kz:=by
   have e3:kz.take (0+vs.length)=kz:=take_of_length_le (by lia);rw[e3] at hk;exact hk
  refine Lh (listItems_at nk' rfl ?_);refine Ee (s:={ s with heap:=h',toks:=tk }) nk' na' hka hk' hlen hz λh3 tk3 out c R3 n3 k3=>h h3 tk3 out c (λc o ec=>R3 c o (λz=>by rw[z,fa] at ec;cases ec) (λz=>by rw[z,fk] at ec;cases ec) (K' _ _ ec)) n3 k3
theorem B6 {f:Lg}{n:Nat}{h₀:Heap}(K0:Keeps h₀ s.heap)(fa:h₀.get? a=none)(hle:h₀.objs.size<=s.heap.objs.size)(ho:s.heap.get? a=some (seqObj "list" vs.toArray n))(hlen:kz.length=vs.length)(hz:vs.length<=sizeLine)
  (turn:∀(i:Nat) (v:Lg) (k:Int),vs[i]?=some v->kz[i]?=some k->∀(h:Heap) (tk:Nat),Keeps h₀ h->∀Q:Lg->Li->Prop,(∀h' tk' t',Keeps h h'->Q (.int k t') { s with heap:=h',toks:=tk' }) ->
   wpAny (model prog w) A (call f [v]) Q (λ_ _=>False) { s with heap:=h,toks:=tk })
  (h:∀h' tk out c,Keeps h₀ h'->h'.get? a=some (seqObj "list" out c)->KskOut b kz vs out.toList->P (.done (.ret .none)) { s with heap:=h',toks:=tk }) :
  wpAny (model prog w) A (ksk_tree a f b) P E s:=by
 have ha:a<s.heap.objs.size:=Lv ho;have s1:=Heap.SameBut.update s.heap a (LU λ_=>(#[]:Array Lg));obtain ⟨e1,ho1⟩ : ∃e1,(s.heap.update a (LU λ_=>(#[]:Array Lg))).get? a=some (seqObj "list" #[] e1):=⟨_,get?_update_seq ho λ_=>#[]⟩
 have hkS:((s.heap.update a (LU λ_=>(#[]:Array Lg))).push (seqObj "tuple" vs.toArray 0)).objs.size=s.heap.objs.size+1:=by rw[size_push',Heap.size_update]
 unfold ksk_tree;refine Lh (listItems_at ho rfl ?_);refine Lh (listUpdate_at ho rfl ?_ (by rw[LG];exact hz) (LS _));refine Lh (seqEpoch_at ho1 rfl ?_);refine Lh (wpAny_newTuple ?_ (by simpa using hz));refine Lh (wpAny_newList ?_ (LS _));refine wpAny_holding ?_;refine B5 (s:={ s with heap:=((s.heap.update a (LU λ_=>(#[]:Array Lg))).push (seqObj "tuple" vs.toArray 0)).push (seqObj "list" #[] 0) }) (kS:=((s.heap.update a (LU λ_=>(#[]:Array Lg))).push (seqObj "tuple" vs.toArray 0)).objs.size)
  (λc o ec=>Ln _ (Ln _ ((s1.2 c λz=>by rw[z,fa] at ec;cases ec).trans (K0 _ _ ec)))) fa (Heap.get?_none_of_le (by rw[hkS];lia)) (LP _ rfl) (Ln _ (Ln _ ho1)) (by rw[hkS];exact Nat.ne_of_gt (Nat.lt_succ_of_lt ha)) hlen hz turn h
theorem wO {l:Addr}{f:Lg}{kw:List (Str×Lg)}{Q:Lg->Li->Prop}(hl:s.heap.IsList l vs.toArray)(hlen:kz.length=vs.length)(hz:vs.length<=sizeLine)
  (ha1:argsOk "sorted" ⟨[.ref l],kw⟩) (ha2:∀x,argsOk "list.sort" ⟨[.ref x],kw⟩) (ht:∀x,Builtin.«list.sort» ⟨[.ref x],kw⟩=ksk_tree x f b)
  (turn:∀(i:Nat) (v:Lg) (k:Int),vs[i]?=some v->kz[i]?=some k->∀(h:Heap) (tk:Nat),Keeps s.heap h->∀Q:Lg->Li->Prop,(∀h' tk' t',Keeps h h'->Q (.int k t') { s with heap:=h',toks:=tk' }) ->
   wpAny (model prog w) A.in1.in1 (call f [v]) Q (λ_ _=>False) { s with heap:=h,toks:=tk })
  (h:∀D h' tk out c,Keeps s.heap h'->s.heap.objs.size<=D->h'.get? D=some (seqObj "list" out c)->KskOut b kz vs out.toList->Q (.ref D) { s with heap:=h',toks:=tk }) :
  wpAny (model prog w) A (call (.builtin "sorted") [.ref l] kw) Q E s:=by
 refine call_function_entry_kw kind_sorted plain_sorted entry_sorted ha1 ?_;unfold Builtin.«sorted»;refine Lh (m:=checkCount "sorted" 1 1 _) (Lj ?_);refine Lh (collect_list hl ?_ hz);refine Lh (wpAny_newList ?_ hz);have hsz:((s.heap.push (seqObj "list" #[] 0)).update s.heap.objs.size (LU (·++vs.toArray))).objs.size=s.heap.objs.size+1:=by
  rw[Heap.size_update,size_push']
 have hoL:(((s.heap.push (seqObj "list" #[] 0)).update s.heap.objs.size (LU (·++vs.toArray))).push (seqObj "list" vs.toArray 0)).get? (s.heap.objs.size+1)=some (seqObj "list" vs.toArray 0):=by
  rw[<-hsz];exact LP _ rfl
 have keep:Keeps s.heap (((s.heap.push (seqObj "list" #[] 0)).update s.heap.objs.size (LU (·++vs.toArray))).push (seqObj "list" vs.toArray 0)):=λb o q=>by
  have hlt:b<s.heap.objs.size:=Lv q;rw[Heap.get?_push_ne _ _ _ (by rw[hsz];exact LF (Nat.lt_succ_of_lt hlt)),Heap.get?_update_ne _ _ _ _ (LF hlt),Heap.get?_push_ne _ _ _ (LF hlt)];exact q
 show wpAny _ _ _ _ _ { s with heap:=((s.heap.push (seqObj "list" #[] 0)).update s.heap.objs.size (LU (·++vs.toArray))).push (seqObj "list" vs.toArray 0) };rw[hsz];refine Lh (wpAny_holding (wpAny_call_entry_kw slot_list_sort ⟨_,hoL,rfl⟩ entry_list_sort ?body (ha2 _)))
 case body =>
  have ht':=ht (s.heap.objs.size+1);show wpAny (model prog w) A.in1.in1 (Builtin.«list.sort» ⟨[.ref (s.heap.objs.size+1)],kw⟩) _ _ _;rw[ht'];refine B6 (h₀:=s.heap) (s:={ s with heap:=((s.heap.push (seqObj "list" #[] 0)).update s.heap.objs.size (LU (·++vs.toArray))).push (seqObj "list" vs.toArray 0) })
   keep (Heap.get?_none_of_le (Nat.le_succ _)) (by rw[size_push',hsz];lia) hoL hlen hz turn λh' tk out c K' n' k'=>⟨_,rfl,?_⟩
  exact Lj ⟨_,rfl,h _ h' tk out c K' (Nat.le_succ _) n' k'⟩
end
end Tim
set_option maxHeartbeats 1000000
namespace L2
open PySem PySem.Spec PyProof.Rows PySem.W
section
variable {X:Cx} {pins:List (Addr×Obj)} {σ:St} {H:Hp} {s:Li} {A:LQ} {E:Lg->Li->Prop} {Q:Lg->Li->Prop}
theorem zZ {f c' ta:Addr}{nm q x:Str}{params:Arguments}{scope:Scope}{pm ctv:Lg}{ys:List V}{j k:Int}{kk:Nat}{p1 p4 p5:Pos}
  (I:Inv X pins σ H s) (ho:s.heap.get? f=some (kla_obj nm q params (.Subscript (.Name x p1) (.Constant (.int j) kk p4) p5) scope [] pm c' ctv)) (hcd:s.heap.CodeRec (.ref c') q)
  (ht:i7 X.K H ta ys) (hy:jk ys j=some (.int k))
  (hbind:∀v,bindArgs (kla_fn nm q params (.Subscript (.Name x p1) (.Constant (.int j) kk p4) p5) scope [] pm (.ref c') ctv) ⟨[v],[]⟩=pure [(x,v)])
  (hk:scope.kind=.function) (hco:scope.isCoroutine=false) (hgen:scope.isGenerator=false) (hcell:∀z∈scope.names,z.2≠.cell) (hlx:scope.names.lookup x=some .local)
  (hdx:(x == ("__debug__" : Str))=false) (room:A.depth<recursionLimit)
  (h:∀h' tk t',(∀b o,s.heap.get? b=some o->h'.get? b=some o)->Q (.int k t') { s with heap:=h',toks:=tk }) :
  wpAny (model X.prog X.w) A (call (.ref f) [.ref ta]) Q E s:=by
 obtain ⟨us,r',pt,hz'⟩:=I.tuple ht;obtain ⟨j',g1,g2,g3,g4,g5⟩:=oj hy;obtain ⟨w2,ew2,rw2⟩:=r'.get g2;obtain ⟨t2,rfl⟩:=rw2;have hl':=r'.length;have hn:=lj;refine wpAny_call (kla_callFunE room ho rfl hco hgen rfl hcd ?_);rw[hbind];refine Lj (wpAny_newFunctionEnv hcell (λz hz=>by cases mem_singleton.mp hz;exact hlx) (λh₁ hns hsb=>⟨I.nolimit.fresh _ hsb,?_⟩) hk);have keep:∀b o,s.heap.get? b=some o->h₁.get? b=some o:=λb o e=>hsb.extBut b o (LF (Lv e)) (Ln _ e);refine kla_codeExpr ?_;refine Subscript_ (wpAny_Name (wpAny_loadName_local (v:=.ref ta) hk hlx hns (by simp[List.lookup]) ?_) hdx);refine wpAny_Constant_int ?_;have pt1:IsTup h₁ ta us.toArray:=by
  obtain ⟨o,e,d⟩:=pt;exact ⟨o,keep _ _ e,d⟩
 refine subscriptTail_builtinR (x:=.int k t2) pt1.typeIs slot_tuple_getitem.lookup
  (getItem_tuple (j:=j') pt1 (by lia) (by lia) (by rw[LG,<-hl'];exact g1) (by simpa using ew2) ⟨rfl,?_⟩) (by with_unfolding_all rfl)
 exact h _ _ _ keep
end
section
variable {X:Cx}
noncomputable def CC:List V->Hp->VK->Prop:=λxs H Q=>∃(a:Addr) (ps:List ((Int×Int)×Int)),xs = [.ref a]/\Rd H a (.dT (DL.encD ps)) /\
 ∀(l:Addr) (bs:List Addr),H l=none->Paired (λb p=>H b=some (.tup [.int p.1.1,.int p.1.2])) bs ps->Q (.ref l) (upd H l (.lst (bs.map V.ref)))
theorem kB:∀bs:List Addr,Vals (bs.map V.ref) (bs.map Value.ref)
 | []=>.nil
 | b::bs=>.cons rfl (kB bs)
theorem wg (hc:X.calm=true):fK X (.type "list") CC:=by
  intro pins s σ H xs us Q I r h;obtain ⟨a,ps,rfl,e,q⟩:=h;obtain ⟨u,rfl,ru⟩:=vals1 r;cases ru;obtain ⟨z,hd,xs,rel,o,es,ep,h1,h2,h3,h4,_⟩:=nH I.bC e;obtain ⟨bs,hb,hk⟩:=o7 (P:=X.prog) (w:=X.w) rel;rw[<-h4] at hk;have hl:bs.length=ps.length:=Paired.length hb;have hsz:es.size=ps.length:=by
    have:=congrArg List.length hk;simp at this;lia
  have hz:es.size<=sizeLine:=by
    rw[hsz];have:(DL.encD ps).length=ps.length:=by unfold DL.encD;rw[Lk]
    lia
  refine kdl_call (DIt.src (ep:=ep) hd) (I.ok.hd hc) ⟨o,h1,h2,h3⟩ hz λh' tk acc' c' k' hD hacc=>?_;have ea:acc'.toList=bs.map Value.ref:=by
    rw[<-hk];refine List.ext_getElem? λj=>?_;rw[LC];by_cases hj:j<es.size
    · have h1 : acc'[j]? = some (acc'[j]'(by rw [hacc.1];exact hj)) := Lq _;obtain ⟨en,e1,e2⟩:=hacc.2 j _ h1;rw[Lo,Lo,h1,e1,e2];rfl
    · rw [Lo, Lo, Array.getElem?_eq_none (by rw [hacc.1];lia), Array.getElem?_eq_none (by lia)];rfl
  refine ⟨.ref _,_,I.laid (t':=tk) k' (Ll _) (o:=.lst (bs.map V.ref)) ⟨by rw[Lk];lia,bs.map Value.ref,c',kB bs,?_⟩,rfl,q _ bs (I.bC.fresh (Ll _)) hb⟩;rw[<-ea,Array.toArray_toList];exact hD
theorem jP {α β:Type}{g:α->β}:∀{l1 l2:List β},l1.Perm l2->∀zs:List α,l2=zs.map g->∃zs':List α,zs'.Perm zs/\l1=zs'.map g:=by
 intro l1 l2 h;induction h with
 | nil =>
  intro zs e;exact ⟨[],by rw[List.map_eq_nil_iff.mp e.symm],rfl⟩
 | cons x _ ih =>
  intro zs e;cases zs with
  | nil=>cases e
  | cons z zs =>
   rw[LK] at e;obtain ⟨e1,e2⟩:=List.cons.inj e;obtain ⟨zs',p,r⟩:=ih zs e2;exact ⟨z::zs',p.cons z,by rw[r,e1];rfl⟩
 | swap x y l =>
  intro zs e;match zs,e with
  | z::z'::zs,e =>
   rw[LK,LK] at e;obtain ⟨e1,e2⟩:=List.cons.inj e;obtain ⟨e3,e4⟩:=List.cons.inj e2;exact ⟨z'::z::zs,.swap _ _ _,by rw[e1,e3,e4];rfl⟩
 | trans _ _ ih1 ih2 =>
  intro zs e;obtain ⟨zs2,p2,r2⟩:=ih2 zs e;obtain ⟨zs1,p1,r1⟩:=ih1 zs2 r2;exact ⟨zs1,p1.trans p2,r1⟩
theorem gQ {α β:Type}{R R':α->β->Prop}(f:∀a b,R a b->R' a b):∀{xs:List α} {ys:List β},Paired R xs ys->Paired R' xs ys
 | _,_,.nil=>.nil
 | _,_,.cons h t=>.cons (f _ _ h) (gQ f t)
theorem iJ {α β:Type}{R:α->β->Prop}:∀{xs:List α} {ys:List β},Paired R xs ys->∀{z:α×β},z∈xs.zip ys->R z.1 z.2
 | _,_,.nil,_,h=>nomatch h
 | _,_,.cons h t,z,hz=>by
  rw[List.zip_cons_cons] at hz;rcases Lz.mp hz with e | e
  .subst e;exact h
  .exact iJ t e
theorem kQ {α β:Type}{R:α->β->Prop}:∀{zs:List (α×β)},(∀z∈zs,R z.1 z.2)->Paired R (zs.map Prod.fst) (zs.map Prod.snd)
 | [],_=>.nil
 | z::zs,h=>.cons (h z (mem_cons_self ..)) (kQ λy hy=>h y (LO _ hy))
noncomputable def zg (ps:List ((Int×Int)×Int)):Prop:=ps.Pairwise λp q=>q.1.2<=p.1.2
noncomputable def KQ (t:TA):TA:=Fl (JB CC t) Jg
noncomputable def Hc (t:TA):TE:=λσ H Q=>KQ t σ H λus H2=>∃(l0:Addr) (bs:List Addr) (ps:List ((Int×Int)×Int)),us = [.ref l0]/\H2 l0=some (.lst (bs.map V.ref))/\Paired (λb p=>H2 b=some (.tup [.int p.1.1,.int p.1.2])) bs ps /\
 ∀(l:Addr) (bs':List Addr) (ps':List ((Int×Int)×Int)) (H3:Hp),ao H2 H3->H3 l=none->ps'.Perm ps->zg ps'->Paired (λb p=>H3 b=some (.tup [.int p.1.1,.int p.1.2])) bs' ps'->Q (.ref l) (upd H3 l (.lst (bs'.map V.ref)))
theorem Co {P c:Addr}{x:Str}{params:Arguments}{scope:Scope}{e:Expr}{lpos kpos kpos2 cpos p pl posl pos p1 p4 p5:Pos}{kk jc:Nat}{t:TA}
    (hg:Gl X "sorted") (hm:X.mg "sorted" = none) (hgl:Gl X "list") (hml:X.mg "list" = none) (hc:X.calm=true) (room:cN 0 X.A)
    (hcode:X.env.code=.ref c) (C:CodeHd X.base c P) (B:bM X.mg X.base) (hT:TabAt X.H₀ P (X.env.qual++"<lambda>"))
    (hcl:closureFor scope X.env=pure []) (hdef:defaultsOf params X.env=([],[]))
    (hbind:∀q pm c' ctv v,bindArgs (kla_fn "<lambda>" q params (.Subscript (.Name x p1) (.Constant (.int 1) kk p4) p5) scope [] pm (.ref c') ctv) ⟨[v],[]⟩=pure [(x,v)])
    (hk:scope.kind=.function) (hco:scope.isCoroutine=false) (hgen:scope.isGenerator=false) (hcell:∀z∈scope.names,z.2≠.cell) (hlx:scope.names.lookup x=some .local)
    (hdx:(x == ("__debug__" : Str))=false)
    (ha:PA X [e] t) (he0:autoParam (starEach [e] X.env = [(false,eval e X.env)]) aZa._auto_1)
    (he:autoParam (starEach [.Call (.Name "list" pl) [e] [] posl] X.env = [(false,eval (.Call (.Name "list" pl) [e] [] posl) X.env)]) aZa._auto_1) :
    PE X (.Call (.Name "sorted" p) [.Call (.Name "list" pl) [e] [] posl] [⟨some "key",.Lambda params (.Subscript (.Name x p1) (.Constant (.int 1) kk p4) p5) scope lpos,kpos⟩,⟨some "reverse",.Constant (.bool true) jc cpos,kpos2⟩] pos) (Hc t):=by
  intro pins s σ H Q I h;have hpa:PA X [.Call (.Name "list" pl) [e] [] posl] (KQ t):=fu (Ak (wg hc) hgl hml boot_list ha (he:=by rw[he0];rfl) (hpl:=rfl)) iI (by rw[he];rfl);refine wpAny_Call_Name_kw (iG I hg hm (show bootBuiltins "sorted" = some (.builtin "sorted") by first | rfl | decide) ?_ (by decide) (by decide));refine callWith_kw (cj (hpa pos pins s σ H _ I h) ?_) (by rw[he];rfl) (by rw[he];rfl) rfl rfl;rintro us s1 ⟨vs,H1,I1,r1,q1⟩;obtain ⟨l0,bs,ps,rfl,hl0,hbs,fin⟩:=q1;obtain ⟨u,rfl,rx⟩:=vals1 r1;cases rx;show wpAny _ _ (evalAll [(do let v <-eval (.Lambda params (.Subscript (.Name x p1) (.Constant (.int 1) kk p4) p5) scope lpos) X.env;standAt pos;pure v),(do let v <-eval (.Constant (.bool true) jc cpos) X.env;standAt pos;pure v)]) _ _ s1;refine wpAny_evalAll_cons (Lh (BU I1 hcode C B hT hcl hdef λf c' ctv pm h3 tk3 H3 I3 hH3 ho hfn hge hrec=>Lh (wpAny_standAt (Lj (wpAny_evalAll_cons (Lh (wpAny_Constant_bool (Lh (wpAny_standAt (Lj (wpAny_evalAll_nil ?_)))))))))));show wpAny _ _ (call (.builtin "sorted") [.ref l0] [(Str.ofString "key",.ref f),(Str.ofString "reverse",.bool true)]) _ _ _;have s13:ao H1 H3:=by
    rcases hH3 with z | ⟨z,z'⟩
    · rw[z];exact ao.refl _
    · rw[z'];exact eZ z
  have hbs3:Paired (λb p=>H3 b=some (.tup [.int p.1.1,.int p.1.2])) bs ps:=gQ (λ_ _ z=>s13 _ _ z) hbs;have hl:bs.length=ps.length:=Paired.length hbs;obtain ⟨hz,its,n0,rv,hit⟩:=(show cM X.prog X.w H3 h3 l0 (.lst (bs.map V.ref)) from I3.bC l0 _ (s13 _ _ hl0))
  have eits:its=bs.map Value.ref:=by
    clear hz hit hbs hbs3 hl hl0 fin;induction bs generalizing its with
    | nil=>cases rv;rfl
    | cons b bs ih =>
      cases rv with
      | cons h1 h2 =>
        cases h1;rw[ih _ h2];rfl
  subst eits;rw[Lk] at hz;refine Tim.wO (b:=true) (kz:=ps.map λp=>p.1.2) (vs:=bs.map Value.ref) ⟨_,hit,rfl,_,rfl⟩ (by rw[Lk,Lk,hl]) (by rw[Lk];exact hz) (ksk_s2 _ _ _) (λx=>ksk_l2 _ _ _) (λx=>ksk_t2 _ x true)
    (λi' v k hv hk' h4 tk4 K4 Q4 q4=>?_) λD h5 fy out c5 K5 hD hDo ko=>?_
  · rw[LC] at hv hk';obtain ⟨p,hp,rfl⟩:=Option.map_eq_some_iff.mp hk';obtain ⟨b,eb,hb'⟩:=DL.bE hbs3 hp;rw[eb] at hv;cases hv;have I4:Inv X pins σ H3 { s1 with heap:=h4,toks:=tk4 }:=I3.kept (t':=tk4) K4;have hrec4:h4.CodeRec (.ref c') (X.env.qual++"<lambda>"):=by
      obtain ⟨c2,o2,vs2,t2,e2,gg,r2,r3⟩:=hrec;cases e2;exact ⟨c',o2,vs2,t2,rfl,K4 _ _ gg,r2,r3⟩
    refine zZ (j:=1) (ys:=[.int p.1.1,.int p.1.2]) I4 (K4 f _ ho) hrec4 (.inl (.inl hb')) rfl (hbind _ _ _ _) hk hco hgen hcell hlx hdx ?_ λh' tk t' keep=>q4 h' tk t' keep;have:=room.dp;show X.A.depth<_;lia
  · obtain ⟨qs,hqp,hqo,hqs⟩:=ko;have ezip:(ps.map λp=>p.1.2).zip (bs.map Value.ref)=(bs.zip ps).map λz=>(z.2.1.2,Value.ref z.1):=by
      clear hz hit hbs hbs3 hl0 fin hqp rv;induction bs generalizing ps with
      | nil=>cases ps<;>rfl
      | cons b bs ih =>
        cases ps with
        | nil=>rfl
        | cons p ps =>
          rw[LK,LK,List.zip_cons_cons,List.zip_cons_cons,LK,ih ps (by simpa using hl)]
    rw[ezip] at hqp;obtain ⟨zs,hzp,rfl⟩:=jP hqp _ rfl;have eo:out.toList=(zs.map Prod.fst).map Value.ref:=by rw[hqo,map_map,map_map];rfl
    have zlen:zs.length=bs.length:=by rw[hzp.length_eq,List.length_zip];lia
    refine ⟨.ref D,_,I3.laid (s:={ s1 with heap:=h3,toks:=tk3 }) (t':=fy) K5 hD (o:=.lst ((zs.map Prod.fst).map V.ref)) ⟨by rw[Lk,Lk];lia,(zs.map Prod.fst).map Value.ref,c5,kB _,?_⟩,rfl,fin D (zs.map Prod.fst) (zs.map Prod.snd) H3 s13 (I3.bC.fresh hD) ?_ ?_ ?_⟩
    · rw[<-eo,Array.toArray_toList];exact hDo
    · have:=hzp.map Prod.snd;rw[List.map_snd_zip (by lia)] at this;exact this
    · unfold zg;rw[pairwise_map] at hqs ⊢;exact hqs.imp λ{p q} z=>z
    · exact kQ λz hz=>iJ hbs3 (hzp.mem_iff.mp hz)
end
end L2
set_option maxHeartbeats 1000000
namespace L2
open PySem PySem.Spec PyProof.Rows
section
variable {X:Cx}
noncomputable def oF (h:Heap):Lg->List Int
 | .ref a=>match h.get? a with
  | some o=>match o.data with
   | .seq xs _=>xs.toList.map numOf
   | _=>[]
  | none=>[]
 | _=>[]
theorem EH {h:Heap}{v:Lg}{ns:List Int}(t:SoT.Tp h v ns):oF h v=ns:=by
 obtain ⟨a,o,xs,n,rfl,h1,h2,h3,h4⟩:=t;unfold oF;dsimp only;rw[h1];dsimp only;rw[h3];exact h4.nums
noncomputable def GO (K:Frag):List V->Hp->VK->Prop:=λxs H Q=>∃(a:Addr) (bs:List Addr) (nss:List (List Int)) (c:Nat),xs = [.ref a]/\dA K H a (bs.map V.ref)/\Paired (λb ns=>i7 K H b (ns.map V.int)) bs nss/\0<c/\(∀ns∈nss,ns.length=c) /\
 ∀(l:Addr) (zs:List (Addr×List Int)),H l=none->zs.Perm (bs.zip nss)->zs.Pairwise (λp q=>Tim.fQ q.2 p.2=false)->Q (.ref l) (upd H l (.lst ((zs.map Prod.fst).map V.ref)))
theorem yY:∀{bs:List Addr} {its:List Lg},Vals (bs.map V.ref) its->its=bs.map Value.ref
 | [],_,h=>by cases h;rfl
 | b::bs,_,h=>by
  cases h with
  | cons h1 h2 =>
   cases h1;rw[yY h2];rfl
theorem wj:fK X (.builtin "sorted") (GO X.K):=by
 intro pins s σ H xs us Q I r h;obtain ⟨a,bs,nss,c,rfl,hs,hb,hc,hl,q⟩:=h;obtain ⟨u,rfl,ru⟩:=vals1 r;cases ru;obtain ⟨its,rv,pl,hz⟩:=I.list hs;rw[Lk] at hz;cases yY rv;have hlen:bs.length=nss.length:=Paired.length hb;have tp:∀z∈bs.zip nss,SoT.Tp s.heap (.ref z.1) z.2:=λz hz'=>by
  obtain ⟨us,rr,⟨o,e1,e2,m,e3⟩,_⟩:=I.tuple (iJ hb hz');exact ⟨z.1,o,us.toArray,m,rfl,e1,e2,e3,by simpa using intsAre_of rr⟩
 have tz:∀z∈bs.zip nss,oF s.heap (.ref z.1)=z.2:=λz hz'=>EH (tp z hz');have ebs:bs.map Value.ref=(bs.zip nss).map λz=>Value.ref z.1:=by
  have:(bs.zip nss).map Prod.fst=bs:=List.map_fst_zip (by lia);conv=>lhs;rw[<-this]
  rw[map_map];rfl
 refine Tim.xi (f:=oF s.heap) (c:=c) pl.isList (λv hv=>?_) hc (by rw[Lk];exact hz) λD h' n out hD k' hDo hp ho=>?_
 .rw[ebs] at hv;obtain ⟨z,hz',rfl⟩:=Lx.mp hv;have:=tp z hz';rw[tz z hz'];exact ⟨this,hl _ (List.of_mem_zip hz').2⟩
 .rw[ebs] at hp;obtain ⟨zs,hzp,rfl⟩:=jP hp _ rfl;have em:zs.map (λz=>Value.ref z.1)=(zs.map Prod.fst).map Value.ref:=by rw[map_map];rfl
  rw[em] at hDo;have zlen:zs.length=bs.length:=by rw[hzp.length_eq,List.length_zip];lia
  refine ⟨.ref D,_,I.laid (t':=s.toks) k' hD (o:=.lst ((zs.map Prod.fst).map V.ref)) ⟨by rw[Lk,Lk];lia,(zs.map Prod.fst).map Value.ref,n,kB _,hDo⟩,rfl,q D zs (I.bC.fresh hD) hzp ?_⟩;rw[pairwise_map] at ho;refine List.Pairwise.imp_of_mem (λ{p q} h1 h2 z=>?_) ho;rw[tz p (hzp.mem_iff.mp h1),tz q (hzp.mem_iff.mp h2)] at z;exact z
end
end L2
namespace DL
open PySem L2 PyProof.Rows PySem.W
noncomputable def AJ (ns:List Int):D:=.tup (ns.map D.int)
noncomputable def AX (mss:List (List Int)):Prop:=mss.Pairwise λa b=>Tim.fQ b a=false
noncomputable def sF:DR:=λds P=>match ds with
 | [.lst xs]=>∃(nss:List (List Int)) (c:Nat),xs=nss.map AJ/\0<c/\(∀ns∈nss,ns.length=c)/\∀mss:List (List Int),mss.Perm nss->AX mss->P (.o (.lst (mss.map AJ)))
 | _=>False
theorem rS {K:Frag}{G:Hp}:∀{us:List V} {nss:List (List Int)},aY K G us (nss.map AJ)->∃bs:List Addr,us=bs.map V.ref/\Paired (λb ns=>G b=some (.tup (ns.map V.int))) bs nss
 | _,[],h=>by
  have h:aY K G _ []:=h;cases h;exact ⟨[],rfl,.nil⟩
 | _,ns::nss,h=>by
  have h:aY K G _ (AJ ns::nss.map AJ):=h;cases h with
  | cons h1 h2 =>
   obtain ⟨bs,rfl,hb⟩:=rS h2;obtain ⟨b,vs,rfl,e,rr⟩:=Rep.ud h1;rw[ff rr] at e;exact ⟨b::bs,rfl,.cons e hb⟩
theorem A3 {X:Cx}:CallD X (.builtin "sorted") sF:=by
 refine ⟨_,wj,λH G vs ds P Q s r h k=>?_⟩;unfold sF at h;split at h
 .obtain ⟨nss,c,rfl,hc,hl,h⟩:=h;obtain ⟨v,rfl,rv⟩:=gw r;obtain ⟨a,us,rfl,e,rr⟩:=rv.lst_inv;obtain ⟨bs,rfl,hb⟩:=rS rr;refine ⟨a,bs,nss,c,rfl,dA.of (s _ _ e),gQ (λb ns z=>.inl (.inl (s _ _ z))) hb,hc,hl,λl zs hl' hp ho=>?_⟩;have hlen:bs.length=nss.length:=Paired.length hb;have hp2:(zs.map Prod.snd).Perm nss:=by
   have:=hp.map Prod.snd;rw[List.map_snd_zip (by lia)] at this;exact this
  have hr:aY X.K G ((zs.map Prod.fst).map V.ref) ((zs.map Prod.snd).map AJ):=by
   have:∀z∈zs,G z.1=some (.tup (z.2.map V.int)):=λz hz=>iJ hb (hp.mem_iff.mp hz);clear hp ho hp2;induction zs with
   | nil=>exact .nil
   | cons z zs ih=>exact .cons (Rep.uc (this z (mem_cons_self ..)) (ic z.2)) (ih λy hy=>this y (LO _ hy))
  obtain ⟨w2,r2⟩:=gP (Wd.refl s) hl' hr;exact k _ _ _ _ (h _ hp2 (by unfold AX;rw[pairwise_map];exact ho)) w2 r2
 .exact h.elim
section
variable {X:Cx} {e:Expr}
noncomputable def wq (t:fq):DT:=λρ Q=>t ρ λds=>match ds with
 | [.dct kvs]=>∀ps:cn,ps.Perm kvs->zg ps->Q (.o (.lst (BQ ps)))
 | _=>False
theorem Bh {P c:Addr}{x:Str}{params:Arguments}{scope:Scope}{lpos kpos kpos2 cpos p pl posl pos p1 p4 p5:Pos}{kk jc:Nat}{t:fq}
  (hg:Gl X "sorted") (hm:X.mg "sorted" = none) (hgl:Gl X "list") (hml:X.mg "list" = none) (hc:X.calm=true) (room:cN 0 X.A)
  (hcode:X.env.code=.ref c) (C:PySem.W.codeHdIn X.K c P=true) (Ih:X.K.In X.base) (B:bM X.mg X.base) (hT:TabAt X.H₀ P (X.env.qual++"<lambda>"))
  (hcl:closureFor scope X.env=pure []) (hdef:defaultsOf params X.env=([],[]))
  (hbind:∀q pm c' ctv v,bindArgs (kla_fn "<lambda>" q params (.Subscript (.Name x p1) (.Constant (.int 1) kk p4) p5) scope [] pm (.ref c') ctv) ⟨[v],[]⟩=pure [(x,v)])
  (hk:scope.kind=.function) (hco:scope.isCoroutine=false) (hgen:scope.isGenerator=false) (hcell:∀z∈scope.names,z.2≠.cell) (hlx:scope.names.lookup x=some .local)
  (hdx:(x == ("__debug__" : Str))=false)
  (ha:DA X [e] t) (he0:autoParam (starEach [e] X.env = [(false,eval e X.env)]) aZa._auto_1)
  (he:autoParam (starEach [.Call (.Name "list" pl) [e] [] posl] X.env = [(false,eval (.Call (.Name "list" pl) [e] [] posl) X.env)]) aZa._auto_1) :
  DE X (.Call (.Name "sorted" p) [.Call (.Name "list" pl) [e] [] posl] [⟨some "key",.Lambda params (.Subscript (.Name x p1) (.Constant (.int 1) kk p4) p5) scope lpos,kpos⟩,⟨some "reverse",.Constant (.bool true) jc cpos,kpos2⟩] pos) (wq t):=
 DE.of (Co hg hm hgl hml hc room hcode (codeHd_of_K Ih C) B hT hcl hdef hbind hk hco hgen hcell hlx hdx ha.pa he0 he)<|by
  rintro σ H Q ⟨G,ρ,PP,s,re,h,k⟩;refine ⟨G,ρ,_,s,re,h,λds vs H1 G1 p1 l1 w1 r1=>?_⟩;split at p1
  .rename_i kvs;obtain ⟨v,rfl,rv⟩:=gw r1;cases rv with
   | dct e =>
    refine ⟨_,kvs,rfl,fS w1.gh e,λl bs hl hb=>⟨l,bs,kvs,rfl,aA,?_,λl2 bs' ps' H3 s3 hl2 hp hf hb'=>?_⟩⟩
    .exact gQ (λb p z=>by rw[aq (bo z hl)];exact z) hb
    .have w3:Wd H G H3 G1:=⟨(w1.hh.trans (eZ hl)).trans s3,w1.gg,(w1.gh.trans (eZ hl)).trans s3,w1.old⟩
     obtain ⟨G',w',r'⟩:=AQ (K:=X.K) w3.gh hl2 hb';refine k _ _ _ G' (p1 ps' hp hf) (w3.trans w') ?_;exact r'.ahead w3.hh
  .exact p1.elim
end
section
variable {X:Cx} {e:Expr} {te:DT} {i:Nat} {x:Str} {pos px:Pos}
theorem vm {K:Frag}{H0 G0 H G G1 H' G':Hp}{σ:L2.St}{ρ:ax}{v:V}{ds:List D}(w:Wd H0 G0 H G)(w1:Wd H0 G0 H G1)(en:aJ K H0 G H σ ρ)(w':Wd H G1 H' G')(r':gY K H G' H' v (.o (.lst ds)))(fl:ds.all D.flat=true) :
  ∃(a:Addr) (vs:List V) (G4:Hp),v=.ref a/\H a=none/\H' a=some (.lst vs)/\G4 a=some (.lst vs)/\aY K G4 vs ds/\Wd H0 G0 H' G4/\aJ K H0 G4 H' σ ρ:=by
 obtain ⟨a,rfl,ha,ga,vs,hv,rr⟩:=r';obtain ⟨G3,w3,s3,_,k4,o3⟩:=Hy (K:=K) w w1 w';have k3:∀c us,G' c=some (.tup us)->G3 c=some (.tup us):=λc us e=>k4 c us (w'.gh _ _ e);have g3:G3 a=none:=by
  rw[o3 a (λus z=>by rw[hv] at z;cases z) (λo us z=>by rw[hv] at z;cases z)];exact w.gh.free ha
 have w4:Wd H0 G0 H' (upd G3 a (.lst vs)):=w3.give (.inl (w.hh.free ha)) g3 hv;have s4:ao G3 (upd G3 a (.lst vs)):=eZ g3;have en4:aJ K H0 (upd G3 a (.lst vs)) H' σ ρ:=(en.more (s3.trans s4) λx gx hx=>by
  have xa:x≠a:=by
   rintro rfl;rcases hx with ⟨_,z⟩ | ⟨_,z⟩<;>rw[ha] at z<;>cases z
  rw[aq xa,o3 x,gx]
  .intro us z;rcases hx with ⟨_,y⟩ | ⟨_,y⟩<;>have:=w'.hh _ _ y<;>rw[z] at this<;>cases this
  .intro o us z;rcases hx with ⟨_,y⟩ | ⟨_,y⟩<;>have:=w'.hh _ _ y<;>rw[z] at this<;>cases this).back w'.hh
 exact ⟨a,vs,_,rfl,ha,hv,aA,aY.mono s4 (aY.flat k3 rr fl),w4,en4⟩
noncomputable def Bc (i:Nat)(te:DT):fL:=λE ρ=>te (cc ρ) λb=>match b with
 | .o (.lst ds)=>ds.all D.flat=true/\E.nx (dput ρ i (.p (.lst ds)))
 | _=>False
theorem DF (hN:X.N.Nodup)(hi:X.N[i]?=some x)(hx:Loc X.env.scope x)(he:DE X e te)(hs:autoParam (swapsWith e (some (.Name x px)) pos.line X.env=pure false) aZa._auto_1)(hf:autoParam (X.fn x=true\/X.env.scope.names.lookup x=some .local) aZd._auto_1) :
  DS X (.Assign [.Name x px] e pos) (Bc i te):=DS.mk λH0 G0=>PS.imp (lu hN hi hx he.pe hs hf)<|by
 rintro Dn σ H ⟨E,G,ρ,eo,w,en,h⟩;obtain ⟨G1,w1,sg,e1⟩:=en.freeze w;refine ⟨G1,cc ρ,_,w1.gh,e1.p,h,λb v H' G' p' w' r'=>?_⟩;split at p'
 .rename_i ds;obtain ⟨a,vs,G4,rfl,ha,hv,ga,rr,w4,en4⟩:=vm w w1 en w' r' p'.1;exact eo.nx _ H' G4 _ w4 (en4.tQ i (Rep.Ef ga rr)) p'.2
 .exact p'.elim
variable {apos cpos spos:Pos}
noncomputable def xM (i:Nat)(te:DT):fL:=λE ρ=>match aG ρ i with
 | some (.o (.lst ds))=>te (cc ρ) λb=>match b with
  | .o (.lst es)=>es.all D.flat=true/\ds.length+es.length<=sizeLine/\E.nx (dput ρ i (.o (.lst (ds++es))))
  | _=>False
 | _=>False
theorem DC (hN:X.N[i]?=some x)(hv:uk X.env.scope x)(he:DE X e te)(hd:autoParam ((x == ("__debug__" : Str))=false) aZb._auto_1)(hcd:autoParam ((x == ("__classdict__" : Str))=false) aZb._auto_1)
  (hbase:autoParam (attributeBase (.Name x px) "extend" X.env (eval (.Name x px) X.env)=eval (.Name x px) X.env) aZa._auto_1)
  (hfew:autoParam (((backTo cpos (starEach (e::[]) X.env)).all (λx=>!x.1) && (backToKw cpos (keywordEach [] X.env)).all (λx=>x.1.isSome)
   && decide ((e::[]).length+([]:List Keyword).length+(if ([]:List Keyword).isEmpty then 0 else 1)<30))=true) aZa._auto_1)
  (hline:autoParam ((apos.endLine == cpos.line)=true) aZa._auto_1) (hs:autoParam (starEach (e::[]) X.env=(false,eval e X.env)::starEach [] X.env) aZa._auto_1) (hplain:autoParam ((backTo cpos (starEach [] X.env)).any (·.1)=false) aZa._auto_1)
  (hsw:autoParam (swapsWith (.Call (.Attribute (.Name x px) "extend" apos) [e] [] cpos) none spos.line X.env=pure false) aZa._auto_1) :
  DS X (.Expr (.Call (.Attribute (.Name x px) "extend" apos) [e] [] cpos) spos) (xM i te):=DS.mk λH0 G0 =>
 PS.imp (oz (yO PySem.F.plainAttrs_list PySem.F.slot_list_extend PySem.F.type_list_extend Ah (dF hN hv hd hcd) (fu he.pe iI hs) hbase hfew hline hs hplain) hsw)<|by
  rintro Dn σ H ⟨E,G,ρ,eo,w,en,h⟩;unfold xM at h;split at h
  .rename_i ds q;obtain ⟨a,h1,h2,h3,vs,h4,h5⟩:=en.o i _ q;obtain ⟨G1,w1,sg,e1⟩:=en.freeze w;refine ⟨_,h1,.inl ⟨rfl,_,dA.of h4⟩,G1,cc ρ,_,w1.gh,e1.p,h,λb v H' G' p' w' r'=>?_⟩;split at p'
   .rename_i es;obtain ⟨b,us,G4,rfl,hb,hb',gb,rr,w4,en4⟩:=vm w w1 en w' r' p'.1;have hl:H' a=some (.lst vs):=w'.hh _ _ h4;obtain ⟨a',k1,k2,k3⟩:=en4.o i _ q;rw[h1] at k1;cases k1;obtain ⟨k3b,vs',k5,k6⟩:=k3;rw[hl] at k5;cases k5;exact ⟨a,b,vs,us,rfl,rfl,hl,hb',by rw[Paired.length k6,Paired.length rr];exact p'.2.1,eo.nx σ _ G4 _ (w4.own k2 k3b) (en4.GS q h1 (bA k6 rr)) p'.2.2⟩
   .exact p'.elim
  .exact h.elim
end
section
variable {X:Cx} {e:Expr} {te:DT} {x:Str} {pos px:Pos}
noncomputable def A5 (z y:Int)(te:DT):DT:=λρ Q=>te ρ λb=>match b.val with
 | .tup ds=>ds≠[]/\ds.length+2<=sizeLine/\Q (.p (.tup ([.int z,.int y]++ds)))
 | _=>False
noncomputable def xG (z y:Int)(te:DT):DT:=λρ Q=>te ρ λb=>match b.val with
 | .tup ds=>ds≠[]/\ds.length+2<=sizeLine/\Q (.p (.tup (ds++[.int z,.int y])))
 | _=>False
theorem Dt {z y:Int}(he:DE X e te)(hB:CT X.K X.mg x z y)(hg:Gl X x)(hdb:autoParam ((x == ("__debug__" : Str))=false) aZb._auto_1):DE X (.BinOp e .Add (.Name x px) pos) (xG z y te):=by
 obtain ⟨c,hm,hc⟩:=hB;refine DE.of (yP tK he.pe (mC (v:=.ref c) hg hm rfl hdb)) ?_;rintro σ H Q ⟨G,ρ,P,s,re,h,k⟩;refine ⟨G,ρ,_,s,re,h,λb v H1 G1 p1 w1 r1=>?_⟩;obtain ⟨G2,w2,r2⟩:=r1.give w1;split at p1
 .rename_i ds ee;rw[ee] at r2;obtain ⟨a,us,rfl,e',rr⟩:=r2.d4;refine ⟨a,c,us,[.int z,.int y],rfl,rfl,aw w2.gh e',hc _,λz=>?_,by rw[Paired.length rr];exact p1.2.1,λz=>(nomatch z),λ_ p hp=>?_⟩
  .subst z;cases rr;exact p1.1 rfl
  .obtain ⟨w3,r3⟩:=mK w2 hp (bA rr (.cons (.int z) (.cons (.int y) .nil)));exact k _ _ _ _ p1.2.2 w3 r3
 .exact p1.elim
theorem Ds {z y:Int}(he:DE X e te)(hB:CT X.K X.mg x z y)(hg:Gl X x)(hdb:autoParam ((x == ("__debug__" : Str))=false) aZb._auto_1):DE X (.BinOp (.Name x px) .Add e pos) (A5 z y te):=by
 obtain ⟨c,hm,hc⟩:=hB;refine DE.of (yP tK (mC (v:=.ref c) hg hm rfl hdb) he.pe) ?_;rintro σ H Q ⟨G,ρ,P,s,re,h,k⟩;refine ⟨G,ρ,_,s,re,h,λb v H1 G1 p1 w1 r1=>?_⟩;obtain ⟨G2,w2,r2⟩:=r1.give w1;split at p1
 .rename_i ds ee;rw[ee] at r2;obtain ⟨a,us,rfl,e',rr⟩:=r2.d4;refine ⟨c,a,[.int z,.int y],us,rfl,rfl,hc _,aw w2.gh e',(λz=>nomatch z),by rw[Paired.length rr,Nat.add_comm];exact p1.2.1,λz=>?_,λ_ p hp=>?_⟩
  .subst z;cases rr;exact (p1.1 rfl).elim
  .obtain ⟨w3,r3⟩:=mK w2 hp (bA (.cons (.int z) (.cons (.int y) .nil)) rr);exact k _ _ _ _ p1.2.2 w3 r3
 .exact p1.elim
end
end DL
namespace WS
open PySem PySem.SetTable
noncomputable def AR (x:Nat):Nat:=5*x+1
noncomputable def jg:Nat->Nat->Nat
 | 0,x=>x
 | n+1,x=>jg n (AR x)
theorem uN (a b x:Nat):jg (a+b) x=jg b (jg a x):=by
 induction a generalizing x with
 | zero=>rw[Nat.zero_add];rfl
 | succ a ih=>rw[Nat.succ_add];exact ih (AR x)
theorem ye:∀k:Nat,∃u v:Nat,v % 2=1/\∀x,jg (2 ^ k) x=(1+2 ^ (k+2)*u)*x+2 ^ k*v
  | 0=>⟨1,1,rfl,λx=>by show 5*x+1=_;lia⟩
  | k+1=>by
    obtain ⟨u,v,hv,h⟩:=ye k;refine ⟨u+2 ^ (k+1)*u*u,v*(1+2 ^ (k+1)*u),?_,λx=>?_⟩
    · have e : 2 ^ (k + 1) * u = 2 * (2 ^ k * u) := by rw [Nat.pow_succ];ac_rfl
      rw[Nat.mul_mod,e,Nat.add_mod,Nat.mul_mod_right,hv]
    · rw [show 2 ^ (k + 1) = 2 ^ k + 2 ^ k by rw [Nat.pow_succ];lia, uN, h, h];have p1:2 ^ (k+2)=4*2 ^ k:=by rw[Nat.pow_add];lia
      have p3:2 ^ (k+1+2)=8*2 ^ k:=by rw[Nat.pow_add,Nat.pow_add];lia
      rw[p1,p3];generalize 2 ^ k=q
      grind
theorem jF (m:Nat):∀(n x:Nat),jg n (x % m) % m=jg n x % m
 | 0,x=>Nat.mod_mod _ _
 | n+1,x=>by
  show jg n (AR (x % m)) % m=jg n (AR x) % m;rw[<-jF m n (AR (x % m)),<-jF m n (AR x)];have e:AR (x % m) % m=AR x % m:=by
   unfold AR;rw[Nat.add_mod,Nat.mul_mod,Nat.mod_mod,<-Nat.mul_mod,<-Nat.add_mod]
  rw[e]
theorem uS {q y:Nat}(hq:0<q)(hy:y<2*q):(y<q/\y % q=y)\/(q<=y/\y % q=y - q):=by
  by_cases h:y<q
  · exact .inl ⟨h,Nat.mod_eq_of_lt h⟩
  · refine .inr ⟨by lia, ?_⟩;rw[Nat.mod_eq_sub_mod (by lia),Nat.mod_eq_of_lt (by lia)]
theorem EJ {q y j:Nat}(hq:0<q)(hy:y<2*q)(hj:j<2*q)(e:y % q=j % q)(hne:¬y=j):(y+q) % (2*q)=j:=by
 rcases uS hq hy with ⟨a1,a2⟩ | ⟨a1,a2⟩<;>rcases uS hq hj with ⟨b1,b2⟩ | ⟨b1,b2⟩
 .lia
 .rw[Nat.mod_eq_of_lt (by lia)];lia
 .rw[show y+q=(y - q)+2*q by lia,Nat.add_mod_right,Nat.mod_eq_of_lt (by lia)];lia
 .lia
theorem sL:∀(k x j:Nat),j<2 ^ k->∃n,n<2 ^ k/\jg n x % 2 ^ k=j
  | 0, x, j, hj => ⟨0, by decide, by have : j = 0 := by lia
                                     subst this;exact Nat.mod_one _⟩
  | k+1,x,j,hj=>by
    have p1:2 ^ (k+1)=2*2 ^ k:=by rw[Nat.pow_succ];lia
    have q0:0<2 ^ k:=Nat.two_pow_pos k;obtain ⟨n,hn,e⟩:=sL k x (j % 2 ^ k) (Nat.mod_lt _ q0);obtain ⟨u,v,hv,h⟩:=ye k;have d1:=Nat.div_add_mod (jg n x) (2 ^ (k+1));have l1:=Nat.mod_lt (jg n x) (show 0<2 ^ (k+1) by lia);have e2:jg n x % 2 ^ (k+1) % 2 ^ k=j % 2 ^ k:=by rw[p1,Nat.mod_mul_left_mod];exact e
    by_cases hh:jg n x % 2 ^ (k+1)=j
    · exact ⟨n,by lia,hh⟩
    · refine ⟨n + 2 ^ k, by lia, ?_⟩;rw[uN,<-jF,h];generalize jg n x % 2 ^ (k+1)=y at *;have hy:(1+2 ^ (k+2)*u)*y+2 ^ k*v=(y+2 ^ k)+2 ^ (k+1)*(2*u*y+v / 2):=by
        have hv2:v=2*(v / 2)+1:=by lia
        have p2:2 ^ (k+2)=4*2 ^ k:=by rw[Nat.pow_add];lia
        rw[p1,p2];generalize v / 2=t at hv2 ⊢;subst hv2;generalize 2 ^ k=q
        grind
      rw[hy,Nat.add_mul_mod_self_left];rw[p1] at l1 ⊢;exact EJ q0 l1 (by lia) e2 hh
noncomputable def rL (mask:Nat):Nat->Nat×Nat->Nat×Nat
 | 0,s=>s
 | n+1,s=>rL mask n (leap mask s.1 s.2)
theorem ow (mask a b:Nat)(s:Nat×Nat):rL mask (a+b) s=rL mask b (rL mask a s):=by
 induction a generalizing s with
 | zero=>rw[Nat.zero_add];rfl
 | succ a ih=>rw[Nat.succ_add];exact ih _
theorem sU (mask:Nat):∀(n:Nat) (s:Nat×Nat),(rL mask n s).2=s.2 / 32 ^ n
 | 0,s=>by rw[Nat.pow_zero,Nat.div_one];rfl
 | n+1,s=>by
  show (rL mask n (leap mask s.1 s.2)).2=_;rw[sU mask n];show s.2 / 32 / 32 ^ n=_;rw[Nat.div_div_eq_div_mul,Nat.pow_succ,Nat.mul_comm]
theorem pE (mask:Nat):∀(n x:Nat),(rL mask n (x % (mask+1),0)).1=jg n x % (mask+1)
 | 0,x=>rfl
 | n+1,x=>by
  show (rL mask n ((x % (mask+1)*5+1+0 / 32) % (mask+1),0 / 32)).1=_;rw[Nat.zero_div,Nat.add_zero,pE mask n (x % (mask+1)*5+1)];show jg n (x % (mask+1)*5+1) % (mask+1)=jg n (AR x) % (mask+1);rw[<-jF,<-jF (mask+1) n (AR x)];congr 2;unfold AR;rw[Nat.add_mod,Nat.mul_comm,Nat.mul_mod,Nat.mod_mod,<-Nat.mul_mod,<-Nat.add_mod]
theorem uY {mask k i p j:Nat}(hm:mask+1=2 ^ k)(hp:p<2 ^ 64)(hj:j<=mask):∃n,n<13+2 ^ k/\(rL mask n (i,p)).1=j:=by
 have h2:=sU mask 13 (i,p);have z:p / 32 ^ 13=0:=Nat.div_eq_of_lt (LJ hp (by decide));rw[z] at h2;generalize hs:rL mask 13 (i,p)=s at h2;obtain ⟨x,y⟩:=s;have hy:y=0:=h2;subst hy;have hx:x=x % (mask+1):=by
  have e:rL mask 13 (i,p)=rL mask 1 (rL mask 12 (i,p)):=ow mask 12 1 _;rw[hs] at e;have e1:x=(leap mask (rL mask 12 (i,p)).1 (rL mask 12 (i,p)).2).1:=congrArg Prod.fst e;rw[e1];show _ % (mask+1)=_ % (mask+1) % (mask+1);rw[Nat.mod_mod]
 obtain ⟨n,hn,e⟩:=sL k x j (by lia);refine ⟨13+n,by lia,?_⟩;rw[ow,hs,hx,pE,hm];exact e
theorem pY (mask i:Nat):runEnd mask i - i<=9:=by
 unfold runEnd;split<;>lia
section
variable {t:SetTable} {hashAt:Nat->Int} {h:Int}
theorem ym (fuel:Nat)(p:Probe)(H:∀d,probe.go t hashAt h fuel (t.advance { p with dummy:=d })≠none):probe.go t hashAt h (fuel+1) p≠none:=by
 unfold probe.go;split
 .exact λz=>nomatch z
 .exact H _
 .split
  .exact λz=>nomatch z
  .exact H p.dummy
theorem wH:∀(m fuel:Nat) (p:Probe),p.more=m->(∀d,probe.go t hashAt h fuel (t.advance { p with more:=0,dummy:=d })≠none)->probe.go t hashAt h (fuel+m+1) p≠none
 | 0,fuel,p,e,H=>ym fuel p λd=>by
  have:=H d;rw[show ({ p with dummy:=d }:Probe) = { p with more:=0,dummy:=d } by rw[<-e]];exact this
 | m+1,fuel,p,e,H=>ym (fuel+(m+1)) p λd=>by
  have ea:t.advance { p with dummy:=d } = { p with j:=p.j+1,more:=p.more - 1,dummy:=d }:=by
   unfold advance;rw[if_pos (show ({ p with dummy:=d }:Probe).more>0 by show p.more>0;lia)]
  rw[ea];exact wH m fuel _ (by show p.more - 1=m;lia) H
theorem uR:∀(n fuel:Nat) (p:Probe) (j0:Nat),p.j=p.i->p.more=runEnd t.mask p.i - p.i->(rL t.mask n (p.i,p.perturb)).1=j0->t.slot j0=.empty->10*n<fuel->probe.go t hashAt h fuel p≠none
 | 0,fuel,p,j0,hj,_,e,hs,hf=>by
  obtain ⟨f,rfl⟩ : ∃f,fuel=f+1:=⟨fuel - 1,by lia⟩
  have:t.slot p.j=.empty:=by rw[hj];rw[<-hs,<-e];rfl
  unfold probe.go;rw[this];exact λz=>nomatch z
 | n+1,fuel,p,j0,hj,hm,e,hs,hf=>by
  have hr:=pY t.mask p.i;obtain ⟨f,rfl⟩ : ∃f,fuel=f+p.more+1:=⟨fuel - p.more - 1,by lia⟩
  refine wH p.more f p rfl λd=>?_;have ea:t.advance { p with more:=0,dummy:=d } = { p with j:=(leap t.mask p.i p.perturb).1,more:=runEnd t.mask (leap t.mask p.i p.perturb).1 - (leap t.mask p.i p.perturb).1,i:=(leap t.mask p.i p.perturb).1,perturb:=(leap t.mask p.i p.perturb).2,dummy:=d }:=rfl;rw[ea];exact uR n f _ j0 rfl rfl e hs (by lia)
end
end WS
namespace WS
open PySem PySem.SetTable
noncomputable def De (xs:Array Nat):Prop:=∀a b,a<b->b<xs.size->xs.getD a 0<xs.getD b 0
theorem BD {xs:Array Nat}{i:Nat}(h:i<xs.size)(d:Nat):xs.getD i d=xs.getD i 0:=by
 rw[Array.getD_eq_getD_getElem?,Array.getD_eq_getD_getElem?,Lq h];rfl
theorem oM {xs:Array Nat}{j:Nat}(R:De xs):∀(fuel lo hi:Nat),hi<=xs.size->lo<=hi->hi - lo<=fuel->(∀i,i<lo->xs.getD i 0<j)->(∀i,hi<=i->i<xs.size->j<=xs.getD i 0) ->
    below.go xs j fuel lo hi<=xs.size/\(∀i,i<below.go xs j fuel lo hi->xs.getD i 0<j)/\∀i,below.go xs j fuel lo hi<=i->i<xs.size->j<=xs.getD i 0
  | 0,lo,hi,h1,h2,h3,hl,hh=>by
    have:lo=hi:=by lia
    subst this;exact ⟨h1,hl,hh⟩
  | fuel+1,lo,hi,h1,h2,h3,hl,hh=>by
    unfold below.go;by_cases h:lo<hi
    · rw[if_pos h];have hm:(lo+hi) / 2<xs.size:=by lia
      dsimp only;rw[BD hm];by_cases c:xs.getD ((lo+hi) / 2) 0<j
      · rw[if_pos c];refine oM R fuel _ hi h1 (by lia) (by lia) (λi hi'=>?_) hh;by_cases e:i=(lo+hi) / 2
        · rw[e];exact c
        · exact Nat.lt_trans (R i _ (by lia) hm) c
      · rw[if_neg c];refine oM R fuel lo _ (by lia) (by lia) (by lia) hl λi hi' hs=>?_;by_cases e:i=(lo+hi) / 2
        · rw[e];lia
        · have := R _ i (show (lo + hi) / 2 < i by lia) hs;lia
    · rw[if_neg h];have:lo=hi:=by lia
      subst this;exact ⟨h1,hl,hh⟩
theorem lL {xs:Array Nat}(R:De xs)(j:Nat):below xs j<=xs.size/\(∀i,i<below xs j->xs.getD i 0<j)/\∀i,below xs j<=i->i<xs.size->j<=xs.getD i 0:=
 oM R xs.size 0 xs.size (Ll _) (LS _) (by lia) (λi h=>absurd h (Nat.not_lt_zero _)) λi h1 h2=>absurd h2 (by lia)
theorem below_at {xs:Array Nat}(R:De xs){i j:Nat}(hi:i<xs.size)(e:xs.getD i 0=j):below xs j=i:=by
 obtain ⟨h1,h2,h3⟩:=lL R j;by_cases c:i<below xs j
 .have:=h2 i c;lia
 .by_cases c2:below xs j<i
  .have:=R _ i c2 hi;have:=h3 (below xs j) (Ll _) (by lia);lia
  .lia
theorem get_some {xs:Array Nat}{i j:Nat}:(xs[i]?=some j)↔(i<xs.size/\xs.getD i 0=j):=by
 rw[Array.getD_eq_getD_getElem?];constructor
 .intro h;obtain ⟨h1,h2⟩:=Array.getElem?_eq_some_iff.mp h;exact ⟨h1,by rw[h];rfl⟩
 .rintro ⟨h1,h2⟩;rw[Lq h1] at h2 ⊢;exact congrArg some h2
structure uf (t:SetTable):Prop where
 rise:De t.place
 gd:t.dummies = #[]
section
variable {t:SetTable}
theorem fo (P:uf t){i j:Nat}(h:t.place[i]?=some j):t.slot j=.live i:=by
 obtain ⟨h1,h2⟩:=get_some.mp h;unfold slot;dsimp only;rw[below_at P.rise h1 h2,h];simp
theorem qa (P:uf t){j:Nat}(h:∀i:Nat,t.place[i]?≠some j):t.slot j=.empty:=by
 unfold slot;dsimp only;have e:(t.place[below t.place j]? == some j)=false:=by
  rw[beq_eq_false_iff_ne];exact h _
 rw[e,P.gd];simp[has]
theorem iT (P:uf t)(j:Nat):(∃i:Nat,t.place[i]?=some j/\t.slot j=.live i)\/((∀i:Nat,t.place[i]?≠some j)/\t.slot j=.empty):=by
 by_cases h:∃i:Nat,t.place[i]?=some j
 .obtain ⟨i,h⟩:=h;exact .inl ⟨i,h,fo P h⟩
 .have h':∀i:Nat,t.place[i]?≠some j:=λi z=>h ⟨i,z⟩;exact .inr ⟨h',qa P h'⟩
end
theorem iF {α:Type}(xs:Array α)(p:Nat)(x:α)(hp:p<=xs.size)(i:Nat):(insertAt xs p x)[i]?=if i<p then xs[i]? else if i=p then some x else xs[i - 1]?:=by
  rw[<-Lo,toList_insertAt];have lp:(xs.toList.take p).length=p:=by rw[length_take,Lw];lia
  by_cases h1:i<p
  · rw[if_pos h1,List.getElem?_append_left (by lia),List.getElem?_take_of_lt h1,Lo]
  · rw [if_neg h1, List.getElem?_append_right (by lia), lp];by_cases h2:i=p
    · rw[if_pos h2,h2,Nat.sub_self];rfl
    · rw[if_neg h2];obtain ⟨d,hd⟩ : ∃d,i - p=d+1:=⟨i - p - 1,by lia⟩
      rw[hd,List.getElem?_cons_succ,List.getElem?_drop,Lo];congr 1;lia
theorem pq {α:Type}(xs:Array α)(p:Nat)(x:α)(hp:p<=xs.size):(insertAt xs p x).size=xs.size+1:=by
 rw[<-Lw,toList_insertAt,LA,LN,length_take,length_drop,Lw];lia
theorem uV (xs:Array Nat)(p x:Nat)(hp:p<=xs.size)(i:Nat)(hi:i<xs.size+1):(insertAt xs p x).getD i 0=if i<p then xs.getD i 0 else if i=p then x else xs.getD (i - 1) 0:=by
 rw[Array.getD_eq_getD_getElem?,iF xs p x hp,Array.getD_eq_getD_getElem?,Array.getD_eq_getD_getElem?];split
 .rfl
 .split
  .rfl
  .rfl
section
variable {t:SetTable}
theorem pU (P:uf t)(j:Nat):t.put j=({ t with place:=insertAt t.place (below t.place j) j,dummies:=#[] },below t.place j):=by
 unfold put;dsimp only;rw[P.gd];simp[has]
theorem tR (P:uf t){j:Nat}(h:∀i:Nat,t.place[i]?≠some j):uf (t.put j).1:=by
  rw[pU P];obtain ⟨h1,h2,h3⟩:=lL P.rise j;refine ⟨λa b hab hb=>?_,rfl⟩;dsimp only at hb ⊢;rw[pq _ _ _ h1] at hb;rw[uV _ _ _ h1 _ (by lia),uV _ _ _ h1 _ hb];have gt:∀i,below t.place j<=i->i<t.place.size->j<t.place.getD i 0:=λi a1 a2=>by
    have:=h3 i a1 a2;have ne:t.place.getD i 0≠j:=λz=>h i (get_some.mpr ⟨a2,z⟩);lia
  by_cases c1:a<below t.place j
  · rw[if_pos c1];by_cases c2:b<below t.place j
    · rw[if_pos c2];exact P.rise a b hab (by lia)
    · rw[if_neg c2];by_cases c3:b=below t.place j
      · rw[if_pos c3];exact h2 a c1
      · rw[if_neg c3];exact Nat.lt_trans (h2 a c1) (gt (b - 1) (by lia) (by lia))
  · rw [if_neg c1, if_neg (show ¬ b < below t.place j by lia), if_neg (show ¬ b = below t.place j by lia)];by_cases c4:a=below t.place j
    · rw[if_pos c4];exact gt (b - 1) (by lia) (by lia)
    · rw[if_neg c4];exact P.rise (a - 1) (b - 1) (by lia) (by lia)
theorem Cz (P:uf t){j:Nat}(h:∀i:Nat,t.place[i]?≠some j):(t.put j).1.slot j=.live (below t.place j)/\∀(i j':Nat),t.place[i]?=some j'->(t.put j).1.place[if i<below t.place j then i else i+1]?=some j':=by
 have P':=tR P h;obtain ⟨h1,h2,h3⟩:=lL P.rise j;have e:(t.put j).1.place=insertAt t.place (below t.place j) j:=by rw[pU P]
 refine ⟨fo P' ?_,λi j' hi=>?_⟩
 .rw[e,iF _ _ _ h1,if_neg (Nat.lt_irrefl _),if_pos rfl]
 .rw[e,iF _ _ _ h1];by_cases c:i<below t.place j
  .rw[if_pos c,if_pos c];exact hi
  .rw[if_neg c,if_neg (show ¬i+1<below t.place j by lia),if_neg (show ¬i+1=below t.place j by lia),Nat.add_sub_cancel];exact hi
theorem qF (P:uf t){j j':Nat}(h:∀i:Nat,t.place[i]?≠some j)(hs:t.slot j'≠.empty):(t.put j).1.slot j'≠.empty:=by
 rcases iT P j' with ⟨i,hi,_⟩ | ⟨_,hz⟩
 .rw[fo (tR P h) ((Cz P h).2 i j' hi)];exact λz=>nomatch z
 .exact absurd hz hs
end
end WS
namespace WS
open PySem PySem.SetTable
noncomputable def stN (t:SetTable)(h:Int):Nat->Probe
 | 0=>t.probeStart h
 | n+1=>t.advance (stN t h n)
theorem so (h:Int):bits h<2 ^ 64:=by
 unfold bits;have:=Int.emod_lt_of_pos h (show (0:Int)<2 ^ 64 by decide);have:=Int.emod_nonneg h (show (2 ^ 64:Int)≠0 by decide);lia
theorem zp {t:SetTable}{p:Probe}(h1:p.dummy=none)(h2:p.more<=9)(h3:p.perturb<2 ^ 64)(h4:p.j+p.more<=t.mask):(t.advance p).dummy=none/\(t.advance p).more<=9/\(t.advance p).perturb<2 ^ 64/\(t.advance p).j+(t.advance p).more<=t.mask:=by
 unfold advance;by_cases c:p.more>0
 .rw[if_pos c];exact ⟨h1,by show p.more - 1<=9;lia,h3,by show p.j+1+(p.more - 1)<=t.mask;lia⟩
 .rw[if_neg c];refine ⟨h1,pY _ _,?_,?_⟩
  .show p.perturb / 32<2 ^ 64;lia
  .show (leap t.mask p.i p.perturb).1+(runEnd t.mask (leap t.mask p.i p.perturb).1 - (leap t.mask p.i p.perturb).1)<=t.mask;have hl:(leap t.mask p.i p.perturb).1<t.mask+1:=Nat.mod_lt _ (by lia);generalize (leap t.mask p.i p.perturb).1=y at *;unfold runEnd;split<;>lia
theorem fG (t:SetTable)(h:Int):∀n,(stN t h n).dummy=none/\(stN t h n).more<=9/\(stN t h n).perturb<2 ^ 64/\(stN t h n).j+(stN t h n).more<=t.mask
 | 0=>by
  refine ⟨rfl,pY _ _,so h,?_⟩;show bits h % (t.mask+1)+(runEnd t.mask (bits h % (t.mask+1)) - bits h % (t.mask+1))<=t.mask;have hl:bits h % (t.mask+1)<t.mask+1:=Nat.mod_lt _ (by lia);generalize bits h % (t.mask+1)=y at *;unfold runEnd;split<;>lia
 | n+1=>by
  obtain ⟨a,b,c,d⟩:=fG t h n;exact zp a b c d
theorem kD {t t':SetTable}(e:t.mask=t'.mask)(h:Int):∀n,stN t h n=stN t' h n
 | 0=>by
  show t.probeStart h=t'.probeStart h;unfold probeStart;rw[e]
 | n+1=>by
  show t.advance (stN t h n)=t'.advance (stN t' h n);rw[kD e h n];unfold advance;rw[e]
theorem BE {t:SetTable}{hashAt:Nat->Int}{h:Int}{k j0:Nat}(hm:t.mask+1=2 ^ k)(hj:j0<=t.mask)(hs:t.slot j0=.empty){p:Probe}(h2:p.more<=9)(h3:p.perturb<2 ^ 64):probe.go t hashAt h (10*turns t.mask) p≠none:=by
 obtain ⟨n,hn,e⟩:=uY (i:=(leap t.mask p.i p.perturb).1) (p:=(leap t.mask p.i p.perturb).2) hm (show p.perturb / 32<2 ^ 64 by lia) hj;obtain ⟨f,hf⟩ : ∃f,10*turns t.mask=f+p.more+1:=⟨10*turns t.mask - p.more - 1,by unfold turns;lia⟩
 have hf2:10*n<f:=by unfold turns at hf;lia
 rw[hf];refine wH p.more f p rfl λd=>?_;have ea:t.advance { p with more:=0,dummy:=d } = { p with j:=(leap t.mask p.i p.perturb).1,more:=runEnd t.mask (leap t.mask p.i p.perturb).1 - (leap t.mask p.i p.perturb).1,i:=(leap t.mask p.i p.perturb).1,perturb:=(leap t.mask p.i p.perturb).2,dummy:=d }:=rfl;rw[ea];exact uR n f _ j0 rfl rfl e hs hf2
section
variable {t:SetTable} {hashAt:Nat->Int} {h:Int}
theorem sM (P:uf t):∀(fuel n:Nat) (r:Met),probe.go t hashAt h fuel (stN t h n)=some r->∃m,n<=m/\m<n+fuel/\(∀q,n<=q->q<m->∃i,t.slot (stN t h q).j=.live i/\hashAt i≠h) /\
    ((r=.empty (stN t h m).j none/\t.slot (stN t h m).j=.empty)\/∃i,t.slot (stN t h m).j=.live i/\hashAt i=h/\r=.candidate (stN t h m).j i (stN t h (m+1)))
  | 0,n,r,e=>by
    unfold probe.go at e;cases e
  | fuel+1,n,r,e=>by
    have hd:=(fG t h n).1;rcases iT P (stN t h n).j with ⟨i,_,hs⟩ | ⟨_,hs⟩
    · unfold probe.go at e;rw[hs] at e;dsimp only at e;by_cases c:hashAt i=h
      · rw [if_pos (by rw [beq_iff_eq];exact c)] at e;exact ⟨n,Ll _,by lia,λq a b=>absurd a (by lia),.inr ⟨i,hs,c,(Option.some.inj e).symm⟩⟩
      · rw [if_neg (by rw [beq_iff_eq];exact c)] at e;obtain ⟨m,h1,h2,h3,h4⟩:=sM P fuel (n+1) r e;refine ⟨m,by lia,by lia,λq a b=>?_,h4⟩;by_cases z:q=n
        · subst z;exact ⟨i,hs,c⟩
        · exact h3 q (by lia) b
    · unfold probe.go at e;rw[hs,hd] at e;exact ⟨n,Ll _,by lia,λq a b=>absurd a (by lia),.inl ⟨(Option.some.inj e).symm,hs⟩⟩
theorem uM (P:uf t){k j0:Nat}(hm:t.mask+1=2 ^ k)(hj:j0<=t.mask)(hs:t.slot j0=.empty)(h:Int):∃K,K<10*turns t.mask/\t.slot (stN t h K).j=.empty/\∀q,q<K->t.slot (stN t h q).j≠.empty:=by
  have hp:=BE (hashAt:=λ_=>h+1) (h:=h) hm hj hs (p:=stN t h 0) (fG t h 0).2.1 (fG t h 0).2.2.1;cases e:probe.go t (λ_=>h+1) h (10*turns t.mask) (stN t h 0) with
  | none=>exact absurd e hp
  | some r =>
    obtain ⟨m,h1,h2,h3,h4⟩:=sM P _ 0 r e;rcases h4 with ⟨_,h5⟩ | ⟨i,_,h5,_⟩
    · refine ⟨m, by lia, h5, λq hq => ?_⟩;obtain ⟨i,hi,_⟩:=h3 q (LS _) hq;rw[hi];exact λz=>nomatch z
    · lia
noncomputable def eJ (t:SetTable)(h:Int)(j:Nat):Prop:=∃n,(stN t h n).j=j/\∀q,q<n->t.slot (stN t h q).j≠.empty
theorem eJ.put (P:uf t){j j':Nat}(hj:∀i:Nat,t.place[i]?≠some j)(hp:eJ t h j'):eJ (t.put j).1 h j':=by
 obtain ⟨n,e,hn⟩:=hp;have em:t.mask=(t.put j).1.mask:=by rw[pU P]
 refine ⟨n,by rw[<-kD em];exact e,λq hq=>?_⟩;rw[<-kD em];exact qF P hj (hn q hq)
theorem eJ.new (P:uf t){K:Nat}(he:t.slot (stN t h K).j=.empty)(hb:∀q,q<K->t.slot (stN t h q).j≠.empty):eJ (t.put (stN t h K).j).1 h (stN t h K).j:=by
 have hj:∀i:Nat,t.place[i]?≠some (stN t h K).j:=λi z=>by rw[fo P z] at he;cases he
 exact eJ.put P hj ⟨K,rfl,hb⟩
end
end WS
namespace WS
open PySem PySem.SetTable
theorem fU:∀{l l':List Nat},l.Nodup->(∀x∈l,x∈l')->l.length<=l'.length
 | [],_,_,_=>LS _
 | x::l,l',hn,hs=>by
  obtain ⟨h1,h2⟩:=nodup_cons.mp hn;have hx:x∈l':=hs x (.head _);have ih:=fU (l:=l) (l':=l'.erase x) h2 λy hy=>(List.mem_erase_of_ne (λz=>h1 (by rw[<-z];exact hy))).mpr (hs y (.tail _ hy));rw[List.length_erase_of_mem hx] at ih;have:0<l'.length:=List.length_pos_of_mem hx;rw[LN];lia
theorem rM {f:Nat->Nat}{m:Nat}(h:∀a b,a<b->b<m->f a≠f b):((LD m).map f).Nodup:=by
 show ((LD m).map f).Pairwise (·≠·);rw[pairwise_map,pairwise_iff_getElem];intro i j hi hj hij;rw[List.getElem_range,List.getElem_range];rw[length_range] at hj;exact h i j hij hj
theorem wJ {f:Nat->Nat}{N:Nat}(h:∀j,j<N->∃n,n<N/\f n=j):∀a b,a<b->b<N->f a≠f b:=λa b hab hb e=>by
  have:=fU (l:=LD N) (l':=((LD N).erase b).map f) nodup_range λj hj=>by
    obtain ⟨n,hn,e2⟩:=h j (mem_range.mp hj);by_cases c:n=b
    · refine Lx.mpr ⟨a, (List.mem_erase_of_ne (by lia)).mpr (mem_range.mpr (by lia)), ?_⟩;rw[e,<-c];exact e2
    · exact Lx.mpr ⟨n,(List.mem_erase_of_ne c).mpr (mem_range.mpr hn),e2⟩
  rw[length_range,Lk,List.length_erase_of_mem (mem_range.mpr hb),length_range] at this;lia
section
variable {t:SetTable} {h:Int}
noncomputable def sN (t:SetTable)(h:Int)(n:Nat):Nat×Nat:=rL t.mask n (bits h % (t.mask+1),bits h)
noncomputable def mO (t:SetTable)(h:Int):Nat->Nat
 | 0=>0
 | n+1=>mO t h n+(runEnd t.mask (sN t h n).1 - (sN t h n).1)+1
theorem y7 (n:Nat):sN t h (n+1)=leap t.mask (sN t h n).1 (sN t h n).2:=ow t.mask n 1 _
theorem CO {n c:Nat}(h0:(stN t h n).more=c):∀q,q<=c->(stN t h (n+q)).j=(stN t h n).j+q/\(stN t h (n+q)).more=c - q/\(stN t h (n+q)).i=(stN t h n).i/\(stN t h (n+q)).perturb=(stN t h n).perturb
 | 0,_=>⟨rfl,h0,rfl,rfl⟩
 | q+1,hq=>by
  obtain ⟨a1,a2,a3,a4⟩:=CO h0 q (by lia);have e:stN t h (n+(q+1))=t.advance (stN t h (n+q)):=rfl;rw[e];unfold advance;rw[if_pos (by lia)];exact ⟨by show (stN t h (n+q)).j+1=_;lia,by show (stN t h (n+q)).more - 1=_;lia,a3,a4⟩
theorem xk:∀n,(stN t h (mO t h n)).j=(sN t h n).1/\(stN t h (mO t h n)).more=runEnd t.mask (sN t h n).1 - (sN t h n).1/\(stN t h (mO t h n)).i=(sN t h n).1/\(stN t h (mO t h n)).perturb=(sN t h n).2
 | 0=>⟨rfl,rfl,rfl,rfl⟩
 | n+1=>by
  obtain ⟨a1,a2,a3,a4⟩:=xk n;obtain ⟨b1,b2,b3,b4⟩:=CO a2 _ (Ll _);have e:stN t h (mO t h (n+1))=t.advance (stN t h (mO t h n+(runEnd t.mask (sN t h n).1 - (sN t h n).1))):=rfl;rw[e];unfold advance;rw[if_neg (by lia),y7,b3,b4,a3,a4];exact ⟨rfl,rfl,rfl,rfl⟩
theorem Fh (n:Nat):(sN t h n).1<=t.mask:=by
 cases n with
 | zero =>
  have:bits h % (t.mask+1)<t.mask+1:=Nat.mod_lt _ (by lia);show bits h % (t.mask+1)<=t.mask;lia
 | succ n =>
  rw[y7];have:(leap t.mask (sN t h n).1 (sN t h n).2).1<t.mask+1:=Nat.mod_lt _ (by lia);lia
theorem GR {k:Nat}(hm:t.mask+1=2 ^ k):∀a b,a<b->b<2 ^ k->(sN t h (13+a)).1≠(sN t h (13+b)).1:=by
 refine wJ (f:=λn=>(sN t h (13+n)).1) λj hj=>?_;have z:(sN t h 13).2=0:=by
  unfold sN;rw[sU];exact Nat.div_eq_of_lt (LJ (so h) (by decide))
 have hx:(sN t h 13).1=(sN t h 13).1 % (t.mask+1):=(Nat.mod_eq_of_lt (by have:=Fh (t:=t) (h:=h) 13;lia)).symm;obtain ⟨n,hn,e⟩:=sL k (sN t h 13).1 j hj;refine ⟨n,hn,?_⟩;show (rL t.mask (13+n) _).1=j;rw[ow];show (rL t.mask n (sN t h 13)).1=j;rw[show sN t h 13=((sN t h 13).1 % (t.mask+1),0) from Prod.ext hx z,pE,hm];exact e
theorem rW (mask i:Nat):(i+9<=mask/\runEnd mask i - i=9)\/(¬i+9<=mask/\runEnd mask i - i=0):=by
 unfold runEnd;by_cases c:i+9<=mask
 .rw[if_pos c];exact .inl ⟨c,by lia⟩
 .rw[if_neg c];exact .inr ⟨c,by lia⟩
theorem CU (n:Nat):mO t h n<=10*n:=by
 induction n with
 | zero=>exact Ll _
 | succ n ih =>
  have:=pY t.mask (sN t h n).1;show mO t h n+(runEnd t.mask (sN t h n).1 - (sN t h n).1)+1<=_;lia
theorem CV:∀{a b:Nat},a<b->mO t h a<mO t h b
 | a,0,hab=>absurd hab (Nat.not_lt_zero _)
 | a,b+1,hab=>by
  show mO t h a<mO t h b+(runEnd t.mask (sN t h b).1 - (sN t h b).1)+1;by_cases c:a<b
  .have:=CV c;lia
  .rw[show a=b by lia];lia
theorem B8:∀{l:List Nat},l≠[]->∃m∈l,∀x∈l,x<=m
 | [],h=>absurd rfl h
 | [a],_=>⟨a,.head _,λx hx=>by rw[mem_singleton.mp hx];exact Ll _⟩
 | a::b::l,_=>by
  obtain ⟨m,hm,h⟩:=B8 (l:=b::l) (by simp);by_cases c:a<=m
  .exact ⟨m,.tail _ hm,λx hx=>by
    rcases Lz.mp hx with rfl | hx
    .exact c
    .exact h x hx⟩
  .exact ⟨a,.head _,λx hx=>by
    rcases Lz.mp hx with rfl | hx
    .exact Ll _
    .have:=h x hx;lia⟩
noncomputable def nJ (t:SetTable)(h:Int)(m:Nat):List Nat:=((LD m).map λa=>(sN t h (13+a)).1).filter λj=>decide (j+9<=t.mask)
noncomputable def oP (t:SetTable)(h:Int)(m:Nat):List Nat:=((LD m).map λa=>(sN t h (13+a)).1).filter λj=>decide (¬j+9<=t.mask)
theorem nv:∀m,mO t h (13+m)<=130+10*(nJ t h m).length+(oP t h m).length/\(nJ t h m).length+(oP t h m).length=m
  | 0=>by
    have:=CU (t:=t) (h:=h) 13;exact ⟨by show mO t h 13<=130+10*0+0;lia,rfl⟩
  | m+1=>by
    obtain ⟨ih1,ih2⟩:=nv m;have e:mO t h (13+(m+1))=mO t h (13+m)+(runEnd t.mask (sN t h (13+m)).1 - (sN t h (13+m)).1)+1:=rfl;unfold nJ oP at ih1 ih2 ⊢;rw[List.range_succ,LI,filter_append,filter_append,LA,LA];rcases rW t.mask (sN t h (13+m)).1 with ⟨c,r⟩ | ⟨c,r⟩
    · have e1 : (List.filter (λj => decide (j + 9 <= t.mask)) ([m].map λa => (sN t h (13 + a)).1)).length = 1 := by simp [c]
      have e2:(List.filter (λj=>decide (¬j+9<=t.mask)) ([m].map λa=>(sN t h (13+a)).1)).length=0:=by simp[c]
      rw[e1,e2];lia
    · have e1 : (List.filter (λj => decide (j + 9 <= t.mask)) ([m].map λa => (sN t h (13 + a)).1)).length = 0 := by simp [c]
      have e2:(List.filter (λj=>decide (¬j+9<=t.mask)) ([m].map λa=>(sN t h (13+a)).1)).length=1:=by rw[LK,List.map_nil,filter_cons,if_pos (by simpa using c)];rfl
      rw[e1,e2];lia
theorem iU {k:Nat}(hm:t.mask+1=2 ^ k){m:Nat}(h1:m<=2 ^ k):((LD m).map λa=>(sN t h (13+a)).1).Nodup:=rM λa b hab hb=>GR hm a b hab (by lia)
theorem qV {k:Nat}(hm:t.mask+1=2 ^ k){m:Nat}(h1:m<=2 ^ k):(oP t h m).length<=9:=by
 have:=fU (l:=oP t h m) (l':=(LD 9).map λi=>t.mask - i) ((iU hm h1).sublist filter_sublist) λx hx=>by
  obtain ⟨h2,h3⟩:=List.mem_filter.mp hx;obtain ⟨a,_,rfl⟩:=Lx.mp h2;rw[decide_eq_true_eq] at h3;have:=Fh (t:=t) (h:=h) (13+a);exact Lx.mpr ⟨t.mask - (sN t h (13+a)).1,mem_range.mpr (by lia),by lia⟩
 rw[Lk,length_range] at this;exact this
theorem u5 (P:uf t){j:Nat}(hs:t.slot j≠.empty):j∈t.place.toList:=by
 rcases iT P j with ⟨i,hi,_⟩ | ⟨_,z⟩
 .exact Ls (i:=i) (by rw[Lo];exact hi)
 .exact absurd z hs
theorem BB (P:uf t){k:Nat}(hm:t.mask+1=2 ^ k){m:Nat}(h1:m<=2 ^ k)(hl:∀q,q<mO t h (13+m)->t.slot (stN t h q).j≠.empty):(nJ t h m).length+9<=t.place.size\/nJ t h m = []:=by
 by_cases c:nJ t h m = []
 .exact .inr c
 refine .inl ?_;obtain ⟨j,hj,hmax⟩:=B8 c;have mono:∀a b,a<=b->mO t h a<=mO t h b:=λa b hab=>by
  induction b with
  | zero=>rw[Nat.le_zero.mp hab];exact Ll _
  | succ b ih =>
   by_cases z:a<=b
   .have:=ih z;show mO t h a<=mO t h b+_+1;lia
   .rw[show a=b+1 by lia];exact Ll _
 have win:∀x∈nJ t h m,∀q,q<=9->x+q∈t.place.toList:=λx hx q hq=>by
  obtain ⟨h2,h3⟩:=List.mem_filter.mp hx;obtain ⟨a,ha,rfl⟩:=Lx.mp h2;have ha:=mem_range.mp ha;rw[decide_eq_true_eq] at h3;rcases rW t.mask (sN t h (13+a)).1 with ⟨_,r⟩ | ⟨z,_⟩
  .obtain ⟨a1,a2,_,_⟩:=xk (t:=t) (h:=h) (13+a);obtain ⟨b1,_,_,_⟩:=CO a2 q (by lia);rw[a1] at b1;rw[<-b1];refine u5 P (hl _ ?_);have e:mO t h (13+a+1)=mO t h (13+a)+(runEnd t.mask (sN t h (13+a)).1 - (sN t h (13+a)).1)+1:=rfl;have:=mono (13+a+1) (13+m) (by lia);lia
  .exact absurd h3 z
 have:=fU (l:=nJ t h m++(LD 9).map λi=>j+1+i) (l':=t.place.toList) (by
  rw[nodup_append];refine ⟨(iU hm h1).sublist filter_sublist,rM λa b hab _=>by lia,λx hx y hy e=>?_⟩;obtain ⟨i,_,rfl⟩:=Lx.mp hy;have:=hmax x hx;lia) λx hx=>by
  rcases mem_append.mp hx with hx | hx
  .exact win x hx 0 (by lia)
  .obtain ⟨i,hi,rfl⟩:=Lx.mp hx;have:=win j hj (i+1) (by have:=mem_range.mp hi;lia);rw[show j+(i+1)=j+1+i by lia] at this;exact this
 rw[LA,Lk,length_range,Lw] at this;exact this
theorem wF (P:uf t){k j0:Nat}(hm:t.mask+1=2 ^ k)(hj:j0<=t.mask)(hs:t.slot j0=.empty)(hn:t.place.size<=9994)(hr:t.place.size+1<=2 ^ k)(h:Int):∃K,K<100000/\t.slot (stN t h K).j=.empty/\∀q,q<K->t.slot (stN t h q).j≠.empty:=by
 obtain ⟨K,_,h1,h2⟩:=uM P hm hj hs h;refine ⟨K,?_,h1,h2⟩;refine Classical.byContradiction λc=>?_;have key:∀m,m<=t.place.size+1->mO t h (13+m)<=99999:=λm=>by
  induction m with
  | zero=>intro _;have:=CU (t:=t) (h:=h) 13;show mO t h 13<=_;lia
  | succ m ih =>
   intro hm1;have ih:=ih (by lia);obtain ⟨s1,s2⟩:=nv (t:=t) (h:=h) m;have c9:=qV (t:=t) (h:=h) hm (m:=m) (by lia);have e:mO t h (13+(m+1))=mO t h (13+m)+(runEnd t.mask (sN t h (13+m)).1 - (sN t h (13+m)).1)+1:=rfl;have r9:=pY t.mask (sN t h (13+m)).1;rcases BB P hm (h:=h) (m:=m) (by lia) (λq hq=>h2 q (by lia)) with z | z
   .lia
   .rw[z] at s1;have:([]:List Nat).length=0:=rfl;lia
 obtain ⟨s1,s2⟩:=nv (t:=t) (h:=h) (t.place.size+1);have c9:=qV (t:=t) (h:=h) hm (m:=t.place.size+1) hr;have k1:=key _ (Ll _);have:=fU (l:=(LD (t.place.size+1)).map λa=>(sN t h (13+a)).1) (l':=t.place.toList) (iU hm hr) λx hx=>by
  obtain ⟨a,ha,rfl⟩:=Lx.mp hx;have ha:=mem_range.mp ha;rw[<-(xk (t:=t) (h:=h) (13+a)).1];exact u5 P (h2 _ (by have:=CV (t:=t) (h:=h) (show 13+a<13+(t.place.size+1) by lia);lia))
 rw[Lk,length_range,Lw] at this;lia
end
end WS
namespace WS
open PySem PySem.SetTable
section
variable {t:SetTable} {h:Int}
noncomputable def qO (t:SetTable)(h:Int)(n:Nat):Prop:=(stN t h n).j=(stN t h n).i/\(stN t h n).more=runEnd t.mask (stN t h n).i - (stN t h n).i
theorem Ki:qO t h 0:=⟨rfl,rfl⟩
theorem pX {n:Nat}(R:qO t h n):∀k,k<=(stN t h n).more->(stN t h (n+k)).j=(stN t h n).i+k/\(stN t h (n+k)).i=(stN t h n).i/\(stN t h (n+k)).perturb=(stN t h n).perturb/\(stN t h (n+k)).more=(stN t h n).more - k
 | 0,_=>⟨R.1,rfl,rfl,rfl⟩
 | k+1,hk=>by
  obtain ⟨a,b,c,d⟩:=pX R k (by lia);have e:stN t h (n+(k+1))=t.advance (stN t h (n+k)):=rfl;rw[e];unfold advance;rw[if_pos (show (stN t h (n+k)).more>0 by lia)];refine ⟨?_,b,c,?_⟩
  .show (stN t h (n+k)).j+1=_;lia
  .show (stN t h (n+k)).more - 1=_;lia
theorem CI {n:Nat}(R:qO t h n):qO t h (n+(stN t h n).more+1)/\(stN t h (n+(stN t h n).more+1)).i=(leap t.mask (stN t h n).i (stN t h n).perturb).1/\(stN t h (n+(stN t h n).more+1)).perturb=(leap t.mask (stN t h n).i (stN t h n).perturb).2:=by
 obtain ⟨a,b,c,d⟩:=pX R (stN t h n).more (Ll _);have e:stN t h (n+(stN t h n).more+1)=t.advance (stN t h (n+(stN t h n).more)):=rfl;have e2:t.advance (stN t h (n+(stN t h n).more)) = { stN t h (n+(stN t h n).more) with j:=(leap t.mask (stN t h n).i (stN t h n).perturb).1,more:=runEnd t.mask (leap t.mask (stN t h n).i (stN t h n).perturb).1 - (leap t.mask (stN t h n).i (stN t h n).perturb).1,i:=(leap t.mask (stN t h n).i (stN t h n).perturb).1,perturb:=(leap t.mask (stN t h n).i (stN t h n).perturb).2 }:=by
  unfold advance;rw[if_neg (show ¬(stN t h (n+(stN t h n).more)).more>0 by lia),b,c]
 unfold qO;rw[e,e2];exact ⟨⟨rfl,rfl⟩,rfl,rfl⟩
noncomputable def mQ (owner:Array (Option Nat))(j:Nat):Prop:=(owner.getD j (some 0)).isNone=true
theorem rC {owner:Array (Option Nat)}:∀(fuel n j:Nat),qO t h n->layClean.free t.mask owner fuel (stN t h n).i (stN t h n).perturb=some j->∃m,n<=m/\(stN t h m).j=j/\mQ owner j/\∀q,n<=q->q<m->¬mQ owner (stN t h q).j
  | 0,n,j,R,e=>by
    unfold layClean.free at e;cases e
  | fuel+1,n,j,R,e=>by
    unfold layClean.free at e;have hlen:runEnd t.mask (stN t h n).i+1 - (stN t h n).i=(stN t h n).more+1:=by
      have:(stN t h n).i<=runEnd t.mask (stN t h n).i:=by unfold runEnd;split<;>lia
      rw[R.2];lia
    rw[hlen] at e;cases hf:(LD ((stN t h n).more+1)).find? λk=>(owner.getD ((stN t h n).i+k) (some 0)).isNone with
    | some k =>
      rw[hf] at e;have ej:(stN t h n).i+k=j:=Option.some.inj e;have h1:=List.find?_some hf;have h2:=mem_range.mp (List.mem_of_find?_eq_some hf);have rk:=pX R k (by lia);refine ⟨n+k,by lia,by rw[rk.1];exact ej,by rw[<-ej];exact h1,λq a b=>?_⟩;obtain ⟨d,rfl⟩ : ∃d,q=n+d:=⟨q - n,by lia⟩
      have rd:=pX R d (by lia);rw[rd.1];have hb:=List.find?_eq_some_iff_getElem.mp hf;obtain ⟨_,i,hi,ei,hall⟩:=hb;rw[List.getElem_range] at ei;have:=hall d (by lia);rw[List.getElem_range] at this;intro z;unfold mQ at z;rw[z] at this;cases this
    | none =>
      rw[hf] at e;dsimp only at e;obtain ⟨R',e1,e2⟩:=CI R;rw[<-e1,<-e2] at e;obtain ⟨m,m1,m2,m3,m4⟩:=rC fuel _ j R' e;refine ⟨m,by lia,m2,m3,λq a b=>?_⟩;by_cases c:n+(stN t h n).more+1<=q
      · exact m4 q c b
      · obtain ⟨d, rfl⟩ : ∃ d, q = n + d := ⟨q - n, by lia⟩
        have rd:=pX R d (by lia);rw[rd.1];have:=List.find?_eq_none.mp hf d (mem_range.mpr (by lia));exact this
theorem rD {owner:Array (Option Nat)}{j0:Nat}(hs:mQ owner j0){mask:Nat}:∀(n fuel i p:Nat),(rL mask n (i,p)).1=j0->n<fuel->layClean.free mask owner fuel i p≠none
 | 0,fuel,i,p,e,hf=>by
  obtain ⟨f,rfl⟩ : ∃f,fuel=f+1:=⟨fuel - 1,by lia⟩
  unfold layClean.free;have e':i=j0:=e;subst e';have hm:(LD (runEnd mask i+1 - i)).find? (λk=>(owner.getD (i+k) (some 0)).isNone)≠none:=λz=>by
   have:=List.find?_eq_none.mp z 0 (mem_range.mpr (by unfold runEnd;split<;>lia));exact this hs
  cases hf:(LD (runEnd mask i+1 - i)).find? λk=>(owner.getD (i+k) (some 0)).isNone with
  | none=>exact absurd hf hm
  | some k=>exact λz=>nomatch z
 | n+1,fuel,i,p,e,hf=>by
  obtain ⟨f,rfl⟩ : ∃f,fuel=f+1:=⟨fuel - 1,by lia⟩
  unfold layClean.free;cases hf2:(LD (runEnd mask i+1 - i)).find? λk=>(owner.getD (i+k) (some 0)).isNone with
  | some k=>exact λz=>nomatch z
  | none=>exact rD hs n f _ _ e (by lia)
end
end WS
namespace WS
open PySem PySem.SetTable
theorem jG {owner:Array (Option Nat)}{j:Nat}:mQ owner j↔owner[j]?=some none:=by
 unfold mQ;rw[Array.getD_eq_getD_getElem?];cases e:owner[j]? with
 | none=>exact ⟨λz=>(nomatch z),λz=>(nomatch z)⟩
 | some v =>
  cases v with
  | none=>exact ⟨λ_=>rfl,λ_=>rfl⟩
  | some k=>exact ⟨λz=>(nomatch z),λz=>(nomatch z)⟩
structure Laid (t:SetTable)(hs:List Int)(owner:Array (Option Nat)):Prop where
 size:owner.size=t.mask+1
 has:∀(k:Nat) (h:Int),hs[k]?=some h->∃j n,owner[j]?=some (some k)/\(stN t h n).j=j/\∀q,q<n->¬mQ owner (stN t h q).j
 own:∀(j v:Nat),owner[j]?=some (some v)->v<hs.length
 inj:∀(j j' v:Nat),owner[j]?=some (some v)->owner[j']?=some (some v)->j=j'
 cnt:owner.toList.countP Option.isNone+hs.length=t.mask+1
theorem Laid.nil (t:SetTable):Laid t [] (Array.replicate (t.mask+1) none) where
 size:=Array.size_replicate
 has:=λk h e=>by rw[List.getElem?_nil] at e;cases e
 own:=λj v e=>by rw[Array.getElem?_replicate] at e;split at e<;>cases e
 inj:=λj j' v e=>by rw[Array.getElem?_replicate] at e;split at e<;>cases e
 cnt:=by rw[Array.toList_replicate,List.countP_replicate];rfl
theorem Laid.room {t:SetTable}{hs:List Int}{owner:Array (Option Nat)}(L:Laid t hs owner)(h:hs.length<=t.mask):∃j,j<=t.mask/\mQ owner j:=by
 have c:=L.cnt;have:0<owner.toList.countP Option.isNone:=by lia
 obtain ⟨v,hv,hn⟩:=List.countP_pos_iff.mp this;obtain ⟨j,hj,e⟩:=List.mem_iff_getElem.mp hv;have s:=L.size;rw[Lw] at hj;refine ⟨j,by lia,jG.mpr ?_⟩;cases v with
 | none =>
  rw[Lq hj];rw[Array.getElem_toList] at e;exact congrArg some e
 | some k=>cases hn
theorem ba {owner:Array (Option Nat)}{j k:Nat}(hj:j<owner.size)(j':Nat):(owner.setIfInBounds j (some k))[j']?=if j=j' then some (some k) else owner[j']?:=by
 rw[Array.getElem?_setIfInBounds];by_cases e:j=j'
 .subst e;rw[if_pos rfl,if_pos rfl,if_pos hj]
 .rw[if_neg e,if_neg e]
theorem Laid.step {t:SetTable}{hs:List Int}{owner:Array (Option Nat)}(L:Laid t hs owner){h:Int}{n:Nat}(hf:mQ owner (stN t h n).j)(hq:∀q,q<n->¬mQ owner (stN t h q).j):Laid t (hs++[h]) (owner.setIfInBounds (stN t h n).j (some hs.length)):=by
  have hg:=jG.mp hf;obtain ⟨hj,hv⟩:=Array.getElem?_eq_some_iff.mp hg;generalize hJ:(stN t h n).j=J at *;have keep:∀x,¬mQ owner x->¬mQ (owner.setIfInBounds J (some hs.length)) x:=λx hx z=>by
    rw[jG,ba hj] at z;split at z
    · cases z
    · exact hx (jG.mpr z)
  refine ⟨by rw[Array.size_setIfInBounds];exact L.size,λk h' e=>?_,λj v e=>?_,λj j' v e e'=>?_,?_⟩
  · by_cases hk:k<hs.length
    · rw[List.getElem?_append_left hk] at e;obtain ⟨j,m,a,b,c⟩:=L.has k h' e;refine ⟨j,m,?_,b,λq hq'=>keep _ (c q hq')⟩;rw[ba hj,if_neg (λz=>by rw[<-z,hg] at a;cases a)];exact a
    · have hk2:k=hs.length:=by
        have:=(Lp.mp e).1;rw[LA,List.length_singleton] at this;lia
      subst hk2;rw[List.getElem?_append_right (Ll _),Nat.sub_self] at e;have e':h=h':=Option.some.inj e;subst e';exact ⟨J,n,by rw[ba hj,if_pos rfl],hJ,λq hq'=>keep _ (hq q hq')⟩
  · rw[ba hj] at e;rw[LA,List.length_singleton];split at e
    · have : v = hs.length := by injection e with e;injection e with e;exact e.symm
      lia
    · have:=L.own j v e;lia
  · rw[ba hj] at e e';split at e
    · have hv' : v = hs.length := by injection e with e;injection e with e;exact e.symm
      split at e'
      · lia
      · have:=L.own j' v e';lia
    · split at e'
      · have hv' : v = hs.length := by injection e' with e';injection e' with e';exact e'.symm
        have:=L.own j v e;lia
      · exact L.inj j j' v e e'
  · have c:=L.cnt;rw[Array.toList_setIfInBounds,List.countP_set (by rw[Lw];exact hj),LA,List.length_singleton];have e1:owner.toList[J]'(by rw[Lw];exact hj)=none:=by rw[Array.getElem_toList];exact hv
    rw[e1];have pos:0<owner.toList.countP Option.isNone:=List.countP_pos_iff.mpr ⟨none,by rw[<-e1];exact List.getElem_mem _,rfl⟩;show owner.toList.countP Option.isNone - 1+0+(hs.length+1)=_;lia
theorem oQ {t:SetTable}{k:Nat}(hm:t.mask+1=2 ^ k):∀(rest hs:List Int) (owner:Array (Option Nat)),Laid t hs owner->hs.length+rest.length<=t.mask+1 ->
    ∃owner',rest.foldl (λacc h=>do let (owner,k) <-acc;let j <-layClean.free t.mask owner (turns t.mask) (bits h % (t.mask+1)) (bits h);pure (owner.setIfInBounds j (some k),k+1)) (some (owner,hs.length))=some (owner',hs.length+rest.length)/\Laid t (hs++rest) owner'
  | [],hs,owner,L,_=>⟨owner,rfl,by rw[append_nil];exact L⟩
  | h::rest,hs,owner,L,hl=>by
    rw[LN] at hl;obtain ⟨j0,hj0,hfree⟩:=L.room (by lia);obtain ⟨n0,hn0,e0⟩:=uY (i:=bits h % (t.mask+1)) hm (so h) hj0;have hs':=rD hfree n0 (turns t.mask) (bits h % (t.mask+1)) (bits h) e0 (by unfold turns;lia);cases e:layClean.free t.mask owner (turns t.mask) (bits h % (t.mask+1)) (bits h) with
    | none=>exact absurd e hs'
    | some j =>
      obtain ⟨m,_,m2,m3,m4⟩:=rC (t:=t) (h:=h) (turns t.mask) 0 j Ki e;have L':=L.step (h:=h) (n:=m) (by rw[m2];exact m3) λq hq=>m4 q (LS _) hq;rw[m2] at L';obtain ⟨o',e1,e2⟩:=oQ hm rest (hs++[h]) _ L' (by rw[LA,List.length_singleton];lia);refine ⟨o',?_,by rw[LX] at e2;exact e2⟩;rw[List.foldl_cons];rw[LA,List.length_singleton] at e1;rw[show (do let (owner,k) <-(some (owner,hs.length):Option (Array (Option Nat)×Nat));let j <-layClean.free t.mask owner (turns t.mask) (bits h % (t.mask+1)) (bits h);pure (owner.setIfInBounds j (some k),k+1))=some (owner.setIfInBounds j (some hs.length),hs.length+1) by
        show (layClean.free t.mask owner (turns t.mask) (bits h % (t.mask+1)) (bits h)).bind (λj=>some (owner.setIfInBounds j (some hs.length),hs.length+1))=_;rw[e];rfl]
      rw[e1,LN];congr 2;lia
end WS
namespace WS
open PySem PySem.SetTable
theorem A4 {t:SetTable}{k:Nat}(hm:t.mask+1=2 ^ k)(hashes:Array Int)(hl:hashes.size<=t.mask+1):∃owner,layClean t.mask hashes=some owner/\Laid t hashes.toList owner:=by
 obtain ⟨o,e,L⟩:=oQ hm hashes.toList [] _ (Laid.nil t) (by rw[List.length_nil,Lw];lia);refine ⟨o,?_,L⟩;unfold layClean;rw[<-Array.foldl_toList];rw[List.length_nil] at e;rw[e];rfl
noncomputable def fC (owner:Array (Option Nat))(mask:Nat):List (Nat×Nat):=(LD (mask+1)).filterMap λj=>(owner.getD j none).map (j,·)
theorem sT {owner:Array (Option Nat)}{j:Nat}{x:Nat×Nat}:(owner.getD j none).map (j,·)=some x↔x.1=j/\owner[j]?=some (some x.2):=by
 rw[Array.getD_eq_getD_getElem?];cases e:owner[j]? with
 | none=>exact ⟨λz=>(nomatch z),λz=>(nomatch z.2)⟩
 | some v =>
  cases v with
  | none=>exact ⟨λz=>(nomatch z),λz=>(nomatch z.2)⟩
  | some w =>
   constructor
   .intro z;have:(j,w)=x:=Option.some.inj z;subst this;exact ⟨rfl,rfl⟩
   .rintro ⟨h1,h2⟩;have h3:w=x.2:=by injection h2 with h2;injection h2
    show some (j,w)=some x;rw[h3,<-h1]
theorem B9 {t:SetTable}{hs:List Int}{owner:Array (Option Nat)}(L:Laid t hs owner){x:Nat×Nat}:x∈fC owner t.mask↔owner[x.1]?=some (some x.2):=by
 unfold fC;rw[List.mem_filterMap];constructor
 .rintro ⟨j,_,hj⟩;obtain ⟨a,b⟩:=sT.mp hj;rw[a];exact b
 .intro h;have hs:=(Array.getElem?_eq_some_iff.mp h).1;have s:=L.size;exact ⟨x.1,mem_range.mpr (by lia),sT.mpr ⟨rfl,h⟩⟩
theorem Ab (owner:Array (Option Nat))(mask:Nat):(fC owner mask).Pairwise λx y=>x.1<y.1:=by
 unfold fC;rw[List.pairwise_filterMap];refine List.Pairwise.imp (λ{a b} hab x hx y hy=>?_) List.pairwise_lt_range;rw[(sT.mp hx).1,(sT.mp hy).1];exact hab
theorem D3 {mask k:Nat}(hm:mask+1=2 ^ k)(finger moves:Nat)(led plain:Bool)(hashes:Array Int)(hl:hashes.size<=mask+1) :
    ∃t order,laid mask finger moves led plain hashes=some (t,order)/\t.mask=mask/\t.moves=moves/\t.led=led/\t.plain=plain/\uf t/\t.place.size=hashes.size/\order.toList.Perm (LD hashes.size) /\
      (∀j∈t.place.toList,j<=mask)/\∀(i j:Nat),t.place[i]?=some j->∃(kk:Nat) (hh:Int),order[i]?=some kk/\hashes[kk]?=some hh/\eJ t hh j:=by
  obtain ⟨owner,e,L⟩:=A4 (t:=⟨mask,#[],#[],finger,led,moves,plain⟩) hm hashes hl;have rise:=Ab owner mask;have mem:∀{x:Nat×Nat},x∈fC owner mask↔owner[x.1]?=some (some x.2):=B9 L;have perm:((fC owner mask).map (·.2)).Perm (LD hashes.size):=by
    refine (List.perm_ext_iff_of_nodup ?_ nodup_range).mpr λv=>?_
    · show ((fC owner mask).map (·.2)).Pairwise (·≠·);rw[pairwise_map];refine List.Pairwise.imp_of_mem (λ{a b} ha hb hab z=>?_) rise;have h1:=mem.mp ha;have h2:=mem.mp hb;rw[<-z] at h2;have:=L.inj _ _ _ h1 h2;lia
    · rw[Lx,mem_range];constructor
      · rintro ⟨x,hx,rfl⟩;have:=L.own _ _ (mem.mp hx);rw[Lw] at this;exact this
      · intro hv;obtain ⟨j,n,a,_⟩:=L.has v hashes[v] (by rw[Lo];exact Lq hv);exact ⟨(j,v),mem.mpr a,rfl⟩
  have len:(fC owner mask).length=hashes.size:=by have:=perm.length_eq;rw[Lk,length_range] at this;exact this
  generalize hT:(⟨mask,((fC owner mask).map (·.1)).toArray,#[],finger,led,moves,plain⟩ : SetTable)=T;have ep:T.place=((fC owner mask).map (·.1)).toArray:=by rw[<-hT]
  have em:T.mask=mask:=by rw[<-hT]
  have getp:∀(i j:Nat),T.place[i]?=some j↔∃v,(fC owner mask)[i]?=some (j,v):=λi j=>by
    rw[ep,List.getElem?_toArray,LC];cases (fC owner mask)[i]? with
    | none=>exact ⟨λz=>(nomatch z),by rintro ⟨v,z⟩;exact (nomatch z)⟩
    | some x =>
      constructor
      · intro z;have:x.1=j:=Option.some.inj z;exact ⟨x.2,by rw[<-this]⟩
      · rintro ⟨v,z⟩;rw[Option.some.inj z];rfl
  have P:uf T:=by
    refine ⟨λa b hab hb=>?_,by rw[<-hT]⟩;have hb':b<(fC owner mask).length:=by rw[ep,LG,Lk] at hb;exact hb
    have ga:T.place[a]?=some ((fC owner mask)[a]'(by lia)).1:=(getp a _).mpr ⟨_,Lm (by lia)⟩;have gb:T.place[b]?=some ((fC owner mask)[b]).1:=(getp b _).mpr ⟨_,Lm hb'⟩;rw[(get_some.mp ga).2,(get_some.mp gb).2];exact pairwise_iff_getElem.mp rise a b (by lia) hb' hab
  have occ:∀j,j<=mask->¬mQ owner j->T.slot j≠.empty:=λj hj hf=>by
    have s:owner.size=mask+1:=L.size;have hlt:j<owner.size:=by lia
    cases ev:owner[j] with
    | none=>exact absurd (jG.mpr (by rw[Lq hlt,ev])) hf
    | some v =>
      have hx:(j,v)∈fC owner mask:=mem.mpr (by rw[Lq hlt,ev]);obtain ⟨i,hi,ei⟩:=List.mem_iff_getElem.mp hx;rw[fo P ((getp i j).mpr ⟨v,by rw[Lm hi,ei]⟩)];exact λz=>nomatch z
  refine ⟨T,((fC owner mask).map (·.2)).toArray,?_,em,by rw[<-hT],by rw[<-hT],by rw[<-hT],P,by rw[ep,LG,Lk];exact len,perm,λj hj=>?_,λi j hij=>?_⟩
  · unfold laid;rw[show layClean mask hashes=some owner from e,<-hT];rfl
  · rw[ep] at hj;obtain ⟨x,hx,rfl⟩:=Lx.mp hj;have:=(Array.getElem?_eq_some_iff.mp (mem.mp hx)).1;have s:owner.size=mask+1:=L.size;lia
  · obtain ⟨v,hv⟩:=(getp i j).mp hij;have hmem:=Ls hv;have ho:=mem.mp hmem;have hvn:=L.own _ _ ho;rw[Lw] at hvn;refine ⟨v,hashes[v],by rw[List.getElem?_toArray,LC,hv];rfl,Lq hvn,?_⟩;obtain ⟨j2,n,a,b,c⟩:=L.has v hashes[v] (by rw[Lo];exact Lq hvn);have ej:j2=j:=L.inj _ _ _ a ho;subst ej;have es:=kD (t:=⟨mask,#[],#[],finger,led,moves,plain⟩) (t':=T) em.symm hashes[v];refine ⟨n,by rw[<-es];exact b,λq hq=>?_⟩;rw[<-es];refine occ _ ?_ (c q hq);have:=(fG ⟨mask,#[],#[],finger,led,moves,plain⟩ hashes[v] q).2.2.2;dsimp only at this;lia
end WS
namespace WS
open PySem PySem.SetTable
theorem len_sub {α:Type}[DecidableEq α]:∀(xs ys:List α),xs.Nodup->(∀x∈xs,x∈ys)->xs.length<=ys.length
 | [],_,_,_=>LS _
 | x::xs,ys,hn,hs=>by
  rw[nodup_cons] at hn;have h1:=len_sub xs (ys.erase x) hn.2 λy hy=>(List.mem_erase_of_ne (λe:y=x=>hn.1 (e ▸ hy))).mpr (hs y (.tail _ hy));have h2:=hs x (.head _);have h3:=List.length_erase_of_mem h2;have h4:=List.length_pos_of_mem h2;rw[LN];lia
section
variable {prog:LH} {w:LR} {K:Type} [DecidableEq K]
structure Tab (knd:KeyKind prog w K)(h:Heap)(es:Array (Int×Lg))(t:SetTable)(ks:List (List K)):Prop where
 pP:uf t
 vW:t.place.size=es.size
 AU:t.mask∈[7,31,127,511,2047,8191,32767]
 le:∀(i j:Nat),t.place[i]?=some j->j<=t.mask
 num:ks.length=es.size
 gd:ks.Nodup
 ent:∀(i:Nat) e,es[i]?=some e->∃k∈ks,∃b,e=(tupleKeyHash knd k,.ref b)/\IsTupleKey knd h k b
 has:∀k∈ks,∃(i:Nat) (b:Addr),es[i]?=some (tupleKeyHash knd k,.ref b)/\IsTupleKey knd h k b
 path:∀(i j:Nat) e,t.place[i]?=some j->es[i]?=some e->eJ t e.1 j
structure g9 (knd:KeyKind prog w K)(h:Heap)(a:Addr)(o:Obj)(es:Array (Int×Lg))(ep:Nat)(t:SetTable)(ks:List (List K)):Prop extends Tab knd h es t ks where
 obj:h.get? a=some o
 dat:o.data=.set es ep t
 E1:o.ExactSet
 room:t.place.size*5<t.mask*3
variable {knd:KeyKind prog w K} {h:Heap} {a:Addr} {o:Obj} {es:Array (Int×Lg)} {ep:Nat} {t:SetTable} {ks:List (List K)}
theorem Tab.pow (T:Tab knd h es t ks):∃k,3<=k/\t.mask+1=2 ^ k:=by
 have hm:=T.AU;simp only[Lz,List.not_mem_nil,or_false] at hm;rcases hm with e | e | e | e | e | e | e<;>rw[e]
 .exact ⟨3,by decide,by decide⟩
 .exact ⟨5,by decide,by decide⟩
 .exact ⟨7,by decide,by decide⟩
 .exact ⟨9,by decide,by decide⟩
 .exact ⟨11,by decide,by decide⟩
 .exact ⟨13,by decide,by decide⟩
 .exact ⟨15,by decide,by decide⟩
theorem g9.odd (T:g9 knd h a o es ep t ks):t.mask % 2=1:=by
 obtain ⟨k,h3,e⟩:=T.pow;obtain ⟨m,rfl⟩ : ∃m,k=m+1:=⟨k - 1,by lia⟩
 rw[Nat.pow_succ] at e;lia
theorem g9.fits (T:g9 knd h a o es ep t ks):t.fits es.size=true:=by
 unfold SetTable.fits SetTable.fill;rw[T.pP.gd];have:=T.room;have:=T.vW;rw[LV,beq_iff_eq,decide_eq_true_eq];refine ⟨T.vW,?_⟩;show t.place.size+0<=t.mask;lia
theorem g9.o6 (T:g9 knd h a o es ep t ks):∃j,j<=t.mask/\t.slot j=.empty:=by
 by_cases c:∃j,j<=t.mask/\∀i:Nat,t.place[i]?≠some j
 .obtain ⟨j,hj,hn⟩:=c;exact ⟨j,hj,qa T.pP hn⟩
 .exfalso;have hr:=T.room;have all:∀j,j<=t.mask->j∈t.place.toList:=λj hj=>by
   refine Classical.byContradiction λhc=>c ⟨j,hj,λi z=>hc ?_⟩;rw[<-Lo] at z;exact Ls z
  have hl:(LD (t.mask+1)).length<=t.place.toList.length:=len_sub _ _ nodup_range λj hj=>all j (by rw[mem_range] at hj;lia);rw[length_range,Lw] at hl;lia
variable {A:LQ} {E:Lg->Li->Prop} {s:Li}
theorem qz (n:Nat){v:Lg}(hv:carriedByValue v=true):ofAClassStatement n v=pure false:=by
 cases v with
 | ref a=>simp[carriedByValue] at hv
 | _=>cases n<;>rfl
theorem kP {k:List K}{b:Addr}{Q:Bool->Li->Prop}(hk:IsTupleKey knd s.heap k b)(q:Q false s):wpAny (model prog w) A (ofAClassStatement 8 (.ref b)) Q E s:=by
 have hT:=hk.typeIs;obtain ⟨o,items,n,ho,_,hd,hi⟩:=hk;unfold ofAClassStatement;refine Lh (wpAny_typeOf hT ?_);dsimp only;rw[if_pos (by decide)];refine Lh (Lj ?_);simp only[Bool.not_true,LB,if_false];refine Lh (wpAny_seqItems ho hd ?_);dsimp only;refine Lh ?_;rw[<-Array.forIn_toList];refine wpAny_forIn_list _ (λrest r s'=>r.1=none/\s'=s/\∀v∈rest,carriedByValue v=true) _ ?_ ?_ _ _ ⟨rfl,rfl,hi.byValue⟩
 .rintro v rest r s' ⟨hr,rfl,hall⟩;rw[qz _ (hall v mem_cons_self)];refine Lh (Lj ?_);simp only[LB,if_false];exact Lj ⟨rfl,rfl,λu hu'=>hall u (LO _ hu')⟩
 .rintro ⟨r1,r2⟩ s' ⟨hr,rfl,_⟩;simp only at hr;subst hr;exact Lj q
theorem EC {k:List K}{b:Addr}{Q:Bool->Li->Prop}(hk:IsTupleKey knd s.heap k b)(ys:List Lg)(hy:∀y∈ys,∃k' b',y=.ref b'/\IsTupleKey knd s.heap k' b')(q:Q false s):wpAny (model prog w) A (searchCouldBeSeen (.ref b) ys) Q E s:=by
 unfold searchCouldBeSeen;refine Lh ?_;refine wpAny_forIn_list _ (λrest r s'=>r.1=none/\s'=s/\∀y∈rest,∃k' b',y=.ref b'/\IsTupleKey knd s.heap k' b') _ ?_ ?_ _ _ ⟨rfl,rfl,hy⟩
 .rintro v rest r s' ⟨hr,rfl,hall⟩;obtain ⟨k',b',rfl,hk'⟩:=hall v mem_cons_self;dsimp only;split
  .exact Lj ⟨rfl,rfl,λu hu'=>hall u (LO _ hu')⟩
  .refine Lh (wpAny_eqIsQuiet_tuple hk ?_);simp only[Bool.not_true,LB,if_false];refine Lh (wpAny_eqIsQuiet_tuple hk' ?_);simp only[Bool.not_true,LB,if_false];refine Lh (kP hk ?_);simp only[LB,if_false];refine Lh (kP hk' ?_);simp only[LB,if_false];exact Lj ⟨rfl,rfl,λu hu'=>hall u (LO _ hu')⟩
 .rintro ⟨r1,r2⟩ s' ⟨hr,rfl,_⟩;simp only at hr;subst hr;exact Lj q
noncomputable def Other (knd:KeyKind prog w K)(hp:Heap)(es:Array (Int×Lg))(t:SetTable)(kk:List K)(q:Nat):Prop:=
 ∃i:Nat,t.slot (stN t (tupleKeyHash knd kk) q).j=.live i/\∀b,es[i]?=some (tupleKeyHash knd kk,.ref b)->¬IsTupleKey knd hp kk b
theorem nN (T:g9 knd s.heap a o es ep t ks){kk:List K}{b:Addr}(hu:A.units<cLine)(hb:IsTupleKey knd s.heap kk b){KK:Nat}
    (hK:t.slot (stN t (tupleKeyHash knd kk) KK).j=.empty) (hK':∀q,q<KK->t.slot (stN t (tupleKeyHash knd kk) q).j≠.empty) {Q:SetFound->Li->Prop}
    (q1:kk∈ks->Q (.there none) s) (q2:kk∉ks->Q (.free (stN t (tupleKeyHash knd kk) KK).j false) s) :
    ∀(fuel n:Nat) (st:Option Probe),st.getD (t.probeStart (tupleKeyHash knd kk))=stN t (tupleKeyHash knd kk) n->n<=KK->KK<n+fuel->(∀q,q<n->Other knd s.heap es t kk q) ->
      wpAny (model prog w) A (setSearchFrom a (.ref b) (tupleKeyHash knd kk) true fuel st) Q E s
  | 0,n,st,e,h1,h2,h3=>absurd h2 (by lia)
  | fuel+1,n,st,e,h1,h2,h3=>by
    unfold setSearchFrom;refine Lh (wpAny_setState_of T.obj T.dat T.fits ?_);dsimp only;have hg:t.gaveWay=false:=by
      unfold SetTable.gaveWay;rw[T.odd];rfl
    rw[hg,e];simp only[LB,if_false];obtain ⟨k,_,hm⟩:=T.pow;obtain ⟨j0,hj0,hs0⟩:=T.o6;have hsome:t.probe (λi=>(es[i]?.map (·.1)).getD 0) (tupleKeyHash knd kk) (stN t (tupleKeyHash knd kk) n)≠none:=BE hm hj0 hs0 (fG t _ n).2.1 (fG t _ n).2.2.1;have hpath:=sM (t:=t) (hashAt:=λi=>(es[i]?.map (·.1)).getD 0) (h:=tupleKeyHash knd kk) T.pP (10*turns t.mask) n;have hch:∀q,q<n->t.slot (stN t (tupleKeyHash knd kk) q).j≠.empty:=λq hq=>by
      obtain ⟨i,hi,_⟩:=h3 q hq;rw[hi];exact λz=>nomatch z
    generalize er0:t.probe _ _ _=r0;have er:probe.go t (λi=>(es[i]?.map (·.1)).getD 0) (tupleKeyHash knd kk) (10*turns t.mask) (stN t (tupleKeyHash knd kk) n)=r0:=er0;unfold SetTable.probe at hsome;cases r0 with
    | none=>exact absurd er hsome
    | some r =>
      obtain ⟨m,m1,m2,m3,m4⟩:=hpath r er;have hoth:∀q,q<m->Other knd s.heap es t kk q:=λq hq=>by
        by_cases c:q<n
        · exact h3 q c
        · obtain ⟨i, hi, hne⟩ := m3 q (by lia) hq;refine ⟨i,hi,λb' z=>?_⟩;rw[z] at hne;exact absurd rfl hne
      have hne:∀q,q<m->t.slot (stN t (tupleKeyHash knd kk) q).j≠.empty:=λq hq z=>by
        obtain ⟨i,hi,_⟩:=hoth q hq;rw[hi] at z;cases z
      rcases m4 with ⟨rfl,hs⟩ | ⟨i,hi,hh,rfl⟩
      · have em:m=KK:=by
          by_cases c:m<KK
          · exact absurd hs (hK' m c)
          · by_cases c':KK<m
            · exact absurd hK (hne KK c')
            · lia
        subst em;dsimp only;refine Lj (q2 λhmem=>?_);obtain ⟨i,b',he,hb'⟩:=T.has kk hmem;have hilt:i<t.place.size:=by rw[T.vW];exact (Array.getElem?_eq_some_iff.mp he).1
        obtain ⟨n',e',hn'⟩:=T.path i _ _ (Lq hilt) he;have hlive:=fo T.pP (Lq hilt);by_cases c:n'<m
        · obtain ⟨i2,hi2,hno⟩:=hoth n' c;dsimp only at e';rw[e',hlive] at hi2;injection hi2 with hi2
          subst hi2;exact hno b' he hb'
        · by_cases c':m<n'
          · exact hn' m c' hs
          · have : n' = m := by lia
            subst this;dsimp only at e';rw[e',hlive] at hs;cases hs
      · dsimp only;have hmK:m<=KK:=by
          refine Classical.byContradiction λc=>?_;exact hne KK (by lia) hK
        have hmK':m≠KK:=λz=>by
          subst z;rw[hi] at hK;cases hK
        have hes:∃e,es[i]?=some e:=by
          rcases iT T.pP (stN t (tupleKeyHash knd kk) m).j with ⟨i',hp,hl⟩ | ⟨_,hl⟩
          · rw[hl] at hi;injection hi with hi
            subst hi;have:i'<es.size:=by rw[<-T.vW];exact (Array.getElem?_eq_some_iff.mp hp).1
            exact ⟨_,Lq this⟩
          · rw[hl] at hi;cases hi
        obtain ⟨e0,he0⟩:=hes;obtain ⟨k',hk',b',rfl,hb'⟩:=T.ent i e0 he0;have hseen:∀y∈(es.filter (·.1 == tupleKeyHash knd kk)).toList.map (·.2),∃k' b',y=.ref b'/\IsTupleKey knd s.heap k' b':=λy hy=>by
          rw[Lx] at hy;obtain ⟨e,he,rfl⟩:=hy;rw[Array.mem_toList_iff,Array.mem_filter] at he;obtain ⟨i2,hi2⟩:=Array.mem_iff_getElem?.mp he.1;obtain ⟨k2,_,b2,rfl,hb2⟩:=T.ent i2 e hi2;exact ⟨k2,b2,rfl,hb2⟩
        split
        case' isTrue =>
          refine Lh (EC hb _ hseen ?_);simp only[LB,if_false]
        all_goals
          rw[he0];dsimp only;refine Lh (wpAny_holding (wpAny_eqBool_tuple hu hb' hb ?_));refine Lh (wpAny_setState_of T.obj T.dat T.fits ?_);dsimp only;by_cases ek:k'=kk
          · rw[decide_eq_true ek];subst ek;simp only[Bool.and_self,if_true];exact Lj (q1 hk')
          · rw[decide_eq_false ek];simp only[Bool.and_false,LB,if_false];have hsm:t.sameMemory t.moves t.mask=some true:=by
              unfold SetTable.sameMemory;rw[if_pos (by rw[beq_iff_eq])]
            rw[hsm];dsimp only;rw[if_pos rfl,hi];dsimp only;rw[he0];dsimp only;refine Lh (wpAny_isSame_ref_self ?_);refine Lh (Lj ?_);rw[if_pos rfl];dsimp only;refine nN T hu hb hK hK' q1 q2 fuel (m+1) _ rfl (by lia) (by lia) λq hq=>?_;by_cases c:q<m
            · exact hoth q c
            · have : q = m := by lia
              subst this;refine ⟨i,hi,λb2 z hb2=>ek ?_⟩;rw[he0] at z;injection z with z
              injection z with _ z
              injection z with z
              subst z;exact hb'.inj hb2
end
end WS
namespace WS
open PySem PySem.SetTable
section
variable {prog:LH} {w:LR} {K:Type} [DecidableEq K] {knd:KeyKind prog w K} {h h':Heap} {a:Addr} {o:Obj} {es:Array (Int×Lg)} {ep:Nat} {t t':SetTable} {ks:List (List K)}
theorem Ay (e1:t'.place=t.place)(e2:t'.dummies=t.dummies)(j:Nat):t'.slot j=t.slot j:=by
 unfold SetTable.slot;rw[e1,e2]
theorem Ax (e0:t'.mask=t.mask)(e1:t'.place=t.place)(e2:t'.dummies=t.dummies){x:Int}{j:Nat}(hp:eJ t x j):eJ t' x j:=by
 obtain ⟨n,h1,h2⟩:=hp;refine ⟨n,by rw[kD e0];exact h1,λq hq=>?_⟩;rw[kD e0,Ay e1 e2];exact h2 q hq
theorem Tab.same (T:Tab knd h es t ks)(e0:t'.mask=t.mask)(e1:t'.place=t.place)(e2:t'.dummies=t.dummies):Tab knd h es t' ks where
 pP:=⟨by rw[e1];exact T.pP.rise,by rw[e2];exact T.pP.gd⟩
 vW:=by rw[e1];exact T.vW
 AU:=by rw[e0];exact T.AU
 le:=λi j=>by rw[e1,e0];exact T.le i j
 num:=T.num
 gd:=T.gd
 ent:=T.ent
 has:=T.has
 path:=λi j e h1 h2=>Ax e0 e1 e2 (T.path i j e (by rw[<-e1];exact h1) h2)
theorem Tab.heap (T:Tab knd h es t ks)(hk:∀k b,IsTupleKey knd h k b->IsTupleKey knd h' k b):Tab knd h' es t ks where
 pP:=T.pP
 vW:=T.vW
 AU:=T.AU
 le:=T.le
 num:=T.num
 gd:=T.gd
 ent:=λi e he=>let ⟨k,h1,b,h2,h3⟩:=T.ent i e he;⟨k,h1,b,h2,hk k b h3⟩
 has:=λk hm=>let ⟨i,b,h1,h2⟩:=T.has k hm;⟨i,b,h1,hk k b h2⟩
 path:=T.path
theorem Tab.put (T:Tab knd h es t ks){kk:List K}{b:Addr}(hb:IsTupleKey knd h kk b)(hn:kk∉ks){KK:Nat}
    (hK:t.slot (stN t (tupleKeyHash knd kk) KK).j=.empty) (hK':∀q,q<KK->t.slot (stN t (tupleKeyHash knd kk) q).j≠.empty) :
    Tab knd h (insertAt es (t.put (stN t (tupleKeyHash knd kk) KK).j).2 (tupleKeyHash knd kk,.ref b)) (t.put (stN t (tupleKeyHash knd kk) KK).j).1 (kk::ks):=by
  generalize hh:tupleKeyHash knd kk=x at *;generalize hj:(stN t x KK).j=j at *;have hfree:∀i:Nat,t.place[i]?≠some j:=λi z=>by rw[fo T.pP z] at hK;cases hK
  have ep:t.put j=({ t with place:=insertAt t.place (below t.place j) j,dummies:=#[] },below t.place j):=pU T.pP j;have hle:below t.place j<=t.place.size:=(lL T.pP.rise j).1;have hle':below t.place j<=es.size:=by rw[<-T.vW];exact hle
  have e2:(t.put j).2=below t.place j:=by rw[ep]
  have em:(t.put j).1.mask=t.mask:=by rw[ep]
  have epl:(t.put j).1.place=insertAt t.place (below t.place j) j:=by rw[ep]
  have gp:∀i:Nat,(t.put j).1.place[i]?=if i<below t.place j then t.place[i]? else if i=below t.place j then some j else t.place[i - 1]?:=λi=>by rw[epl,iF _ _ _ hle]
  have ge:∀i:Nat,(insertAt es (t.put j).2 (x,Value.ref b))[i]?=if i<below t.place j then es[i]? else if i=below t.place j then some (x,Value.ref b) else es[i - 1]?:=λi=>by rw[e2,iF _ _ _ hle']
  have sz:(insertAt es (t.put j).2 (x,Value.ref b)).size=es.size+1:=by rw[e2,pq _ _ _ hle']
  refine { pP:=tR T.pP hfree,vW:=?_,AU:=by rw[em];exact T.AU,le:=?_,num:=?_,gd:=?_,ent:=?_,has:=?_,path:=?_ }
  · rw[sz,epl,pq _ _ _ hle,T.vW]
  · intro i j' hij;rw[gp] at hij;rw[em];split at hij
    · exact T.le _ _ hij
    · split at hij
      · injection hij with hij
        subst hij;rw[<-hj];have:=(fG t x KK).2.2.2;lia
      · exact T.le _ _ hij
  · rw[sz,LN,T.num]
  · exact nodup_cons.mpr ⟨hn,T.gd⟩
  · intro i e he;rw[ge] at he;split at he
    · obtain ⟨k,h1,b',h2,h3⟩:=T.ent _ _ he;exact ⟨k,.tail _ h1,b',h2,h3⟩
    · split at he
      · injection he with he
        exact ⟨kk,.head _,b,by rw[<-he,hh],hb⟩
      · obtain ⟨k,h1,b',h2,h3⟩:=T.ent _ _ he;exact ⟨k,.tail _ h1,b',h2,h3⟩
  · intro k hk;rcases Lz.mp hk with rfl | hk
    · refine ⟨below t.place j,b,?_,hb⟩;rw[ge,if_neg (Nat.lt_irrefl _),if_pos rfl,hh]
    · obtain ⟨i,b',h1,h2⟩:=T.has k hk;by_cases c:i<below t.place j
      · exact ⟨i,b',by rw[ge,if_pos c];exact h1,h2⟩
      · exact ⟨i+1,b',by rw[ge,if_neg (by lia),if_neg (by lia)];exact h1,h2⟩
  · intro i j' e hp he;rw[gp] at hp;rw[ge] at he;split at hp
    · rw [if_pos (by assumption)] at he;exact eJ.put T.pP hfree (T.path _ _ _ hp he)
    · rw [if_neg (by assumption)] at he;split at hp
      · rw [if_pos (by assumption)] at he;injection hp with hp
        injection he with he
        subst hp;subst he;show eJ _ x j;have:=eJ.new (t:=t) (h:=x) T.pP (K:=KK) (by rw[hj];exact hK) hK';rw[hj] at this;exact this
      · rw [if_neg (by assumption)] at he;exact eJ.put T.pP hfree (T.path _ _ _ hp he)
theorem Bx {α:Type}{es:Array α}:∀(ord:List Nat),(∀i∈ord,i<es.size)->∀i:Nat,(ord.filterMap (es[·]?))[i]?=(ord[i]?).bind (es[·]?)
 | [],_,i=>by simp
 | x::ord,hx,i=>by
  have h1:=hx x (.head _);rw[filterMap_cons,Lq h1];dsimp only;cases i with
  | zero=>rw[List.getElem?_cons_zero,List.getElem?_cons_zero];exact (Lq h1).symm
  | succ i=>rw[List.getElem?_cons_succ,List.getElem?_cons_succ];exact Bx ord (λi hi=>hx i (.tail _ hi)) i
theorem By {α:Type}{es:Array α}:∀(ord:List Nat),(∀i∈ord,i<es.size)->(ord.filterMap (es[·]?)).length=ord.length
 | [],_=>rfl
 | x::ord,hx=>by
  rw[filterMap_cons,Lq (hx x (.head _))];dsimp only;rw[LN,LN,By ord λi hi=>hx i (.tail _ hi)]
theorem Tab.IQ (T:Tab knd h es t ks){wanted m:Nat}(hw:sizeAbove wanted=m+1)(hm:m∈[7,31,127,511,2047,8191,32767])(hl:es.size<=m+1) :
  ∃t' order,t.relaid (es.map (·.1)) wanted=some (t',order)/\(order.filterMap (es[·]?)).size=es.size/\Tab knd h (order.filterMap (es[·]?)) t' ks/\t'.mask=m:=by
 have hp:∃k,m+1=2 ^ k:=by
  simp only[Lz,List.not_mem_nil,or_false] at hm;rcases hm with e | e | e | e | e | e | e<;>rw[e]
  .exact ⟨3,by decide⟩
  .exact ⟨5,by decide⟩
  .exact ⟨7,by decide⟩
  .exact ⟨9,by decide⟩
  .exact ⟨11,by decide⟩
  .exact ⟨13,by decide⟩
  .exact ⟨15,by decide⟩
 obtain ⟨k,hp⟩:=hp;obtain ⟨t',order,e,em,_,_,_,P,sz,perm,le,pth⟩:=D3 hp t.finger (t.movedTo (sizeAbove wanted - 1)) t.led t.plain (es.map (·.1)) (by rw[Array.size_map];exact hl);rw[Array.size_map] at sz perm;have hlt:∀i∈order.toList,i<es.size:=λi hi=>mem_range.mp (perm.mem_iff.mp hi);have el:(order.filterMap (es[·]?)).toList=order.toList.filterMap (es[·]?):=Array.toList_filterMap;have olen:order.toList.length=es.size:=by rw[perm.length_eq,length_range]
 have ge:∀i:Nat,(order.filterMap (es[·]?))[i]?=(order[i]?).bind (es[·]?):=λi=>by rw[<-Lo,el,Bx _ hlt,Lo]
 have sz':(order.filterMap (es[·]?)).size=es.size:=by rw[<-Lw,el,By _ hlt,olen]
 refine ⟨t',order,?_,sz',?_,em⟩
 .unfold SetTable.relaid;rw[<-e,hw];rfl
 refine { pP:=P,vW:=by rw[sz,sz'],AU:=by rw[em];exact hm,le:=?_,num:=by rw[sz'];exact T.num,gd:=T.gd,ent:=?_,has:=?_,path:=?_ }
 .intro i j hij;rw[em];refine le j ?_;rw[<-Lo] at hij;exact Ls hij
 .intro i e he;rw[ge,Option.bind_eq_some_iff] at he;obtain ⟨i',_,h2⟩:=he;exact T.ent _ _ h2
 .intro k hk;obtain ⟨i,b,h1,h2⟩:=T.has k hk;have hi:i<es.size:=(Array.getElem?_eq_some_iff.mp h1).1;have hmem:i∈order.toList:=perm.mem_iff.mpr (mem_range.mpr hi);obtain ⟨p,hp'⟩:=mem_iff_getElem?.mp hmem;refine ⟨p,b,?_,h2⟩;rw[Lo] at hp';rw[ge,hp'];exact h1
 .intro i j e hp he;obtain ⟨kk,hh,h1,h2,h3⟩:=pth i j hp;rw[ge,h1] at he;have he':es[kk]?=some e:=he;rw[Array.getElem?_map,he'] at h2;injection h2 with h2
  rw[show e.1=hh from h2];exact h3
end
end WS
namespace WS
open PySem PySem.SetTable
section
variable {prog:LH} {w:LR} {K:Type} [DecidableEq K] {knd:KeyKind prog w K} {h h':Heap} {a:Addr} {o:Obj} {es:Array (Int×Lg)} {ep:Nat} {t t':SetTable} {ks:List (List K)}
variable {A:LQ} {E:Lg->Li->Prop} {s:Li}
theorem rK {k:List K}{b:Addr}(x:IsTupleKey knd h k b)(ho:h.get? a=some o)(hd:o.data=.set es ep t)(hs:Heap.SameBut a h h'):IsTupleKey knd h' k b:=by
 obtain ⟨o',items,n,ho',hc,hd',hi⟩:=x;have hne:b≠a:=by
  rintro rfl;obtain rfl:o'=o:=Option.some.inj (ho'.symm.trans ho);rw[hd] at hd';exact nomatch hd'
 exact ⟨o',items,n,(hs.2 b hne).trans ho',hc,hd',hi⟩
theorem zO (n:Nat){v:Lg}(hv:carriedByValue v=true):∃bb,hashByValue n v=pure bb:=by
 cases v with
 | ref a=>simp[carriedByValue] at hv
 | _=>cases n<;>exact ⟨_,rfl⟩
theorem zP {k:List K}{b:Addr}{Q:Bool->Li->Prop}(hk:IsTupleKey knd s.heap k b)(q:∀bb,Q bb s):wpAny (model prog w) A (hashByValue 8 (.ref b)) Q E s:=by
 have hT:=hk.typeIs;obtain ⟨o,items,n,ho,_,hd,hi⟩:=hk;unfold hashByValue;refine Lh (wpAny_specialOf hT F.slot_tuple_hash.lookup ?_);dsimp only;refine Lh (wpAny_seqItems ho hd ?_);refine Lh ?_;rw[<-Array.forIn_toList];refine wpAny_forIn_list _ (λrest r s'=>r.1=none/\s'=s/\∀v∈rest,carriedByValue v=true) _ ?_ ?_ _ _ ⟨rfl,rfl,hi.byValue⟩
 .rintro v rest r s' ⟨hr,rfl,hall⟩;obtain ⟨bb,e⟩:=zO 7 (hall v mem_cons_self);rw[e];refine Lh (Lj ?_);cases bb
  .simp only[Bool.not_false,if_true];exact Lj (Lj (q _))
  .simp only[Bool.not_true,LB,if_false];exact Lj ⟨rfl,rfl,λu hu'=>hall u (LO _ hu')⟩
 .rintro ⟨r1,r2⟩ s' ⟨hr,rfl,_⟩;simp only at hr;subst hr;exact Lj (q _)
theorem pT (ho:h.get? a=some o)(hd:o.data=.set es ep t)(es':Array (Int×Lg))(t':SetTable):(h.update a (Obj.putSet es' t')).get? a=some { o with data:=.set es' (ep+1) t' }:=by
 have:=Heap.get?_update_self (Obj.putSet es' t') ho (by rw[putSet_of es' t' hd];rfl);rw[putSet_of es' t' hd] at this;exact this
theorem CG (T:Tab knd s.heap es t ks)(ho:s.heap.get? a=some o)(hd:o.data=.set es ep t)(hx:o.ExactSet)(hf:t.fits es.size=true){wanted m:Nat}(hw:sizeAbove wanted=m+1)(hm:m∈[7,31,127,511,2047,8191,32767])(hl:es.size*5<m*3)
    {Q:Unit->Li->Prop} (q:∀h' o' es' ep' t',Heap.SameBut a s.heap h'->g9 knd h' a o' es' ep' t' ks->Q () { s with heap:=h' }):wpAny (model prog w) A (setRelay a wanted) Q E s:=by
  obtain ⟨t',order,e1,e2,T',em⟩:=T.IQ hw hm (by lia);have hm8:m<=32767:=by
    simp only[Lz,List.not_mem_nil,or_false] at hm;lia
  have hsl:(32768:Nat)<=sizeLine:=by rw[sizeLine_eq];decide
  unfold setRelay;refine Lh (wpAny_setState_of ho hd hf ?_);dsimp only;rw[if_neg (by rw[hw];lia),e1];refine Lh ?_;show wpAny _ _ (do
    if (order.filterMap (es[·]?)).size != es.size then unsupported "internal:set-table-lost-an-element"
    pure (order.filterMap (es[·]?),t')) _ _ _
  rw[if_neg (by rw[e2];simp)];refine Lj ?_;dsimp only;refine wpAny_storeSet_of ho hd ?_ (by rw[e2];lia);have hsb:=Heap.SameBut.update s.heap a (Obj.putSet (order.filterMap (es[·]?)) t');refine q _ { o with data:=.set (order.filterMap (es[·]?)) (ep+1) t' } (order.filterMap (es[·]?)) (ep+1) t' hsb ?_;exact { toTab:=T'.heap λk b hb=>rK hb ho hd hsb,obj:=pT ho hd _ _,dat:=rfl,E1:=hx,room:=by rw[T'.vW,e2,em];exact hl }
theorem Ag {n m:Nat}(hm:m∈[7,31,127,511,2047,8191,32767])(h1:n*5<m*3)(h2:(n+1)*5>=m*3)(h3:n<9995):∃m',sizeAbove (grown (n+1))=m'+1/\m'∈[7,31,127,511,2047,8191,32767]/\(n+1)*5<m'*3:=by
  simp only[Lz,List.not_mem_nil,or_false] at hm;rcases hm with e | e | e | e | e | e | e<;>subst e
  · obtain rfl : n = 4 := by lia
    exact ⟨31,by decide,by decide,by decide⟩
  · obtain rfl : n = 18 := by lia
    exact ⟨127,by decide,by decide,by decide⟩
  · obtain rfl : n = 76 := by lia
    exact ⟨511,by decide,by decide,by decide⟩
  · obtain rfl : n = 306 := by lia
    exact ⟨2047,by decide,by decide,by decide⟩
  · obtain rfl : n = 1228 := by lia
    exact ⟨8191,by decide,by decide,by decide⟩
  · obtain rfl : n = 4914 := by lia
    exact ⟨32767,by decide,by decide,by decide⟩
  · lia
theorem wc (T:g9 knd s.heap a o es ep t ks){kk:List K}{b:Addr}(hu:A.units<cLine)(hb:IsTupleKey knd s.heap kk b)(hn:ks.length<9995){Q:Bool->Li->Prop}
    (q:∀h' o' es' ep' t' r,Heap.SameBut a s.heap h'->g9 knd h' a o' es' ep' t' (if kk∈ks then ks else kk::ks)->Q r { s with heap:=h' }) :
    wpAny (model prog w) A (setAddHashed a (.ref b) (tupleKeyHash knd kk)) Q E s:=by
  have hsl:(32768:Nat)<=sizeLine:=by rw[sizeLine_eq];decide
  obtain ⟨k,_,hm⟩:=T.pow;obtain ⟨j0,hj0,hs0⟩:=T.o6;obtain ⟨KK,hK0,hK,hK'⟩:=wF T.pP hm hj0 hs0 (by rw[T.vW,<-T.num];lia) (by have:=T.room;lia) (tupleKeyHash knd kk);have hm8:t.mask<=32767:=by
    have:=T.AU;simp only[Lz,List.not_mem_nil,or_false] at this;lia
  unfold setAddHashed setAddHashedIn;refine wpAny_holding (Lh (wpAny_setState_of T.obj T.dat T.fits ?_));dsimp only;rw[if_neg (by simp[byScan,Value.scannable])];refine Lh ?_;unfold setSearch;refine nN T hu hb hK hK' (λhmem=>?_) (λhmem=>?_) 100000 0 none rfl (LS _) (by lia) (λq hq=>absurd hq (Nat.not_lt_zero _))
  · dsimp only;have:=q s.heap o es ep t false (Heap.SameBut.refl a s.heap) (by rw[if_pos hmem];exact T);exact Lj this
  · dsimp only;refine Lh (wpAny_setState_of T.obj T.dat T.fits ?_);dsimp only;rw[if_neg hmem] at q;have T1:=T.toTab.put hb hmem hK hK';generalize hj:(stN t (tupleKeyHash knd kk) KK).j=j at *;generalize hput:t.put j=pt at *;obtain ⟨t1,p⟩:=pt;dsimp only at T1 ⊢;have hmask:t1.mask=t.mask:=by
      have:=congrArg (λz=>z.1.mask) hput;rw[pU T.pP] at this;exact this.symm
    have hsz:=T1.num;rw[LN,T.num] at hsz;have main:∀bb:Bool,wpAny (model prog w) A (do
        storeSet a (insertAt es p (tupleKeyHash knd kk,Value.ref b)) (if bb=true then t1 else { t1 with plain:=false })
        if (!false && (if bb=true then t1 else { t1 with plain:=false }).tooFull)=true then do
          setRelay a (grown (es.size+1))
          pure true
        else pure true) Q E s:=λbb=>by
      have T2:Tab knd s.heap (insertAt es p (tupleKeyHash knd kk,Value.ref b)) (if bb=true then t1 else { t1 with plain:=false }) (kk::ks):=by
        cases bb
        · exact T1.same rfl rfl rfl
        · exact T1
      have em2:(if bb=true then t1 else { t1 with plain:=false }).mask=t.mask:=by
        rw[<-hmask];cases bb<;>rfl
      generalize (if bb=true then t1 else { t1 with plain:=false })=t2 at *;have hr:=T.room;have hsi:=T.vW;have hnum:=T.num;have s2:=T2.vW;refine Lh (wpAny_storeSet_of T.obj T.dat ?_ (by rw[<-hsz];lia));have hsb:=Heap.SameBut.update s.heap a (Obj.putSet (insertAt es p (tupleKeyHash knd kk,Value.ref b)) t2);have T3:=T2.heap (h':=s.heap.update a (Obj.putSet (insertAt es p (tupleKeyHash knd kk,Value.ref b)) t2)) λk b' hb'=>rK hb' T.obj T.dat hsb;have hget:=pT T.obj T.dat (insertAt es p (tupleKeyHash knd kk,Value.ref b)) t2;have hfill:t2.fill=es.size+1:=by
        unfold SetTable.fill;rw[T2.pP.gd,s2,<-hsz];rfl
      by_cases hfull:t2.tooFull=true
      · rw [hfull, if_pos (by decide)];have hge:(es.size+1)*5>=t.mask*3:=by
          unfold SetTable.tooFull at hfull;rw[hfill,em2,decide_eq_true_eq] at hfull;exact hfull
        obtain ⟨m',w1,w2,w3⟩:=Ag T.AU (by rw[<-hsi];exact hr) hge (by lia);refine Lh (CG (s:={ s with heap:=s.heap.update a (Obj.putSet (insertAt es p (tupleKeyHash knd kk,Value.ref b)) t2) }) T3 hget rfl T.E1 ?_ w1 w2 (by rw[<-hsz];exact w3) λh' o' es' ep' t' sb' T'=>?_)
        · unfold SetTable.fits;rw[LV,beq_iff_eq,decide_eq_true_eq];refine ⟨s2,?_⟩;rw[hfill,em2];have:=T.AU;simp only[Lz,List.not_mem_nil,or_false] at this;lia
        · exact Lj (q h' o' es' ep' t' true (hsb.trans sb') T')
      · rw [if_neg (by simpa using hfull)];refine Lj (q _ _ _ _ t2 true hsb { toTab:=T3,obj:=hget,dat:=rfl,E1:=T.E1,room:=?_ });unfold SetTable.tooFull at hfull;rw[decide_eq_true_eq,hfill,em2] at hfull;rw[s2,<-hsz,em2];lia
    split
    · exact Lh (zP hb λbb=>main bb)
    · exact Lh (Lj (main true))
theorem add_tuple (T:g9 knd s.heap a o es ep t ks){kk:List K}{b:Addr}(hu:A.units<cLine)(hb:IsTupleKey knd s.heap kk b)(hn:ks.length<9995){Q:Bool->Li->Prop}
  (q:∀h' o' es' ep' t' r,Heap.SameBut a s.heap h'->g9 knd h' a o' es' ep' t' (if kk∈ks then ks else kk::ks)->Q r { s with heap:=h',toks:=s.toks+(kk.length+1) }) :
  wpAny (model prog w) A (setAdd a (.ref b)) Q E s:=by
 unfold setAdd;refine wpAny_holding (Lh (wpAny_pyHash_tuple hu hb ?_));exact wc (s:={ s with toks:=s.toks+(kk.length+1) }) T hu hb hn λh' o' es' ep' t' r sb T'=>q h' o' es' ep' t' r sb T'
end
end WS
namespace WS
open PySem PySem.SetTable
noncomputable def bz {α:Type}[DecidableEq α](val:Nat->α):Nat->List α
 | 0=>[]
 | i+1=>if val i∈bz val i then bz val i else val i::bz val i
theorem jX {α:Type}[DecidableEq α](val:Nat->α):∀i,(bz val i).length<=i
 | 0=>Ll _
 | i+1=>by
  have:=jX val i;unfold bz;split
  .lia
  .rw[LN];lia
section
variable {prog:LH} {w:LR} {K:Type} [DecidableEq K] {knd:KeyKind prog w K} {A:LQ} {R:Result->Li->Prop} {I:Addr} {fp wr:List Addr} {G:Array GenState->Array GenState->Prop} {n:Nat} {P:Nat->Lg->Prop} {St:Nat->Li->Prop}
noncomputable def kL (knd:KeyKind prog w K)(h:Heap)(a:Addr)(ks:List (List K)):Prop:=∃o es ep t,g9 knd h a o es ep t ks
theorem kL.keep {h h':Heap}{a:Addr}{ks:List (List K)}(x:kL knd h a ks)(hs:∀o,h.get? a=some o->h'.get? a=some o)(hk:∀k b,IsTupleKey knd h k b->IsTupleKey knd h' k b):kL knd h' a ks:=by
 obtain ⟨o,es,ep,t,T⟩:=x;exact ⟨o,es,ep,t,{ toTab:=T.toTab.heap hk,obj:=hs _ T.obj,dat:=T.dat,E1:=T.E1,room:=T.room }⟩
theorem pC {h h':Heap}{k:List K}{b:Addr}(x:IsTupleKey knd h k b)(hs:∀o,h.get? b=some o->h'.get? b=some o):IsTupleKey knd h' k b:=by
 obtain ⟨o,items,m,ho,r⟩:=x;exact ⟨o,items,m,hs o ho,r⟩
theorem CM (W:WalksS prog w A.in1 I fp wr G n P St)(S:Addr)(hSf:S∉fp)(hu:A.units+1<cLine)
    (val:Nat->List K) (hb:n<=9995) (hno:∀s' i',i'<=n->St i' s'->∀kk b,IsTupleKey knd s'.heap kk b->b∉wr) :
    ∀(k i:Nat) (s:Li),n - i=k->i<=n->St i s->kL knd s.heap S (bz val i) ->
      (∀j v,i<=j->j<n->P j v->∃b,v=.ref b/\b∉wr/\b≠S/\IsTupleKey knd s.heap (val j) b) ->
      (∀s',Moved (S::wr) G s s'->kL knd s'.heap S (bz val n)->R (.ok (.ret .none)) s') ->
      codeAny (model prog w) A (.builtin "set.update.loop" ⟨[.ref S,.ref I],[]⟩) R s:=by
  have hSw:S∉wr:=λh=>hSf (W.sub _ h);have hsub:∀b∈wr,b∈S::wr:=λb hb=>LO _ hb;intro k;induction k with
  | zero =>
    intro i s hk hi hst hS hkeys hR;have hin:i=n:=by lia
    subst hin;refine codeAny_builtin PyProof.Rows.F.entry_set_update_loop ?_;rw[Around.under_plainId PyProof.Rows.F.plain_set_update_loop _];show wpAny _ A.in1 (pyNext (.ref I) >>= _) _ _ s;refine Lh (W.done s _ _ hst λs' hm=>?_);show wpAny _ A.in1 (ret Value.none) _ _ s';exact Lj (hR s' (hm.mono hsub) (hS.keep (λo ho=>hm.heap S o hSw ho) λkk b x=>pC x λo ho=>hm.heap b o (hno s i hi hst kk b x) ho))
  | succ k ih =>
    intro i s hk hi hst hS hkeys hR;have hlt:i<n:=by lia
    refine codeAny_builtin PyProof.Rows.F.entry_set_update_loop ?_;rw[Around.under_plainId PyProof.Rows.F.plain_set_update_loop _];show wpAny _ A.in1 (pyNext (.ref I) >>= _) _ _ s;refine Lh (W.item i s _ _ hlt hst λv s' hP hst' hm=>?_);obtain ⟨b,rfl,hbw,hbS,hkey⟩:=hkeys i v (Ll _) hlt hP;have hS':=hS.keep (h':=s'.heap) (λo ho=>hm.heap S o hSw ho) λkk b x=>pC x λo ho=>hm.heap b o (hno s i hi hst kk b x) ho;obtain ⟨o,es,ep,t,T⟩:=hS';have hkey':IsTupleKey knd s'.heap (val i) b:=pC hkey λo ho=>hm.heap b o hbw ho;show wpAny _ A.in1 (holding [Value.ref b] (setAdd S (.ref b)) >>= _) _ _ s';refine Lh (wpAny_holding ?_);refine add_tuple T hu hkey' (by have:=jX val i;lia) λh' o' es' ep' t' r hsb T'=>?_;have hset:kL knd h' S (bz val (i+1)):=⟨o',es',ep',t',by
      rw[bz];by_cases c:val i∈bz val i
      · rw[if_pos c] at T' ⊢;exact T'
      · rw[if_neg c] at T' ⊢;exact T'⟩
    refine Lj ⟨plainId_quiet PyProof.Rows.F.plain_set_update_loop _,ih (i+1) _ (by lia) hlt (W.frame _ s' _ _ hst' (by lia) λb hb o e=>?_) hset (λj v hj1 hj2 hPj=>?_) λs'' hm'' hS''=>?_⟩
    · rw[hsb.2 b (λh:b=S=>hSf (by rw[<-h];exact hb))];exact e
    · obtain ⟨b2, rfl, hbw2, hbS2, hkey2⟩ := hkeys j v (by lia) hj2 hPj;exact ⟨b2,rfl,hbw2,hbS2,pC hkey2 λo ho=>(hsb.2 b2 hbS2).trans (hm.heap b2 o hbw2 ho)⟩
    · refine hR s'' (Moved.trans W.gtrans ((hm.mono hsub).then_heap (by lia) λb o hb e => ?_) hm'') hS'';rw[hsb.2 b (λh:b=S=>hb (by rw[h];exact mem_cons_self))];exact e
theorem AA (h:Heap)(a:Addr)(led:Bool)(ho:h.get? a=some { cls:=.type "set",dict:=none,data:=.set #[] 0 (.fresh 0 0 led) }):kL knd h a []:=by
 refine ⟨_,#[],0,.fresh 0 0 led,{ obj:=ho,dat:=rfl,E1:=⟨rfl,rfl,rfl⟩,room:=by show 0*5<7*3;decide,pP:=⟨λa b _ hb=>absurd hb (Nat.not_lt_zero _),rfl⟩,vW:=rfl,AU:=.head _,le:=λi j z=>?_,num:=rfl,gd:=.nil,ent:=λi e z=>?_,has:=λk hk=>(nomatch hk),path:=λi j e z=>?_ }⟩
 .exact absurd z (by show ¬(#[]:Array Nat)[i]?=some j;simp)
 .exact absurd z (by simp)
 .exact absurd z (by show ¬(#[]:Array Nat)[i]?=some j;simp)
end
section
variable {prog:LH} {w:LR} {K:Type} [DecidableEq K] {knd:KeyKind prog w K} {A:LQ} {E:Lg->Li->Prop} {s:Li}
set_option maxHeartbeats 3200000 in
theorem nV {l:Addr}{items:Array Lg}(val:Nat->List K){Q:Lg->Li->Prop}
  (hh:A.handled=none) (hu:A.units+8<cLine) (hl:s.heap.IsList l items) (hi:∀j v,items[j]?=some v->∃b,v=.ref b/\IsTupleKey knd s.heap (val j) b) (hb:items.size<=9995)
  (h:∀(h':Heap) (tk:Nat),kL knd h' s.heap.objs.size (bz val items.size)->(∀b o,b<s.heap.objs.size->s.heap.get? b=some o->h'.get? b=some o)->Q (.ref s.heap.objs.size) { s with heap:=h',toks:=tk }) :
  wpAny (model prog w) A (call (.type "set") [.ref l]) Q E s:=by
 obtain ⟨c,tl,hmro⟩:=F.called_set.mro;have hmade:=F.called_set.made;have hsub:=F.called_set.sub;refine wpAny_call (codeAny_of_tree ?_);show wpAny _ _ (callAny (.type "set") _) _ _ _;refine Lj ⟨Code.quiet_builtin _ (by decide +kernel),codeAny_builtin F.entry_type_call ?_⟩;rw[Around.under_plain (weight_type_call_type "set" [.ref l] []) rfl];have h1:=F.called_set.notType;have h2:=F.called_set.canCreate;have hct:=F.typeCall_set_1 (.ref l);repeat (any_goals (first | assumption | wp_step))
 refine codeAny_mono (code_set_new_1 (.ref l) (E:=E) (Q₁:=λobj s₁=>∃led:Bool,obj=.ref s.heap.objs.size/\s₁ = { s with heap:=s.heap.push { cls:=.type "set",dict:=none,data:=.set #[] 0 (.fresh 0 0 led) } }) λled=>⟨led,rfl,rfl⟩) λr s₁ hr=>?_;cases r with
 | error e=>exact hr
 | ok fl =>
  cases fl with
  | ret obj =>
   obtain ⟨led,rfl,rfl⟩:=hr;have hS:(s.heap.push { cls:=.type "set",dict:=none,data:=.set #[] 0 (.fresh 0 0 led) }).get? s.heap.objs.size=some { cls:=.type "set",dict:=none,data:=.set #[] 0 (.fresh 0 0 led) }:=LP _ rfl;have hT:Shared.TypeIs { s with heap:=s.heap.push { cls:=.type "set",dict:=none,data:=.set #[] 0 (.fresh 0 0 led) } } (.ref s.heap.objs.size) "set":=⟨_,hS,rfl⟩
   have hli:=F.called_set.init.lookup;have hbi:=F.called_set.init.bind (.ref s.heap.objs.size);repeat (any_goals (first | assumption | wp_step))
   refine codeAny_mono (codeAny_call_builtin (R:=wants (λr s₂=>r=.none/\∃h' tk,s₂ = { s with heap:=h',toks:=tk }/\kL knd h' s.heap.objs.size (bz val items.size) /\
     (∀b o,b<s.heap.objs.size->s.heap.get? b=some o->h'.get? b=some o)) E) F.called_set.init.plain F.entry_set_init (check_set_init_1 hT ?_)) λr₂ s₂ hr₂=>?_
   .obtain ⟨ol,hol,hcl,nl,hdl⟩:=hl;obtain ⟨ocls,odict,odata,oslots⟩:=ol;simp only at hcl hdl;subst hcl;subst hdl;have hol':(s.heap.push { cls:=.type "set",dict:=none,data:=.set #[] 0 (.fresh 0 0 led) }).get? l=some { cls:=.type "list",dict:=odict,data:=.seq items nl,slots:=oslots }:=Ln _ hol;have hsls:=F.sub_list_set;have hslf:=F.sub_list_frozenset;have hne:(Value.type "list" == Value.type "dict")=false:=by decide
    have hl1:(s.heap.push { cls:=.type "set",dict:=none,data:=.set #[] 0 (.fresh 0 0 led) }).IsList l items:=⟨_,hol',rfl,nl,rfl⟩
    unfold Builtin.«set.__init__» noKeywords Builtin.Frozenset.updateFrom;generalize hPI:pyIter=PI
    wp_walk
    subst hPI;refine wpAny_pyIter_list hl1 ?_;refine Lh (wpAny_runValue ?_);have hlS:l<s.heap.objs.size:=Lv hol;have hh3:A.in1.in1.in1.handled=none:=by simp[hh]
    have hneI:l≠(s.heap.push { cls:=.type "set",dict:=none,data:=.set #[] 0 (.fresh 0 0 led) }).objs.size:=by
     rw[Heap.size_push];exact LF (Nat.lt_succ_of_lt hlS)
    have hSf:s.heap.objs.size∉[(s.heap.push { cls:=.type "set",dict:=none,data:=.set #[] 0 (.fresh 0 0 led) }).objs.size,l]:=by
     rw[Heap.size_push];simp only[Lz,mem_singleton,List.not_mem_nil,or_false,not_or];exact ⟨LF (Nat.lt_succ_self _),Nat.ne_of_gt hlS⟩
    refine CM (knd:=knd) ((Walks.list hh3 _ l hneI items).toS) s.heap.objs.size hSf ?hU val hb ?hNo (items.size - 0) 0 _ (by lia) (LS _)
     ⟨⟨_,LP _ rfl,rfl,rfl⟩,(hl1.push _)⟩ (AA _ _ led (Ln _ hS)) ?hK ?hR
    case hU=>show A.units+1+1+1<cLine;lia
    case hNo =>
     intro s' i' _ hst kk b x hm;obtain ⟨o,its,m,ho,hc,hd,_⟩:=x;rw[mem_singleton] at hm;subst hm;obtain ⟨⟨o2,e1,e2,e3⟩,_⟩:=hst;rw[ho] at e1;cases e1;rw[hc] at e2;exact absurd e2 (by decide)
    case hK =>
     intro j v _ _ hv;obtain ⟨b,rfl,hb'⟩:=hi j v hv;have hlt:b<s.heap.objs.size:=by obtain ⟨o,_,_,ho,_⟩:=hb';exact Lv ho
     refine ⟨b,rfl,?_,LF hlt,pC hb' λo ho=>Ln _ (Ln _ ho)⟩;rw[mem_singleton,Heap.size_push];exact LF (Nat.lt_succ_of_lt hlt)
    case hR =>
     intro s' hm hS';obtain ⟨h',g',d',tk',os'⟩:=s';have eg:g'=s.gens:=hm.gens;have ed:d'=s.drawn:=hm.drawn;have eo:os'=s.os:=hm.os;subst eg;subst ed;subst eo;show wpAny _ _ _ _ _ _;refine Lj ?_;show wpAny _ _ (ret Value.none) _ _ _;refine Lj ⟨rfl,h',tk',rfl,hS',λb o hb e=>?_⟩;have hb1:b≠s.heap.objs.size:=LF hb;have hb2:b≠(s.heap.push { cls:=.type "set",dict:=none,data:=.set #[] 0 (.fresh 0 0 led) }).objs.size:=by
      rw[Heap.size_push];exact LF (Nat.lt_succ_of_lt hb)
     exact hm.heap b o (by simp only[Lz,mem_singleton,List.not_mem_nil,or_false,not_or];exact ⟨hb1,hb2⟩) (Ln _ (Ln _ e))
   .cases r₂ with
    | error e=>exact hr₂
    | ok fl₂ =>
     cases fl₂ with
     | ret r =>
      obtain ⟨rfl,h',tk,rfl,hS',hk'⟩:=hr₂;repeat (any_goals (first | assumption | wp_step))
      exact h _ _ hS' hk'
     | _=>exact hr₂.elim
  | _=>exact hr.elim
theorem wN {a:Addr}{ks:List (List K)}{Q:Lg->Li->Prop}(x:kL knd s.heap a ks)(hz:ks.length<=9995)(h:∀t tk,Q (.int ks.length t) { s with toks:=tk }):wpAny (model prog w) A (call (.builtin "len") [.ref a]) Q E s:=by
 obtain ⟨o,es,ep,t,T⟩:=x;have e:=T.num;refine call_len_set T.obj T.E1 T.dat T.fits ?_ ?_
 .rw[<-e];have:(2:Int) ^ 63=9223372036854775808:=by decide
  lia
 .rw[<-e];exact h _ _
end
end WS
namespace WS
theorem rX {α β:Type}[DecidableEq α][DecidableEq β](f:α->β)(hf:∀x y,f x=f y->x=y)(val:Nat->α):∀i,bz (λj=>f (val j)) i=(bz val i).map f
 | 0=>rfl
 | i+1=>by
  have e:(f (val i)∈(bz val i).map f)↔val i∈bz val i:=by
   rw[Lx];exact ⟨λ⟨y,h1,h2⟩=>hf _ _ h2 ▸ h1,λh=>⟨_,h,rfl⟩⟩
  rw[bz,bz,rX f hf val i];by_cases c:val i∈bz val i
  .rw[if_pos c,if_pos (e.mpr c)]
  .rw[if_neg c,if_neg (λz=>c (e.mp z)),LK]
theorem nO {α:Type}[DecidableEq α]{f g:Nat->α}:∀n,(∀i,i<n->f i=g i)->bz f n=bz g n
 | 0,_=>rfl
 | n+1,h=>by
  rw[bz,bz,nO n λi hi=>h i (by lia),h n (by lia)]
noncomputable def dist {α:Type}[DecidableEq α][Inhabited α](xs:List α):Nat:=(bz (λi=>xs.getD i default) xs.length).length
end WS
namespace L2
open PySem PySem.Spec PyProof.Rows
section
variable {X:Cx} {l:Expr} {p pos p2 pos2:Pos} {ta:TA}
noncomputable def EE (K:Frag)(t:TA):TE:=λσ H Q=>t σ H λvs H1=>∃a xs kss,vs = [.ref a]/\H1 a=some (.lst xs)/\Paired (λv ks=>∃b,v=V.ref b/\i7 K H1 b (ks.map kV)) xs kss/\xs.length<=9995/\Q (.int (WS.bz (λi=>kss.getD i []) kss.length).length) H1
theorem Al {n:Nat}(hr:cN n X.A)(hc:X.calm=true)(hg:Gl X "len")(hm:X.mg "len" = none)(hgl:Gl X "set")(hml:X.mg "set" = none)(ha:PA X [l] ta)(hs:autoParam (starEach [l] X.env = [(false,eval l X.env)]) aZa._auto_1)
  (he:autoParam (starEach [.Call (.Name "set" p2) [l] [] pos2] X.env = [(false,eval (.Call (.Name "set" p2) [l] [] pos2) X.env)]) aZa._auto_1) :
  PE X (.Call (.Name "len" p) [.Call (.Name "set" p2) [l] [] pos2] [] pos) (EE X.K ta):=by
 intro pins s σ H Q I h;refine wpAny_Call_Name_kw (iG I hg hm PySem.boot_len ?_ (by decide) (by decide));refine PyProof.Rows.callWith_builtin1 ?_ he rfl;rw[he];show wpAny _ _ (spliced [(false,eval (.Call (.Name "set" p2) [l] [] pos2) X.env)]) _ _ s;refine Calls.spliced_cons ?_;refine Call_ (iG I hgl hml boot_set (PyProof.Rows.callWith_type1 (cj (ha pos2 pins s σ H _ I h) ?_) hs rfl));rintro us s1 ⟨vs,H1,I1,r1,q1⟩;obtain ⟨a,xs,kss,rfl,hx,pr,hz,q⟩:=q1;obtain ⟨u,rfl,ru⟩:=vals1 r1;cases ru;obtain ⟨zx,its,m,rv,hl⟩:=I1.bC a _ hx;have hlen:=rv.length;have hlk:=Paired.length pr;refine WS.nV (knd:=bx X.prog X.w) (items:=its.toArray) (λi=>kss.getD i []) (I1.ok.hd hc) (by have:=hr.units;lia) ⟨_,hl,rfl,m,rfl⟩ (λj v hv=>?_) (by rw[LG];lia) λh' tk hS hk=>?_
 .rw[List.getElem?_toArray] at hv;have hjt:j<its.length:=(Lp.mp hv).1;have e1:=Lm (l:=xs) (i:=j) (by lia);have e2:=Lm (l:=kss) (i:=j) (by lia);obtain ⟨b,eb,hb⟩:=DL.ik pr j _ _ e1 e2;have rb:=DL.ik rv j _ _ e1 hv;rw[eb] at rb;cases rb;refine ⟨b,rfl,?_⟩;have:=kZ I1 hb;rw[show kss.getD j []=kss[j]'(by lia) by rw[getD_eq_getElem?_getD,e2];rfl];exact this
 .refine Calls.spliced_nil ?_;rw[show its.toArray.size=kss.length by rw[LG];lia] at hS;have hle:=WS.jX (λi=>kss.getD i []) kss.length;refine WS.wN (s:={ s1 with heap:=h',toks:=tk }) hS (by lia) λt tk'=>?_;exact ⟨.int _,H1,I1.kept (t':=tk') λb o e=>hk b o (Lv e) e,⟨t,rfl⟩,q⟩
end
end L2
namespace DL
open PySem L2
section
variable {X:Cx} {l:Expr} {p pos p2 pos2:Pos} {t:fq}
noncomputable def tupI (ns:List Int):D:=.tup (ns.map D.int)
noncomputable def sE (t:fq):DT:=λρ Q=>t ρ λds=>match ds with
 | [.lst xs]=>∃nss:List (List Int),xs=nss.map tupI/\nss.length<=9995/\Q (.p (.int (WS.dist nss)))
 | _=>False
theorem BR (ns:List Int):(ns.map (Sum.inl:Int->Key)).map kV=ns.map V.int:=by
 rw[map_map];rfl
theorem vZ {K:Frag}{G:Hp}:∀{nss:List (List Int)} {us:List V},aY K G us (nss.map tupI)->Paired (λv ks=>∃b,v=V.ref b/\i7 K G b (ks.map kV)) us (nss.map λns=>ns.map (Sum.inl:Int->Key))
 | [],_,h=>by cases h;exact .nil
 | ns::nss,_,h=>by
  cases h with
  | cons h t =>
   refine .cons ?_ (vZ t);obtain ⟨b,vs,rfl,e,rr⟩:=Rep.d4 (show Rep K G _ (.tup (ns.map D.int)) from h);rw[ff rr] at e;exact ⟨b,rfl,by rw[BR];exact e⟩
theorem zG {n:Nat}(hr:cN n X.A)(hc:X.calm=true)(hg:Gl X "len")(hm:X.mg "len" = none)(hgl:Gl X "set")(hml:X.mg "set" = none)(ha:DA X [l] t)(hs:autoParam (starEach [l] X.env = [(false,eval l X.env)]) aZa._auto_1)
  (he:autoParam (starEach [.Call (.Name "set" p2) [l] [] pos2] X.env = [(false,eval (.Call (.Name "set" p2) [l] [] pos2) X.env)]) aZa._auto_1) :
  DE X (.Call (.Name "len" p) [.Call (.Name "set" p2) [l] [] pos2] [] pos) (sE t):=
 DE.of (Al hr hc hg hm hgl hml ha.pa hs he)<|by
  rintro σ H Q ⟨G,ρ,P,s,re,h,k⟩;refine ⟨G,ρ,_,s,re,h,λds vs H1 G1 p1 l1 w1 r1=>?_⟩;split at p1
  .obtain ⟨nss,rfl,hz,p1⟩:=p1;obtain ⟨v,rfl,rv⟩:=gw r1;obtain ⟨a,us,rfl,e,rr⟩:=rv.lst_inv;have hl:=Paired.length rr;rw[Lk] at hl;refine ⟨a,us,nss.map λns=>ns.map (Sum.inl:Int->Key),rfl,w1.gh _ _ e,?_,by lia,?_⟩
   .exact Paired.imp' (by rintro v ks ⟨b,e1,e2⟩;exact ⟨b,e1,aw w1.gh e2⟩) (vZ rr)
   .have en:(WS.bz (λi=>(nss.map λns=>ns.map (Sum.inl:Int->Key)).getD i []) (nss.map λns=>ns.map (Sum.inl:Int->Key)).length).length=WS.dist nss:=by
     unfold WS.dist;have hm:=WS.rX (λns:List Int=>ns.map (Sum.inl:Int->Key)) (λx y h=>(List.map_inj_right λa b h=>Sum.inl.inj h).mp h) (λi=>nss.getD i default) nss.length;have hm2:=congrArg List.length hm;rw[Lk] at hm2;rw[<-hm2,Lk];congr 1;refine WS.nO _ λi hi=>?_;rw[getD_eq_getElem?_getD,LC,Lm hi,getD_eq_getElem?_getD,Lm hi];rfl
    rw[en];exact k _ _ H1 G1 p1 w1 (.int _)
  .exact p1.elim
end
end DL
namespace DL
open PySem L2
noncomputable def Be:DR:=λds P=>match ds with
 | [.lst xs]=>P (.p (.tup xs))
 | _=>False
end DL
namespace PySem
open PyProof.Rows
section
variable {prog:LH} {w:LR} {A:LQ} {E:Lg->Li->Prop} {s:Li} {l:Addr} {xs:Array (Int×Tok)}
theorem rG {Q:Lg->Li->Prop}(hl:s.heap.IsTuple l (intItems xs))(h:∀s₂,s₂ = { s with heap:=s.heap.push { cls:=.type "tuple_iterator",data:=.fields #[.ref l,.int 0 0] } }->s₂.heap.IsTupleIter s.heap.objs.size l 0/\s₂.heap.IsTuple l (intItems xs)->(∀b∈[s.heap.objs.size,l],b<s₂.heap.objs.size)->l≠s.heap.objs.size->Q (.ref s.heap.objs.size) s₂):wpAny (model prog w) A (pyIter (.ref l)) Q E s:=by
 have hlt:l<s.heap.objs.size:=by obtain ⟨o,e,_⟩:=hl;exact Lv e
 refine wpAny_pyIter_tuple hl (h _ rfl ⟨⟨_,LP _ rfl,rfl,rfl⟩,hl.push _⟩ (λb hb=>?_) (LF hlt));show b<(s.heap.push _).objs.size;rw[Heap.size_push];rcases Lz.mp hb with rfl | hb
 .exact Nat.lt_succ_self _
 .rw[mem_singleton.mp hb];exact Nat.lt_succ_of_lt hlt
theorem vA {h':Heap}{o':Obj}(hk:∀b o,b∉[s.heap.objs.size]->(s.heap.push o').get? b=some o->h'.get? b=some o):∀b o,s.heap.get? b=some o->h'.get? b=some o:=λb o e =>
 hk b o (λhm=>LF (Lv e) (mem_singleton.mp hm)) (Ln _ e)
theorem wR {Q:Lg->Li->Prop}(hh:A.handled=none)(hl:s.heap.IsTuple l (intItems xs))(hne:0<xs.size)
  (h:∀v h' tk,(intItems xs)[argBest (λi j=>decide (numAt xs i>numAt xs j)) (xs.size - 1)]?=some v->(∀b o,s.heap.get? b=some o->h'.get? b=some o)->Q v { s with heap:=h',toks:=tk }) :
  wpAny (model prog w) A (call (.builtin "max") [.ref l]) Q E s:=by
 refine call_max_walk (rG hl λs₂ e st hfp hlI=>?_);subst e;refine ⟨_,_,_,_,_,_,_,rfl,Walks.tuple (A:=A.in1) hh _ l hlI (intItems xs),st,hfp,by simpa [intItems] using hne,CmpOf.ints_gt (numAt xs) (λ_ _=>intItems_at),λv h' tk hP hk=>?_⟩;exact h v h' tk (by simpa [intItems] using hP) (vA hk)
theorem wV {Q:Lg->Li->Prop}(hh:A.handled=none)(hl:s.heap.IsTuple l (intItems xs))(hne:0<xs.size)
  (h:∀v h' tk,(intItems xs)[argBest (λi j=>decide (numAt xs i<numAt xs j)) (xs.size - 1)]?=some v->(∀b o,s.heap.get? b=some o->h'.get? b=some o)->Q v { s with heap:=h',toks:=tk }) :
  wpAny (model prog w) A (call (.builtin "min") [.ref l]) Q E s:=by
 refine call_min_walk (rG hl λs₂ e st hfp hlI=>?_);subst e;refine ⟨_,_,_,_,_,_,_,rfl,Walks.tuple (A:=A.in1) hh _ l hlI (intItems xs),st,hfp,by simpa [intItems] using hne,CmpOf.ints_lt (numAt xs) (λ_ _=>intItems_at),λv h' tk hP hk=>?_⟩;exact h v h' tk (by simpa [intItems] using hP) (vA hk)
end
end PySem
namespace L2
open PySem PySem.Spec PyProof.Rows
section
variable {X:Cx}
theorem zy (hc:X.calm=true):fK X (.builtin "max") (λxs H Q=>∃(p:Addr) (ns:List Int),xs = [.ref p]/\i7 X.K H p (ns.map V.int)/\ns≠[]/\∀m:Int,m∈ns->(∀n∈ns,n<=m)->Q (.int m) H):=by
 intro pins s σ H xs us Q I r h;obtain ⟨p,ns,rfl,hp,hne,q⟩:=h;obtain ⟨u,rfl,ru⟩:=vals1 r;cases ru;obtain ⟨its,rv,pl,hz⟩:=I.tuple hp;have hi:IntsAre its ns:=intsAre_of rv;obtain ⟨zs,e⟩:=hi.allInts.items;have e3:zs.toList.map (·.1)=ns:=by rw[<-nums_intItems,<-e];exact hi.numsOf
 have hsz:0<zs.size:=by
  have:ns.length=zs.size:=by rw[<-e3];simp
  have:ns.length≠0:=λz=>hne (length_eq_zero_iff.mp z);lia
 refine wR (I.ok.hd hc) (xs:=zs) (e ▸ pl) hsz λv h' tk hv hk=>?_;obtain ⟨⟨t,rfl⟩,hm⟩:=sk hv;refine ⟨.int _,H,I.kept hk,⟨t,rfl⟩,q _ (e3 ▸ hm) λn hn=>?_⟩;obtain ⟨j,hj,ej⟩:=ll (e3 ▸ hn);rw[<-ej];exact (argBest_gt (numAt zs) (zs.size - 1)).2 j hj
theorem zB (hc:X.calm=true):fK X (.builtin "min") (λxs H Q=>∃(p:Addr) (ns:List Int),xs = [.ref p]/\i7 X.K H p (ns.map V.int)/\ns≠[]/\∀m:Int,m∈ns->(∀n∈ns,m<=n)->Q (.int m) H):=by
 intro pins s σ H xs us Q I r h;obtain ⟨p,ns,rfl,hp,hne,q⟩:=h;obtain ⟨u,rfl,ru⟩:=vals1 r;cases ru;obtain ⟨its,rv,pl,hz⟩:=I.tuple hp;have hi:IntsAre its ns:=intsAre_of rv;obtain ⟨zs,e⟩:=hi.allInts.items;have e3:zs.toList.map (·.1)=ns:=by rw[<-nums_intItems,<-e];exact hi.numsOf
 have hsz:0<zs.size:=by
  have:ns.length=zs.size:=by rw[<-e3];simp
  have:ns.length≠0:=λz=>hne (length_eq_zero_iff.mp z);lia
 refine wV (I.ok.hd hc) (xs:=zs) (e ▸ pl) hsz λv h' tk hv hk=>?_;obtain ⟨⟨t,rfl⟩,hm⟩:=sk hv;refine ⟨.int _,H,I.kept hk,⟨t,rfl⟩,q _ (e3 ▸ hm) λn hn=>?_⟩;obtain ⟨j,hj,ej⟩:=ll (e3 ▸ hn);rw[<-ej];exact (argBest_lt (numAt zs) (zs.size - 1)).2 j hj
end
end L2
namespace DL
open PySem L2
noncomputable def EX:DR:=λds P=>match ds with
 | [.tup xs]=>∃ns:List Int,xs=ns.map D.int/\ns≠[]/\∀m,m∈ns->(∀n∈ns,n<=m)->P (.p (.int m))
 | _=>False
noncomputable def EY:DR:=λds P=>match ds with
 | [.tup xs]=>∃ns:List Int,xs=ns.map D.int/\ns≠[]/\∀m,m∈ns->(∀n∈ns,m<=n)->P (.p (.int m))
 | _=>False
theorem xD {X:Cx}(hc:X.calm=true):CallD X (.builtin "max") EX:=by
 refine ⟨_,zy hc,λH G vs ds P Q s r h k=>?_⟩;unfold EX at h;split at h
 .obtain ⟨ns,rfl,hn,h⟩:=h;obtain ⟨v,rfl,rv⟩:=gw r;obtain ⟨a,us,rfl,e,rr⟩:=rv.d4;rw[ff rr] at e;exact ⟨a,ns,rfl,aw s e,hn,λm h1 h2=>k _ _ H G (h m h1 h2) (Wd.refl s) (.int _)⟩
 .exact h.elim
theorem xE {X:Cx}(hc:X.calm=true):CallD X (.builtin "min") EY:=by
 refine ⟨_,zB hc,λH G vs ds P Q s r h k=>?_⟩;unfold EY at h;split at h
 .obtain ⟨ns,rfl,hn,h⟩:=h;obtain ⟨v,rfl,rv⟩:=gw r;obtain ⟨a,us,rfl,e,rr⟩:=rv.d4;rw[ff rr] at e;exact ⟨a,ns,rfl,aw s e,hn,λm h1 h2=>k _ _ H G (h m h1 h2) (Wd.refl s) (.int _)⟩
 .exact h.elim
end DL
namespace L2
open PySem PySem.Spec PyProof.Rows
section
variable {X:Cx} {tg:Expr}
end
end L2
namespace DL
open PySem L2
section
variable {X:Cx} {tg:Expr} {pos:Pos}
end
end DL
namespace WS
open DL
noncomputable abbrev K2:=Int×Int
noncomputable abbrev P5:=Int×Int×Int×Int×Int
noncomputable def Bt:K2:=(-1,-1)
noncomputable def gk (p:P5):K2:=(p.1,p.2.1)
noncomputable def fy (p:P5):K2:=(p.2.2.1,p.2.2.2.1)
noncomputable def ht (p:P5):Int:=p.2.2.2.2
noncomputable def k4 (p:P5):List Int:=[p.1,p.2.1,p.2.2.1,p.2.2.2.1]
noncomputable def d5 (p:P5):D:=.tup [.int p.1,.int p.2.1,.int p.2.2.1,.int p.2.2.2.1,.int p.2.2.2.2]
noncomputable def Keyed (kvs:cn):Prop:=(kvs.map (·.1)).Nodup
theorem mM (k:K2):aQ [] k=none:=rfl
theorem bU (p:K2×Int)(r:cn)(k:K2):aQ (p::r) k=if p.1=k then some p.2 else aQ r k:=by
 unfold aQ;rw[List.find?_cons];by_cases h:p.1=k
 .rw[if_pos h,decide_eq_true h];rfl
 .rw[if_neg h,decide_eq_false h]
theorem nR (a b:cn)(k:K2):aQ (a++b) k=(aQ a k).or (aQ b k):=by
 induction a with
 | nil=>rfl
 | cons p r ih =>
  rw[List.cons_append,bU,bU,ih];split<;>rfl
theorem cF {kvs:cn}{k:K2}:aQ kvs k=none↔k∉kvs.map (·.1):=by
 induction kvs with
 | nil=>simp[mM]
 | cons p r ih =>
  rw[bU,LK,Lz];by_cases h:p.1=k
  .rw[if_pos h];simp[h]
  .rw[if_neg h,ih];have:¬k=p.1:=λz=>h z.symm;simp[this]
theorem ir {kvs:cn}(hk:Keyed kvs){k:K2}{v:Int}:aQ kvs k=some v↔(k,v)∈kvs:=by
 induction kvs with
 | nil=>simp[mM]
 | cons p r ih =>
  unfold Keyed at hk ih;rw[LK,nodup_cons] at hk;rw[bU,Lz];by_cases h:p.1=k
  .rw[if_pos h];constructor
   .intro z;left;rw[<-h,<-Option.some.inj z]
   .rintro (z | z)
    .rw[<-z]
    .exact absurd (Lx.mpr ⟨_,z,rfl⟩) (by rw[<-h];exact hk.1)
  .rw[if_neg h,ih hk.2];constructor
   .exact .inr
   .rintro (z | z)
    .exact absurd (by rw[<-z]) h
    .exact z
theorem j6 {kvs:cn}{k:K2}:(kvs.any λp=>decide (p.1=k))=true↔k∈kvs.map (·.1):=by
 rw[List.any_eq_true,Lx];constructor
 .rintro ⟨p,h1,h2⟩;exact ⟨p,h1,by simpa using h2⟩
 .rintro ⟨p,h1,h2⟩;exact ⟨p,h1,by simpa using h2⟩
theorem B7 (kvs:cn)(k:K2)(v:Int):(kvs.map λp=>if p.1=k then (p.1,v) else p).map (·.1)=kvs.map (·.1):=by
 rw[map_map];refine map_congr_left λp _=>?_;show (if p.1=k then (p.1,v) else p).1=p.1;split<;>rfl
theorem iu (kvs:cn)(k k':K2)(v:Int):aQ (putD kvs k v) k'=if k=k' then some v else aQ kvs k':=by
  unfold putD;split
  · rename_i h;have hm:=j6.mp h;clear h;induction kvs with
    | nil=>cases hm
    | cons p r ih =>
      rw[LK,bU,bU];by_cases e:p.1=k
      · rw[if_pos e];show (if p.1=k' then some v else _)=_;rw[e];by_cases e':k=k'
        · rw[if_pos e',if_pos e']
        · rw[if_neg e',if_neg e',if_neg e'];by_cases hr:k∈r.map (·.1)
          · rw[ih hr,if_neg e']
          · congr 1;conv=>rhs;rw[<-List.map_id r]
            refine map_congr_left λq hq=>?_;rw[if_neg (λz=>hr (Lx.mpr ⟨q,hq,z⟩))];rfl
      · rw[if_neg e];have hm':k∈r.map (·.1):=by
          rw[LK,Lz] at hm;exact hm.resolve_left λz=>e z.symm
        rw[ih hm'];by_cases e':k=k'
        · rw[if_pos e',if_pos e',if_neg (λz=>e (z.trans e'.symm))]
        · rw[if_neg e',if_neg e']
  · rename_i h;have hm:k∉kvs.map (·.1):=λz=>h (j6.mpr z);rw[nR,bU];by_cases e:k=k'
    · rw [if_pos e, if_pos e, cF.mpr (by rw [<- e];exact hm)];rfl
    · rw[if_neg e,if_neg e,mM];cases aQ kvs k'<;>rfl
theorem rR {kvs:cn}(h:Keyed kvs)(k:K2)(v:Int):Keyed (putD kvs k v):=by
 unfold putD;split
 .unfold Keyed;rw[B7];exact h
 .rename_i hn;unfold Keyed;rw[LI,nodup_append];refine ⟨h,by simp,λa ha b hb=>?_⟩;simp only[LK,List.map_nil,mem_singleton] at hb;rw[hb];rintro rfl;exact hn (j6.mpr ha)
theorem yW (kvs:cn)(k:K2)(v:Int):(putD kvs k v).length<=kvs.length+1:=by
 unfold putD;split
 .rw[Lk];lia
 .rw[LA];exact Ll _
theorem wz {kvs:cn}(h:Keyed kvs)(k:K2):Keyed (lY kvs k):=List.Nodup.sublist (List.Sublist.map _ filter_sublist) h
theorem r6 (kvs:cn)(k k':K2):aQ (lY kvs k) k'=if k=k' then none else aQ kvs k':=by
  unfold lY;induction kvs with
  | nil=>rw[List.filter_nil,mM];split<;>rfl
  | cons p r ih =>
    rw[filter_cons];by_cases e:p.1=k
    · rw [if_neg (by simp [e]), ih, bU];by_cases e':k=k'
      · rw[if_pos e',if_pos e']
      · rw[if_neg e',if_neg e',if_neg (λz=>e' (e.symm.trans z))]
    · rw [if_pos (by simp [e]), bU, bU, ih];by_cases e':k=k'
      · rw[if_pos e',if_pos e',if_neg (λz=>e (z.trans e'.symm))]
      · rw[if_neg e',if_neg e']
theorem same_iff {ka kb:cn}(ha:Keyed ka)(hb:Keyed kb):vR ka kb=true↔∀k,aQ ka k=aQ kb k:=by
 unfold vR;rw[LV,beq_iff_eq,List.all_eq_true];constructor
 .rintro ⟨hl,h⟩ k;have sub:∀x∈ka.map (·.1),x∈kb.map (·.1):=λx hx=>by
   obtain ⟨p,hp,rfl⟩:=Lx.mp hx;have:=h p hp;rw[beq_iff_eq] at this;exact Lx.mpr ⟨_,(ir hb).mp this,rfl⟩
  cases e:aQ ka k with
  | some v =>
   have:=h _ ((ir ha).mp e);rw[beq_iff_eq] at this;exact this.symm
  | none =>
   symm;rw[cF] at e ⊢;intro hk;have h2:=len_sub (k::ka.map (·.1)) (kb.map (·.1)) (nodup_cons.mpr ⟨e,show (ka.map (·.1)).Nodup from ha⟩) (λx hx=>by
    rcases Lz.mp hx with rfl | hx
    .exact hk
    .exact sub x hx)
   rw[LN,Lk,Lk] at h2;lia
 .intro h;have sub:∀{a b:cn},(∀k,aQ a k=aQ b k)->∀x∈a.map (·.1),x∈b.map (·.1):=λ{a b} h x hx=>by
   refine Classical.byContradiction λhn=>?_;have:=cF.mpr hn;rw[<-h x] at this;exact cF.mp this hx
  have l1:=len_sub _ _ ha (sub h);have l2:=len_sub _ _ hb (sub λk=>(h k).symm);rw[Lk,Lk] at l1 l2;refine ⟨by lia,λp hp=>?_⟩;rw[beq_iff_eq,<-h];exact (ir ha).mpr hp
noncomputable abbrev Q2:=K2×Int
noncomputable def aL (k:K2)(qs:List Q2):Int:=((qs.filter λq=>decide (q.1=k)).map (·.2)).sum
noncomputable def iV (k:K2)(qs:List Q2):Option Int:=if k∈qs.map (·.1) then some (aL k qs) else none
theorem bf (k:K2)(a b:List Q2):aL k (a++b)=aL k a+aL k b:=by
 unfold aL;rw[filter_append,LI,sum_append]
theorem j3 {k:K2}{qs:List Q2}(h:k∉qs.map (·.1)):aL k qs=0:=by
 unfold aL;rw[List.filter_eq_nil_iff.mpr λq hq=>by
  rw[decide_eq_true_eq];exact λe=>h (Lx.mpr ⟨q,hq,e⟩)]
 rfl
theorem eE (k:K2)(qs:List Q2):(iV k qs).getD 0=aL k qs:=by
 unfold iV;split
 .rfl
 .rename_i h;rw[j3 h];rfl
noncomputable def nU (qs:List Q2):cn:=qs.foldl (λkv q=>putD kv q.1 ((aQ kv q.1).getD 0+q.2)) []
theorem qP (qs:List Q2)(q:Q2):nU (qs++[q])=putD (nU qs) q.1 ((aQ (nU qs) q.1).getD 0+q.2):=by
 unfold nU;rw[List.foldl_append];rfl
theorem gA (k:K2)(q:Q2):aL k [q]=if q.1=k then q.2 else 0:=by
  unfold aL;by_cases h:q.1=k
  · rw [if_pos h, filter_cons, if_pos (by simpa using h)];simp
  · rw [if_neg h, filter_cons, if_neg (by simpa using h)];rfl
theorem oi:∀qs:List Q2,Keyed (nU qs)/\(nU qs).length<=qs.length/\∀k,aQ (nU qs) k=iV k qs:=by
 intro qs;generalize hn:qs.length=n;induction n generalizing qs with
 | zero =>
  obtain rfl:=length_eq_zero_iff.mp hn;exact ⟨.nil,Ll _,λk=>rfl⟩
 | succ n ih =>
  obtain ⟨ini,q,rfl⟩ : ∃ini q,qs=ini++[q]:=by
   rcases eq_nil_or_concat qs with h | ⟨l,b,h⟩
   .rw[h] at hn;cases hn
   .exact ⟨l,b,by rw[h,concat_eq_append]⟩
  have hl:ini.length=n:=by rw[LA] at hn;simp at hn;exact hn
  obtain ⟨h1,h2,h3⟩:=ih ini hl;rw[qP];refine ⟨rR h1 _ _,by have:=yW (nU ini) q.1 ((aQ (nU ini) q.1).getD 0+q.2);lia,λk=>?_⟩;rw[iu,h3,eE,h3];unfold iV;rw[LI];by_cases e:q.1=k
  .rw[if_pos e,if_pos (by rw[<-e];simp),bf,gA,if_pos e,e]
  .rw[if_neg e,bf,gA,if_neg e];have:(k∈ini.map (·.1)++[q].map (·.1))↔k∈ini.map (·.1):=by
    rw[mem_append];exact ⟨λz=>z.resolve_right (by simp;exact λz=>e z.symm),.inl⟩
   by_cases hk:k∈ini.map (·.1)
   .rw[if_pos hk,if_pos (this.mpr hk)];congr 1;lia
   .rw[if_neg hk,if_neg (λz=>hk (this.mp z))]
noncomputable def cu (s:S3):Int:=min s.1 s.2.1
noncomputable def eS (s:S3):Int:=max s.1 s.2.1
noncomputable def strAt (ss:List S3)(n:Int):Option S3:=if 0<=n then ss[n.toNat]? else none
noncomputable def av (ss:List S3)(k:K2):Option Int:=match strAt ss k.1 with
 | some s=>if 0<s.2.2/\cu s<=k.2/\k.2<eS s then some s.2.2 else none
 | none=>none
theorem m7 (ss:List S3):av ss Bt=none:=rfl
theorem fV {α:Type}[DecidableEq α](val:Nat->α):∀n x,x∈bz val n↔∃i,i<n/\val i=x
 | 0,x=>⟨λz=>(nomatch z),by rintro ⟨_,z,_⟩;exact absurd z (Nat.not_lt_zero _)⟩
 | n+1,x=>by
  rw[bz];constructor
  .intro h;by_cases c:val n∈bz val n
   .rw[if_pos c] at h;obtain ⟨i,hi,e⟩:=(fV val n x).mp h;exact ⟨i,by lia,e⟩
   .rw[if_neg c,Lz] at h;rcases h with rfl | h
    .exact ⟨n,by lia,rfl⟩
    .obtain ⟨i,hi,e⟩:=(fV val n x).mp h;exact ⟨i,by lia,e⟩
  .rintro ⟨i,hi,rfl⟩;by_cases c:val n∈bz val n
   .rw[if_pos c];by_cases e:i=n
    .subst e;exact c
    .exact (fV val n _).mpr ⟨i,by lia,rfl⟩
   .rw[if_neg c,Lz];by_cases e:i=n
    .subst e;exact .inl rfl
    .exact .inr ((fV val n _).mpr ⟨i,by lia,rfl⟩)
theorem Dy {α:Type}[DecidableEq α][Inhabited α](xs:List α):dist xs<=xs.length:=jX _ _
theorem lB {α:Type}[DecidableEq α](val:Nat->α):∀n,(bz val n).length=n↔∀i j,i<j->j<n->val i≠val j
 | 0=>⟨λ_ i j _ h=>absurd h (Nat.not_lt_zero _),λ_=>rfl⟩
 | n+1=>by
  have hle:=jX val n;rw[bz];constructor
  .intro h i j hij hj e;by_cases c:val n∈bz val n
   .rw[if_pos c] at h;lia
   .rw[if_neg c,LN] at h;by_cases ej:j=n
    .subst ej;exact c ((fV val j _).mpr ⟨i,hij,e⟩)
    .exact (lB val n).mp (by lia) i j hij (by lia) e
  .intro h;have c:val n∉bz val n:=λz=>by
    obtain ⟨i,hi,e⟩:=(fV val n _).mp z;exact h i n hi (by lia) e
   rw[if_neg c,LN,(lB val n).mpr λi j hij hj=>h i j hij (by lia)]
theorem zI {α:Type}[DecidableEq α][Inhabited α](xs:List α):dist xs=xs.length↔xs.Nodup:=by
 unfold dist;rw[lB];show _↔xs.Pairwise (·≠·);rw[pairwise_iff_getElem];constructor
 .intro h i j hi hj hij;have:=h i j hij hj;rw[getD_eq_getElem?_getD,getD_eq_getElem?_getD,Lm hi,Lm hj] at this;exact this
 .intro h i j hij hj;have hi:i<xs.length:=by lia
  rw[getD_eq_getElem?_getD,getD_eq_getElem?_getD,Lm hi,Lm hj];exact h i j hi hj hij
noncomputable def kJ (g:Int)(p:P5):Bool:=decide (1<=ht p) && (if gk p=Bt\/fy p=Bt then decide (gk p≠fy p) else decide (p.2.1>=p.2.2.2.1+g))
noncomputable def gq (ps:List P5):List Q2:=ps.map λp=>(gk p,ht p)
noncomputable def tq (ps:List P5):List Q2:=ps.map λp=>(fy p,ht p)
structure Looks (g:Int)(hs cs:List S3)(ps:List P5):Prop where
 may:∀p∈ps,kJ g p=true
 gd:(ps.map k4).Nodup
 qo:∀k,k≠Bt->iV k (gq ps)=av hs k
 qp:∀k,k≠Bt->iV k (tq ps)=av cs k
theorem kj {α:Type}{xs:List α}{e:α->D}(he:∀x y,e x=e y->x=y){g:Tg}{te:DT}{ρ:ax}{Q:B->Prop}(f:α->D)(hz:xs.length<=1000000)(h:∀x∈xs,g.d (e x) ρ λρ'=>te ρ' λb=>some b.val=some (f x))(q:Q (.o (.lst (xs.map f)))):Ge (xs.map e) g bN te ρ Q:=by
 classical
 refine D6 (λd=>if h:∃x,e x=d then f h.choose else .non) f (λx _=>?_) hz h q;have hx:∃y,e y=e x:=⟨x,rfl⟩
 show (if h:∃y,e y=e x then f h.choose else .non)=f x;rw[dif_pos hx,he _ _ hx.choose_spec]
theorem yA {α:Type}{xs:List α}{e:α->D}(he:∀x y,e x=e y->x=y){g:Tg}{tc:iY}{te:DT}{ρ:ax}{Q:B->Prop}(f:α->Option D)(hz:xs.length<=1000000)(h:∀x∈xs,g.d (e x) ρ λρ'=>tc ρ' λc=>(c=true->te ρ' λb=>some b.val=f x)/\(c=false->none=f x))(q:Q (.o (.lst (xs.filterMap f)))) :
  Ge (xs.map e) g tc te ρ Q:=by
 classical
 refine D5 (λd=>if h:∃x,e x=d then f h.choose else none) f (λx _=>?_) hz h q;have hx:∃y,e y=e x:=⟨x,rfl⟩
 show (if h:∃y,e y=e x then f h.choose else none)=f x;rw[dif_pos hx,he _ _ hx.choose_spec]
theorem oV (p q:P5)(h:d5 p=d5 q):p=q:=by
 obtain ⟨a,b,c,d,e⟩:=p;obtain ⟨a',b',c',d',e'⟩:=q;unfold d5 at h;simp only[D.tup.injEq,List.cons.injEq,D.int.injEq,and_true] at h;obtain ⟨rfl,rfl,rfl,rfl,rfl⟩:=h;rfl
theorem Cq (a b c d:Int):bL (.tup [.int a,.int b]) (.tup [.int c,.int d])=decide (a=c/\b=d):=by
 simp only[bL,lr];rw[Bool.and_true,Bool.eq_iff_iff,LV];simp
theorem yH {a b c d:Int}{Q:B->Prop}(h:Q (.p (.bl (!decide (a=c/\b=d))))):Jr (.tup [.int a,.int b]) (.tup [.int c,.int d]) Q:=by
 refine ⟨⟨by simp only[tw,ig,ij,gO,Bool.and_true],by simp only[tw,ig,ij,gO,Bool.and_true],by simp only[Dx,rm,uL,ou];decide⟩,?_⟩;rw[Cq];exact h
theorem xm (ss:List S3)(s:S3)(n:Int):strAt (ss++[s]) n=if n=(ss.length:Int) then some s else strAt ss n:=by
 unfold strAt;by_cases h:0<=n
 .rw[if_pos h,if_pos h];by_cases e:n=(ss.length:Int)
  .rw[if_pos e,e,Int.toNat_natCast,List.getElem?_append_right (Ll _)];simp
  .rw[if_neg e];by_cases h2:n.toNat<ss.length
   .rw[List.getElem?_append_left h2]
   .rw[List.getElem?_append_right (by lia),List.getElem?_eq_none (by simp;lia),List.getElem?_eq_none (by lia)]
 .rw[if_neg h,if_neg h,if_neg (by lia)]
theorem gS (ss:List S3)(s:S3)(k:K2):av (ss++[s]) k=if k.1=(ss.length:Int) then (if 0<s.2.2/\cu s<=k.2/\k.2<eS s then some s.2.2 else none) else av ss k:=by
 unfold av;rw[xm];by_cases e:k.1=(ss.length:Int)
 .rw[if_pos e,if_pos e]
 .rw[if_neg e,if_neg e]
theorem gn {ss:List S3}{k:K2}(h:k.1=(ss.length:Int)):av ss k=none:=by
 unfold av strAt;rw[if_pos (by lia),List.getElem?_eq_none (by lia)]
end WS
namespace WS
open DL
noncomputable def Pos (ss:List S3):Prop:=∀s∈ss,0<s.2.2
theorem gz {ss:List S3}{n:Int}{s:S3}(h:strAt ss n=some s):0<=n/\ss[n.toNat]?=some s/\s∈ss:=by
 unfold strAt at h;split at h
 .exact ⟨by assumption,h,Ls h⟩
 .cases h
theorem fx {ss:List S3}{k:K2}{r:Int}(h:av ss k=some r):∃s,strAt ss k.1=some s/\0<s.2.2/\cu s<=k.2/\k.2<eS s/\r=s.2.2:=by
 unfold av at h;cases e:strAt ss k.1 with
 | none=>rw[e] at h;cases h
 | some s =>
  rw[e] at h;dsimp only at h;split at h
  .rename_i z;exact ⟨s,rfl,z.1,z.2.1,z.2.2,(Option.some.inj h).symm⟩
  .cases h
theorem bg (k:K2)(q:Q2)(qs:List Q2):aL k (q::qs)=(if q.1=k then q.2 else 0)+aL k qs:=by
 rw[<-List.singleton_append,bf,gA]
theorem AI {k:K2}{a b:List Q2}(h:a.Perm b):aL k a=aL k b:=by
 induction h with
 | nil=>rfl
 | cons x _ ih=>rw[bg,bg,ih]
 | swap x y l=>rw[bg,bg,bg,bg];lia
 | trans _ _ h1 h2=>rw[h1,h2]
theorem rZ {k:K2}{a b:List Q2}(h:a.Perm b):iV k a=iV k b:=by
 unfold iV;rw[AI h];by_cases c:k∈b.map (·.1)
 .rw[if_pos c,if_pos ((h.map _).mem_iff.mpr c)]
 .rw[if_neg c,if_neg (λz=>c ((h.map _).mem_iff.mp z))]
theorem Looks.perm {g:Int}{hs cs:List S3}{a b:List P5}(L:Looks g hs cs a)(h:b.Perm a):Looks g hs cs b where
 may:=λp hp=>L.may p (h.mem_iff.mp hp)
 gd:=((h.map k4).nodup_iff).mpr L.gd
 qo:=λk hk=>by rw[<-L.qo k hk];exact rZ (h.map _)
 qp:=λk hk=>by rw[<-L.qp k hk];exact rZ (h.map _)
theorem wM {f:P5->K2}{p:P5}{ps:List P5}(h:p∈ps):f p∈(ps.map λp=>(f p,ht p)).map (·.1):=Lx.mpr ⟨_,Lx.mpr ⟨p,h,rfl⟩,rfl⟩
theorem Hg (f:P5->K2){ps:List P5}(h:∀p∈ps,(f p).1 = -1->f p=Bt):((ps.filter λp=>decide ((f p).1 = -1)).map ht).sum=aL Bt (ps.map λp=>(f p,ht p)):=by
  induction ps with
  | nil=>rfl
  | cons p ps ih =>
    have ih:=ih λp hp=>h p (.tail _ hp);rw[filter_cons,LK,bg];by_cases c:(f p).1 = -1
    · rw[if_pos (by simpa using c),if_pos (h p (.head _) c),LK,sum_cons,ih]
    · rw [if_neg (by simpa using c), if_neg (λz : f p = Bt => c (by rw [z];rfl)), ih];lia
theorem Looks.gB {g:Int}{hs cs:List S3}{ps:List P5}(L:Looks g hs cs ps):∀p∈ps,(gk p).1 = -1->gk p=Bt:=λp hp e=>by
 refine Classical.byContradiction λc=>?_;have:=L.qo _ c;unfold iV gq at this;rw[if_pos (wM hp)] at this;obtain ⟨s,e1,_⟩:=fx this.symm;have:=(gz e1).1;lia
end WS
namespace WS
open DL
noncomputable def wI (n:Nat)(s:S3):List P5:=(LD (s.1 - s.2.1).toNat).map λj:Nat=>((n:Int),s.2.1+(j:Int),-1,-1,s.2.2)
noncomputable def oT (n:Nat)(s:S3):List P5:=(LD (s.2.1 - s.1).toNat).map λj:Nat=>(-1,-1,(n:Int),s.1+(j:Int),s.2.2)
noncomputable def jU (f:Nat->S3->List P5):Nat->List S3->List P5
 | _,[]=>[]
 | n,s::r=>f n s++jU f (n+1) r
theorem pW (f:Nat->S3->List P5):∀(ss:List S3) (n:Nat) (s:S3),jU f n (ss++[s])=jU f n ss++f (n+ss.length) s
 | [],n,s=>by simp[jU]
 | a::ss,n,s=>by
  rw[List.cons_append];unfold jU;rw[pW f ss (n+1) s,LX,LN,show n+1+ss.length=n+(ss.length+1) by lia]
noncomputable def m9 (n:Nat)(lo r:Int)(m:Nat):List Q2:=(LD m).map λj:Nat=>(((n:Int),lo+(j:Int)),r)
theorem rT (n:Nat)(lo r:Int)(m:Nat):m9 n lo r (m+1)=m9 n lo r m++[(((n:Int),lo+(m:Int)),r)]:=by unfold m9;rw[List.range_succ,LI];rfl
theorem vP (n:Nat)(lo r:Int)(k:K2):∀m:Nat,aL k (m9 n lo r m)=if k.1=(n:Int)/\lo<=k.2/\k.2<lo+(m:Int) then r else 0
  | 0=>by rw[if_neg (by lia)];rfl
  | m+1=>by
    obtain ⟨a,b⟩:=k;rw[rT,bf,gA,vP n lo r _ m];dsimp only;by_cases c:((n:Int),lo+(m:Int))=(a,b)
    · have c':=Prod.mk.inj c;rw[if_pos c,if_neg (by lia),if_pos (by lia)];lia
    · have c' : ¬ ((n : Int) = a /\ lo + (m : Int) = b) := λz => c (by rw [z.1, z.2]);rw[if_neg c];by_cases c2:a=(n:Int)/\lo<=b/\b<lo+(m:Int)
      · rw[if_pos c2,if_pos (by lia)];lia
      · rw[if_neg c2,if_neg (by lia)];rfl
theorem mF {n:Nat}{lo r:Int}{m:Nat}{k:K2}:k∈(m9 n lo r m).map (·.1)↔k.1=(n:Int)/\lo<=k.2/\k.2<lo+(m:Int):=by
 unfold m9;rw[map_map,Lx];constructor
 .rintro ⟨j,hj,rfl⟩;have:=mem_range.mp hj;refine ⟨rfl,?_,?_⟩
  .show lo<=lo+(j:Int);lia
  .show lo+(j:Int)<lo+(m:Int);lia
 .rintro ⟨h1,h2,h3⟩;refine ⟨(k.2 - lo).toNat,mem_range.mpr (by lia),?_⟩;show ((n:Int),lo+((k.2 - lo).toNat:Int))=k;rw[<-h1,Int.toNat_of_nonneg (by lia),show lo+(k.2 - lo)=k.2 by lia]
theorem CS {k:K2}{a b:List Q2}:iV k (a++b)=if k∈b.map (·.1) then some (aL k a+aL k b) else iV k a:=by
 unfold iV;rw[LI,bf];by_cases h:k∈b.map (·.1)
 .rw[if_pos h,if_pos (mem_append_right _ h)]
 .rw[if_neg h,j3 h];by_cases h2:k∈a.map (·.1)
  .rw[if_pos h2,if_pos (mem_append_left _ h2)];congr 1;lia
  .rw[if_neg h2,if_neg (λz=>(mem_append.mp z).elim h2 h)]
theorem rV (f:P5->K2)(row:Nat->S3->List P5)(Ok:S3->Prop)(hrow:∀n s,Ok s->(row n s).map (λp=>(f p,ht p))=m9 n (cu s) s.2.2 (eS s - cu s).toNat)(bC:∀s,Ok s->0<s.2.2/\cu s<=eS s) :
    ∀ss:List S3,(∀s∈ss,Ok s)->∀k,iV k ((jU row 0 ss).map λp=>(f p,ht p))=av ss k:=by
  intro ss;generalize hn:ss.length=n;induction n generalizing ss with
  | zero =>
    intro _ k;obtain rfl:=length_eq_zero_iff.mp hn;unfold av strAt;split
    · rename_i s h;split at h<;>cases h
    · rfl
  | succ n ih =>
    intro ho k;obtain ⟨ini,s,rfl⟩ : ∃ini q,ss=ini++[q]:=by
      rcases eq_nil_or_concat ss with h | ⟨l,b,h⟩
      · rw[h] at hn;cases hn
      · exact ⟨l,b,by rw[h,concat_eq_append]⟩
    have hl:ini.length=n:=by rw[LA] at hn;simp at hn;exact hn
    have h1:=ih ini hl (λs hs=>ho s (mem_append_left _ hs)) k;have os:=ho s (by simp);obtain ⟨o1,o2⟩:=bC s os;rw[pW,LI,CS,hrow _ _ os,Nat.zero_add,gS,h1];by_cases c:k.1=(ini.length:Int)
    · rw[if_pos c];have hz:aL k ((jU row 0 ini).map λp=>(f p,ht p))=0:=by
        rw[<-eE,h1,gn c];rfl
      by_cases c2:cu s<=k.2/\k.2<eS s
      · rw [if_pos (mF.mpr ⟨c, c2.1, by lia⟩), if_pos ⟨o1, c2⟩, hz, vP, if_pos ⟨c, c2.1, by lia⟩];congr 1;lia
      · rw[if_neg (λz=>c2 ⟨(mF.mp z).2.1,by have:=(mF.mp z).2.2;lia⟩),if_neg (λz=>c2 z.2),gn c]
    · rw[if_neg c,if_neg (λz=>c (mF.mp z).1)]
theorem yn (n:Nat)(s:S3)(h:g8 s):(wI n s).map (λp=>(gk p,ht p))=m9 n (cu s) s.2.2 (eS s - cu s).toNat:=by
 have h1:=h.lt;unfold wI m9 cu eS;rw[map_map,show min s.1 s.2.1=s.2.1 by lia,show max s.1 s.2.1=s.1 by lia];rfl
theorem uu (n:Nat)(s:S3)(h:dB s):(oT n s).map (λp=>(fy p,ht p))=m9 n (cu s) s.2.2 (eS s - cu s).toNat:=by
 have h1:=h.lt;unfold oT m9 cu eS;rw[map_map,show min s.1 s.2.1=s.1 by lia,show max s.1 s.2.1=s.2.1 by lia];rfl
theorem fR {α β γ:Type}(f:α->β)(g:α->γ)(h:∀x y,f x=f y->g x=g y):∀xs:List α,(xs.map g).Nodup->(xs.map f).Nodup
 | [],_=>.nil
 | x::xs,hn=>by
  rw[LK,nodup_cons] at hn ⊢;refine ⟨λhm=>hn.1 ?_,fR f g h xs hn.2⟩;obtain ⟨y,hy,e⟩:=Lx.mp hm;exact Lx.mpr ⟨y,hy,h _ _ e⟩
theorem rH {p q:P5}(h:k4 p=k4 q):gk p=gk q:=by
 unfold k4 at h;simp only[List.cons.injEq,and_true] at h;unfold gk;rw[h.1,h.2.1]
theorem uX {p q:P5}(h:k4 p=k4 q):fy p=fy q:=by
 unfold k4 at h;simp only[List.cons.injEq,and_true] at h;unfold fy;rw[h.2.2.1,h.2.2.2]
theorem nZ {α:Type}(f:Nat->α)(hf:∀i j,f i=f j->i=j)(n:Nat):((LD n).map f).Nodup:=by
 show ((LD n).map f).Pairwise (·≠·);rw[pairwise_map];exact List.Pairwise.imp (λ{i j} h e=>by have:=hf _ _ e;lia) List.pairwise_lt_range
end WS
namespace WS
open DL
theorem va {g:Int}{hs cs:List S3}{ps:List P5}(may:∀p∈ps,kJ g p=true)(gd:(ps.map k4).Nodup)
  (gB:∀p∈ps,gk p=Bt\/(av hs (gk p)).isSome=true) (gT:∀k r,av hs k=some r->aL k (gq ps)=r)
  (tB:∀p∈ps,fy p=Bt\/(av cs (fy p)).isSome=true) (tT:∀k r,av cs k=some r->aL k (tq ps)=r):Looks g hs cs ps:=by
 have key:∀(f:P5->K2) {ss:List S3},(∀p∈ps,f p=Bt\/(av ss (f p)).isSome=true)->(∀k r,av ss k=some r->aL k (ps.map λp=>(f p,ht p))=r)->∀k,k≠Bt->iV k (ps.map λp=>(f p,ht p))=av ss k:=λf ss hB hT k hk=>by
  unfold iV;split
  .rename_i hm;obtain ⟨q,hq,rfl⟩:=Lx.mp hm;obtain ⟨p,hp,rfl⟩:=Lx.mp hq;rcases hB p hp with z | z
   .exact absurd z hk
   .obtain ⟨r,hr⟩:=Option.isSome_iff_exists.mp z;rw[hr,hT _ r hr]
  .rename_i hm;cases hr:av ss k with
   | none=>rfl
   | some r =>
    have:=hT k r hr;rw[j3 hm] at this;obtain ⟨s,_,h0,_,_,e⟩:=fx hr;lia
 exact ⟨may,gd,key gk gB gT,key fy tB tT⟩
theorem cw {ss:List S3}{k:K2}(h:(av ss k).isSome=true):k≠Bt:=λz=>by rw[z,m7] at h;cases h
theorem eA {ss:List S3}{k:K2}(h:(av ss k).isSome=true):0<=k.1:=by
 obtain ⟨r,hr⟩:=Option.isSome_iff_exists.mp h;obtain ⟨s,e,_⟩:=fx hr;exact (gz e).1
theorem ny {k:K2}:∀{kvs:cn},Keyed kvs->aL k kvs=(aQ kvs k).getD 0
  | [],_=>rfl
  | p::r,h=>by
    unfold Keyed at h;rw[LK,nodup_cons] at h;have ih:=ny (k:=k) (kvs:=r) h.2;rw[bg,bU,ih];by_cases c:p.1=k
    · rw [if_pos c, if_pos c, cF.mpr (by rw [<- c];exact h.1)];show p.2+0=p.2;lia
    · rw[if_neg c,if_neg c];lia
noncomputable def mE (kvs:cn):cn:=kvs.filter λp=>decide (0<p.2)
theorem t9 {k:K2}:∀{kvs:cn},(∀p∈kvs,0<=p.2)->aL k (mE kvs)=aL k kvs
  | [],_=>rfl
  | p::r,h=>by
    have ih:=t9 (k:=k) (kvs:=r) λp hp=>h p (.tail _ hp);have h0:=h p (.head _);unfold mE at ih ⊢;rw[filter_cons];by_cases c:0<p.2
    · rw[if_pos (decide_eq_true c),bg,bg,ih]
    · rw [if_neg (by simpa using c), bg, ih];split<;>lia
noncomputable def mm (kvs:cn):List P5:=(mE kvs).map λp=>(p.1.1,p.1.2,-1,-1,p.2)
noncomputable def fM (kvs:cn):List P5:=(mE kvs).map λp=>(-1,-1,p.1.1,p.1.2,p.2)
theorem DM (kvs:cn):gq (mm kvs)=mE kvs:=by
 unfold gq mm;rw[map_map];conv=>rhs;rw[<-List.map_id (mE kvs)]
 rfl
theorem CZ (kvs:cn):tq (fM kvs)=mE kvs:=by
 unfold tq fM;rw[map_map];conv=>rhs;rw[<-List.map_id (mE kvs)]
 rfl
theorem h9 {kvs:cn}{p:P5}(h:p∈mm kvs):gk p∈kvs.map (·.1)/\fy p=Bt/\1<=ht p:=by
 obtain ⟨q,hq,rfl⟩:=Lx.mp h;unfold mE at hq;obtain ⟨h1,h2⟩:=List.mem_filter.mp hq;rw[decide_eq_true_eq] at h2;exact ⟨Lx.mpr ⟨q,h1,rfl⟩,rfl,h2⟩
theorem fT {kvs:cn}{p:P5}(h:p∈fM kvs):fy p∈kvs.map (·.1)/\gk p=Bt/\1<=ht p:=by
 obtain ⟨q,hq,rfl⟩:=Lx.mp h;unfold mE at hq;obtain ⟨h1,h2⟩:=List.mem_filter.mp hq;rw[decide_eq_true_eq] at h2;exact ⟨Lx.mpr ⟨q,h1,rfl⟩,rfl,h2⟩
theorem rP {kvs:cn}(h:Keyed kvs):Keyed (mE kvs):=List.Nodup.sublist (List.Sublist.map _ filter_sublist) h
theorem sO (a b:List P5):gq (a++b)=gq a++gq b:=LI
theorem ua (a b:List P5):tq (a++b)=tq a++tq b:=LI
theorem lD {f:P5->K2}{k:K2}(hk:k≠Bt):∀{ps:List P5},(∀p∈ps,f p=Bt)->aL k (ps.map λp=>(f p,ht p))=0
 | [],_=>rfl
 | p::ps,h=>by
  rw[LK,bg,if_neg (show ¬f p=k from λz=>hk (by rw[<-z];exact h p (.head _))),lD hk λp hp=>h p (.tail _ hp)];rfl
structure EL (g:Int)(hs cs:List S3)(ps:List P5)(hk ck:cn):Prop where
 may:∀p∈ps,1<=ht p/\(av hs (gk p)).isSome=true/\(av cs (fy p)).isSome=true/\p.2.1>=p.2.2.2.1+g
 gd:(ps.map k4).Nodup
 qo:∀k v,aQ hk k=some v->∀r,av hs k=some r->aL k (gq ps)+v=r
 qp:∀k v,aQ ck k=some v->∀r,av cs k=some r->aL k (tq ps)+v=r
theorem EL.pass {g:Int}{hs cs:List S3}{ps:List P5}{hk ck:cn}(D:EL g hs cs ps hk ck){a b:K2}{x y m:Int}(ha:aQ hk a=some x)(hb:aQ ck b=some y)(ra:(av hs a).isSome=true)(rb:(av cs b).isSome=true)(m1:1<=m)(h:b.2+g<=a.2)
  (new:∀p∈ps,¬(gk p=a/\fy p=b)):EL g hs cs (ps++[(a.1,a.2,b.1,b.2,m)]) (putD hk a (x - m)) (putD ck b (y - m)) where
 may:=λp hp=>by
  rcases mem_append.mp hp with z | z
  .exact D.may p z
  .rw[mem_singleton.mp z];exact ⟨m1,ra,rb,h⟩
 gd:=by
  rw[LI,nodup_append];refine ⟨D.gd,by simp,λu hu w hw=>?_⟩;obtain ⟨p,hp,rfl⟩:=Lx.mp hu;rw[LK,List.map_nil,mem_singleton] at hw;rw[hw];intro e;exact new p hp ⟨rH e,uX e⟩
 qo:=λk v hv r hr=>by
  rw[iu] at hv;rw[sO,bf];show aL k (gq ps)+aL k [(a,m)]+v=r;rw[gA];by_cases c:a=k
  .rw[if_pos c] at hv;rw[if_pos c];have:=D.qo k x (by rw[<-c];exact ha) r hr;have:=Option.some.inj hv;lia
  .rw[if_neg c] at hv;rw[if_neg c];have:=D.qo k v hv r hr;lia
 qp:=λk v hv r hr=>by
  rw[iu] at hv;rw[ua,bf];show aL k (tq ps)+aL k [(b,m)]+v=r;rw[gA];by_cases c:b=k
  .rw[if_pos c] at hv;rw[if_pos c];have:=D.qp k y (by rw[<-c];exact hb) r hr;have:=Option.some.inj hv;lia
  .rw[if_neg c] at hv;rw[if_neg c];have:=D.qp k v hv r hr;lia
theorem EL.Ii {g:Int}{hs cs:List S3}{ps:List P5}{hk ck:cn}(D:EL g hs cs ps hk ck)(kh:Keyed hk)(kc:Keyed ck)(h0:∀p∈hk,0<=p.2)(c0:∀p∈ck,0<=p.2)
    (eh:∀k,k∈hk.map (·.1)↔(av hs k).isSome=true) (ec:∀k,k∈ck.map (·.1)↔(av cs k).isSome=true):Looks g hs cs (ps++mm hk++fM ck):=by
  have inA:∀p∈ps++mm hk++fM ck,p∈ps\/p∈mm hk\/p∈fM ck:=λp hp=>by
    rcases mem_append.mp hp with z | z
    · rcases mem_append.mp z with z | z
      · exact .inl z
      · exact .inr (.inl z)
    · exact .inr (.inr z)
  refine va (λp hp=>?_) ?_ (λp hp=>?_) (λk r hr=>?_) (λp hp=>?_) λk r hr=>?_
  · unfold kJ;rcases inA p hp with z | z | z
    · obtain ⟨m1,m2,m3,m4⟩:=D.may p z;rw[decide_eq_true m1,Bool.true_and,if_neg (λy=>y.elim (cw m2) (cw m3)),decide_eq_true m4]
    · obtain ⟨m1,m2,m3⟩:=h9 z;rw[decide_eq_true m3,Bool.true_and,if_pos (.inr m2),decide_eq_true_eq,m2];exact cw ((eh _).mp m1)
    · obtain ⟨m1,m2,m3⟩:=fT z;rw[decide_eq_true m3,Bool.true_and,if_pos (.inl m2),decide_eq_true_eq,m2];exact λy=>cw ((ec _).mp m1) y.symm
  · rw[LI,nodup_append,LI,nodup_append];refine ⟨⟨D.gd,fR k4 gk (λ_ _=>rH) _ ?_,λu hu w hw e=>?_⟩,fR k4 fy (λ_ _=>uX) _ ?_,λu hu w hw e=>?_⟩
    · have:=rP kh;unfold Keyed at this;unfold mm;rw[map_map];exact this
    · obtain ⟨p,hp,rfl⟩:=Lx.mp hu;obtain ⟨q,hq,rfl⟩:=Lx.mp hw;have h1:=uX e;rw[(h9 hq).2.1] at h1;exact cw (D.may p hp).2.2.1 h1
    · have:=rP kc;unfold Keyed at this;unfold fM;rw[map_map];exact this
    · obtain ⟨q,hq,rfl⟩:=Lx.mp hw;rcases mem_append.mp hu with z | z
      · obtain ⟨p,hp,rfl⟩:=Lx.mp z;have h1:=rH e;rw[(fT hq).2.1] at h1;exact cw (D.may p hp).2.1 h1
      · obtain ⟨p,hp,rfl⟩:=Lx.mp z;have h1:=rH e;rw[(fT hq).2.1] at h1;exact cw ((eh _).mp (h9 hp).1) h1
  · rcases inA p hp with z | z | z
    · exact .inr (D.may p z).2.1
    · exact .inr ((eh _).mp (h9 z).1)
    · exact .inl (fT z).2.1
  · have hk1 : (av hs k).isSome = true := by rw [hr];rfl
    have nb:=cw hk1;rw[sO,sO,bf,bf,DM,t9 h0,ny kh,show aL k (gq (fM ck))=0 from lD nb λp hp=>(fT hp).2.1];cases e:aQ hk k with
    | none=>exact absurd ((eh k).mpr hk1) (cF.mp e)
    | some v =>
      have:=D.qo k v e r hr;show aL k (gq ps)+v+0=r;lia
  · rcases inA p hp with z | z | z
    · exact .inr (D.may p z).2.2.1
    · exact .inl (h9 z).2.1
    · exact .inr ((ec _).mp (fT z).1)
  · have hk1 : (av cs k).isSome = true := by rw [hr];rfl
    have nb:=cw hk1;rw[ua,ua,bf,bf,CZ,t9 c0,ny kc,show aL k (tq (mm hk))=0 from lD nb λp hp=>(h9 hp).2.1];cases e:aQ ck k with
    | none=>exact absurd ((ec k).mpr hk1) (cF.mp e)
    | some v =>
      have:=D.qp k v e r hr;show aL k (tq ps)+0+v=r;lia
end WS
namespace WS
open DL
noncomputable def ji (c:K2->Bool)(qs:List Q2):Int:=((qs.filter λq=>c q.1).map (·.2)).sum
theorem vU (c:K2->Bool):ji c []=0:=rfl
theorem fj (c:K2->Bool)(q:Q2)(qs:List Q2):ji c (q::qs)=(if c q.1=true then q.2 else 0)+ji c qs:=by
 unfold ji;rw[filter_cons];split
 .rw[LK,sum_cons]
 .lia
theorem p6 (c:K2->Bool):∀a b:List Q2,ji c (a++b)=ji c a+ji c b
 | [],b=>by rw[List.nil_append,vU];lia
 | q::a,b=>by rw[List.cons_append,fj,fj,p6 c a b];lia
noncomputable def jh (k:K2)(qs:List Q2):List Q2:=qs.filter λq=>decide (q.1≠k)
theorem rN {k:K2}{q:Q2}{qs:List Q2}(e:q.1=k):jh k (q::qs)=jh k qs:=by unfold jh;rw[filter_cons,if_neg (by simp[e])]
theorem pG {k:K2}{q:Q2}{qs:List Q2}(e:¬q.1=k):jh k (q::qs)=q::jh k qs:=by unfold jh;rw[filter_cons,if_pos (by simp[e])]
theorem iS (c:K2->Bool)(k:K2):∀qs:List Q2,ji c qs=(if c k=true then aL k qs else 0)+ji c (jh k qs)
 | []=>by
  show (0:Int)=(if c k=true then (0:Int) else 0)+0;split<;>rfl
 | q::qs=>by
  have ih:=iS c k qs;rw[fj,bg];by_cases e:q.1=k
  .rw[rN e,if_pos e,e];split<;>rename_i z
   .rw[if_pos z] at ih;lia
   .rw[if_neg z] at ih;lia
  .rw[pG e,if_neg e,fj,ih,Int.zero_add];lia
theorem mJ (k k':K2):∀qs:List Q2,aL k' (jh k qs)=if k'=k then 0 else aL k' qs
 | []=>by
  show (0:Int)=if k'=k then 0 else 0
  split<;>rfl
 | q::qs=>by
  have ih:=mJ k k' qs;rw[bg];by_cases e:q.1=k
  .rw[rN e,ih];by_cases e2:k'=k
   .rw[if_pos e2,if_pos e2]
   .rw[if_neg e2,if_neg e2,if_neg (λz=>e2 (z.symm.trans e))];lia
  .rw[pG e,bg,ih];by_cases e2:k'=k
   .rw[if_pos e2,if_pos e2,if_neg (λz=>e (z.trans e2))];rfl
   .rw[if_neg e2,if_neg e2]
theorem vp (k:K2)(qs:List Q2):(jh k qs).length<=qs.length:=List.length_filter_le _ _
theorem nr (c:K2->Bool):∀(n:Nat) (b:List Q2),b.length<=n->(∀k,c k=true->aL k b=0)->ji c b=0
 | 0,b,hl,h=>by
  obtain rfl:=length_eq_zero_iff.mp (Nat.le_zero.mp hl);rfl
 | n+1,[],hl,h=>rfl
 | n+1,q::b,hl,h=>by
  have e:jh q.1 (q::b)=jh q.1 b:=by unfold jh;rw[filter_cons,if_neg (by simp)]
  have hn:=vp q.1 b;rw[LN] at hl;rw[iS c q.1,e,nr c n (jh q.1 b) (by lia) λk hk=>?_]
  .split
   .rename_i z;rw[h _ z];rfl
   .rfl
  .rw[<-e,mJ];split
   .rfl
   .exact h k hk
theorem nq (c:K2->Bool):∀(n:Nat) (a b:List Q2),a.length<=n->(∀k,c k=true->aL k a=aL k b)->ji c a=ji c b
 | 0,a,b,hl,h=>by
  obtain rfl:=length_eq_zero_iff.mp (Nat.le_zero.mp hl);exact (nr c _ b (Ll _) λk hk=>(h k hk).symm).symm
 | n+1,[],b,hl,h=>(nr c _ b (Ll _) λk hk=>(h k hk).symm).symm
 | n+1,q::a,b,hl,h=>by
  have e:jh q.1 (q::a)=jh q.1 a:=by unfold jh;rw[filter_cons,if_neg (by simp)]
  have hn:=vp q.1 a;rw[LN] at hl;have ih:=nq c n (jh q.1 a) (jh q.1 b) (by lia) λk hk=>by
   rw[<-e,mJ,mJ];split
   .rfl
   .exact h k hk
  rw[iS c q.1 (q::a),iS c q.1 b,e,ih];split
  .rename_i z;rw[h _ z]
  .rfl
noncomputable def cL (L:Int)(k:K2):Bool:=decide (0<=k.1/\L<=k.2)
theorem y8 (L:Int)(n:Nat)(lo r:Int):∀m:Nat,ji (cL L) (m9 n lo r m)=r*mx 0 (lo+(m:Int) - mx lo L)
  | 0=>by
    have:mx 0 (lo+((0:Nat):Int) - mx lo L)=0:=by unfold mx;split<;>split<;>lia
    rw[this,Int.mul_zero];rfl
  | m+1=>by
    rw[rT,p6,y8 L n lo r m,fj,vU];by_cases z:L<=lo+(m:Int)
    · have : mx 0 (lo + ((m + 1 : Nat):Int) - mx lo L) = mx 0 (lo + (m : Int) - mx lo L) + 1 := by unfold mx;split <;> split <;> split <;> lia
      rw[this,Int.mul_add,Int.mul_one,if_pos (by unfold cL;exact decide_eq_true ⟨Int.natCast_nonneg n,z⟩)];dsimp only;lia
    · have : mx 0 (lo + ((m + 1 : Nat):Int) - mx lo L) = mx 0 (lo + (m : Int) - mx lo L) := by unfold mx;split <;> split <;> split <;> lia
      rw[this,if_neg (by unfold cL;rw[decide_eq_true_eq];exact λy=>z y.2)];lia
theorem p7 (L:Int)(f:P5->K2)(row:Nat->S3->List P5)(Ok:S3->Prop)(b:S3->S3)(hrow:∀n s,Ok s->(row n s).map (λp=>(f p,ht p))=m9 n (cu s) s.2.2 (eS s - cu s).toNat)(hb:∀s,Ok s->cu s<=eS s/\b s=(cu s,eS s,s.2.2)) :
  ∀(ss:List S3) (n:Nat),(∀s∈ss,Ok s)->ji (cL L) ((jU row n ss).map λp=>(f p,ht p))=above (ss.map b) L
 | [],_,_=>rfl
 | s::ss,n,h=>by
  have ih:=p7 L f row Ok b hrow hb ss (n+1) λs hs=>h s (.tail _ hs);have os:=h s (.head _);obtain ⟨h1,h2⟩:=hb s os;unfold jU;rw[LI,p6,ih,hrow n s os,y8];unfold above;rw[LK,LK,sum_cons,h2];unfold jn;dsimp only;rw[show cu s+((eS s - cu s).toNat:Int)=eS s by lia]
theorem zo (g L:Int)(cs:List S3):above (fZ g cs) L=above (cs.map λx=>(x.1,x.2.1,x.2.2)) (L - g):=by
 unfold above fZ;rw[map_map,map_map];congr 1;refine map_congr_left λx _=>?_;show x.2.2*mx 0 (x.2.1+g - mx (x.1+g) L)=x.2.2*mx 0 (x.2.1 - mx x.1 (L - g));congr 1;unfold mx;split<;>split<;>split<;>split<;>lia
theorem Looks.Jk {g:Int}{hs cs:List S3}{ps:List P5}(Z:Looks g hs cs ps){k:K2}(hk:0<=k.1):aL k (gq ps)=(av hs k).getD 0:=by
 rw[<-eE,Z.qo k (λz=>by rw[z] at hk;exact absurd hk (by decide))]
theorem Looks.Jl {g:Int}{hs cs:List S3}{ps:List P5}(Z:Looks g hs cs ps){k:K2}(hk:0<=k.1):aL k (tq ps)=(av cs k).getD 0:=by
 rw[<-eE,Z.qp k (λz=>by rw[z] at hk;exact absurd hk (by decide))]
theorem Looks.IW {g:Int}{hs cs:List S3}{ps:List P5}(Z:Looks g hs cs ps)(hh:∀s∈hs,g8 s)(L:Int):ji (cL L) (gq ps)=above (mW hs) L:=by
 rw[nq (cL L) _ (gq ps) ((jU wI 0 hs).map λp=>(gk p,ht p)) (Ll _) λk hk=>?_]
 .exact p7 L gk wI g8 (λx=>(x.2.1,x.1,x.2.2)) yn (λs h=>by
   have:=h.lt;unfold cu eS;rw[show min s.1 s.2.1=s.2.1 by lia,show max s.1 s.2.1=s.1 by lia];exact ⟨by lia,rfl⟩) hs 0 hh
 .unfold cL at hk;rw[decide_eq_true_eq] at hk;rw[Z.Jk hk.1,<-eE,rV gk wI g8 yn (λs h=>by
   have:=h.lt;have:=h.r0;unfold cu eS;lia) hs hh]
theorem Looks.IX {g:Int}{hs cs:List S3}{ps:List P5}(Z:Looks g hs cs ps)(hc:∀s∈cs,dB s)(L:Int):ji (cL (L - g)) (tq ps)=above (fZ g cs) L:=by
 rw[zo,nq (cL (L - g)) _ (tq ps) ((jU oT 0 cs).map λp=>(fy p,ht p)) (Ll _) λk hk=>?_]
 .exact p7 (L - g) fy oT dB (λx=>(x.1,x.2.1,x.2.2)) uu (λs h=>by
   have:=h.lt;unfold cu eS;rw[show min s.1 s.2.1=s.1 by lia,show max s.1 s.2.1=s.2.1 by lia];exact ⟨by lia,rfl⟩) cs 0 hc
 .unfold cL at hk;rw[decide_eq_true_eq] at hk;rw[Z.Jl hk.1,<-eE,rV fy oT dB uu (λs h=>by
   have:=h.lt;have:=h.r0;unfold cu eS;lia) cs hc]
noncomputable def bp (g L:Int)(p:P5):Bool:=decide (p.1 ≠ -1/\L<=p.2.1/\(p.2.2.1 = -1\/p.2.2.2.1+g<L)\/p.1 = -1/\p.2.2.2.1+g<L)
noncomputable def EM (g:Int)(p:P5):Prop:=(gk p=Bt/\0<=p.2.2.1)\/(0<=p.1/\fy p=Bt)\/(0<=p.1/\0<=p.2.2.1/\p.2.2.2.1+g<=p.2.1)
theorem Looks.ends {g:Int}{hs cs:List S3}{ps:List P5}(Z:Looks g hs cs ps):∀p∈ps,EM g p:=λp hp=>by
 have m:=Z.may p hp;unfold kJ at m;rw[LV] at m;have hg:gk p≠Bt->0<=p.1:=λz=>by
  have:=Z.qo _ z;unfold iV gq at this;rw[if_pos (wM hp)] at this;exact eA (ss:=hs) (k:=gk p) (by rw[<-this];rfl)
 have ht':fy p≠Bt->0<=p.2.2.1:=λz=>by
  have:=Z.qp _ z;unfold iV tq at this;rw[if_pos (wM hp)] at this;exact eA (ss:=cs) (k:=fy p) (by rw[<-this];rfl)
 by_cases c:gk p=Bt
 .have m2:=m.2;rw[if_pos (.inl c),decide_eq_true_eq] at m2;exact .inl ⟨c,ht' λz=>m2 (c.trans z.symm)⟩
 .by_cases c2:fy p=Bt
  .exact .inr (.inl ⟨hg c,c2⟩)
  .have m2:=m.2;rw[if_neg (λz=>z.elim c c2),decide_eq_true_eq] at m2;exact .inr (.inr ⟨hg c,ht' c2,m2⟩)
theorem oU {g L:Int}:∀{ps:List P5},(∀p∈ps,EM g p)->aL Bt (gq ps) - ji (cL (L - g)) (tq ps)+ji (cL L) (gq ps)=((ps.filter (bp g L)).map ht).sum
  | [],_=>rfl
  | p::ps,h=>by
    have ih:=oU (g:=g) (L:=L) (ps:=ps) λp hp=>h p (.tail _ hp);have hp:=h p (.head _);have e1:gq (p::ps)=(gk p,ht p)::gq ps:=rfl;have e2:tq (p::ps)=(fy p,ht p)::tq ps:=rfl;rw[e1,e2,bg,fj,fj,filter_cons];have f1:(gk p=Bt)↔(p.1 = -1/\p.2.1 = -1):=by unfold gk Bt;rw[Prod.mk.injEq]
    have f2:(fy p=Bt)↔(p.2.2.1 = -1/\p.2.2.2.1 = -1):=by unfold fy Bt;rw[Prod.mk.injEq]
    have g1:(cL (L - g) (fy p)=true)↔(0<=p.2.2.1/\L - g<=p.2.2.2.1):=by unfold cL fy;rw[decide_eq_true_eq]
    have g2:(cL L (gk p)=true)↔(0<=p.1/\L<=p.2.1):=by unfold cL gk;rw[decide_eq_true_eq]
    have g3:(bp g L p=true)↔(p.1 ≠ -1/\L<=p.2.1/\(p.2.2.1 = -1\/p.2.2.2.1+g<L)\/p.1 = -1/\p.2.2.2.1+g<L):=by unfold bp;rw[decide_eq_true_eq]
    have ec:((if bp g L p=true then p::ps.filter (bp g L) else ps.filter (bp g L)).map ht).sum=(if bp g L p=true then ht p else 0)+((ps.filter (bp g L)).map ht).sum:=by
      split
      · rw[LK,sum_cons]
      · lia
    rw[ec,<-ih];have id1:(if gk p=Bt then ht p else 0) - (if cL (L - g) (fy p)=true then ht p else 0)+(if cL L (gk p)=true then ht p else 0)=(if bp g L p=true then ht p else 0):=by
      rcases hp with ⟨h1,h2⟩ | ⟨h1,h2⟩ | ⟨h1,h2,h3⟩
      · have y1:=f1.mp h1;rw[if_pos h1,if_neg (c:=cL L (gk p)=true) (by rw[g2];lia)];by_cases z:L - g<=p.2.2.2.1
        · rw[if_pos (g1.mpr ⟨h2,z⟩),if_neg (by rw[g3];lia)];lia
        · rw[if_neg (by rw[g1];lia),if_pos (by rw[g3];lia)];lia
      · have y2:=f2.mp h2;rw[if_neg (by rw[f1];lia),if_neg (c:=cL (L - g) (fy p)=true) (by rw[g1];lia)];by_cases z:L<=p.2.1
        · rw[if_pos (g2.mpr ⟨h1,z⟩),if_pos (by rw[g3];lia)];lia
        · rw[if_neg (by rw[g2];lia),if_neg (by rw[g3];lia)];lia
      · rw [if_neg (by rw [f1];lia)];by_cases z:L - g<=p.2.2.2.1
        · rw[if_pos (g1.mpr ⟨h2,z⟩),if_pos (g2.mpr ⟨h1,by lia⟩),if_neg (by rw[g3];lia)];lia
        · rw [if_neg (by rw [g1];lia)];by_cases y:L<=p.2.1
          · rw[if_pos (g2.mpr ⟨h1,y⟩),if_pos (by rw[g3];lia)];lia
          · rw[if_neg (by rw[g2];lia),if_neg (by rw[g3];lia)];lia
    dsimp only;rw[<-id1];lia
theorem Looks.EV {g:Int}{hs cs:List S3}{ps:List P5}(Z:Looks g hs cs ps)(hh:∀s∈hs,g8 s)(hc:∀s∈cs,dB s)(L:Int):aL Bt (gq ps) - bD g hs cs L=((ps.filter (bp g L)).map ht).sum:=by
 rw[<-oU Z.ends,Z.IW hh,Z.IX hc];unfold bD;lia
theorem Looks.pos {g:Int}{hs cs:List S3}{ps:List P5}(Z:Looks g hs cs ps):∀p∈ps,1<=ht p:=λp hp=>by
 have m:=Z.may p hp;unfold kJ at m;rw[LV,decide_eq_true_eq] at m;exact m.1
theorem qe {c:P5->Bool}:∀{ps:List P5},(∀p∈ps,1<=ht p)->0<=((ps.filter c).map ht).sum/\(((ps.filter c).map ht).sum=0↔∀p∈ps,c p=false)
 | [],_=>⟨Int.le_refl _,⟨λ_ p hp=>(nomatch hp),λ_=>rfl⟩⟩
 | p::ps,h=>by
  have ih:=qe (c:=c) (ps:=ps) λp hp=>h p (.tail _ hp);have hp:=h p (.head _);rw[filter_cons];by_cases e:c p=true
  .rw[if_pos e,LK,sum_cons];refine ⟨by lia,λz=>by lia,λz=>?_⟩;rw[z p (.head _)] at e;cases e
  .rw[if_neg e];refine ⟨ih.1,λz q hq=>?_,λz=>ih.2.mpr λq hq=>z q (.tail _ hq)⟩;rcases Lz.mp hq with rfl | hq
   .exact Bool.eq_false_iff.mpr e
   .exact ih.2.mp z q hq
theorem Looks.sR {g:Int}{hs cs:List S3}{ps:List P5}(Z:Looks g hs cs ps)(hh:∀s∈hs,g8 s)(hc:∀s∈cs,dB s)(L:Int):bD g hs cs L<=aL Bt (gq ps):=by
 have:=Z.EV hh hc L;have:=(qe (c:=bp g L) Z.pos).1;lia
theorem Looks.yx {g:Int}{hs cs:List S3}{ps:List P5}(Z:Looks g hs cs ps)(hh:∀s∈hs,g8 s)(hc:∀s∈cs,dB s)(L:Int):aL Bt (gq ps)=bD g hs cs L↔∀p∈ps,bp g L p=false:=by
 have h1:=Z.EV hh hc L;rw[<-(qe (c:=bp g L) Z.pos).2];lia
theorem qh {f:P5->K2}{k:K2}:∀{ps:List P5},(∀p∈ps,1<=ht p)->0<=aL k (ps.map λp=>(f p,ht p))/\(aL k (ps.map λp=>(f p,ht p))=0↔∀p∈ps,f p≠k)
 | [],_=>⟨Int.le_refl _,⟨λ_ p hp=>(nomatch hp),λ_=>rfl⟩⟩
 | p::ps,h=>by
  have ih:=qh (f:=f) (k:=k) (ps:=ps) λp hp=>h p (.tail _ hp);have hp:=h p (.head _);rw[LK,bg];dsimp only;by_cases e:f p=k
  .rw[if_pos e];exact ⟨by lia,λz=>by lia,λz=>absurd e (z p (.head _))⟩
  .rw[if_neg e];refine ⟨by lia,λz q hq=>?_,λz=>by rw[ih.2.mpr λq hq=>z q (.tail _ hq)];rfl⟩;rcases Lz.mp hq with rfl | hq
   .exact e
   .exact ih.2.mp (by lia) q hq
theorem Looks.HV {g:Int}{hs cs:List S3}{ps:List P5}(Z:Looks g hs cs ps):0<=aL Bt (gq ps):=(qh (f:=gk) Z.pos).1
end WS
namespace WS
open DL
open L2 (zg)
theorem vH {kvs:cn}{k:K2}{v w:Int}(h:aQ kvs k=some v):(putD kvs k w).length=kvs.length:=by
 have hk:k∈kvs.map (·.1):=Classical.byContradiction λz=>by rw[cF.mpr z] at h;cases h
 unfold putD;rw[if_pos (j6.mpr hk),Lk]
theorem fE {α:Type}{l:List α}(h:l.Nodup){i j:Nat}{x:α}(hi:l[i]?=some x)(hj:l[j]?=some x):i=j:=by
 obtain ⟨a,ea⟩:=Lp.mp hi;obtain ⟨b,eb⟩:=Lp.mp hj;rcases Nat.lt_trichotomy i j with c | c | c
 .exact absurd (ea.trans eb.symm) (pairwise_iff_getElem.mp h i j a b c)
 .exact c
 .exact absurd (eb.trans ea.symm) (pairwise_iff_getElem.mp h j i b a c)
structure AY (ss:List S3)(ks:List K2):Prop where
 gd:ks.Nodup
 dn:∀(i j:Nat) (a b:K2),i<=j->ks[i]?=some a->ks[j]?=some b->b.2<=a.2
 is:∀k,k∈ks↔(av ss k).isSome=true
 len:ks.length<=2400
structure Gr (g:Int)(hs cs:List S3)(gs ts:List K2)(t:Nat)(lk:cn)(ps:List P5):Prop where
 tl:t<=gs.length
 ln:lk.length<=2400
 may:∀p∈ps,1<=ht p/\(gk p=Bt\/(gk p∈gs/\p.2.2.2.1+g<=p.2.1))
 gd:(ps.map k4).Nodup
 qo:∀(j:Nat) (k:K2),gs[j]?=some k->∃v,aQ lk k=some v/\some (aL k (gq ps)+v)=av hs k/\(j<t->v=0)/\(t<=j->0<v)
 KP:(∀p∈ps,gk p≠Bt)\/∃L:Nat,L<251/\(∀p∈ps,bp g L p=false)/\∀(j:Nat) (k:K2),t<=j->gs[j]?=some k->k.2<L
structure Gi (g:Int)(hs cs:List S3)(gs ts:List K2)(i t:Nat)(lk:cn)(ps:List P5):Prop where
 gr:Gr g hs cs gs ts t lk ps
 tk:∀p∈ps,∃j,j<i/\ts[j]?=some (fy p)
 qp:∀(j:Nat) (k:K2),j<i->ts[j]?=some k->some (aL k (tq ps))=av cs k
 n:ps.length<=t+i
structure Gw (g:Int)(hs cs:List S3)(gs ts:List K2)(i:Nat)(k:K2)(t:Nat)(n:Int)(lk:cn)(ps:List P5):Prop where
 gr:Gr g hs cs gs ts t lk ps
 tk:∀p∈ps,∃j,j<=i/\ts[j]?=some (fy p)
 qp:∀(j:Nat) (k:K2),j<i->ts[j]?=some k->some (aL k (tq ps))=av cs k
 n0:0<=n
 nd:some (aL k (tq ps)+n)=av cs k
 new:n=0\/(ps.length<=t+i/\∀p∈ps,fy p=k->∃j,j<t/\gs[j]?=some (gk p))
 n1:ps.length<=t+i+1
section
variable {g:Int} {hs cs:List S3} {gs ts:List K2}
theorem Gi.start (sg:AY hs gs){kvs:cn}(hl:kvs.length<=2400)(hv:∀k,aQ kvs k=av hs k):Gi g hs cs gs ts 0 0 kvs [] where
 gr:=⟨LS _,hl,λp h=>(nomatch h),.nil,λj k hk=>by
  obtain ⟨r,hr⟩:=Option.isSome_iff_exists.mp ((sg.is k).mp (Ls hk));refine ⟨r,by rw[hv,hr],by rw[hr];show some (0+r)=some r;rw[Int.zero_add],λz=>absurd z (Nat.not_lt_zero _),λ_=>?_⟩;obtain ⟨s,_,h0,_,_,e⟩:=fx hr;lia,.inl λp h=>(nomatch h)⟩
 tk:=λp h=>(nomatch h)
 qp:=λj k h=>absurd h (Nat.not_lt_zero _)
 n:=LS _
theorem Gi.take {i t:Nat}{lk:cn}{ps:List P5}(h:Gi g hs cs gs ts i t lk ps)(st:AY cs ts){k:K2}(hk:ts[i]?=some k){r:Int}(hr:av cs k=some r):Gw g hs cs gs ts i k t r lk ps where
 gr:=h.gr
 tk:=λp hp=>by
  obtain ⟨j,hj,e⟩:=h.tk p hp;exact ⟨j,by lia,e⟩
 qp:=h.qp
 n0:=by obtain ⟨s,_,h0,_,_,e⟩:=fx hr;lia
 nd:=by
  have no:∀p∈ps,fy p≠k:=λp hp z=>by
   obtain ⟨j,hj,e⟩:=h.tk p hp;rw[z] at e;have:=fE st.gd e hk;lia
  have e:aL k (tq ps)=0:=j3 λhm=>by
   obtain ⟨q,hq,e⟩:=Lx.mp hm;obtain ⟨p,hp,rfl⟩:=Lx.mp hq;exact no p hp e
  rw[e,Int.zero_add,hr]
 new:=.inr ⟨h.n,λp hp z=>by
  obtain ⟨j,hj,e⟩:=h.tk p hp;rw[z] at e;have:=fE st.gd e hk;lia⟩
 n1:=by have:=h.n;lia
theorem qY {L:Int}{p:P5}(h1:p.1 ≠ -1)(h2:p.2.1<L):bp g L p=false:=by
 unfold bp;rw[decide_eq_false_iff_not];lia
theorem dM {α:Type}{P:α->Prop}{l:List α}{x:α}(h:∀y∈l,P y)(hx:P x):∀y∈l++[x],P y:=λy hy=>by
 rcases mem_append.mp hy with z | z
 .exact h y z
 .rw[mem_singleton.mp z];exact hx
theorem yw {ps:List P5}{p:P5}(h:(ps.map k4).Nodup)(new:∀q∈ps,¬(gk q=gk p/\fy q=fy p)):((ps++[p]).map k4).Nodup:=by
 rw[LI,nodup_append];refine ⟨h,by simp,λu hu w hw=>?_⟩;obtain ⟨q,hq,rfl⟩:=Lx.mp hu;rw[LK,List.map_nil,mem_singleton] at hw;rw[hw];intro e;exact new q hq ⟨rH e,uX e⟩
theorem j4 (f:P5->K2)(k:K2)(ps:List P5)(p:P5):aL k ((ps++[p]).map λp=>(f p,ht p))=aL k (ps.map λp=>(f p,ht p))+if f p=k then ht p else 0:=by
 rw[LI,bf];show _+aL k [(f p,ht p)]=_;rw[gA]
theorem Gw.pass {i t:Nat}{k a:K2}{n v:Int}{lk:cn}{ps:List P5}(h:Gw g hs cs gs ts i k t n lk ps)(sg:AY hs gs)(st:AY cs ts)(hk:ts[i]?=some k)(n1:0<n)(ha:gs[t]?=some a)(hw:k.2+g<=a.2)(hv:aQ lk a=some v){m:Int}(hm:m=if v<n then v else n){t':Nat}(ht':t'=if v - m=0 then t+1 else t) :
    Gw g hs cs gs ts i k t' (n - m) (putD lk a (v - m)) (ps++[(a.1,a.2,k.1,k.2,m)]):=by
  obtain ⟨v',e1,e2,_,e4⟩:=h.gr.qo t a ha;rw[hv] at e1;cases e1;have v0:=e4 (Ll _);have hlt:t<gs.length:=(Lp.mp ha).1;have m1:1<=m:=by rw[hm];split<;>lia
  have mv:m<=v:=by rw[hm];split<;>lia
  have mn:m<=n:=by rw[hm];split<;>lia
  have mor:m=v\/m=n:=by rw[hm];split<;>lia
  have ng:n≠0:=by lia
  obtain ⟨hl,hnew⟩:=h.new.resolve_left ng;have ra:(av hs a).isSome=true:=(sg.is a).mp (Ls ha);have a0:0<=a.1:=eA ra;have gka:gk (a.1,a.2,k.1,k.2,m)=a:=rfl;have tka:fy (a.1,a.2,k.1,k.2,m)=k:=rfl;have t2:t<=t'/\t'<=t+1:=by rw[ht'];split<;>lia
  refine ⟨⟨?_,?_,dM h.gr.may ⟨m1,.inr ⟨Ls ha,hw⟩⟩,yw h.gr.gd λq hq z=>?_,λj b hb=>?_,?_⟩,dM h.tk ⟨i,Ll _,hk⟩,λj b hj hb=>?_,by lia,?_,?_,?_⟩
  · lia
  · rw[vH hv];exact h.gr.ln
  · obtain ⟨j,hj,e⟩:=hnew q hq z.2;rw[z.1] at e;have:=fE sg.gd e ha;lia
  · obtain ⟨w,w1,w2,w3,w4⟩:=h.gr.qo j b hb;have et:aL b (gq (ps++[(a.1,a.2,k.1,k.2,m)]))=aL b (gq ps)+if a=b then m else 0:=j4 gk b ps _
    rw[et,iu];by_cases c:a=b
    · subst c;have:=fE sg.gd hb ha;subst this;rw[hv] at w1;cases w1;refine ⟨v - m,by rw[if_pos rfl],by rw[if_pos rfl,<-w2];congr 1;lia,λz=>?_,λz=>?_⟩
      · rw[ht'] at z;split at z
        · assumption
        · lia
      · rw[ht'] at z;split at z
        · lia
        · lia
    · have hj : j ≠ t := λz => c (by rw [z, ha] at hb;exact Option.some.inj hb);rw[if_neg c,if_neg c];exact ⟨w,w1,by rw[Int.add_zero];exact w2,λz=>w3 (by lia),λz=>w4 (by lia)⟩
  · rcases h.gr.KP with z | ⟨L,z1,z2,z3⟩
    · exact .inl (dM z (cw ra))
    · refine .inr ⟨L,z1,dM z2 (qY (by show a.1 ≠ -1;lia) (z3 t a (Ll _) ha)),λj b hj hb=>z3 j b (by lia) hb⟩
  · have et:aL b (tq (ps++[(a.1,a.2,k.1,k.2,m)]))=aL b (tq ps)+if k=b then m else 0:=j4 fy b ps _
    have:k≠b:=λz=>by
      rw[<-z] at hb;have:=fE st.gd hb hk;lia
    rw[et,if_neg this,Int.add_zero];exact h.qp j b hj hb
  · have et:aL k (tq (ps++[(a.1,a.2,k.1,k.2,m)]))=aL k (tq ps)+if k=k then m else 0:=j4 fy k ps _
    rw[et,if_pos rfl,<-h.nd];congr 1;lia
  · by_cases z:n - m=0
    · exact .inl z
    · have : v - m = 0 := by lia
      rw[if_pos this] at ht';refine .inr ⟨by rw[LA];show ps.length+1<=_;lia,dM (λq hq e=>?_) λ_=>⟨t,by lia,ha⟩⟩;obtain ⟨j,hj,e⟩:=hnew q hq e;exact ⟨j,by lia,e⟩
  · rw[LA];show ps.length+1<=_;lia
theorem Gw.done {i t:Nat}{k:K2}{lk:cn}{ps:List P5}(h:Gw g hs cs gs ts i k t 0 lk ps)(hk:ts[i]?=some k):Gi g hs cs gs ts (i+1) t lk ps where
 gr:=h.gr
 tk:=λp hp=>by
  obtain ⟨j,hj,e⟩:=h.tk p hp;exact ⟨j,by lia,e⟩
 qp:=λj b hj hb=>by
  rcases Nat.lt_or_eq_of_le (Nat.le_of_lt_succ hj) with z | z
  .exact h.qp j b z hb
  .subst z;rw[hk] at hb;cases hb;rw[<-h.nd,Int.add_zero]
 n:=by have:=h.n1;lia
theorem Gw.KZ {i t:Nat}{k:K2}{n:Int}{lk:cn}{ps:List P5}(h:Gw g hs cs gs ts i k t n lk ps)(sg:AY hs gs)(st:AY cs ts)(hk:ts[i]?=some k)(n1:0<n)(kl:0<=k.2+g)(kh:k.2+g<=250)(hw:∀a,gs[t]?=some a->a.2<k.2+g) :
  Gi g hs cs gs ts (i+1) t lk (ps++[(-1,-1,k.1,k.2,n)]):=by
 have ng:n≠0:=by lia
 obtain ⟨hl,hnew⟩:=h.new.resolve_left ng;have Jw:∀q∈gs,q≠Bt:=λq hq=>cw ((sg.is q).mp hq);have rk:(av cs k).isSome=true:=(st.is k).mp (Ls hk);have k0:0<=k.1:=eA rk;refine ⟨⟨h.gr.tl,h.gr.ln,dM h.gr.may ⟨by show 1<=n;lia,.inl rfl⟩,yw h.gr.gd λq hq z=>?_,λj b hb=>?_,.inr ⟨(k.2+g).toNat,by lia,dM (λp hp=>?_) ?_,λj b hj hb=>?_⟩⟩,dM (λp hp=>?_) ⟨i,by lia,hk⟩,λj b hj hb=>?_,?_⟩
 .obtain ⟨j,hj,e⟩:=hnew q hq z.2;rw[z.1] at e;exact Jw _ (Ls e) rfl
 .obtain ⟨w,w1,w2,w3⟩:=h.gr.qo j b hb;have et:aL b (gq (ps++[(-1,-1,k.1,k.2,n)]))=aL b (gq ps)+if Bt=b then n else 0:=j4 gk b ps _
  rw[et,if_neg (λz=>Jw b (Ls hb) z.symm),Int.add_zero];exact ⟨w,w1,w2,w3⟩
 .obtain ⟨j,hj,e⟩:=h.tk p hp;have:=st.dn j i _ _ hj e hk;have e2:(fy p).2=p.2.2.2.1:=rfl;have e3:(fy p).1=p.2.2.1:=rfl;have:=eA ((st.is _).mp (Ls e));unfold bp;rw[decide_eq_false_iff_not,Int.toNat_of_nonneg kl];lia
 .unfold bp;rw[decide_eq_false_iff_not,Int.toNat_of_nonneg kl];dsimp only;lia
 .rw[Int.toNat_of_nonneg kl];obtain ⟨hlt,_⟩:=Lp.mp hb;have ht:gs[t]?=some gs[t]:=Lm (by lia);have a1:=hw _ ht;have a2:=sg.dn t j _ _ hj ht hb;lia
 .obtain ⟨j,hj,e⟩:=h.tk p hp;exact ⟨j,by lia,e⟩
 .have et:aL b (tq (ps++[(-1,-1,k.1,k.2,n)]))=aL b (tq ps)+if k=b then n else 0:=j4 fy b ps _
  rw[et];rcases Nat.lt_or_eq_of_le (Nat.le_of_lt_succ hj) with z | z
  .have:k≠b:=λy=>by
    rw[<-y] at hb;have:=fE st.gd hb hk;lia
   rw[if_neg this,Int.add_zero];exact h.qp j b z hb
  .subst z;rw[hk] at hb;cases hb;rw[if_pos rfl];exact h.nd
 .rw[LA];show ps.length+1<=_;lia
noncomputable def gU (gs:List K2)(t:Nat)(lk:cn):List P5:=(gs.drop t).map λk=>(k.1,k.2,-1,-1,(aQ lk k).getD 0)
noncomputable def Tight (g:Int)(ps:List P5):Prop:=(∀p∈ps,gk p≠Bt)\/∃L:Nat,L<251/\∀p∈ps,bp g L p=false
theorem vO {t:Nat}{lk:cn}{p:P5}(h:p∈gU gs t lk):∃j k,t<=j/\gs[j]?=some k/\p=(k.1,k.2,-1,-1,(aQ lk k).getD 0):=by
 obtain ⟨k,hk,rfl⟩:=Lx.mp h;obtain ⟨j,hj⟩:=mem_iff_getElem?.mp hk;rw[List.getElem?_drop] at hj;exact ⟨t+j,k,by lia,hj,rfl⟩
theorem CH {t:Nat}{lk:cn}(nd:gs.Nodup){k:K2}:aL k (gq (gU gs t lk))=if k∈gs.drop t then (aQ lk k).getD 0 else 0:=by
 have lem:∀l:List K2,l.Nodup->aL k (gq (l.map λk=>(k.1,k.2,-1,-1,(aQ lk k).getD 0)))=if k∈l then (aQ lk k).getD 0 else 0:=λl=>by
  induction l with
  | nil=>intro _;rfl
  | cons a l ih =>
   intro hn;rw[nodup_cons] at hn;have e:gq ((a::l).map λk=>(k.1,k.2,-1,-1,(aQ lk k).getD 0))=(a,(aQ lk a).getD 0)::gq (l.map λk=>(k.1,k.2,-1,-1,(aQ lk k).getD 0)):=rfl;rw[e,bg,ih hn.2];dsimp only;by_cases c:a=k
   .subst c;rw[if_pos rfl,if_neg hn.1,if_pos (.head _)];lia
   .rw[if_neg c];by_cases c2:k∈l
    .rw[if_pos c2,if_pos (.tail _ c2)];lia
    .rw[if_neg c2,if_neg (λz=>(Lz.mp z).elim (λy=>c y.symm) c2)];rfl
 exact lem _ (nd.sublist (List.drop_sublist _ _))
theorem Gi.finish {t:Nat}{lk:cn}{ps:List P5}(h:Gi g hs cs gs ts ts.length t lk ps)(sg:AY hs gs)(st:AY cs ts):Looks g hs cs (ps++gU gs t lk)/\Tight g (ps++gU gs t lk)/\(ps++gU gs t lk).length<=gs.length+ts.length:=by
  have rv:∀p∈gU gs t lk,∃k,k∈gs.drop t/\gk p=k/\fy p=Bt/\1<=ht p/\(av hs k).isSome=true:=λp hp=>by
    obtain ⟨j,k,hj,hk,rfl⟩:=vO hp;obtain ⟨v,e1,_,_,e4⟩:=h.gr.qo j k hk;refine ⟨k,?_,rfl,rfl,?_,(sg.is k).mp (Ls hk)⟩
    · refine mem_iff_getElem?.mpr ⟨j - t,?_⟩;rw[List.getElem?_drop,show t+(j - t)=j by lia];exact hk
    · have:=e4 hj;show 1<=(aQ lk k).getD 0;rw[e1];show 1<=v;lia
  have gB:∀p∈ps++gU gs t lk,gk p=Bt\/(av hs (gk p)).isSome=true:=λp hp=>by
    rcases mem_append.mp hp with z | z
    · exact (h.gr.may p z).2.imp id λy=>(sg.is _).mp y.1
    · obtain ⟨k,_,e,_,_,r⟩:=rv p z;rw[e];exact .inr r
  have tB:∀p∈ps,(av cs (fy p)).isSome=true:=λp hp=>by
    obtain ⟨j,_,e⟩:=h.tk p hp;exact (st.is _).mp (Ls e)
  refine ⟨va (λp hp=>?_) ?_ gB (λk r hr=>?_) (λp hp=>?_) λk r hr=>?_,?_,?_⟩
  · unfold kJ;rcases mem_append.mp hp with z | z
    · obtain ⟨m1,m2⟩:=h.gr.may p z;have nb:=cw (tB p z);rw[decide_eq_true m1,Bool.true_and];rcases m2 with y | y
      · rw[if_pos (.inl y),decide_eq_true_eq,y];exact λx=>nb x.symm
      · rw[if_neg (λx=>x.elim (cw ((sg.is _).mp y.1)) nb),decide_eq_true_eq];exact y.2
    · obtain ⟨k,_,e,e2,m1,r⟩:=rv p z;rw[decide_eq_true m1,Bool.true_and,if_pos (.inr e2),decide_eq_true_eq,e,e2];exact cw r
  · rw[LI,nodup_append];refine ⟨h.gr.gd,fR k4 gk (λ_ _=>rH) _ ?_,λu hu w hw e=>?_⟩
    · unfold gU;rw[map_map];refine (List.Nodup.sublist (List.drop_sublist t gs) sg.gd:(gs.drop t).Nodup) |> λz=>?_
      rw[show ((gk∘λk:K2=>(k.1,k.2,-1,-1,(aQ lk k).getD 0)):K2->K2)=id from rfl,List.map_id];exact z
    · obtain ⟨p,hp,rfl⟩:=Lx.mp hu;obtain ⟨q,hq,rfl⟩:=Lx.mp hw;have h1:=uX e;obtain ⟨k,_,_,e2,_⟩:=rv q hq;rw[e2] at h1;exact cw (tB p hp) h1
  · have hk : k ∈ gs := (sg.is k).mpr (by rw [hr];rfl);obtain ⟨j,hj⟩:=mem_iff_getElem?.mp hk;obtain ⟨v,e1,e2,e3,_⟩:=h.gr.qo j k hj;rw[sO,bf,CH sg.gd];rw[hr] at e2;have e2:=Option.some.inj e2;rw[e1];show aL k (gq ps)+(if k∈gs.drop t then v else 0)=r;by_cases c:k∈gs.drop t
    · rw[if_pos c];exact e2
    · rw[if_neg c];have:j<t:=Classical.byContradiction λz=>c (mem_iff_getElem?.mpr ⟨j - t,by rw[List.getElem?_drop,show t+(j - t)=j by lia];exact hj⟩);have:=e3 this;lia
  · rcases mem_append.mp hp with z | z
    · exact .inr (tB p z)
    · obtain ⟨k,_,_,e2,_⟩:=rv p z;exact .inl e2
  · have hk : k ∈ ts := (st.is k).mpr (by rw [hr];rfl);obtain ⟨j,hj⟩:=mem_iff_getElem?.mp hk;have e:=h.qp j k (Lp.mp hj).1 hj;rw[hr] at e;rw[ua,bf,j3 (qs:=tq (gU gs t lk))]
    · have:=Option.some.inj e;lia
    · intro hm;obtain ⟨q,hq,e⟩:=Lx.mp hm;obtain ⟨p,hp,rfl⟩:=Lx.mp hq;obtain ⟨k',_,_,e2,_⟩:=rv p hp;have hb:k=Bt:=e.symm.trans e2;rw[hb,m7] at hr;cases hr
  · rcases h.gr.KP with z | ⟨L,z1,z2,z3⟩
    · refine .inl λp hp=>?_;rcases mem_append.mp hp with y | y
      · exact z p y
      · obtain ⟨k,_,e,_,_,r⟩:=rv p y;rw[e];exact cw r
    · refine .inr ⟨L,z1,λp hp=>?_⟩;rcases mem_append.mp hp with y | y
      · exact z2 p y
      · obtain ⟨j,k,hj,hk,rfl⟩:=vO y;have:=eA ((sg.is k).mp (Ls hk));exact qY (by show k.1 ≠ -1;lia) (z3 j k hj hk)
  · have:=h.n;have:=h.gr.tl;unfold gU;rw[LA,Lk,length_drop];lia
end
theorem CQ {ss:List S3}{kvs ps:cn}(hk:Keyed kvs)(hl:kvs.length<=2400)(hv:∀k,aQ kvs k=av ss k)(hp:ps.Perm kvs)(hf:zg ps):AY ss (ps.map (·.1)) where
 gd:=(hp.map _).nodup_iff.mpr hk
 dn:=λi j a b hij ha hb=>by
  rw[LC] at ha hb;obtain ⟨p,hp1,rfl⟩:=Option.map_eq_some_iff.mp ha;obtain ⟨q,hq1,rfl⟩:=Option.map_eq_some_iff.mp hb;obtain ⟨l1,e1⟩:=Lp.mp hp1;obtain ⟨l2,e2⟩:=Lp.mp hq1;rcases Nat.lt_or_eq_of_le hij with z | z
  .have:=pairwise_iff_getElem.mp hf i j l1 l2 z;rw[e1,e2] at this;exact this
  .subst z;rw[<-e1,<-e2];exact Int.le_refl _
 is:=λk=>by
  rw[(hp.map _).mem_iff,<-hv];constructor
  .intro h;cases e:aQ kvs k with
   | none=>exact absurd h (cF.mp e)
   | some v=>rfl
  .intro h;refine Classical.byContradiction λz=>?_;rw[cF.mpr z] at h;cases h
 len:=by rw[Lk,hp.length_eq];exact hl
end WS
namespace WS
open DL
structure Lst (g:Int)(hs cs:List S3)(m:Int):Prop where
 z:0<=m
 ub:∀L:Int,bD g hs cs L<=m
 at':m=0\/∃L:Nat,L<251/\m=bD g hs cs (L:Nat)
theorem Looks.lst {g:Int}{hs cs:List S3}{ps:List P5}(Z:Looks g hs cs ps)(hh:∀s∈hs,g8 s)(hc:∀s∈cs,dB s)(ti:Tight g ps):Lst g hs cs (aL Bt (gq ps)):=by
 refine ⟨Z.HV,λL=>Z.sR hh hc L,?_⟩;rcases ti with z | ⟨L,hL,z⟩
 .exact .inl ((qh (f:=gk) Z.pos).2.mpr z)
 .exact .inr ⟨L,hL,(Z.yx hh hc L).mpr z⟩
theorem oJ (bs:List S3)(b:S3)(L:Int):above (bs++[b]) L=above bs L+jn b L:=by
 unfold above;rw[LI,sum_append];simp
end WS
namespace WS
open DL
noncomputable abbrev R3:=Int×Int×Int
noncomputable def bQ (r:R3):K2:=(r.1,r.2.1)
noncomputable def jI (r:R3):K2×Int:=(bQ r,r.2.2)
noncomputable def lz (n:Nat)(s:S3)(m:Nat):List R3:=(LD m).map λj:Nat=>((n:Int),cu s+(j:Int),s.2.2)
noncomputable def kK:Nat->List S3->List R3
 | _,[]=>[]
 | n,s::r=>lz n s (eS s - cu s).toNat++kK (n+1) r
theorem Au (n:Nat)(s:S3)(m:Nat):lz n s (m+1)=lz n s m++[((n:Int),cu s+(m:Int),s.2.2)]:=by unfold lz;rw[List.range_succ,LI];rfl
theorem qb:∀(ss:List S3) (n:Nat) (s:S3),kK n (ss++[s])=kK n ss++lz (n+ss.length) s (eS s - cu s).toNat
 | [],n,s=>by simp[kK]
 | a::ss,n,s=>by
  rw[List.cons_append];unfold kK;rw[qb ss (n+1) s,LX,LN,show n+1+ss.length=n+(ss.length+1) by lia]
theorem kC:∀{ss:List S3} {n:Nat},(∀s∈ss,0<=cu s/\cu s<=eS s/\eS s<=200)->(kK n ss).length<=200*ss.length
 | [],_,_=>LS _
 | s::ss,n,h=>by
  have ih:=kC (ss:=ss) (n:=n+1) λs hs=>h s (.tail _ hs);have:=h s (.head _);unfold kK lz;rw[LA,Lk,length_range,LN];lia
theorem t5:∀{ss:List S3} {n:Nat} {r:R3},r∈kK n ss->(n:Int)<=r.1/\r.1<(n:Int)+ss.length
 | [],_,_,h=>by cases h
 | s::ss,n,r,h=>by
  unfold kK at h;rw[LN];rcases mem_append.mp h with h | h
  .obtain ⟨j,_,rfl⟩:=Lx.mp h;dsimp only;lia
  .have:=t5 h;lia
theorem nu:∀(ss:List S3) (n:Nat),((kK n ss).map bQ).Nodup
 | [],_=>.nil
 | s::ss,n=>by
  unfold kK;rw[LI,nodup_append];refine ⟨?_,nu ss (n+1),λa ha b hb e=>?_⟩
  .unfold lz;rw[map_map];refine nZ _ (λi j e=>?_) _;have:cu s+(i:Int)=cu s+(j:Int):=congrArg Prod.snd e;lia
  .obtain ⟨r,hr,rfl⟩:=Lx.mp ha;obtain ⟨r',hr',rfl⟩:=Lx.mp hb;obtain ⟨j,_,rfl⟩:=Lx.mp hr;have h1:=(t5 hr').1;have:(n:Int)=r'.1:=congrArg Prod.fst e;lia
theorem CN {ss:List S3}(ok:∀s∈ss,0<s.2.2/\cu s<=eS s)(k:K2)(v:Int):(k,v)∈(kK 0 ss).map jI↔av ss k=some v:=by
 generalize hn:ss.length=n;induction n generalizing ss with
 | zero =>
  obtain rfl:=length_eq_zero_iff.mp hn;constructor
  .intro h;cases h
  .intro h;obtain ⟨s,hs,_⟩:=fx h;have:=(gz hs).2.2;cases this
 | succ n ih =>
  obtain ⟨ini,s,rfl⟩ : ∃ini q,ss=ini++[q]:=by
   rcases eq_nil_or_concat ss with h | ⟨l,b,h⟩
   .rw[h] at hn;cases hn
   .exact ⟨l,b,by rw[h,concat_eq_append]⟩
  have hl:ini.length=n:=by rw[LA] at hn;simp at hn;exact hn
  have h1:=ih (ss:=ini) (λs hs=>ok s (mem_append_left _ hs)) hl;obtain ⟨o1,o2⟩:=ok s (by simp);rw[qb,LI,mem_append,h1,gS,Nat.zero_add];have row:(k,v)∈(lz ini.length s (eS s - cu s).toNat).map jI↔(k.1=(ini.length:Int)/\(cu s<=k.2/\k.2<eS s)/\s.2.2=v):=by
   constructor
   .intro h;obtain ⟨r,hr,e⟩:=Lx.mp h;obtain ⟨j,hj,rfl⟩:=Lx.mp hr;have hj:=mem_range.mp hj;obtain ⟨e1,e2⟩:=Prod.mk.inj e;refine ⟨by rw[<-e1];rfl,?_,e2⟩;rw[<-e1];show cu s<=cu s+(j:Int)/\cu s+(j:Int)<eS s;lia
   .rintro ⟨a,b,rfl⟩;refine Lx.mpr ⟨((ini.length:Int),k.2,s.2.2),Lx.mpr ⟨(k.2 - cu s).toNat,mem_range.mpr (by lia),?_⟩,?_⟩
    .rw[Int.toNat_of_nonneg (by lia),show cu s+(k.2 - cu s)=k.2 by lia]
    .show ((((ini.length:Int),k.2):K2),s.2.2)=(k,s.2.2)
     rw[<-a]
  rw[row];by_cases c:k.1=(ini.length:Int)
  .rw[if_pos c,gn c];by_cases c2:cu s<=k.2/\k.2<eS s
   .rw[if_pos ⟨o1,c2⟩];exact ⟨λz=>z.elim (λy=>(nomatch y)) λy=>by rw[y.2.2],λz=>.inr ⟨c,c2,Option.some.inj z⟩⟩
   .rw[if_neg (λz=>c2 z.2)];exact ⟨λz=>z.elim (λy=>(nomatch y)) λy=>absurd y.2.1 c2,λz=>(nomatch z)⟩
  .rw[if_neg c];exact ⟨λz=>z.elim id λy=>absurd y.1 c,.inl⟩
structure Jq (ss:List S3)(rs:List R3):Prop where
 gd:(rs.map bQ).Nodup
 vK:∀k v,(k,v)∈rs.map jI↔av ss k=some v
theorem CJ {ss:List S3}(ok:∀s∈ss,0<s.2.2/\cu s<=eS s){rs:List R3}(hp:rs.Perm (kK 0 ss)):Jq ss rs where
 gd:=(hp.map _).nodup_iff.mpr (nu ss 0)
 vK:=λk v=>by rw[(hp.map _).mem_iff];exact CN ok k v
theorem eT (rs:List R3):(rs.map jI).map (·.1)=rs.map bQ:=by rw[map_map];rfl
noncomputable def live (rs:List R3):Nat:=(rs.filter λr=>decide (0<r.2.2)).length
theorem km (r:R3)(rs:List R3):live (r::rs)=(if 0<r.2.2 then 1 else 0)+live rs:=by
 unfold live;rw[filter_cons];by_cases c:0<r.2.2
 .rw[if_pos (decide_eq_true c),if_pos c,LN];lia
 .rw[if_neg (by rw[decide_eq_true_eq];exact c),if_neg c];lia
theorem u6:∀{rs:List R3} {j:Nat} {r r':R3},rs[j]?=some r->live (rs.set j r')+(if 0<r.2.2 then 1 else 0)=live rs+(if 0<r'.2.2 then 1 else 0)
 | [],_,_,_,h=>by simp at h
 | a::rs,0,r,r',h=>by
  cases h;rw[List.set_cons_zero,km,km];lia
 | a::rs,j+1,r,r',h=>by
  have ih:=u6 (rs:=rs) (j:=j) (r:=r) (r':=r') (by simpa using h);rw[List.set_cons_succ,km,km];lia
theorem CL {rs:List R3}{j:Nat}{r:R3}{v:Int}(h:rs[j]?=some r):(rs.set j (r.1,r.2.1,v)).map bQ=rs.map bQ:=by
 rw[map_set];refine List.ext_getElem? λi=>?_;rw[List.getElem?_set];split
 .rename_i e;subst e;rw[LC,h];obtain ⟨hl,_⟩:=Lp.mp h;rw[if_pos (by rw[Lk];exact hl)];rfl
 .rfl
theorem AN {rs:List R3}(hn:(rs.map bQ).Nodup){j:Nat}{r:R3}(h:rs[j]?=some r):aQ (rs.map jI) (bQ r)=some r.2.2:=by
 rw[ir (by unfold Keyed;rw[eT];exact hn)];exact Lx.mpr ⟨r,Ls h,rfl⟩
theorem CA {rs:List R3}(hn:(rs.map bQ).Nodup){j:Nat}{r:R3}(h:rs[j]?=some r)(v:Int):putD (rs.map jI) (bQ r) v=(rs.set j (r.1,r.2.1,v)).map jI:=by
 have hk:bQ r∈(rs.map jI).map (·.1):=by rw[eT];exact Lx.mpr ⟨r,Ls h,rfl⟩
 unfold putD;rw[if_pos (j6.mpr hk),map_map];refine List.ext_getElem? λi=>?_;rw[LC,LC,List.getElem?_set];by_cases e:j=i
 .subst e;obtain ⟨hl,_⟩:=Lp.mp h;rw[if_pos rfl,if_pos hl,h];show some (if bQ r=bQ r then (bQ r,v) else jI r)=some (jI (r.1,r.2.1,v));rw[if_pos rfl];rfl
 .rw[if_neg e];cases e2:rs[i]? with
  | none=>rfl
  | some y =>
   have ne:bQ y≠bQ r:=λz=>e (fE hn (i:=j) (j:=i) (x:=bQ r) (by rw[LC,h];rfl) (by rw[LC,e2];show some (bQ y)=_;rw[z]));show some (if bQ y=bQ r then (bQ y,v) else jI y)=some (jI y);rw[if_neg ne]
theorem C1 {pre post:cn}{k:K2}{v:Int}(h:k∉pre.map (·.1)):aQ (pre++(k,v)::post) k=some v:=by
 rw[nR,cF.mpr h,bU,if_pos rfl];rfl
theorem Ew {pre post:cn}{k:K2}{v w:Int}(h:k∉pre.map (·.1))(h':k∉post.map (·.1)):putD (pre++(k,v)::post) k w=pre++(k,w)::post:=by
 have same:∀l:cn,k∉l.map (·.1)->l.map (λp=>if p.1=k then (p.1,w) else p)=l:=λl hl=>by
  refine (map_congr_left λp hp=>?_).trans (List.map_id _);rw[if_neg (λz=>hl (Lx.mpr ⟨p,hp,z⟩))];rfl
 unfold putD;rw[if_pos (j6.mpr (by rw[LI];exact mem_append_right _ (.head _))),LI,LK,same pre h,same post h',if_pos rfl]
noncomputable def half (cell g:Int)(key:K2)(k:K2):Bool:=decide ((cell+k.2) % 3=1/\key.2+g<=k.2)
structure AW (g:Int)(hs cs:List S3)(keys:List K2)(key:K2)(pre post:cn)(bs:List P5)(base:Nat)(cell:Int)(j:Nat)(rs:List R3)(ps al:List P5)(need:Int)(m a:Nat):Prop where
 dw:EL g hs cs ps (rs.map jI) (pre++(key,need)::post)
 kr:rs.map bQ=keys
 r0:∀r∈rs,0<=r.2.2
 n0:0<=need
 pm:al.Perm (ps++bs)
 nw:∀p∈ps,fy p=key->∃i,i<j/\keys[i]?=some (gk p)
 tk:∀p∈ps,fy p=key\/fy p∈pre.map (·.1)
 ct:al.length+live rs<=base+m+a
 m1:m<=30
 m2:need<=2 ^ (30 - m)
 m3:m<=((keys.take j).filter (half cell g key)).length
 a1:a=0\/(a=1/\need=0)
section
variable {g:Int} {hs cs:List S3} {keys:List K2} {key:K2} {pre post:cn} {bs:List P5} {base:Nat} {cell:Int} {j:Nat} {rs:List R3} {ps al:List P5} {need:Int} {m a:Nat}
theorem rE (keys:List K2)(f:K2->Bool)(j:Nat):((keys.take j).filter f).length<=((keys.take (j+1)).filter f).length:=by
 rw[List.take_succ,filter_append,LA];lia
theorem AW.skip (h:AW g hs cs keys key pre post bs base cell j rs ps al need m a):AW g hs cs keys key pre post bs base cell (j+1) rs ps al need m a where
 dw:=h.dw
 kr:=h.kr
 r0:=h.r0
 n0:=h.n0
 pm:=h.pm
 nw:=λp hp e=>by
  obtain ⟨i,hi,z⟩:=h.nw p hp e;exact ⟨i,by lia,z⟩
 tk:=h.tk
 ct:=h.ct
 m1:=h.m1
 m2:=h.m2
 m3:=Nat.le_trans h.m3 (rE ..)
 a1:=h.a1
theorem AW.pass (h:AW g hs cs keys key pre post bs base cell j rs ps al need m a)(hn:keys.Nodup)(hk1:key∉pre.map (·.1))(hk2:key∉post.map (·.1))(ra:∀k∈keys,(av hs k).isSome=true)(rb:(av cs key).isSome=true){r:R3}(hr:rs[j]?=some r){x:Int}(x1:1<=x)(xr:x<=r.2.2)(xn:x<=need)(hw:key.2+g<=r.2.1)
    (kind:x=r.2.2\/x=need\/((cell+r.2.1) % 3=1/\x=need / 2)):∃m' a',AW g hs cs keys key pre post bs base cell (j+1) (rs.set j (r.1,r.2.1,r.2.2 - x)) (ps++[(r.1,r.2.1,key.1,key.2,x)]) (al++[(r.1,r.2.1,key.1,key.2,x)]) (need - x) m' a':=by
  have hnr:(rs.map bQ).Nodup:=by rw[h.kr];exact hn
  have hkj:keys[j]?=some (bQ r):=by rw[<-h.kr,LC,hr];rfl
  have rk:=ra _ (Ls hkj);have dn:=EL.pass h.dw (AN hnr hr) (C1 hk1) rk rb x1 hw λp hp z=>by
    obtain ⟨i,hi,e⟩:=h.nw p hp z.2;rw[z.1] at e;have:=fE hn e hkj;lia
  rw[CA hnr hr,Ew hk1 hk2] at dn;have a0:a=0:=by
    rcases h.a1 with z | ⟨_,z⟩
    · exact z
    · lia
  have lv:=u6 (r':=(r.1,r.2.1,r.2.2 - x)) hr;rw[if_pos (by lia)] at lv;have mk:∀m' a',(al.length+1+live (rs.set j (r.1,r.2.1,r.2.2 - x))<=base+m'+a')->m'<=30->need - x<=2 ^ (30 - m')->m'<=((keys.take (j+1)).filter (half cell g key)).length->(a'=0\/(a'=1/\need - x=0))->AW g hs cs keys key pre post bs base cell (j+1) (rs.set j (r.1,r.2.1,r.2.2 - x)) (ps++[(r.1,r.2.1,key.1,key.2,x)]) (al++[(r.1,r.2.1,key.1,key.2,x)]) (need - x) m' a':=λm' a' c1 c2 c3 c4 c5 =>
    ⟨dn,by rw[CL hr];exact h.kr,λy hy=>by
      rcases List.mem_or_eq_of_mem_set hy with z | z
      · exact h.r0 y z
      · rw[z];show 0<=r.2.2 - x;lia,by lia,by
      refine (h.pm.append_right _).trans ?_;rw[LX,LX];exact List.Perm.append_left _ perm_append_comm,λp hp e=>by
      rcases mem_append.mp hp with z | z
      · obtain ⟨i,hi,y⟩:=h.nw p z e;exact ⟨i,by lia,y⟩
      · rw[mem_singleton.mp z];exact ⟨j,by lia,hkj⟩,dM h.tk (.inl rfl),by rw[LA];exact c1,c2,c3,c4,c5⟩
  have hct:=h.ct;have hm1:=h.m1;have hm2:=h.m2;have hm3:=h.m3;have hmo:=rE keys (half cell g key) j;by_cases c:x=r.2.2
  · refine ⟨m, 0, mk m 0 ?_ hm1 (by lia) (by lia) (.inl rfl)⟩;rw[if_neg (show ¬0<(r.1,r.2.1,r.2.2 - x).2.2 by show ¬0<r.2.2 - x;lia)] at lv;lia
  · rw [if_pos (show 0 < (r.1, r.2.1, r.2.2 - x).2.2 by show 0 < r.2.2 - x;lia)] at lv;by_cases c2:x=need
    · refine ⟨m, 1, mk m 1 (by lia) hm1 ?_ (by lia) (.inr ⟨rfl, by lia⟩)⟩;have:(0:Int)<=2 ^ (30 - m):=Int.pow_nonneg (by decide);lia
    · obtain ⟨c3,c4⟩:=(kind.resolve_left c).resolve_left c2;have hm30:m<30:=by
        refine Classical.byContradiction λz=>?_;have:30 - m=0:=by lia
        rw[this] at hm2;have:need<=1:=hm2;lia
      obtain ⟨d,hd⟩ : ∃d,30 - m=d+1:=⟨29 - m,by lia⟩
      refine ⟨m+1,0,mk (m+1) 0 (by lia) (by lia) ?_ ?_ (.inl rfl)⟩
      · rw [show 30 - (m + 1) = d by lia];rw[hd,Int.pow_succ] at hm2;lia
      · have e:(keys.take (j+1)).filter (half cell g key)=(keys.take j).filter (half cell g key)++[bQ r]:=by
          rw[List.take_succ,hkj,filter_append];congr 1;show List.filter _ [bQ r]=_;rw[filter_cons,if_pos (by unfold half;exact decide_eq_true ⟨c3,hw⟩)];rfl
        rw[e,LA];show m+1<=_+1;lia
end
noncomputable def gE (w:K2->Nat)(ks:List K2):Nat:=(ks.map λk=>w k+1).sum
structure Out (g:Int)(hs cs:List S3)(keys:List K2)(ck0:cn)(w:K2->Nat)(k:Nat)(rs:List R3)(ck:cn)(ps al:List P5):Prop where
 dw:EL g hs cs ps (rs.map jI) ck
 kr:rs.map bQ=keys
 kc:ck.map (·.1)=ck0.map (·.1)
 r0:∀r∈rs,0<=r.2.2
 c0:∀p∈ck,0<=p.2
 rest:ck.drop k=ck0.drop k
 pm:al.Perm (ps++fM (ck.take k))
 tk:∀p∈ps,fy p∈(ck0.take k).map (·.1)
 ct:al.length+live rs<=keys.length+gE w ((ck0.take k).map (·.1))
section
variable {g:Int} {hs cs:List S3} {keys:List K2} {ck0:cn} {w:K2->Nat} {k:Nat} {rs:List R3} {ck:cn} {ps al:List P5} {key:K2} {need:Int} {cell:Int}
theorem D7 (rs:List R3):live rs<=rs.length:=List.length_filter_le _ _
theorem Out.start (hr:Jq hs rs){rc:List R3}(hc:Jq cs rc)(oh:Pos hs)(oc:Pos cs)(hk:rs.map bQ=keys):Out g hs cs keys (rc.map jI) w 0 rs (rc.map jI) [] [] where
 dw:=⟨λp h=>(nomatch h),.nil,λk v hv r hr'=>by
  have:=(hr.vK k v).mp ((ir (by unfold Keyed;rw[eT];exact hr.gd)).mp hv);rw[hr'] at this;cases this;show 0+v=v;lia,λk v hv r hr'=>by
  have:=(hc.vK k v).mp ((ir (by unfold Keyed;rw[eT];exact hc.gd)).mp hv);rw[hr'] at this;cases this;show 0+v=v;lia⟩
 kr:=hk
 kc:=rfl
 r0:=λr h=>by
  obtain ⟨s,_,h0,_,_,e⟩:=fx ((hr.vK _ _).mp (Lx.mpr ⟨r,h,rfl⟩));have e:r.2.2=s.2.2:=e;lia
 c0:=λp h=>by
  obtain ⟨s,_,h0,_,_,e⟩:=fx ((hc.vK p.1 p.2).mp h);lia
 rest:=rfl
 pm:=.nil
 tk:=λp h=>(nomatch h)
 ct:=by
  have:=D7 rs;rw[<-hk,Lk];show 0+live rs<=_;lia
theorem Out.into (h:Out g hs cs keys ck0 w k rs ck ps al)(hn:(ck0.map (·.1)).Nodup)(hk:ck0[k]?=some (key,need))(n1:0<=need)(n2:need<=1000000000) :
  ck=ck.take k++(key,need)::ck.drop (k+1)/\key∉(ck.take k).map (·.1)/\key∉(ck.drop (k+1)).map (·.1)/\AW g hs cs keys key (ck.take k) (ck.drop (k+1)) (fM (ck.take k)) (keys.length+gE w ((ck0.take k).map (·.1))) cell 0 rs ps al need 0 0:=by
 have hl:ck.length=ck0.length:=by have:=congrArg List.length h.kc;rwa [Lk,Lk] at this
 obtain ⟨hlt,_⟩:=Lp.mp hk;have hck:ck[k]?=some (key,need):=by
  have e:=congrArg (λl=>l[0]?) h.rest;rw[List.getElem?_drop,List.getElem?_drop,Nat.add_zero,hk] at e;exact e
 have dec:ck=ck.take k++(key,need)::ck.drop (k+1):=by
  have hlt':k<ck.length:=by lia
  rw[Lm hlt'] at hck;rw[<-Option.some.inj hck,<-drop_eq_getElem_cons hlt',take_append_drop]
 have nk:(ck.map (·.1)).Nodup:=by rw[h.kc];exact hn
 have nk':=nk;rw[dec,LI,LK,nodup_append,nodup_cons] at nk';have k1:key∉(ck.take k).map (·.1):=λz=>nk'.2.2 key z key (.head _) rfl;have ek:(ck.take k).map (·.1)=(ck0.take k).map (·.1):=by rw[map_take,h.kc,map_take]
 refine ⟨dec,k1,nk'.2.1.1,⟨by rw[<-dec];exact h.dw,h.kr,h.r0,n1,h.pm,λp hp e=>?_,λp hp=>.inr (by rw[ek];exact h.tk p hp),h.ct,by lia,by show need<=2 ^ 30;have:(2:Int) ^ 30=1073741824:=rfl;lia,LS _,.inl rfl⟩⟩;rw[<-e] at k1;exact absurd (by rw[ek];exact h.tk p hp) k1
theorem zF (pre:cn)(key:K2)(v:Int):fM (pre++[(key,v)])=fM pre++(if 0<v then [(-1,-1,key.1,key.2,v)] else []):=by
 unfold fM mE;rw[filter_append,LI,filter_cons];by_cases c:0<v
 .rw[if_pos (decide_eq_true c),if_pos c];rfl
 .rw[if_neg (by rw[decide_eq_true_eq];exact c),if_neg c];rfl
theorem AW.out {pre post:cn}{m a:Nat}{need':Int}(h:AW g hs cs keys key pre post (fM pre) (keys.length+gE w ((ck0.take k).map (·.1))) cell keys.length rs ps al need m a)(hk:ck0[k]?=some (key,need'))(hpl:pre.length=k)(e1:(pre++(key,need)::post).map (·.1)=ck0.map (·.1))(e2:post=ck0.drop (k+1))(e3:pre.map (·.1)=(ck0.take k).map (·.1))(c0:∀p∈pre,0<=p.2)(c1:∀p∈post,0<=p.2)
  (hw:((keys).filter (half cell g key)).length<=w key\/30<=w key) {al':List P5} (ha:al'=al++(if 0<need then [(-1,-1,key.1,key.2,need)] else [])):Out g hs cs keys ck0 w (k+1) rs (pre++(key,need)::post) ps al' where
 dw:=h.dw
 kr:=h.kr
 kc:=e1
 r0:=h.r0
 c0:=λp hp=>by
  rcases mem_append.mp hp with z | z
  .exact c0 p z
  .rcases Lz.mp z with z | z
   .rw[z];exact h.n0
   .exact c1 p z
 rest:=by
  rw[<-e2,List.drop_append,hpl,List.drop_of_length_le (by lia),Nat.add_sub_cancel_left];rfl
 pm:=by
  rw[List.take_append,hpl,take_of_length_le (by lia),Nat.add_sub_cancel_left];show al'.Perm (ps++fM (pre++[(key,need)]));rw[zF,ha,<-LX];exact h.pm.append_right _
 tk:=λp hp=>by
  rw[List.take_succ,hk,LI];rcases h.tk p hp with z | z
  .refine mem_append_right _ ?_;rw[z];exact .head _
  .exact mem_append_left _ (by rw[<-e3];exact z)
 ct:=by
  have e:gE w ((ck0.take (k+1)).map (·.1))=gE w ((ck0.take k).map (·.1))+(w key+1):=by
   unfold gE;rw[List.take_succ,hk,LI,LI,sum_append];rfl
  have h1:=h.ct;have h2:=h.m1;have h3:=h.m3;rw[List.take_length] at h3;rw[e,ha,LA];have h4:(if 0<need then [((-1:Int),(-1:Int),key.1,key.2,need)] else []).length+a<=1:=by
   rcases h.a1 with z | ⟨z,y⟩
   .rw[z];split<;>simp
   .rw[z,if_neg (by lia)];simp
  rcases hw with z | z<;>lia
theorem Out.JQ (h:Out g hs cs keys ck0 w ck0.length rs ck ps al)(hr:keys.Nodup)(hc:(ck0.map (·.1)).Nodup)(eh:∀k,k∈keys↔(av hs k).isSome=true)(ec:∀k,k∈ck0.map (·.1)↔(av cs k).isSome=true) :
  Looks g hs cs (al++mm (rs.map jI))/\(al++mm (rs.map jI)).length<=keys.length+gE w (ck0.map (·.1)):=by
 have hl:ck.length=ck0.length:=by have:=congrArg List.length h.kc;rwa [Lk,Lk] at this
 have L:=h.dw.Ii (by unfold Keyed;rw[eT,h.kr];exact hr) (by unfold Keyed;rw[h.kc];exact hc) (λp hp=>by
  obtain ⟨r,hr,rfl⟩:=Lx.mp hp;exact h.r0 r hr) h.c0 (λk=>by rw[eT,h.kr];exact eh k) (λk=>by rw[h.kc];exact ec k)
 have pm:=h.pm;rw[take_of_length_le (by lia)] at pm;refine ⟨L.perm ?_,?_⟩
 .refine (pm.append_right _).trans ?_;rw[LX,LX];exact List.Perm.append_left _ perm_append_comm
 .have h1:=h.ct;rw[List.take_length] at h1;have e:(mm (rs.map jI)).length=live rs:=by
   unfold mm mE live;rw[Lk,List.filter_map,Lk];rfl
  rw[LA,e];exact h1
end
end WS
namespace WS
open DL
noncomputable def w3 (k:K2):Nat:=min 30 ((202 - k.2).toNat / 3)
theorem AG {a b:List Nat}(h:a.Perm b):a.sum=b.sum:=by
 induction h with
 | nil=>rfl
 | cons x _ ih=>rw[sum_cons,sum_cons,ih]
 | swap x y l=>simp only[sum_cons];lia
 | trans _ _ h1 h2=>rw[h1,h2]
theorem DN {g cell:Int}{keys:List K2}{key:K2}(hn:keys.Nodup)(h1:∀k∈keys,k.1=0/\k.2<200)(g0:0<=g)(k1:key.2<200):(keys.filter (half cell g key)).length<=(202 - key.2).toNat / 3:=by
 have fm:∀k∈keys.filter (half cell g key),k.1=0/\k.2<200/\(cell+k.2) % 3=1/\key.2+g<=k.2:=λk hk=>by
  obtain ⟨a,b⟩:=List.mem_filter.mp hk;unfold half at b;rw[decide_eq_true_eq] at b;exact ⟨(h1 k a).1,(h1 k a).2,b⟩
 have:=fU (l:=(keys.filter (half cell g key)).map λk=>(k.2 - key.2).toNat / 3) (l':=LD ((202 - key.2).toNat / 3)) (by
  show List.Pairwise (·≠·) _;rw[pairwise_map];refine List.Pairwise.imp_of_mem (λ{x y} hx hy hne e=>hne ?_) (hn.sublist filter_sublist);have a:=fm x hx;have b:=fm y hy;exact Prod.ext (a.1.trans b.1.symm) (by lia)) λz hz=>by
  obtain ⟨k,hk,rfl⟩:=Lx.mp hz;have:=fm k hk;exact mem_range.mpr (by lia)
 rw[Lk,length_range] at this;exact this
theorem AH (f:Nat->Nat)(lo n:Nat):∀m,lo+n<=m->((LD n).map λj=>f (lo+j)).sum<=((LD m).map f).sum:=by
 intro m;induction m generalizing n with
 | zero =>
  intro h;rw[show n=0 by lia];exact LS _
 | succ m ih =>
  intro h;rw[List.range_succ,LI,sum_append];by_cases c:lo+n<=m
  .have:=ih n c;lia
  .cases n with
   | zero=>exact LS _
   | succ n =>
    have:=ih n (by lia);rw[List.range_succ,LI,sum_append];have e:lo+n=m:=by lia
    show _ + [f (lo+n)].sum<=_ + [f m].sum;rw[e];lia
noncomputable def f3 (d:Nat):Nat:=min 30 ((202 - d) / 3)+1
theorem FR:((LD 200).map f3).sum=4895:=by decide +kernel
theorem EB {n:Nat}{s:S3}(h:0<=cu s/\cu s<=eS s/\eS s<=200):gE w3 ((lz n s (eS s - cu s).toNat).map bQ)<=4895:=by
 have:=AH f3 (cu s).toNat (eS s - cu s).toNat 200 (by lia);rw[FR] at this;unfold gE lz;rw[map_map,map_map];refine Nat.le_trans (Nat.le_of_eq ?_) this;congr 1;refine map_congr_left λj _=>?_;show min 30 ((202 - (cu s+(j:Int))).toNat / 3)+1=min 30 ((202 - ((cu s).toNat+j)) / 3)+1;rw[show (202 - (cu s+(j:Int))).toNat=202 - ((cu s).toNat+j) by lia]
theorem v5 (w:K2->Nat)(a b:List K2):gE w (a++b)=gE w a+gE w b:=by unfold gE;rw[LI,sum_append]
theorem CP:∀{ss:List S3} {n:Nat},(∀s∈ss,0<=cu s/\cu s<=eS s/\eS s<=200)->gE w3 ((kK n ss).map bQ)<=4895*ss.length
 | [],_,_=>LS _
 | s::ss,n,h=>by
  have ih:=CP (ss:=ss) (n:=n+1) λs hs=>h s (.tail _ hs);have:=EB (n:=n) (h s (.head _));unfold kK;rw[LI,v5,LN];lia
theorem AO {w:K2->Nat}{a b:List K2}(h:a.Perm b):gE w a=gE w b:=AG (h.map _)
theorem ql (c:Nat):∀ks:List K2,gE (λ_=>c) ks=(c+1)*ks.length
 | []=>rfl
 | k::ks=>by
  have ih:=ql c ks;unfold gE at ih ⊢;rw[LK,sum_cons,ih,LN,Nat.mul_add,Nat.mul_one];dsimp only;lia
theorem t6:∀{ss:List S3} {n:Nat},(∀s∈ss,eS s - cu s<=6)->(kK n ss).length<=6*ss.length
 | [],_,_=>LS _
 | s::ss,n,h=>by
  have ih:=t6 (ss:=ss) (n:=n+1) λs hs=>h s (.tail _ hs);have:=h s (.head _);unfold kK lz;rw[LA,Lk,length_range,LN];lia
theorem HQ {g:Int}{hs cs:List S3}{rs rc:List R3}(g0:0<=g)(hh:∀s∈hs,0<=cu s/\cu s<=eS s/\eS s<=200)(hc:∀s∈cs,0<=cu s/\cu s<=eS s/\eS s<=200)(nh:hs.length<=12)(nc:cs.length<=12)(hr:rs.Perm (kK 0 hs))(hrc:rc.Perm (kK 0 cs))
  (sm:(hs.length<=1/\cs.length<=2)\/((∀x∈hs,eS x - cu x<=6)/\∀x∈cs,eS x - cu x<=6)) :
  ∃w:K2->Nat,(∀(key:K2) (cell:Int),key∈rc.map bQ->((rs.map bQ).filter (half cell g key)).length<=w key\/30<=w key)/\(rs.map bQ).length+gE w (rc.map bQ)<=9990:=by
 rcases sm with ⟨s1,s2⟩ | ⟨s1,s2⟩
 .refine ⟨w3,λkey cell hk=>?_,?_⟩
  .unfold w3;by_cases c:30<=(202 - key.2).toNat / 3
   .exact .inr (by lia)
   .refine .inl ?_;rw[show min 30 ((202 - key.2).toNat / 3)=(202 - key.2).toNat / 3 by lia];have kd:∀{ss:List S3} {n:Nat} {r:R3},(∀s∈ss,0<=cu s/\cu s<=eS s/\eS s<=200)->r∈kK n ss->r.2.1<200:=λ{ss}=>by
     induction ss with
     | nil=>intro n r _ h;cases h
     | cons s ss ih =>
      intro n r ho h;unfold kK at h;rcases mem_append.mp h with h | h
      .obtain ⟨j,hj,rfl⟩:=Lx.mp h;have:=mem_range.mp hj;have:=ho s (.head _);show cu s+(j:Int)<200;lia
      .exact ih (λs hs=>ho s (.tail _ hs)) h
    refine DN ((hr.map _).nodup_iff.mpr (nu hs 0)) (λk hk=>?_) g0 ?_
    .obtain ⟨r,hr',rfl⟩:=Lx.mp hk;have m:=hr.mem_iff.mp hr';have:=t5 m;exact ⟨by show r.1=0;lia,kd hh m⟩
    .obtain ⟨r,hr',rfl⟩:=Lx.mp hk;exact kd hc (hrc.mem_iff.mp hr')
  .have l1:=kC (n:=0) hh;have l2:=CP (n:=0) hc;rw[Lk,hr.length_eq,AO (hrc.map bQ)];lia
 .refine ⟨λ_=>30,λkey cell _=>.inr (Ll _),?_⟩;have l1:=t6 (n:=0) s1;have l2:=t6 (n:=0) s2;rw[ql,Lk,Lk,hr.length_eq,hrc.length_eq];lia
end WS
set_option maxHeartbeats 4000000
namespace WS
open PySem L2 DL
local macro_rules | `(tactic| walk_at "rs1")=>do let ns:=("jA fB jz e8 ju je fb e9 cP ja jr i9 jt fA bq dC i6 dI qr jb rj gZ fN gc jy i8 ui dD eN aV fP jw dG qZ rh kH bV cx jv bN aG dput cc jH B.val bu Tg.d putN cY cZ aB cq aK bO lE sD List.map List.length xN xP xO uw ux uy uz uG uA uB xK uH uI xQ uD uF uE rn yo yp Bd y9 zc zd xS vX vY q8 rg q9 A9 uC xJ xI wo lR oq Ba Bb FJ xH A8 yf Df qu Bc xM A5 xG wq sF sE A7 sC Dp xR oo Be".splitOn " ").toArray.map λs=>Lean.mkIdent s.toName;`(tactic| dsimp only[$[$ns:ident],*])
local macro_rules | `(tactic| walk_at "rsx")=>`(tactic| set_option simprocs false in simp only[Ib,Ic,Ie,JZ,J0,HP])
local macro_rules | `(tactic| walk_at "rs")=>`(tactic| repeat (first | walk_at "rs1" | walk_at "rsx"))
local macro_rules | `(tactic| walk_at "v") => `(tactic| first | exact Or.inl rfl | exact Or.inr (Or.inl rfl) | exact Or.inr (Or.inr rfl))
local macro_rules | `(tactic| walk_at "rs2")=>do let ns:=("fB jz e8 ju je fb e9 cP ja jr i9 jt fA bq dC i6 dI qr jb rj gZ fN gc jy i8 ui dD eN aV fP jw dG qZ rh kH bV cx jv bN aG dput cc jH B.val bu Tg.d putN cY cZ aB cq aK bO lE sD List.map List.length xN xP xO uw ux uy uz uG uA uB xK uH uI xQ uD uF uE rn yo yp Bd y9 zc zd xS vX vY q8 rg q9 A9 uC xJ xI wo lR oq Ba Bb FJ xH A8 yf Df qu Bc xM A5 xG wq sF sE A7 sC Dp xR oo Be".splitOn " ").toArray.map λs=>Lean.mkIdent s.toName;`(tactic| dsimp only[$[$ns:ident],*])
noncomputable def top (i:Nat):Stmt:=PySem.Challenge.pw_warmshare_k19_whole_nothing_passes_the_p.main.body.getD i (.Pass ⟨0,0,0,0⟩)
structure oG (K:Frag)(mg:Str->Option Lg):Prop where
 nB:mg "len" = none
 ix:mg "range" = none
 oK:mg "min" = none
 AZ:mg "sum" = none
 nA:mg "enumerate" = none
 jo:mg "max" = none
 uo:mg "sorted" = none
 FA:mg "list" = none
 Hz:mg "all" = none
 HB:mg "set" = none
 lK:mg "isinstance" = none
 Fz:mg "bool" = none
 HA:mg "int" = none
 BC:∃t,mg "LEVELS" = some (.int 250 t)
 h8:CT K mg "BOUGHT" (-1) (-1)
noncomputable abbrev fg:Stmt:=top 20
theorem fF:aX ["script","k","step","found","cell"] ["script","k"] (af fg):=⟨rfl,rfl,rfl,by decide +kernel,rfl,by decide +kernel,by decide +kernel⟩
noncomputable abbrev dr:Stmt:=top 21
theorem g7:aX ["number","low","wide","most","one","rate"] ["number","low","wide","most"] (af dr):=⟨rfl,rfl,rfl,by decide +kernel,rfl,by decide +kernel,by decide +kernel⟩
noncomputable abbrev df:Stmt:=top 22
theorem aH:aX ["script","number","low","wide","gap","counts","most","streams","k","cell","hots"] ["script"] (af df):=⟨rfl,rfl,rfl,by decide +kernel,rfl,by decide +kernel,by decide +kernel⟩
noncomputable abbrev bR:Stmt:=top 4
theorem cD:aX ["streams","rates","number","stream","degree"] ["streams"] (af bR):=⟨rfl,rfl,rfl,by decide +kernel,rfl,by decide +kernel,by decide +kernel⟩
noncomputable abbrev bB:Stmt:=top 5
theorem ni:aX ["steps"] ["steps"] (af bB):=⟨rfl,rfl,rfl,by decide +kernel,rfl,by decide +kernel,by decide +kernel⟩
noncomputable abbrev bH:Stmt:=top 6
theorem mG:aX ["gap","giver","taker"] ["gap","giver","taker"] (af bH):=⟨rfl,rfl,rfl,by decide +kernel,rfl,by decide +kernel,by decide +kernel⟩
noncomputable abbrev gy:Stmt:=top 2
theorem bT:aX ["works","left","wanted","givers","passes","turn","taker","need","giver","heat"] ["works"] (af gy):=⟨rfl,rfl,rfl,by decide +kernel,rfl,by decide +kernel,by decide +kernel⟩
noncomputable abbrev cK:Stmt:=top 15
theorem qG:aX ["bands","level"] ["bands","level"] (af cK):=⟨rfl,rfl,rfl,by decide +kernel,rfl,by decide +kernel,by decide +kernel⟩
noncomputable abbrev cJ:Stmt:=top 14
theorem kR:aX ["works","gap"] ["works"] (af cJ):=⟨rfl,rfl,rfl,by decide +kernel,rfl,by decide +kernel,by decide +kernel⟩
noncomputable abbrev dc:Stmt:=top 13
theorem tW:aX ["works"] ["works"] (af dc):=⟨rfl,rfl,rfl,by decide +kernel,rfl,by decide +kernel,by decide +kernel⟩
noncomputable abbrev dq:Stmt:=top 11
theorem qH:aX ["works","level"] ["works","level"] (af dq):=⟨rfl,rfl,rfl,by decide +kernel,rfl,by decide +kernel,by decide +kernel⟩
noncomputable abbrev cf:Stmt:=top 12
theorem p0:aX ["works"] ["works"] (af cf):=⟨rfl,rfl,rfl,by decide +kernel,rfl,by decide +kernel,by decide +kernel⟩
noncomputable abbrev du:Stmt:=top 17
theorem qI:aX ["works"] ["works"] (af du):=⟨rfl,rfl,rfl,by decide +kernel,rfl,by decide +kernel,by decide +kernel⟩
noncomputable abbrev iQ:Stmt:=top 18
theorem vT:aX ["works","heat"] ["works"] (af iQ):=⟨rfl,rfl,rfl,by decide +kernel,rfl,by decide +kernel,by decide +kernel⟩
noncomputable abbrev eD:Stmt:=top 23
theorem e6:aX ["streams","number","found","k","degree","at"] ["streams","number"] (af eD):=⟨rfl,rfl,rfl,by decide +kernel,rfl,by decide +kernel,by decide +kernel⟩
noncomputable abbrev de:Stmt:=top 24
theorem aT:aX ["works","number","cells","passes","hots","colds","k","taker","into","need","cell","one","part","heat"] ["works","number","cells"] (af de):=⟨rfl,rfl,rfl,by decide +kernel,rfl,by decide +kernel,by decide +kernel⟩
noncomputable abbrev cB:Stmt:=top 8
theorem dZ:aX ["pairs","sums","step","heat"] ["pairs"] (af cB):=⟨rfl,rfl,rfl,by decide +kernel,rfl,by decide +kernel,by decide +kernel⟩
noncomputable abbrev fi:Stmt:=top 7
theorem vS:aX ["gap","giver","taker","heat"] ["gap","giver","taker","heat"] (af fi):=⟨rfl,rfl,rfl,by decide +kernel,rfl,by decide +kernel,by decide +kernel⟩
noncomputable abbrev aS:Stmt:=top 3
theorem bZ:aX ["works","passes","given","gotten","heat","cold"] ["works","passes"] (af aS):=⟨rfl,rfl,rfl,by decide +kernel,rfl,by decide +kernel,by decide +kernel⟩
noncomputable abbrev cC:Stmt:=top 26
theorem bS:aX ["works","passes","level","giver","at","taker","into","heat"] ["works","passes","level"] (af cC):=⟨rfl,rfl,rfl,by decide +kernel,rfl,by decide +kernel,by decide +kernel⟩
noncomputable abbrev fh:Stmt:=top 25
theorem bF:aX ["works","level","lack","start","goal","rate"] ["works","level"] (af fh):=⟨rfl,rfl,rfl,by decide +kernel,rfl,by decide +kernel,by decide +kernel⟩
noncomputable abbrev jV:Stmt:=top 27
theorem lA:aX ["script","works","passes","heat","level","drawn","found"] ["script"] (af jV):=⟨rfl,rfl,rfl,by decide +kernel,rfl,by decide +kernel,by decide +kernel⟩
noncomputable abbrev Ey:Str:="warmest_first" ++ ".<locals>." ++ "<lambda>"
section
variable {Pt:Addr} {P:LH} {w:LR} {K:Frag} {mg:Str->Option Lg} {base:Heap} {f:Addr} {fd:FuncData}
theorem mulR {i j:Int}(h : -(2 ^ 64)<j/\j<2 ^ 64):v7 i j:=.inr h
theorem mulL {i j:Int}(h : -(2 ^ 64)<i/\i<2 ^ 64):v7 i j:=.inl h
noncomputable def d3 (x:S3):D:=.tup [.int x.1,.int x.2.1,.int x.2.2]
noncomputable def dW (g:Int)(hs cs:List S3):D:=.tup [.int g,.lst (hs.map d3),.lst (cs.map d3)]
structure iZ (g:Int)(hs cs:List S3):Prop where
 g0:0<=g
 g1:g<=50
 nh:hs.length<=12
 nc:cs.length<=12
 zR:∀x∈hs,g8 x
 lN:∀x∈cs,dB x
theorem bI {t1 u:fL}{E:lF}{ρ:ax}(C:ax->Prop)(tail:∀ρ,C ρ->u E ρ)(head:∀N:ax->Prop,(∀ρ,C ρ->N ρ)->t1 { E with nx:=N } ρ):jA t1 u E ρ:=head _ tail
theorem FI (p q:S3)(h:d3 p=d3 q):p=q:=by
 obtain ⟨a,b,c⟩:=p;obtain ⟨a',b',c'⟩:=q;unfold d3 at h;simp only[D.tup.injEq,List.cons.injEq,D.int.injEq,and_true] at h;obtain ⟨rfl,rfl,rfl⟩:=h;rfl
theorem Ek:∀l:List P5,jL (l.map d5)=true
 | []=>ij
 | x::l=>by rw[LK,ig,Ek l,show cQ (d5 x)=true by unfold d5;simp only[tw,ig,ij,gO,Bool.and_true]];rfl
noncomputable def wv (n:Nat)(l:List (Option B)):Nat->Option B:=λi=>(l[i - n]?).getD none
noncomputable def dm:DR:=λds P=>∃g a b c d:Int,ds = [.int g,.tup [.int a,.int b],.tup [.int c,.int d]]/\P (.p (.bl (decide (b>=d+g))))
theorem mz (T:oG K mg)(F:lH K "is_warm_enough" "is_warm_enough" bH f fd):cH P w K mg base iX 1 f fd ["gap","giver","taker"] (dN K dm):=by
 refine tF F mG (λds Q h=>by obtain ⟨g,a,b,c,d,rfl,q⟩:=h;rfl) λcdv A outer s H E hr=>⟨_,(ak (aZ (oW yJ (aP (dv 1) ae) (ar aM (aP (dv 2) ae) (dv 0)) (aF _)))),λds Q h=>?_⟩
 obtain ⟨g,a,b,c,d,rfl,q⟩:=h;walk_at "rs";exact q
structure zm (ss:List S3):Prop where
 n:ss.length<=12
 w:∀s∈ss,0<=cu s/\cu s<=eS s/\eS s<=200
theorem xj {hs:List S3}(h:∀s∈hs,g8 s)(n:hs.length<=12):zm hs:=⟨n,λs hs=>by
 have a:=(h s hs).lo;have b:=(h s hs).lt;have c:=(h s hs).hi;unfold cu eS;lia⟩
theorem t4 {cs:List S3}(h:∀s∈cs,dB s)(n:cs.length<=12):zm cs:=⟨n,λs hs=>by
 have a:=(h s hs).lo;have b:=(h s hs).lt;have c:=(h s hs).hi;unfold cu eS;lia⟩
noncomputable def dU:DR:=λds P=>∃ss:List S3,ds = [.lst (ss.map d3)]/\zm ss/\∀kvs:cn,Keyed kvs->kvs.length<=2400->(∀k,aQ kvs k=av ss k)->P (.o (.dct kvs))
theorem mY (T:oG K mg)(F:lH K "rates_by_step" "rates_by_step" bR f fd):cH P w K mg base iX 1 f fd ["streams"] (dN K dU):=by
  refine tF F cD (λds Q h=>by obtain ⟨ss,rfl,ok,q⟩:=h;rfl) λcdv A outer s H E hr=>⟨_,(ai (iE (i:=1) cD.nd rfl (Or.inl rfl) xW)
      (ai (kW (g:=(.t [2,3])) PassesOwn.never rfl (lV (by rfl) T.nA (aa (dv 0) aj)) (fI rfl (az (au (i:=2) cD.nd rfl (Or.inl rfl)) (az (au (i:=3) cD.nd rfl (Or.inl rfl)) dS))) (ak (cV (aO nK (aP (dv 3) ae) ae (aF _)) (ak (lZ (g:=(.n 4)) PassesOwn.never rfl (oY (by rfl) T.ix (aa (aD (xE rfl) (by rfl) T.oK boot_min (aa (cy (dv 3) (bh ae) (bh ae)) aj)) (aa (aD (xD rfl) (by rfl) T.jo boot_max (aa (cy (dv 3) (bh ae) (bh ae)) aj)) aj))) (au (i:=4) cD.nd rfl (Or.inl rfl)) (ak (DB (i:=1) hr rfl (by walk_at "v") (dv 2) (dv 4) (aP (dv 3) ae))))) bt)))
      (ak (ya 1)))),λds Q h=>?_⟩
  obtain ⟨ss,rfl,ok,q⟩:=h;walk_at "rs";have sl:sizeLine=16777216:=sizeLine_eq;refine dP (λi ρ=>∃kvs,∃y:Nat->Option B,ρ = [some (.p (.lst (ss.map d3))),some (.o (.dct kvs)),y 2,y 3,y 4]/\Keyed kvs/\kvs.length<=200*i/\∀k,aQ kvs k=av (ss.take i) k) ⟨[],λ_=>none,rfl,.nil,Ll _,λk=>by
    rw[List.take_zero];unfold av strAt;split<;>first | rfl | (rename_i h;split at h<;>cases h)⟩ ?_ ?_
  · rintro i x ρ hx ⟨kvs,yy,rfl,hk,hl,hv⟩;obtain ⟨y,hy,rfl⟩:=eQ hx;rw[LC] at hy;cases es:ss[i]? with
    | none=>rw[es] at hy;cases hy
    | some s =>
    rw[es] at hy;cases hy;have hi:=(Lp.mp es).1;have hn:=ok.n;have hw:=ok.w s (Ls es);have tl:(ss.take i).length=i:=by rw[length_take];lia
    repeat (first | dsimp only[d3] | walk_at "rs1" | walk_at "rsx")
    refine ⟨λh0=>⟨by decide,⟨[s.1,s.2.1],rfl,by simp,λm hm hle=>⟨by decide,[s.1,s.2.1],rfl,by simp,λM hM hge=>?_⟩⟩⟩,λh0=>?_⟩
    · have em:m=cu s:=by
        unfold cu;have h1:=hle s.1 (.head _);have h2:=hle s.2.1 (.tail _ (.head _));simp only[Lz,List.not_mem_nil,or_false] at hm;lia
      have eM:M=eS s:=by
        unfold eS;have h1:=hge s.1 (.head _);have h2:=hge s.2.1 (.tail _ (.head _));simp only[Lz,List.not_mem_nil,or_false] at hM;lia
      subst em;subst eM;rw[decide_eq_true_eq] at h0;walk_at "rs";refine ⟨⟨by lia,by lia,by lia,by lia⟩,?_⟩;refine dP (λj ρ=>∃kvs' a4,ρ = [some (.p (.lst (ss.map d3))),some (.o (.dct kvs')),some (.p (.int ((0+i:Nat):Int))),some (.p (.tup [.int s.1,.int s.2.1,.int s.2.2])),a4]/\Keyed kvs'/\kvs'.length<=200*i+j/\∀k:K2,aQ kvs' k=if k.1=(i:Int)/\cu s<=k.2/\k.2<cu s+(j:Nat) then some s.2.2 else av (ss.take i) k) ⟨kvs,yy 4,rfl,hk,hl,λk=>by rw[if_neg (by lia)];exact hv k⟩ ?_ ?_
      · rintro j y ρ hy ⟨kvs',a4',rfl,hk',hl',hv'⟩;obtain ⟨hj,rfl⟩:=dg hy;walk_at "rs";refine ⟨by lia,_,_,rfl,rR hk' _ _,by have:=yW kvs' (((0+i:Nat):Int),cu s+(j:Nat)) s.2.2;lia,λk=>?_⟩;rw[iu,hv'];obtain ⟨k1,k2'⟩:=k;dsimp only;by_cases c:((0+i:Nat):Int)=k1/\cu s+(j:Nat)=k2'
        · rw[if_pos (by rw[c.1,c.2]),if_pos (by lia)]
        · rw [if_neg (by rw [Prod.mk.injEq];exact c)];by_cases c2:k1=(i:Int)/\cu s<=k2'/\k2'<cu s+(j:Nat)
          · rw[if_pos c2,if_pos (by lia)]
          · rw[if_neg c2,if_neg (by lia)]
      · rintro ρ ⟨kvs',a4',rfl,hk',hl',hv'⟩;rw[dh] at hl' hv';refine ⟨kvs',wv 2 [_,_,_],rfl,hk',by lia,λk=>?_⟩;rw[hv',WS.take_snoc es,gS,tl];by_cases c:k.1=(i:Int)
        · rw[if_pos c];by_cases c2:cu s<=k.2/\k.2<eS s
          · rw[if_pos ⟨c,c2.1,by lia⟩,if_pos ⟨h0,c2⟩]
          · rw[if_neg (by lia),if_neg (λz=>c2 z.2),gn (by rw[tl];exact c)]
        · rw[if_neg (λz=>c z.1),if_neg c]
    · rw[decide_eq_false_iff_not] at h0;refine ⟨kvs,wv 2 [_,_,_],rfl,hk,by lia,λk=>?_⟩;rw[hv,WS.take_snoc es,gS,tl];by_cases c:k.1=(i:Int)
      · rw[if_pos c,if_neg (λz=>h0 z.1),gn (by rw[tl];exact c)]
      · rw[if_neg c]
  · rintro ρ ⟨kvs,yy,rfl,hk,hl,hv⟩;rw[eR,Lk] at *;rw[List.take_length] at hv;walk_at "rs";have:=ok.n;exact q kvs hk (by lia) hv
noncomputable def jd (k:K2):D:=.tup [.int k.1,.int k.2]
noncomputable def l5 (p:P5):List Int:=[p.1,p.2.1,p.2.2.1,p.2.2.2.1,p.2.2.2.2]
theorem flat_keys:∀ks:List K2,(ks.map jd).all D.flat=true
 | []=>rfl
 | k::ks=>by rw[LK,List.all_cons,flat_keys ks];rfl
theorem Bw:∀ps:List P5,(ps.map d5).all D.flat=true
 | []=>rfl
 | k::ks=>by rw[LK,List.all_cons,Bw ks];rfl
noncomputable def fJ:DR:=λds P=>∃kvs:cn,ds = [.dct kvs]/\∀ps:cn,ps.Perm kvs->zg ps->P (.o (.lst ((ps.map (·.1)).map jd)))
theorem mZ (kb:K.In base)(hBl:bM mg base)(T:oG K mg)(F:Fq K "warmest_first" "warmest_first" bB f fd Pt):cH P w K mg base iX 1 f fd ["steps"] (oe K Pt Ey fJ):=by
 refine J8 F ni (λds Q h=>by obtain ⟨kvs,rfl,q⟩:=h;rfl) λcdv A outer s H E hr hT hC=>⟨_,(ak (aZ (Bh (x:="step") (by rfl) T.uo (by rfl) T.FA rfl (hr.mono (by decide)) rfl hC kb hBl hT rfl rfl (λ_ _ _ _ _=>rfl) rfl rfl rfl (by decide) rfl (by decide) (aa (dv 0) aj)))),λds Q h=>?_⟩
 obtain ⟨kvs,rfl,q⟩:=h;walk_at "rs";intro ps hp hf;have:=q ps hp hf;rw[map_map] at this;exact this
noncomputable def pV:DR:=λds P=>∃g hs cs,ds = [dW g hs cs]/\iZ g hs cs/\∀ps:List P5,Looks g hs cs ps->AX (ps.map l5)->ps.length<=4800->Tight g ps->P (.o (.lst (ps.map d5)))
inductive Kz (g:Int)(hs cs:List S3)(ck:cn)(gs ts:List K2)(i:Nat)(ρ:ax):Prop
 | mk (t:Nat) (lk:cn) (ps:List P5) (y:Nat->Option B) (G:Gi g hs cs gs ts i t lk ps) (e:ρ = [some (.p (dW g hs cs)),some (.o (.dct lk)),some (.p (.dct ck)),some (.p (.lst (gs.map jd))),some (.o (.lst (ps.map d5))),some (.p (.int (t:Nat))),y 6,y 7,y 8,y 9]):Kz g hs cs ck gs ts i ρ
inductive JE (g:Int)(hs cs:List S3)(ck:cn)(gs ts:List K2)(i:Nat)(k:K2)(C:Int->Nat->Prop)(ρ:ax):Prop
 | mk (t:Nat) (n:Int) (lk:cn) (ps:List P5) (y:Nat->Option B) (G:Gw g hs cs gs ts i k t n lk ps) (c:C n t) (e:ρ = [some (.p (dW g hs cs)),some (.o (.dct lk)),some (.p (.dct ck)),some (.p (.lst (gs.map jd))),some (.o (.lst (ps.map d5))),some (.p (.int (t:Nat))),some (.p (jd k)),some (.p (.int n)),y 8,y 9]):JE g hs cs ck gs ts i k C ρ
noncomputable def K6 (n:Nat)(ρ:ax):Nat:=match aG ρ 5,aG ρ 7 with
 | some (.p (.int t)),some (.p (.int m))=>2*(n - t.toNat)+(if 0<m then 1 else 0)
 | _,_=>0
theorem Aj (T:oG K mg)(F_rates_by_step:Fn P w K mg base "rates_by_step" 1 ["streams"] (dN K dU))(F_warmest_first:Fn P w K mg base "warmest_first" 1 ["steps"] (oe K Pt Ey fJ))(F_is_warm_enough:Fn P w K mg base "is_warm_enough" 1 ["gap","giver","taker"] (dN K dm))(F:lH K "shared" "shared" gy f fd):cH P w K mg base iX 2 f fd ["works"] (oe K Pt Ey pV):=by
 refine Io F bT (λds Q h=>by obtain ⟨g,hs,cs,rfl,ok,q⟩:=h;rfl) λcdv A outer s H E hr hT=>⟨_,(ai (iE (i:=1) bT.nd rfl (Or.inr rfl) (br F_rates_by_step (hr.mono (by decide)) (by rfl) (aa (aP (dv 0) ae) aj)))
   (ai (aE (i:=2) bT.nd rfl (Or.inl rfl) (br F_rates_by_step (hr.mono (by decide)) (by rfl) (aa (aP (dv 0) ae) aj)))
   (ai (DF (i:=3) bT.nd rfl (Or.inl rfl) (wx hT F_warmest_first (hr.mono (by decide)) (by rfl) (aa (dv 1) aj)))
   (ai (iE (i:=4) bT.nd rfl (Or.inl rfl) (fH aj))
   (ai (aE (i:=5) bT.nd rfl (Or.inl rfl) ae)
   (ai (kW (g:=(.n 6)) PassesOwn.never rfl (bX (wx hT F_warmest_first (hr.mono (by decide)) (by rfl) (aa (dv 2) aj))) (au (i:=6) bT.nd rfl (Or.inl rfl)) (ai (aE (i:=7) bT.nd rfl (Or.inl rfl) (ot hr (dv 2) (dv 6)))
   (ai (Bn PassesOwn.never (DW.dt (jE (aO nK (dv 7) ae (aF _)) (jE (aO pH (dv 5) (aD kT (by rfl) T.nB PySem.boot_len (aa (dv 3) aj)) (aF _)) (j9 (oZ (br F_is_warm_enough (hr.mono (by decide)) (by rfl) (aa (aP (dv 0) ae) (aa (aP (dv 3) (dv 5)) (aa (dv 6) aj))))))))) (ai (aE (i:=8) bT.nd rfl (Or.inl rfl) (aP (dv 3) (dv 5)))
   (ai (yc (i:=9) bT.nd rfl (Or.inl rfl) (aD (lM rfl) (by rfl) T.oK boot_min (aa (dv 7) (aa (ot hr (dv 1) (dv 8)) aj))))
   (ai (sJ (i:=4) rfl (by walk_at "v") (ar aM (ar aM (dv 8) (dv 6)) (d6 (aa (dv 9) aj))))
   (ai (Bk (i:=7) bT.nd rfl (Or.inl rfl) (dv 9) BK)
   (ai (Dz (Eu (pv 1) (dv 8).pe (get_dict (mq hr)) (dv 9).pe BK (set_dict (mq hr))))
   (ak (cV (aO gf (ot hr (dv 1) (dv 8)) ae (aF _)) (ak (Bk (i:=5) bT.nd rfl (Or.inl rfl) ae FU)) bt))))))))
   (ak (cV (aO nK (dv 7) ae (aF _)) (ak (sJ (i:=4) rfl (by walk_at "v") (ar aM (Ds (dv 6) T.h8 (by rfl)) (d6 (aa (dv 7) aj))))) bt)))))
   (ai (DC (i:=4) rfl (by walk_at "v") (hO (g:=(.n 0)) (tc:=bN) (te:=(i6 _ (xG _ _ (bq 0)) (fP (aV (i6 uC (bq 1) (bq 0)) eN)))) (sc0:=af gy) (N0:=["works","left","wanted","givers","passes","turn","taker","need","giver","heat"]) ["giver","left"] [none,some 1] rfl (bX (cy (dv 3) (bh (dv 5)) iD)) (λ_ _ _ _ _=>(au (i:=0) (show (["giver","left"]:List Str).Nodup by decide +kernel) rfl (Or.inl rfl))) (λ_ _ _ _ _=>dH) (λ_ _ _ _ _=>(ar aM (Dt (dv 0) T.h8 (by rfl)) (d6 (aa (ot hr (dv 1) (dv 0)) aj))))))
   (ak (aZ (aD A3 (by rfl) T.uo boot_sorted (aa (dv 4) aj))))))))))),λds Q h=>?_⟩
 obtain ⟨g,hs,cs,rfl,ok,q⟩:=h;have sl:sizeLine=16777216:=sizeLine_eq;have oh:=xj ok.zR ok.nh;have oc:=t4 ok.lN ok.nc;refine bI (λρ=>∃hk:cn,Keyed hk/\hk.length<=2400/\(∀k,aQ hk k=av hs k)/\ρ = [some (.p (dW g hs cs)),some (.o (.dct hk)),none,none,none,none,none,none,none,none]) ?_ λN hN=>?_;rotate_left
 .repeat (first | dsimp only[dW] | walk_at "rs1" | walk_at "rsx")
  exact ⟨hs,rfl,oh,λkvs hk hl hv=>hN _ ⟨kvs,hk,hl,hv,rfl⟩⟩
 rintro ρ ⟨hk,kh,lh,vh,rfl⟩;refine bI (λρ=>∃ck:cn,Keyed ck/\ck.length<=2400/\(∀k,aQ ck k=av cs k)/\ρ = [some (.p (dW g hs cs)),some (.o (.dct hk)),some (.p (.dct ck)),none,none,none,none,none,none,none]) ?_ λN hN=>?_;rotate_left
 .repeat (first | dsimp only[dW] | walk_at "rs1" | walk_at "rsx")
  exact ⟨cs,rfl,oc,λkvs hk hl hv=>hN _ ⟨kvs,hk,hl,hv,rfl⟩⟩
 rintro ρ ⟨ck,kc,lc,vc,rfl⟩;refine bI (λρ=>∃gs:List K2,AY hs gs/\ρ = [some (.p (dW g hs cs)),some (.o (.dct hk)),some (.p (.dct ck)),some (.p (.lst (gs.map jd))),none,none,none,none,none,none]) ?_ λN hN=>?_;rotate_left
 .walk_at "rs";exact ⟨hk,rfl,λps hp hf=>⟨flat_keys _,hN _ ⟨_,CQ kh lh vh hp hf,rfl⟩⟩⟩
 rintro ρ ⟨gs,sg,rfl⟩;refine bI (λρ=>ρ = [some (.p (dW g hs cs)),some (.o (.dct hk)),some (.p (.dct ck)),some (.p (.lst (gs.map jd))),some (.o (.lst [])),none,none,none,none,none]) ?_ λN hN=>?_;rotate_left
 .walk_at "rs";exact hN _ rfl
 rintro ρ rfl;refine bI (λρ=>ρ = [some (.p (dW g hs cs)),some (.o (.dct hk)),some (.p (.dct ck)),some (.p (.lst (gs.map jd))),some (.o (.lst [])),some (.p (.int 0)),none,none,none,none]) ?_ λN hN=>?_;rotate_left
 .walk_at "rs";exact hN _ rfl
 rintro ρ rfl;have lg:=sg.len;refine bI (λρ=>∃(ts:List K2) (t:Nat) (lk:cn) (ps:List P5) (y:Nat->Option B),AY cs ts/\Gi g hs cs gs ts ts.length t lk ps/\ρ = [some (.p (dW g hs cs)),some (.o (.dct lk)),some (.p (.dct ck)),some (.p (.lst (gs.map jd))),some (.o (.lst (ps.map d5))),some (.p (.int (t:Nat))),y 6,y 7,y 8,y 9]) ?_ λN hN=>?_;rotate_left
 .repeat (first | walk_at "rs2" | walk_at "rsx")
  refine ⟨ck,rfl,λcp hp hf=>?_⟩;have st:=CQ kc lc vc hp hf;generalize cp.map (·.1)=ts at st;have lt:=st.len;refine dP (Kz g hs cs ck gs ts) ⟨0,hk,[],λ_=>none,Gi.start sg lh vh,rfl⟩ ?_ ?_
  .rintro i x ρ hx ⟨t,lk,ps,y,G,rfl⟩;rw[LC] at hx;obtain ⟨k,hk1,rfl⟩:=Option.map_eq_some_iff.mp hx;have hi:i<ts.length:=(Lp.mp hk1).1;obtain ⟨r,hr⟩:=Option.isSome_iff_exists.mp ((st.is k).mp (Ls hk1));have kb:0<=k.2+g/\k.2+g<=250:=by
    obtain ⟨s,h1,h2,h3,h4,_⟩:=fx hr;have:=oc.w s (gz h1).2.2;have:=ok.g0;have:=ok.g1;lia
   have G1:=G.take st hk1 hr;have hv:aQ ck (k.1,k.2)=some r:=(vc k).trans hr;dsimp only[Tg.d,dput];refine bI (λρ=>ρ = [some (.p (dW g hs cs)),some (.o (.dct lk)),some (.p (.dct ck)),some (.p (.lst (gs.map jd))),some (.o (.lst (ps.map d5))),some (.p (.int (t:Nat))),some (.p (jd k)),some (.p (.int r)),y 8,y 9]) ?_ λN hN=>?_;rotate_left
   .repeat (first | dsimp only[jd] | walk_at "rs1" | walk_at "rsx")
    exact ⟨r,hv,hN _ rfl⟩
   rintro ρ rfl;refine bI (JE g hs cs ck gs ts i k λn t=>n=0\/∀a,gs[t]?=some a->a.2<k.2+g) ?_ λN hN=>?_;rotate_left
   .unfold Bf;refine ⟨JE g hs cs ck gs ts i k λ_ _=>True,K6 gs.length,⟨t,r,lk,ps,y,G1,trivial,rfl⟩,?_⟩;clear G G1;rintro ρ ⟨t,n,lk,ps,y,G,_,rfl⟩;repeat (first | walk_at "rs2" | walk_at "rsx")
    rw[Lk];refine ⟨λh1=>⟨λh2=>?_,λh2=>⟨λz=>(nomatch z),λ_=>hN _ ⟨t,n,lk,ps,y,G,.inr λa ha=>?_,rfl⟩⟩⟩,λh1=>⟨λz=>(nomatch z),λ_=>hN _ ⟨t,n,lk,ps,y,G,.inl ?_,rfl⟩⟩⟩;rotate_left
    .have:=(Lp.mp ha).1;have:=of_decide_eq_false h2;lia
    .have:=of_decide_eq_false h1;have:=G.n0;lia
    have n1:=of_decide_eq_true h1;have t1:t<gs.length:=by
     have:=of_decide_eq_true h2;lia
    have ha:=Lm t1;generalize gs[t]=a at ha;have g1:jk (gs.map jd) ((t:Nat):Int)=some (jd a):=sj ha;obtain ⟨v,hv1,_⟩:=G.gr.qo t a ha;have hv2:aQ lk (a.1,a.2)=some v:=hv1;have llk:=G.gr.ln;have lps:=G.n1;repeat (first | dsimp only[dW] | walk_at "rs2" | walk_at "rsx" | set_option simprocs false in simp only[g1])
    refine ⟨g,a.1,a.2,k.1,k.2,rfl,?_⟩;repeat (first | walk_at "rs2" | walk_at "rsx")
    refine ⟨λh3=>?_,λh3=>hN _ ⟨t,n,lk,ps,y,G,.inr λb hb=>?_,rfl⟩⟩;rotate_left
    .rw[ha] at hb;cases hb;have:=of_decide_eq_false h3;lia
    have hw:=of_decide_eq_true h3;refine bI (λρ=>ρ = [some (.p (dW g hs cs)),some (.o (.dct lk)),some (.p (.dct ck)),some (.p (.lst (gs.map jd))),some (.o (.lst (ps.map d5))),some (.p (.int (t:Nat))),some (.p (jd k)),some (.p (.int n)),some (.p (jd a)),y 9]) ?_ λN hN=>?_;rotate_left
    .repeat (first | walk_at "rs1" | walk_at "rsx" | set_option simprocs false in simp only[g1])
     exact hN _ rfl
    rintro ρ rfl;obtain ⟨m,hm⟩ : ∃m,m=if v<n then v else n:=⟨_,rfl⟩
    refine bI (λρ=>ρ = [some (.p (dW g hs cs)),some (.o (.dct lk)),some (.p (.dct ck)),some (.p (.lst (gs.map jd))),some (.o (.lst (ps.map d5))),some (.p (.int (t:Nat))),some (.p (jd k)),some (.p (.int n)),some (.p (jd a)),some (.p (.int m))]) ?_ λN hN=>?_;rotate_left
    .repeat (first | dsimp only[jd] | walk_at "rs1" | walk_at "rsx")
     exact ⟨v,hv2,rfl,hN _ (by rw[hm];rfl)⟩
    rintro ρ rfl;refine bI (λρ=>ρ = [some (.p (dW g hs cs)),some (.o (.dct lk)),some (.p (.dct ck)),some (.p (.lst (gs.map jd))),some (.o (.lst ((ps++[(a.1,a.2,k.1,k.2,m)]).map d5))),some (.p (.int (t:Nat))),some (.p (jd k)),some (.p (.int n)),some (.p (jd a)),some (.p (.int m))]) ?_ λN hN=>?_;rotate_left
    .repeat (first | dsimp only[jd] | walk_at "rs1" | walk_at "rsx")
     exact ⟨(λz=>nomatch z),(λz=>nomatch z),by rw[sl];show 4<=16777216;decide,(λz=>nomatch z),(λz=>nomatch z),by rw[sl];show 5<=16777216;decide,by rw[Lk];lia,hN _ (by rw[LI];rfl)⟩
    rintro ρ rfl;refine bI (λρ=>ρ = [some (.p (dW g hs cs)),some (.o (.dct lk)),some (.p (.dct ck)),some (.p (.lst (gs.map jd))),some (.o (.lst ((ps++[(a.1,a.2,k.1,k.2,m)]).map d5))),some (.p (.int (t:Nat))),some (.p (jd k)),some (.p (.int (n - m))),some (.p (jd a)),some (.p (.int m))]) ?_ λN hN=>?_;rotate_left
    .walk_at "rs";exact hN _ rfl
    rintro ρ rfl;refine bI (λρ=>ρ = [some (.p (dW g hs cs)),some (.o (.dct (putD lk a (v - m)))),some (.p (.dct ck)),some (.p (.lst (gs.map jd))),some (.o (.lst ((ps++[(a.1,a.2,k.1,k.2,m)]).map d5))),some (.p (.int (t:Nat))),some (.p (jd k)),some (.p (.int (n - m))),some (.p (jd a)),some (.p (.int m))]) ?_ λN hN=>?_;rotate_left
    .repeat (first | dsimp only[jd] | walk_at "rs1" | walk_at "rsx")
     exact ⟨v,hv2,by lia,hN _ rfl⟩
    rintro ρ rfl;have hv3:aQ (putD lk a (v - m)) (a.1,a.2)=some (v - m):=by rw[iu,if_pos rfl]
    have mor:0<m/\(m=v\/m=n)/\m<=n:=by
     obtain ⟨_,_,_,_,v0⟩:=G.gr.qo t a ha;rename_i w hw' _ _;rw[hv1] at hw';cases hw';have:=v0 (Ll _);rw[hm];split<;>lia
    repeat (first | dsimp only[jd] | walk_at "rs1" | walk_at "rsx")
    refine ⟨v - m,hv3,λh4=>⟨⟨t+1,n - m,_,_,wv 8 [_,_],G.pass sg st hk1 n1 ha hw hv1 hm (by rw[if_pos (of_decide_eq_true h4)]),trivial,rfl⟩,?_⟩,λh4=>⟨⟨t,n - m,_,_,wv 8 [_,_],G.pass sg st hk1 n1 ha hw hv1 hm (by rw[if_neg (of_decide_eq_false h4)]),trivial,rfl⟩,?_⟩⟩
    .show 2*(gs.length - ((t:Int)+1).toNat)+(if 0<n - m then 1 else 0)<2*(gs.length - ((t:Nat):Int).toNat)+(if 0<n then 1 else 0)
     rw[if_pos n1];split<;>lia
    .have:=of_decide_eq_false h4;show 2*(gs.length - ((t:Nat):Int).toNat)+(if 0<n - m then 1 else 0)<2*(gs.length - ((t:Nat):Int).toNat)+(if 0<n then 1 else 0)
     rw[if_neg (by lia),if_pos n1];lia
   rintro ρ ⟨t,n,lk,ps,y,G,hn,rfl⟩;have hlp:=G.n1;have htl:=G.gr.tl;repeat (first | dsimp only[jd] | walk_at "rs1" | walk_at "rsx")
   refine ⟨λh=>⟨(λz=>nomatch z),by rw[sl];show 4<=16777216;decide,(λz=>nomatch z),(λz=>nomatch z),by rw[sl];show 5<=16777216;decide,by rw[Lk];lia,?_⟩,λh=>?_⟩
   .have h0:=of_decide_eq_true h;have B:=G.KZ sg st hk1 h0 kb.1 kb.2 (hn.resolve_left (by lia));exact ⟨t,lk,_,wv 6 [_,_,_,_],B,by rw[LI];rfl⟩
   .have h0:n=0:=by
     have:=of_decide_eq_false h;have:=G.n0;lia
    subst h0;exact ⟨t,lk,ps,wv 6 [_,_,_,_],G.done hk1,rfl⟩
  .rintro ρ ⟨t,lk,ps,y,G,rfl⟩;rw[Lk] at G;exact hN _ ⟨ts,t,lk,ps,y,st,G,rfl⟩
 rintro ρ ⟨ts,t,lk,ps,y,st,G,rfl⟩;obtain ⟨Z,ti,ln⟩:=G.finish sg st;have ls:=st.len;have lp:=G.n;have tl:=G.gr.tl;refine bI (λρ=>ρ = [some (.p (dW g hs cs)),some (.o (.dct lk)),some (.p (.dct ck)),some (.p (.lst (gs.map jd))),some (.o (.lst ((ps++gU gs t lk).map d5))),some (.p (.int (t:Nat))),y 6,y 7,y 8,y 9]) ?_ λN hN=>?_;rotate_left
 .walk_at "rs";rw[lO,<-map_drop];refine kj (λx y e=>?_) (λk=>d5 (k.1,k.2,-1,-1,(aQ lk k).getD 0)) (by rw[length_drop];lia) (λk hk2=>?_) ?_
  .unfold jd at e;simp only[D.tup.injEq,List.cons.injEq,D.int.injEq,and_true] at e;exact Prod.ext e.1 e.2
  .obtain ⟨j,hj⟩:=mem_iff_getElem?.mp (mem_of_mem_drop hk2);obtain ⟨v,hv,_⟩:=G.gr.qo j k hj;have hv2:aQ lk (k.1,k.2)=some v:=hv;repeat (first | dsimp only[jd] | walk_at "rs1" | walk_at "rsx")
   refine ⟨(λz=>nomatch z),by rw[sl];show 4<=16777216;decide,v,hv2,(λz=>nomatch z),(λz=>nomatch z),by rw[sl];show 5<=16777216;decide,?_⟩;rw[hv];rfl
  have e:(gs.drop t).map (λk=>d5 (k.1,k.2,-1,-1,(aQ lk k).getD 0))=(gU gs t lk).map d5:=by unfold gU;rw[map_map];rfl
  rw[e];refine ⟨Bw _,?_,?_⟩
  .rw[Lk,Lk];rw[LA] at ln;lia
  .rw[<-LI];exact hN _ rfl
 rintro ρ rfl;walk_at "rs";refine ⟨(ps++gU gs t lk).map l5,5,by rw[map_map];rfl,by decide,λns hn=>?_,λmss hp hu=>?_⟩
 .obtain ⟨p,_,rfl⟩:=Lx.mp hn;rfl
 .obtain ⟨qs,hq,rfl⟩:=jP hp _ rfl;rw[map_map];exact q qs (Z.perm hq) hu (by rw[hq.length_eq];lia) (ti.imp (λz p hp=>z p (hq.mem_iff.mp hp)) (by rintro ⟨L,hL,z⟩;exact ⟨L,hL,λp hp=>z p (hq.mem_iff.mp hp)⟩))
noncomputable def ly:DR:=λds P=>∃(g:Int) (p:P5),ds = [.int g,.tup [.int p.1,.int p.2.1],.tup [.int p.2.2.1,.int p.2.2.2.1],.int (ht p)]/\P (.p (.bl (kJ g p)))
theorem vz (T:oG K mg)(F_is_warm_enough:Fn P w K mg base "is_warm_enough" 1 ["gap","giver","taker"] (dN K dm))(F:lH K "may_pass" "may_pass" fi f fd):cH P w K mg base iX 2 f fd ["gap","giver","taker","heat"] (dN K ly):=by
 refine tF F vS (λds Q h=>by obtain ⟨g,p,rfl,q⟩:=h;rfl) λcdv A outer s H E hr=>⟨_,(ai (cV (aO pH (dv 3) ae (aF _)) (ak (aZ nE)) bt)
   (ai (cV (DW.dt (nI (Bq hr (dv 1) T.h8 (by rfl)) (mU (Bq hr (dv 2) T.h8 (by rfl))))) (ak (aZ (oW (tD hr) (dv 1) (dv 2) (aF _)))) bt)
   (ak (aZ (br F_is_warm_enough (hr.mono (by decide)) (by rfl) (aa (dv 0) (aa (dv 1) (aa (dv 2) aj)))))))),λds Q h=>?_⟩
 obtain ⟨g,p,rfl,q⟩:=h;walk_at "rs";refine ⟨λh=>?_,λh=>?_⟩
 .have e:kJ g p=false:=by
   unfold kJ;rw[decide_eq_true_eq] at h;rw[decide_eq_false (by lia),Bool.false_and]
  rw[<-e];exact q
 .have e1:decide (1<=ht p)=true:=by
   rw[decide_eq_false_iff_not] at h;exact decide_eq_true (by lia)
  unfold kJ at q;rw[e1,Bool.true_and] at q;have e2:(gk p=Bt)=(p.1 = -1/\p.2.1 = -1):=by unfold gk Bt;rw[Prod.mk.injEq]
  have e3:(fy p=Bt)=(p.2.2.1 = -1/\p.2.2.2.1 = -1):=by unfold fy Bt;rw[Prod.mk.injEq]
  have e4:(!decide (p.1=p.2.2.1/\p.2.1=p.2.2.2.1))=decide (gk p≠fy p):=by
   rw[<-decide_not,decide_eq_decide];unfold gk fy;rw[ne_eq,Prod.mk.injEq]
  refine ⟨λh1=>⟨λ_=>yH ?_,λz=>(nomatch z)⟩,λh1=>⟨λh2=>yH ?_,λh2=>?_⟩⟩
  .rw[decide_eq_true_eq] at h1;rw[if_pos (.inl (by rw[e2];exact h1))] at q;rw[e4];exact q
  .rw[decide_eq_true_eq] at h2;rw[if_pos (.inr (by rw[e3];exact h2))] at q;rw[e4];exact q
  .rw[decide_eq_false_iff_not] at h1 h2;rw[if_neg (λz=>z.elim (λz=>h1 (by rw[<-e2];exact z)) λz=>h2 (by rw[<-e3];exact z))] at q;exact ⟨g,p.1,p.2.1,p.2.2.1,p.2.2.2.1,rfl,q⟩
noncomputable def dQ (q:Q2):D:=.tup [.tup [.int q.1.1,.int q.1.2],.int q.2]
noncomputable def gj:DR:=λds P=>∃qs:List Q2,ds = [.lst (qs.map dQ)]/\qs.length<=9995/\P (.o (.dct (nU qs)))
theorem n4 (T:oG K mg)(F:lH K "heat_by_step" "heat_by_step" cB f fd):cH P w K mg base iX 1 f fd ["pairs"] (dN K gj):=by
 refine tF F dZ (λds Q h=>by obtain ⟨qs,rfl,hl,q⟩:=h;rfl) λcdv A outer s H E hr=>⟨_,(ai (iE (i:=1) dZ.nd rfl (Or.inl rfl) xW)
   (ai (kW (g:=(.t [2,3])) PassesOwn.never rfl (bX (dv 0)) (fI rfl (az (au (i:=2) dZ.nd rfl (Or.inl rfl)) (az (au (i:=3) dZ.nd rfl (Or.inl rfl)) dS))) (ak (Bl (i:=1) hr rfl (by walk_at "v") (dv 2) (ar aM (Dv hr (dv 1) (dv 2) ae ⟨rfl,rfl,rfl,rfl⟩) (dv 3)))))
   (ak (ya 1)))),λds Q h=>?_⟩
 obtain ⟨qs,rfl,hl,q⟩:=h;walk_at "rs";have sl:sizeLine=16777216:=sizeLine_eq;refine dP (λi ρ=>∃a2 a3,ρ = [some (.p (.lst (qs.map dQ))),some (.o (.dct (nU (qs.take i)))),a2,a3]) ⟨none,none,rfl⟩ ?_ ?_
 .rintro i x ρ hx ⟨a2,a3,rfl⟩;rw[LC] at hx;cases eq:qs[i]? with
  | none=>rw[eq] at hx;cases hx
  | some y =>
  rw[eq] at hx;cases hx;repeat (first | dsimp only[dQ] | walk_at "rs1" | walk_at "rsx")
  have hn:=(oi (qs.take i)).2.1;rw[length_take] at hn;rw[WS.take_snoc eq,qP];exact ⟨by lia,_,_,rfl⟩
 .rintro ρ ⟨a2,a3,rfl⟩;rw[Lk,List.take_length];walk_at "rs";exact q
noncomputable def fe:DR:=λds P=>∃(g:Int) (hs cs:List S3) (ps:List P5),ds = [dW g hs cs,.lst (ps.map d5)]/\zm hs/\zm cs/\ps.length<=9995 /\
 (Looks g hs cs ps->P (.p (.tup [.int (aL Bt (gq ps)),.int (aL Bt (tq ps))])))/\(¬Looks g hs cs ps->P (.p .non))
theorem mB (T:oG K mg)(F_heat_by_step:Fn P w K mg base "heat_by_step" 1 ["pairs"] (dN K gj))(F_rates_by_step:Fn P w K mg base "rates_by_step" 1 ["streams"] (dN K dU))(F_may_pass:Fn P w K mg base "may_pass" 2 ["gap","giver","taker","heat"] (dN K ly))(F:lH K "looked_through" "looked_through" aS f fd):cH P w K mg base iX 3 f fd ["works","passes"] (dN K fe):=by
 refine tF F bZ (λds Q h=>by obtain ⟨g,hs,cs,ps,rfl,oh,oc,hl,q1,q2⟩:=h;rfl) λcdv A outer s H E hr=>⟨_,(ai (cV (Br (oZ (aD (FG rfl) (by rfl) T.Hz boot_all (aa (hO (g:=(.n 0)) (tc:=bN) (te:=(dG _ (aV (i6 nW (bq 1) (dC _)) (aV (qt (bq 0) (cx (dC _)) (cx (dC _))) (aV (qt (bq 0) (cx (dC _)) (cx (dC _))) (aV (i6 nW (bq 0) (dC _)) eN)))))) (sc0:=af aS) (N0:=["works","passes","given","gotten","heat","cold"]) ["one","works"] [none,some 0] rfl (bX (dv 1)) (λ_ _ _ _ _=>(au (i:=0) (show (["one","works"]:List Str).Nodup by decide +kernel) rfl (Or.inl rfl))) (λ_ _ _ _ _=>dH) (λ_ _ _ _ _=>(br F_may_pass (hr.mono (by decide)) (by rfl) (aa (aP (dv 1) ae) (aa (cy (dv 0) (bh ae) (bh ae)) (aa (cy (dv 0) (bh ae) (bh ae)) (aa (aP (dv 0) ae) aj))))))) aj)))) (ak (aZ mT)) bt)
   (ai (cV (aO pH (zG hr rfl (by rfl) T.nB (by rfl) T.HB (aa (hO (g:=(.n 0)) (tc:=bN) (te:=(qt (bq 0) (cx (dC _)) (cx (dC _)))) (sc0:=af aS) (N0:=["works","passes","given","gotten","heat","cold"]) ["one"] [none] rfl (bX (dv 1)) (λ_ _ _ _ _=>(au (i:=0) (show (["one"]:List Str).Nodup by decide +kernel) rfl (Or.inl rfl))) (λ_ _ _ _ _=>dH) (λ_ _ _ _ _=>(cy (dv 0) (bh ae) (bh ae)))) aj)) (aD kT (by rfl) T.nB PySem.boot_len (aa (dv 1) aj)) (aF _)) (ak (aZ mT)) bt)
   (ai (iE (i:=2) bZ.nd rfl (Or.inl rfl) (br F_heat_by_step (hr.mono (by decide)) (by rfl) (aa (hO (g:=(.n 0)) (tc:=bN) (te:=(fP (aV (qt (bq 0) (cx (dC _)) (cx (dC _))) (aV (i6 nW (bq 0) (dC _)) eN)))) (sc0:=af aS) (N0:=["works","passes","given","gotten","heat","cold"]) ["one"] [none] rfl (bX (dv 1)) (λ_ _ _ _ _=>(au (i:=0) (show (["one"]:List Str).Nodup by decide +kernel) rfl (Or.inl rfl))) (λ_ _ _ _ _=>dH) (λ_ _ _ _ _=>(d6 (aa (cy (dv 0) (bh ae) (bh ae)) (aa (aP (dv 0) ae) aj))))) aj)))
   (ai (iE (i:=3) bZ.nd rfl (Or.inl rfl) (br F_heat_by_step (hr.mono (by decide)) (by rfl) (aa (hO (g:=(.n 0)) (tc:=bN) (te:=(fP (aV (qt (bq 0) (cx (dC _)) (cx (dC _))) (aV (i6 nW (bq 0) (dC _)) eN)))) (sc0:=af aS) (N0:=["works","passes","given","gotten","heat","cold"]) ["one"] [none] rfl (bX (dv 1)) (λ_ _ _ _ _=>(au (i:=0) (show (["one"]:List Str).Nodup by decide +kernel) rfl (Or.inl rfl))) (λ_ _ _ _ _=>dH) (λ_ _ _ _ _=>(d6 (aa (cy (dv 0) (bh ae) (bh ae)) (aa (aP (dv 0) ae) aj))))) aj)))
   (ai (x9 (i:=2) (j:=4) hr bZ.nd rfl (Or.inl rfl) rfl (by walk_at "v") T.h8 (by rfl) ⟨rfl,rfl,rfl,rfl⟩)
   (ai (x9 (i:=3) (j:=5) hr bZ.nd rfl (Or.inl rfl) rfl (by walk_at "v") T.h8 (by rfl) ⟨rfl,rfl,rfl,rfl⟩)
   (ai (cV (DW.dt (nI (aO (rO hr) (dv 2) (br F_rates_by_step (hr.mono (by decide)) (by rfl) (aa (aP (dv 0) ae) aj)) (aF _)) (mU (aO (rO hr) (dv 3) (br F_rates_by_step (hr.mono (by decide)) (by rfl) (aa (aP (dv 0) ae) aj)) (aF _))))) (ak (aZ mT)) bt)
   (ak (aZ (d6 (aa (dv 4) (aa (dv 5) aj)))))))))))),λds Q h=>?_⟩
 obtain ⟨g,hs,cs,ps,rfl,oh,oc,hl,q1,q2⟩:=h;repeat (first | dsimp only[dW] | walk_at "rs1" | walk_at "rsx")
 refine kj oV (λp=>.bl (kJ g p)) (by lia) (λp _=>?_) ?_
 .repeat (first | dsimp only[d5] | walk_at "rs1" | walk_at "rsx")
  exact ⟨by decide,by decide,g,p,rfl,rfl⟩
 refine ⟨ps.map (kJ g),by rw[map_map];rfl,?_⟩;walk_at "rs";refine ⟨λh=>q2 λL=>?_,λh=>?_⟩
 .rw[show (List.all (ps.map (kJ g)) id)=true by
   rw[List.all_eq_true];intro b hb;obtain ⟨p,hp,rfl⟩:=Lx.mp hb;exact L.may p hp] at h
  cases h
 have may:∀p∈ps,kJ g p=true:=λp hp=>by
  have h':(List.all (ps.map (kJ g)) id)=true:=by
   cases e:List.all (ps.map (kJ g)) id with
   | true=>rfl
   | false=>rw[e] at h;cases h
  exact List.all_eq_true.mp h' _ (Lx.mpr ⟨p,hp,rfl⟩)
 refine kj oV (λp=>tupI (k4 p)) (by lia) (λp _=>?_) ?_
 .repeat (first | dsimp only[d5] | walk_at "rs1" | walk_at "rsx")
  exact ⟨by decide,rfl⟩
 refine ⟨ps.map k4,by rw[map_map];rfl,by rw[Lk];exact hl,?_⟩;have hdl:=Dy (ps.map k4);have hdf:=zI (ps.map k4);rw[Lk] at hdl hdf ⊢;refine ⟨λh=>q2 λL=>?_,λh=>?_⟩
 .rw[decide_eq_true_eq] at h;have:=hdf.mpr L.gd;lia
 have gd:(ps.map k4).Nodup:=hdf.mp (by
  rw[decide_eq_false_iff_not] at h;lia)
 refine kj oV (λp=>dQ (gk p,ht p)) (by lia) (λp _=>?_) ?_
 .repeat (first | dsimp only[d5] | walk_at "rs1" | walk_at "rsx")
  exact ⟨by decide,rfl⟩
 refine ⟨gq ps,by unfold gq;rw[map_map];rfl,by unfold gq;rw[Lk];exact hl,?_⟩;walk_at "rs";refine kj oV (λp=>dQ (fy p,ht p)) (by lia) (λp _=>?_) ?_
 .repeat (first | dsimp only[d5] | walk_at "rs1" | walk_at "rsx")
  exact ⟨by decide,rfl⟩
 refine ⟨tq ps,by unfold tq;rw[map_map];rfl,by unfold tq;rw[Lk];exact hl,?_⟩;walk_at "rs";obtain ⟨kg,_,vg⟩:=oi (gq ps);obtain ⟨kt,_,vt⟩:=oi (tq ps);have eG:∀{kvs:cn} {ss:List S3},Keyed kvs->(∀k,aQ kvs k=av ss k)->∀{qs:List Q2},(vR (lY (nU qs) (-1,-1)) kvs=true↔∀k,k≠Bt->iV k qs=av ss k):=λ{kvs ss} hk hv {qs}=>by
  obtain ⟨kq,_,vq⟩:=oi qs;rw[same_iff (wz kq _) hk];constructor
  .intro h k hne;have:=h k;rw[r6,if_neg (λz=>hne z.symm),vq,hv] at this;exact this
  .intro h k;rw[r6,hv];by_cases c:((-1,-1):K2)=k
   .rw[if_pos c,<-c];exact (m7 ss).symm
   .rw[if_neg c,vq];exact h k λz=>c z.symm
 refine ⟨by decide,by decide,hs,rfl,oh,λka hka _ hva=>?_⟩;walk_at "rs";have eB:∀b:Bool,((!b)=true↔¬b=true)/\((!b)=false↔b=true):=λb=>by cases b<;>simp
 refine ⟨λh=>⟨λ_=>q2 λL=>(eB _).1.mp h ((eG hka hva).mpr L.qo),λz=>nomatch z⟩,λh=>⟨cs,rfl,oc,λkb hkb _ hvb=>?_⟩⟩;have qo:=(eG hka hva).mp ((eB _).2.mp h);walk_at "rs";refine ⟨λh=>q2 λL=>(eB _).1.mp h ((eG hkb hvb).mpr L.qp),λh=>?_⟩;have qp:=(eG hkb hvb).mp ((eB _).2.mp h);rw[vg,vt,eE,eE];exact q1 ⟨may,gd,qo,qp⟩
noncomputable def iN:DR:=λds P=>∃(ns:List Int) (k:Int),ds = [.scr ns,.int k]/\ns.length<=63/\(0<=k/\k<=1000)/\∀z:Int,0<=z->P (.p (.int z))
theorem vx (T:oG K mg)(F:lH K "_law_draw" "_law_draw" fg f fd):cH P w K mg base iX 1 f fd ["script","k"] (dN K iN):=by
 refine tF F fF (λds Q h=>by obtain ⟨ns,k,rfl,hl,⟨hk,hk2⟩,q⟩:=h;rfl) λcdv A outer s H E hr=>⟨_,(ai (aE (i:=2) fF.nd rfl (Or.inl rfl) (ar aM ae (ar dj (aD kT (by rfl) T.nB PySem.boot_len (aa (dv 0) aj)) ae)))
   (ai (aE (i:=3) fF.nd rfl (Or.inl rfl) (ar aM (ar eV ae (dv 1)) ae))
   (ai (kW (g:=(.n 4)) PassesOwn.never rfl (bX (rl (dv 0) (bh (ar bK (dv 1) (dv 2))) iD (bh (dv 2)))) (au (i:=4) fF.nd rfl (Or.inl rfl)) (ak (aE (i:=3) fF.nd rfl (Or.inl rfl) (ar bK (ar aM (ar eV (dv 3) (ar aM (ar eV ae (dv 1)) ae)) (dv 4)) ae))))
   (ak (aZ (ar bK (ar eV (dv 3) (ar aM (ar aM (ar bK (ar dj (dv 3) ae) ae) (ar eV ae (dv 1))) ae)) ae)))))),λds Q h=>?_⟩
 obtain ⟨ns,k,rfl,hl,⟨hk,hk2⟩,q⟩:=h;walk_at "rs";refine ⟨⟨by decide,by decide⟩,mulL (by decide),by lia,λz=>by have:=Option.some.inj z;lia,?_⟩;refine dP (λi ρ=>∃(f:Int) (a4:Option B),0<=f/\ρ = [some (B.p (D.scr ns)),some (B.p (D.int k)),some (B.p (D.int (1+(ns.length:Int) / 8))),some (B.p (D.int f)),a4]) ⟨_,_,by lia,rfl⟩ ?_ ?_
 .rintro i x ρ hx ⟨f,a4,hf,rfl⟩;rw[LC] at hx;obtain ⟨c,hc,rfl⟩:=Option.map_eq_some_iff.mp hx;walk_at "rs";exact ⟨mulL (by decide),mulR (by lia),by decide,_,_,Int.emod_nonneg _ (by decide),rfl⟩
 .rintro ρ ⟨f,a4,hf,rfl⟩;walk_at "rs";exact ⟨⟨by decide,by decide⟩,by decide,mulL (by decide),mulR (by lia),by decide,q _ (Int.emod_nonneg _ (by decide))⟩
noncomputable def iO:DR:=λds P=>∃n low wide most:Int,ds = [.int n,.int low,.int wide,.int most]/\0<=low/\(wide=6/\low<20\/wide=100/\low<=1)/\1<=most/\most<=1000000000/\∀x:S3,dB x->(wide=6->x.2.1 - x.1<=6)->P (.p (d3 x))
theorem qD (T:oG K mg)(F:lH K "_law_stream" "_law_stream" dr f fd):cH P w K mg base iX 1 f fd ["number","low","wide","most"] (dN K iO):=by
 refine tF F g7 (λds Q h=>by obtain ⟨n,low,wide,most,rfl,h0,hw,hm,hM,q⟩:=h;rfl) λcdv A outer s H E hr=>⟨_,(ai (aE (i:=4) g7.nd rfl (Or.inl rfl) (ar aM (dv 1) (ar bK (dv 0) (dv 2))))
   (ai (aE (i:=5) g7.nd rfl (Or.inl rfl) (ar aM ae (ar bK (ar eV (ar dj (dv 0) ae) ae) (dv 3))))
   (ai (cV (DW.dt (jE (aO gf (dv 2) ae (aF _)) (j9 (aO gf (ar bK (ar dj (dv 0) ae) ae) ae (aF _))))) (ak (aZ (d6 (aa (dv 4) (aa ae (aa (dv 5) aj)))))) bt)
   (ak (aZ (d6 (aa (dv 4) (aa (ar aM (ar aM (dv 4) ae) (ar bK (ar dj (dv 0) ae) (dv 2))) (aa (dv 5) aj))))))))),λds Q h=>?_⟩
 obtain ⟨n,low,wide,most,rfl,h0,hw,hm,hM,q⟩:=h;walk_at "rs";have r1:=Int.emod_nonneg (n / 10000*1009) (b:=most) (by lia);have r2:=Int.emod_lt_of_pos (n / 10000*1009) (b:=most) (by lia);refine ⟨by lia,⟨by decide,by decide⟩,mulR (by decide),by lia,λhw1=>⟨⟨by decide,by decide⟩,by decide,λ_=>?_,λ_=>⟨⟨by decide,by decide⟩,by lia,?_⟩⟩,λhw1=>⟨λz=>(nomatch z),λ_=>⟨⟨by decide,by decide⟩,by lia,?_⟩⟩⟩
 .rw[decide_eq_true_eq] at hw1;subst hw1;exact q (low+n % 100,200,1+n / 10000*1009 % most) ⟨by dsimp only;lia,by dsimp only;lia,by dsimp only;lia,by dsimp only;lia,by dsimp only;lia⟩ (λz=>by lia)
 .rw[decide_eq_true_eq] at hw1;subst hw1;exact q (low+n % 100,low+n % 100+1+n / 100 % 100,1+n / 10000*1009 % most) ⟨by dsimp only;lia,by dsimp only;lia,by dsimp only;lia,by dsimp only;lia,by dsimp only;lia⟩ (λz=>by lia)
 .rw[decide_eq_false_iff_not] at hw1;obtain ⟨rfl,hw⟩ : wide=6/\low<20:=by lia
  exact q (low+n % 6,low+n % 6+1+n / 100 % 6,1+n / 10000*1009 % most) ⟨by dsimp only;lia,by dsimp only;lia,by dsimp only;lia,by dsimp only;lia,by dsimp only;lia⟩ (λ_=>by dsimp only;lia)
structure Fy (g:Int)(hs cs:List S3):Prop where
 ok:iZ g hs cs
 sm:(hs.length<=1/\cs.length<=2)\/((∀x∈hs,x.1 - x.2.1<=6)/\∀x∈cs,x.2.1 - x.1<=6)
noncomputable def jT:DR:=λds P=>∃ns:List Int,ds = [.scr ns]/\ns.length<=63/\∀g hs cs,Fy g hs cs->P (.p (dW g hs cs))
theorem tJ (T:oG K mg)(F_law_draw:Fn P w K mg base "_law_draw" 1 ["script","k"] (dN K iN))(F_law_stream:Fn P w K mg base "_law_stream" 1 ["number","low","wide","most"] (dN K iO))(F:lH K "_law_works" "_law_works" df f fd):cH P w K mg base iX 2 f fd ["script"] (dN K jT):=by
 refine tF F aH (λds Q h=>by obtain ⟨ns,rfl,hl,q⟩:=h;rfl) λcdv A outer s H E hr=>⟨_,(ai (aE (i:=1) aH.nd rfl (Or.inl rfl) (br F_law_draw (hr.mono (by decide)) (by rfl) (aa (dv 0) (aa ae aj))))
   (ai (aE (i:=2) aH.nd rfl (Or.inl rfl) (ar bK (dv 1) ae))
   (ai (aE (i:=3) aH.nd rfl (Or.inl rfl) ae)
   (ai (cV (aO gf (ar bK (ar dj (dv 1) ae) ae) ae (aF _)) (ai (aE (i:=2) aH.nd rfl (Or.inl rfl) (ar bK (ar dj (dv 1) ae) ae))
   (ak (aE (i:=3) aH.nd rfl (Or.inl rfl) ae))) bt)
   (ai (aE (i:=4) aH.nd rfl (Or.inl rfl) (ar bK (br F_law_draw (hr.mono (by decide)) (by rfl) (aa (dv 0) (aa ae aj))) ae))
   (ai (cV (aO gf (ar bK (ar dj (br F_law_draw (hr.mono (by decide)) (by rfl) (aa (dv 0) (aa ae aj))) ae) ae) ae (aF _)) (ak (aE (i:=4) aH.nd rfl (Or.inl rfl) (ar bK (ar dj (br F_law_draw (hr.mono (by decide)) (by rfl) (aa (dv 0) (aa ae aj))) ae) ae))) bt)
   (ai (cV (DW.dt (jE (aO gf (dv 3) ae (aF _)) (j9 (aO gf (ar bK (ar dj (dv 1) ae) ae) ae (aF _))))) (ak (aE (i:=4) aH.nd rfl (Or.inl rfl) ae)) bt)
   (ai (aE (i:=5) aH.nd rfl (Or.inl rfl) (fH (aa (ar bK (br F_law_draw (hr.mono (by decide)) (by rfl) (aa (dv 0) (aa ae aj))) ae) (aa (ar bK (br F_law_draw (hr.mono (by decide)) (by rfl) (aa (dv 0) (aa ae aj))) ae) aj))))
   (ai (cV (aO gf (dv 3) ae (aF _)) (ak (aE (i:=5) aH.nd rfl (Or.inl rfl) (fH (aa (aD (lM rfl) (by rfl) T.oK boot_min (aa ae (aa (aP (dv 5) ae) aj))) (aa (aD (lM rfl) (by rfl) T.oK boot_min (aa ae (aa (aP (dv 5) ae) aj))) aj))))) (ak (cV (aO gf (ar bK (ar dj (br F_law_draw (hr.mono (by decide)) (by rfl) (aa (dv 0) (aa ae aj))) ae) ae) ae (aF _)) (ak (aE (i:=5) aH.nd rfl (Or.inl rfl) (fH (aa ae (aa (ar aM ae (ar bK (br F_law_draw (hr.mono (by decide)) (by rfl) (aa (dv 0) (aa ae aj))) ae)) aj))))) bt)))
   (ai (aE (i:=6) aH.nd rfl (Or.inl rfl) (aP (fH (aa ae (aa (ar Gk ae ae) aj))) (ar bK (br F_law_draw (hr.mono (by decide)) (by rfl) (aa (dv 0) (aa ae aj))) ae)))
   (ai (iE (i:=7) aH.nd rfl (Or.inl rfl) (fH aj))
   (ai (lZ (g:=(.n 8)) PassesOwn.never rfl (lX (by rfl) T.ix (aa (ar aM (aP (dv 5) ae) (aP (dv 5) ae)) aj)) (au (i:=8) aH.nd rfl (Or.inl rfl)) (ai (aE (i:=9) aH.nd rfl (Or.inl rfl) (ar aM (aD (wm rfl) (by rfl) T.AZ boot_sum (aa (rl (dv 0) (bh (dv 8)) (bh ae) (bh ae)) aj)) (br F_law_draw (hr.mono (by decide)) (by rfl) (aa (dv 0) (aa (ar aM ae (dv 8)) aj)))))
   (ak (sJ (i:=7) rfl (by walk_at "v") (br F_law_stream (hr.mono (by decide)) (by rfl) (aa (dv 9) (aa (dv 2) (aa (dv 3) (aa (dv 6) aj)))))))))
   (ai (wB (i:=10) aH.nd rfl (Or.inl rfl) (g:=(.t [0,1,2])) (tc:=bN) (te:=(fP (aV (bq 1) (aV (bq 0) (aV (bq 2) eN))))) (sc0:=af df) (N0:=["script","number","low","wide","gap","counts","most","streams","k","cell","hots"]) ["start","goal","rate"] [none,none,none] rfl (bX (cy (dv 7) iD (bh (aP (dv 5) ae)))) (λ_ _ _ _ _=>(fI rfl (az (au (i:=0) (show (["start","goal","rate"]:List Str).Nodup by decide +kernel) rfl (Or.inl rfl)) (az (au (i:=1) (show (["start","goal","rate"]:List Str).Nodup by decide +kernel) rfl (Or.inl rfl)) (az (au (i:=2) (show (["start","goal","rate"]:List Str).Nodup by decide +kernel) rfl (Or.inl rfl)) dS))))) (λ_ _ _ _ _=>dH) (λ_ _ _ _ _=>(d6 (aa (dv 1) (aa (dv 0) (aa (dv 2) aj))))))
   (ak (aZ (d6 (aa (dv 4) (aa (dv 10) (aa (cy (dv 7) (bh (aP (dv 5) ae)) iD) aj))))))))))))))))))),λds Q h=>?_⟩
 obtain ⟨ns,rfl,hl,q⟩:=h;refine bI (λρ=>∃n:Int,0<=n/\ρ = [some (B.p (D.scr ns)),some (B.p (D.int n)),none,none,none,none,none,none,none,none,none]) ?_ λN hN=>?_;rotate_left
 .walk_at "rs";exact ⟨ns,0,rfl,hl,⟨by decide,by decide⟩,λz hz=>hN _ ⟨z,hz,rfl⟩⟩
 rintro ρ ⟨n,hn,rfl⟩;refine bI (λρ=>ρ = [some (B.p (D.scr ns)),some (B.p (D.int n)),some (B.p (D.int (n % 20))),none,none,none,none,none,none,none,none]) ?_ λN hN=>?_;rotate_left
 .walk_at "rs";exact ⟨by decide,hN _ rfl⟩
 rintro ρ rfl;refine bI (λρ=>ρ = [some (B.p (D.scr ns)),some (B.p (D.int n)),some (B.p (D.int (n % 20))),some (B.p (D.int 6)),none,none,none,none,none,none,none]) ?_ λN hN=>?_;rotate_left
 .walk_at "rs";exact hN _ rfl
 rintro ρ rfl;refine bI (λρ=>∃low wide:Int,0<=low/\(wide=6/\low<20\/wide=100/\low<=1)/\ρ = [some (B.p (D.scr ns)),some (B.p (D.int n)),some (B.p (D.int low)),some (B.p (D.int wide)),none,none,none,none,none,none,none]) ?_ λN hN=>?_;rotate_left
 .walk_at "rs";exact ⟨⟨by decide,by decide⟩,by decide,λ_=>⟨⟨by decide,by decide⟩,by decide,hN _ ⟨_,_,by lia,.inr ⟨rfl,by lia⟩,rfl⟩⟩,λ_=>hN _ ⟨_,_,by lia,.inl ⟨rfl,by lia⟩,rfl⟩⟩
 rintro ρ ⟨low,wide,h0,hw,rfl⟩;refine bI (λρ=>∃g:Int,(0<=g/\g<=50)/\ρ = [some (B.p (D.scr ns)),some (B.p (D.int n)),some (B.p (D.int low)),some (B.p (D.int wide)),some (B.p (D.int g)),none,none,none,none,none,none]) ?_ λN hN=>?_;rotate_left
 .walk_at "rs";refine ⟨ns,1,rfl,hl,⟨by decide,by decide⟩,λz hz=>?_⟩;walk_at "rs";exact ⟨by decide,hN _ ⟨_,⟨by lia,by lia⟩,rfl⟩⟩
 rintro ρ ⟨g,hg,rfl⟩;refine bI (λρ=>∃g:Int,(0<=g/\g<=50)/\ρ = [some (B.p (D.scr ns)),some (B.p (D.int n)),some (B.p (D.int low)),some (B.p (D.int wide)),some (B.p (D.int g)),none,none,none,none,none,none]) ?_ λN hN=>?_;rotate_left
 .walk_at "rs";refine ⟨ns,1,rfl,hl,⟨by decide,by decide⟩,λz hz=>?_⟩;walk_at "rs";refine ⟨⟨by decide,by decide⟩,by decide,λ_=>⟨ns,1,rfl,hl,⟨by decide,by decide⟩,λz hz=>?_⟩,λ_=>hN _ ⟨g,hg,rfl⟩⟩;walk_at "rs";exact ⟨⟨by decide,by decide⟩,by decide,hN _ ⟨_,⟨by lia,by lia⟩,rfl⟩⟩
 clear hg g;rintro ρ ⟨g,hg,rfl⟩;refine bI (λρ=>∃g:Int,(0<=g/\g<=50)/\ρ = [some (B.p (D.scr ns)),some (B.p (D.int n)),some (B.p (D.int low)),some (B.p (D.int wide)),some (B.p (D.int g)),none,none,none,none,none,none]) ?_ λN hN=>?_;rotate_left
 .walk_at "rs";exact ⟨λ_=>⟨⟨by decide,by decide⟩,by decide,λ_=>hN _ ⟨50,⟨by decide,by decide⟩,rfl⟩,λ_=>hN _ ⟨g,hg,rfl⟩⟩,λ_=>⟨λz=>(nomatch z),λ_=>hN _ ⟨g,hg,rfl⟩⟩⟩
 clear hg g;rintro ρ ⟨g,hg,rfl⟩;refine bI (λρ=>∃a b:Int,(0<=a/\a<=12/\0<=b/\b<=12)/\ρ = [some (B.p (D.scr ns)),some (B.p (D.int n)),some (B.p (D.int low)),some (B.p (D.int wide)),some (B.p (D.int g)),some (B.p (D.lst [D.int a,D.int b])),none,none,none,none,none]) ?_ λN hN=>?_;rotate_left
 .walk_at "rs";refine ⟨ns,2,rfl,hl,⟨by decide,by decide⟩,λz hz=>?_⟩;walk_at "rs";refine ⟨by decide,ns,3,rfl,hl,⟨by decide,by decide⟩,λy hy=>?_⟩;walk_at "rs";exact ⟨by decide,hN _ ⟨_,_,⟨by lia,by lia,by lia,by lia⟩,rfl⟩⟩
 rintro ρ ⟨a,b,hab,rfl⟩;refine bI (λρ=>∃a b:Int,(0<=a/\a<=12/\0<=b/\b<=12/\(wide=6\/(a<=1/\b<=2)))/\ρ = [some (B.p (D.scr ns)),some (B.p (D.int n)),some (B.p (D.int low)),some (B.p (D.int wide)),some (B.p (D.int g)),some (B.p (D.lst [D.int a,D.int b])),none,none,none,none,none]) ?_ λN hN=>?_;rotate_left
 .walk_at "rs";refine ⟨λ_=>?_,λhw6=>⟨ns,2,rfl,hl,⟨by decide,by decide⟩,λz hz=>?_⟩⟩
  .refine hN _ ⟨_,_,⟨?_,?_,?_,?_,.inr ⟨?_,?_⟩⟩,rfl⟩<;>split<;>lia
  .walk_at "rs";refine ⟨⟨by decide,by decide⟩,by decide,λ_=>⟨ns,3,rfl,hl,⟨by decide,by decide⟩,λy hy=>?_⟩,λ_=>hN _ ⟨a,b,⟨hab.1,hab.2.1,hab.2.2.1,hab.2.2.2,.inl (by have:=of_decide_eq_false hw6;lia)⟩,rfl⟩⟩;walk_at "rs";exact ⟨by decide,hN _ ⟨_,_,⟨by lia,by lia,by lia,by lia,.inl (by have:=of_decide_eq_false hw6;lia)⟩,rfl⟩⟩
 clear hab a b;rintro ρ ⟨a,b,⟨ha,ha2,hb,hb2,hsm⟩,rfl⟩;refine bI (λρ=>∃m:Int,(1<=m/\m<=1000000000)/\ρ = [some (B.p (D.scr ns)),some (B.p (D.int n)),some (B.p (D.int low)),some (B.p (D.int wide)),some (B.p (D.int g)),some (B.p (D.lst [D.int a,D.int b])),some (B.p (D.int m)),none,none,none,none]) ?_ λN hN=>?_;rotate_left
 .walk_at "rs";refine ⟨⟨by decide,by decide,by decide⟩,ns,4,rfl,hl,⟨by decide,by decide⟩,λz hz=>?_⟩;walk_at "rs";refine ⟨by decide,?_⟩;have:z % 2=0\/z % 2=1:=by lia
  rcases this with e | e<;>rw[e]
  .exact ⟨_,rfl,hN _ ⟨4,⟨by decide,by decide⟩,rfl⟩⟩
  .exact ⟨_,rfl,hN _ ⟨_,⟨by decide,by decide⟩,rfl⟩⟩
 rintro ρ ⟨m,hm,rfl⟩;refine bI (λρ=>ρ = [some (B.p (D.scr ns)),some (B.p (D.int n)),some (B.p (D.int low)),some (B.p (D.int wide)),some (B.p (D.int g)),some (B.p (D.lst [D.int a,D.int b])),some (B.p (D.int m)),some (B.o (D.lst [])),none,none,none]) ?_ λN hN=>?_;rotate_left
 .walk_at "rs";exact hN _ rfl
 rintro ρ rfl;have sl:sizeLine=16777216:=sizeLine_eq;refine bI (λρ=>∃(ss:List S3) (a8 a9:Option B),(∀s∈ss,dB s/\(wide=6->s.2.1 - s.1<=6))/\ss.length=(a+b).toNat/\ρ = [some (B.p (D.scr ns)),some (B.p (D.int n)),some (B.p (D.int low)),some (B.p (D.int wide)),some (B.p (D.int g)),some (B.p (D.lst [D.int a,D.int b])),some (B.p (D.int m)),some (B.o (D.lst (ss.map d3))),a8,a9,none]) ?_ λN hN=>?_;rotate_left
 .walk_at "rs";refine ⟨⟨by lia,by lia⟩,?_⟩;refine dP (λi ρ=>∃(ss:List S3) (a8 a9:Option B),(∀s∈ss,dB s/\(wide=6->s.2.1 - s.1<=6))/\ss.length=i/\ρ = [some (B.p (D.scr ns)),some (B.p (D.int n)),some (B.p (D.int low)),some (B.p (D.int wide)),some (B.p (D.int g)),some (B.p (D.lst [D.int a,D.int b])),some (B.p (D.int m)),some (B.o (D.lst (ss.map d3))),a8,a9,none]) ⟨[],none,none,λs h=>(nomatch h),rfl,rfl⟩ ?_ ?_
  .rintro i x ρ hx ⟨ss,a8,a9,hs,hlen,rfl⟩;obtain ⟨hi,rfl⟩:=dg hx;rw[Int.zero_add];walk_at "rs";refine ⟨λz=>(by have:=Option.some.inj z;lia),xT ?_⟩;walk_at "rs";refine ⟨ns,20+(i:Int),rfl,hl,⟨by lia,by lia⟩,λz hz=>?_⟩;walk_at "rs";refine ⟨_,low,wide,m,rfl,h0,hw,hm.1,hm.2,λs ho ho6=>?_⟩;walk_at "rs";rw[Lk];refine ⟨by lia,ss++[s],_,_,λt ht=>?_,by rw[LA,hlen];rfl,by rw[LI];rfl⟩;rcases mem_append.mp ht with ht | ht
   .exact hs t ht
   .rw[mem_singleton.mp ht];exact ⟨ho,ho6⟩
  .rintro ρ ⟨ss,a8,a9,hs,hlen,rfl⟩;rw[dh] at hlen;exact hN _ ⟨ss,a8,a9,hs,hlen,rfl⟩
 rintro ρ ⟨ss,a8,a9,hs,hlen,rfl⟩;obtain ⟨k,rfl⟩ : ∃k:Nat,a=(k:Int):=⟨a.toNat,(Int.toNat_of_nonneg ha).symm⟩
 walk_at "rs";rw[sy,<-map_take];refine kj FI (λs=>d3 (s.2.1,s.1,s.2.2)) (by rw[length_take];lia) (λs _=>?_) ?_
 .repeat (first | dsimp only[d3] | walk_at "rs1" | walk_at "rsx")
 walk_at "rs";rw[lO,<-map_drop];have e:=q g ((ss.take k).map λs=>(s.2.1,s.1,s.2.2)) (ss.drop k) ⟨⟨hg.1,hg.2,by rw[Lk,length_take];lia,by rw[length_drop];lia,λs h=>by
  obtain ⟨t,ht,rfl⟩:=Lx.mp h;obtain ⟨o1,o2,o3,o4,o5⟩:=(hs t (mem_of_mem_take ht)).1;exact ⟨o1,o2,o3,o4,o5⟩,λs h=>(hs s (mem_of_mem_drop h)).1⟩,by
  rcases hsm with w6 | ⟨h1,h2⟩
  .refine .inr ⟨λs h=>?_,λs h=>(hs s (mem_of_mem_drop h)).2 w6⟩;obtain ⟨t,ht,rfl⟩:=Lx.mp h;exact (hs t (mem_of_mem_take ht)).2 w6
  .exact .inl ⟨by rw[Lk,length_take];lia,by rw[length_drop];lia⟩⟩
 unfold dW at e;rw[map_map] at e;exact e
noncomputable def dR (r:R3):D:=.lst [.int r.1,.int r.2.1,.int r.2.2]
noncomputable def jS:DR:=λds P=>∃(ss:List S3) (z:Int),ds = [.lst (ss.map d3),.int z]/\zm ss/\∀rs:List R3,rs.Perm (kK 0 ss)->P (.n false (rs.map dR))
theorem tI (T:oG K mg)(F:lH K "_law_steps" "_law_steps" eD f fd):cH P w K mg base iX 1 f fd ["streams","number"] (dN K jS):=by
 refine tF F e6 (λds Q h=>by obtain ⟨ss,z,rfl,ok,q⟩:=h;rfl) λcdv A outer s H E hr=>⟨_,(ai (Bm (i:=2) e6.nd rfl (Or.inl rfl))
   (ai (lZ (g:=(.n 3)) PassesOwn.never rfl (lX (by rfl) T.ix (aa (aD kT (by rfl) T.nB PySem.boot_len (aa (dv 0) aj)) aj)) (au (i:=3) e6.nd rfl (Or.inl rfl)) (ak (lZ (g:=(.n 4)) PassesOwn.never rfl (oY (by rfl) T.ix (aa (aD (xE rfl) (by rfl) T.oK boot_min (aa (cy (aP (dv 0) (dv 3)) iD (bh ae)) aj)) (aa (aD (xD rfl) (by rfl) T.jo boot_max (aa (cy (aP (dv 0) (dv 3)) iD (bh ae)) aj)) aj))) (au (i:=4) e6.nd rfl (Or.inl rfl)) (ak (wA (i:=2) rfl (by walk_at "v") (fH (aa (dv 3) (aa (dv 4) (aa (aP (aP (dv 0) (dv 3)) ae) aj)))))))))
   (ai (yc (i:=5) e6.nd rfl (Or.inl rfl) (ar bK (dv 1) (aD (iy rfl) (by rfl) T.jo boot_max (aa ae (aa (aD kT (by rfl) T.nB PySem.boot_len (aa (dv 2) aj)) aj)))))
   (ak (zK (i:=2) (m:=5) rfl (by walk_at "v") rfl (by walk_at "v")))))),λds Q h=>?_⟩
 obtain ⟨ss,z,rfl,ok,q⟩:=h;have sl:sizeLine=16777216:=sizeLine_eq;have hn:=ok.n;refine bI (λρ=>ρ = [some (.p (.lst (ss.map d3))),some (.p (.int z)),some (.n false []),none,none,none]) ?_ λN hN=>?_;rotate_left
 .walk_at "rs";exact hN _ rfl
 rintro ρ rfl;refine bI (λρ=>∃a3 a4,ρ = [some (.p (.lst (ss.map d3))),some (.p (.int z)),some (.n false ((kK 0 ss).map dR)),a3,a4,none]) ?_ λN hN=>?_;rotate_left
 .walk_at "rs";rw[Lk];refine ⟨⟨by lia,by lia⟩,?_⟩;refine dP (λi ρ=>∃a3 a4,ρ = [some (.p (.lst (ss.map d3))),some (.p (.int z)),some (.n false ((kK 0 (ss.take i)).map dR)),a3,a4,none]) ⟨none,none,rfl⟩ ?_ ?_
  .rintro i x ρ hx ⟨a3,a4,rfl⟩;obtain ⟨hi,rfl⟩:=dg hx;rw[Int.zero_add];have hi':i<ss.length:=by lia
   have ec:=Lm hi';have hw:=ok.w _ (List.getElem_mem hi');generalize ss[i]=s at ec hw;have g1:jk (ss.map d3) ((i:Nat):Int)=some (d3 s):=sj ec;have tl:(ss.take i).length=i:=by rw[length_take];lia
   have l1:=kC (ss:=ss.take i) (n:=0) λs hs=>ok.w s (mem_of_mem_take hs);rw[tl] at l1;repeat (first | dsimp only[d3] | walk_at "rs1" | walk_at "rsx" | set_option simprocs false in simp only[g1])
   refine ⟨by decide,⟨[s.1,s.2.1],rfl,by simp,λm hm hle=>⟨by decide,[s.1,s.2.1],rfl,by simp,λM hM hge=>?_⟩⟩⟩;have em:m=cu s:=by
    unfold cu;have h1:=hle s.1 (.head _);have h2:=hle s.2.1 (.tail _ (.head _));simp only[Lz,List.not_mem_nil,or_false] at hm;lia
   have eM:M=eS s:=by
    unfold eS;have h1:=hge s.1 (.head _);have h2:=hge s.2.1 (.tail _ (.head _));simp only[Lz,List.not_mem_nil,or_false] at hM;lia
   subst em;subst eM;walk_at "rs";refine ⟨⟨by lia,by lia,by lia,by lia⟩,?_⟩;refine dP (λj ρ=>∃a4,ρ = [some (.p (.lst (ss.map d3))),some (.p (.int z)),some (.n false ((kK 0 (ss.take i)++lz i s j).map dR)),some (.p (.int (i:Nat))),a4,none]) ⟨a4,by rw[show lz i s 0 = [] from rfl,append_nil]⟩ ?_ ?_
   .rintro j y ρ hy ⟨b4,rfl⟩;obtain ⟨hj,rfl⟩:=dg hy;repeat (first | dsimp only[d3] | walk_at "rs1" | walk_at "rsx" | set_option simprocs false in simp only[g1])
    rw[Au,<-LX,LI (l₂:=[_])];refine ⟨rfl,?_,_,rfl⟩;rw[Lk,LA,show (lz i s j).length=j by unfold lz;rw[Lk,length_range]];lia
   .rintro ρ ⟨b4,rfl⟩;rw[dh,take_snoc ec,qb,tl,Nat.zero_add];exact ⟨_,_,rfl⟩
  .rintro ρ ⟨a3,a4,rfl⟩;rw[dh,show (((ss.length:Nat):Int)).toNat=ss.length from rfl,List.take_length];exact hN _ ⟨_,_,rfl⟩
 rintro ρ ⟨a3,a4,rfl⟩;walk_at "rs";have l1:=kC (ss:=ss) (n:=0) ok.w;rw[Lk];have hM:0<(if ((kK 0 ss).length:Int)>1 then ((kK 0 ss).length:Int) else 1):=by split<;>lia
 generalize (if ((kK 0 ss).length:Int)>1 then ((kK 0 ss).length:Int) else 1)=M at hM;refine ⟨hM,rfl,(z % M).toNat,(Int.toNat_of_nonneg (Int.emod_nonneg _ (by lia))).symm,by lia,?_⟩;rw[<-map_drop,<-map_take,<-LI];refine q _ ?_;have:=perm_append_comm (l₁:=(kK 0 ss).drop (z % M).toNat) (l₂:=(kK 0 ss).take (z % M).toNat);rw[take_append_drop] at this;exact this
theorem FK (x y:R3)(h:dR x=dR y):x=y:=by
 obtain ⟨a,b,c⟩:=x;obtain ⟨a',b',c'⟩:=y;unfold dR at h;simp only[D.lst.injEq,List.cons.injEq,D.int.injEq,and_true] at h;obtain ⟨rfl,rfl,rfl⟩:=h;rfl
theorem yS {hs:List S3}(h:∀s∈hs,g8 s):∀s∈hs,0<s.2.2/\cu s<=eS s:=λs hs=>by
 have a:=(h s hs).r0;have b:=(h s hs).lt;unfold cu eS;lia
theorem vF {cs:List S3}(h:∀s∈cs,dB s):∀s∈cs,0<s.2.2/\cu s<=eS s:=λs hs=>by
 have a:=(h s hs).r0;have b:=(h s hs).lt;unfold cu eS;lia
theorem oD {ss:List S3}{rs:List R3}(h:Jq ss rs)(k:K2):k∈rs.map bQ↔(av ss k).isSome=true:=by
 rw[<-eT];constructor
 .intro z;obtain ⟨p,hp,rfl⟩:=Lx.mp z;rw[(h.vK p.1 p.2).mp hp];rfl
 .intro z;obtain ⟨v,hv⟩:=Option.isSome_iff_exists.mp z;exact Lx.mpr ⟨(k,v),(h.vK k v).mpr hv,rfl⟩
theorem vo:∀l:List Int,jL (l.map D.int)=true
 | []=>ij
 | x::l=>by rw[LK,ig,vo l,gO];rfl
theorem uK:∀l:List Int,jf (l.map D.int)<=1
 | []=>by rw[List.map_nil,uL];exact LS _
 | x::l=>by
  have h:=uK l;rw[LK,rm,ou];lia
theorem Ej {ns:List Int}{Q:B->Prop}(h:Q (.p (.bl (!ns.isEmpty)))):Jr (.lst (ns.map D.int)) (.lst []) Q:=by
 refine ⟨⟨by rw[yI];exact vo ns,by rw[yI,ij],by rw[Dw];have:=uK ns;lia⟩,?_⟩;have e:bL (.lst (ns.map D.int)) (.lst [])=ns.isEmpty:=by
  unfold bL;cases ns with
  | nil=>rfl
  | cons p r=>exact pN (by simp)
 rw[e];exact h
theorem CY (n c:Int):∃pt,jk [D.int n,D.int (n / 2),D.int 0] (c % 3)=some (.int pt)/\(pt=n\/(c % 3=1/\pt=n / 2)\/pt=0):=by
 have:c % 3=0\/c % 3=1\/c % 3=2:=by lia
 rcases this with e | e | e<;>rw[e]
 .exact ⟨n,Ib _ _,.inl rfl⟩
 .exact ⟨n / 2,Ic _ _ _,.inr (.inl ⟨rfl,rfl⟩)⟩
 .exact ⟨0,Ie _ _ _ _,.inr (.inr rfl)⟩
theorem JO {t:xq}{j:Nat}{C:ax->Prop}{ρ:ax}(h:∀N:ax->Prop,(∀ρ,C ρ->N ρ)->t j N ρ):t j C ρ:=h C λ_ z=>z
inductive Fw (g:Int)(hs cs:List S3)(keys:List K2)(rc:List R3)(w:K2->Nat)(z:Int)(ns:List Int)(k:Nat)(ρ:ax):Prop
 | mk (rs:List R3) (ck:cn) (ps al:List P5) (y:Nat->Option B) (O:Out g hs cs keys (rc.map jI) w k rs ck ps al) (e:ρ = [some (.p (dW g hs cs)),some (.p (.int z)),some (.p (.lst (ns.map D.int))),some (.o (.lst (al.map d5))),some (.n false (rs.map dR)),some (.p (.lst (rc.map dR))),y 6,y 7,y 8,y 9,y 10,y 11,y 12,y 13]):Fw g hs cs keys rc w z ns k ρ
inductive Fs (g:Int)(hs cs:List S3)(keys:List K2)(rc:List R3)(b:Nat)(z:Int)(ns:List Int)(k:Nat)(c:R3)(pre post:cn)(cell:Int)(j:Nat)(ρ:ax):Prop
 | mk (rs:List R3) (ps al:List P5) (need:Int) (m a:Nat) (y:Nat->Option B) (I:AW g hs cs keys (bQ c) pre post (fM pre) b cell j rs ps al need m a) (e:ρ = [some (.p (dW g hs cs)),some (.p (.int z)),some (.p (.lst (ns.map D.int))),some (.o (.lst (al.map d5))),some (.n false (rs.map dR)),some (.p (.lst (rc.map dR))),some (.p (.int (k:Nat))),some (.p (.int c.1)),some (.p (.int c.2.1)),some (.p (.int need)),some (.p (.int cell)),y 11,y 12,y 13]):Fs g hs cs keys rc b z ns k c pre post cell j ρ
noncomputable def jR:DR:=λds P=>∃(g:Int) (hs cs:List S3) (z:Int) (ns:List Int),ds = [dW g hs cs,.int z,.lst (ns.map D.int)]/\Fy g hs cs/\ns.length<=63/\∀ps:List P5,Looks g hs cs ps->ps.length<=9990->P (.o (.lst (ps.map d5)))
theorem tH (T:oG K mg)(F_law_steps:Fn P w K mg base "_law_steps" 1 ["streams","number"] (dN K jS))(F:lH K "_law_drawn" "_law_drawn" de f fd):cH P w K mg base iX 2 f fd ["works","number","cells"] (dN K jR):=by
  refine tF F aT (λds Q h=>by obtain ⟨g,hs,cs,z,ns,rfl,wk,hl,q⟩:=h;rfl) λcdv A outer s H E hr=>⟨_,(ai (iE (i:=3) aT.nd rfl (Or.inl rfl) (fH aj))
      (ai (iE (i:=4) aT.nd rfl (Or.inl rfl) (br F_law_steps (hr.mono (by decide)) (by rfl) (aa (aP (dv 0) ae) (aa (dv 1) aj))))
      (ai (aE (i:=5) aT.nd rfl (Or.inl rfl) (br F_law_steps (hr.mono (by decide)) (by rfl) (aa (aP (dv 0) ae) (aa (ar dj (dv 1) ae) aj))))
      (ai (lZ (g:=(.n 6)) PassesOwn.never rfl (lX (by rfl) T.ix (aa (aD kT (by rfl) T.nB PySem.boot_len (aa (dv 5) aj)) aj)) (au (i:=6) aT.nd rfl (Or.inl rfl)) (ai (FP (g:=(.t [7,8,9])) (aP (dv 5) (dv 6)) (fI rfl (az (au (i:=7) aT.nd rfl (Or.inl rfl)) (az (au (i:=8) aT.nd rfl (Or.inl rfl)) (az (au (i:=9) aT.nd rfl (Or.inl rfl)) dS)))))
      (ai (aE (i:=10) aT.nd rfl (Or.inl rfl) ae)
      (ai (cV (aO (tD hr) (dv 2) (fH aj) (aF _)) (ak (aE (i:=10) aT.nd rfl (Or.inl rfl) (aP (dv 2) (ar bK (dv 6) (aD kT (by rfl) T.nB PySem.boot_len (aa (dv 2) aj)))))) bt)
      (ai (DD (i:=4) (j:=11) (by decide) PassesOwn.never rfl rfl (by walk_at "v") (au (i:=11) aT.nd rfl (Or.inl rfl)) (lT (wu (m:=12) (by decide) (by decide) aT.nd rfl (Or.inl rfl) (aP (fH (aa (dv 9) (aa (ar dj (dv 9) ae) (aa ae aj)))) (ar bK (ar aM (dv 10) (aP (dv 11) ae)) ae)))
      (xV (HJ (DW.dt (jE (aO yJ (ar jM (aP (dv 11) ae) (dv 8)) (aP (dv 0) ae) (aF _)) (j9 (aO nK (aD (lM rfl) (by rfl) T.oK boot_min (aa (dv 12) (aa (aP (dv 11) ae) aj))) ae (aF _))))) (lT (wu (m:=13) (by decide) (by decide) aT.nd rfl (Or.inl rfl) (aD (lM rfl) (by rfl) T.oK boot_min (aa (dv 12) (aa (aP (dv 11) ae) aj))))
      (lT (FL (m:=3) (by decide) (by decide) rfl (by walk_at "v") (d6 (aa (aP (dv 11) ae) (aa (aP (dv 11) ae) (aa (dv 7) (aa (dv 8) (aa (dv 13) aj)))))))
      (lT (FN (by decide) rfl (by walk_at "v") ae (ar jM (aP (dv 11) ae) (dv 13)))
      (xV (wu (m:=9) (by decide) (by decide) aT.nd rfl (Or.inl rfl) (ar jM (dv 9) (dv 13))))))) Dr))))
      (ak (cV (aO nK (dv 9) ae (aF _)) (ak (sJ (i:=3) rfl (by walk_at "v") (d6 (aa (jB ae) (aa (jB ae) (aa (dv 7) (aa (dv 8) (aa (dv 9) aj)))))))) bt)))))))
      (ak (aZ (ar aM (dv 3) (hO (g:=(.t [0,1,2])) (tc:=(gc (i6 _ (bq 2) (dC _)))) (te:=(fP (aV (bq 0) (aV (bq 1) (aV (rj gZ (dC _)) (aV (rj gZ (dC _)) (aV (bq 2) eN))))))) (sc0:=af de) (N0:=["works","number","cells","passes","hots","colds","k","taker","into","need","cell","one","part","heat"]) ["giver","at","left"] [none,none,none] rfl (bX (dv 4)) (λ_ _ _ _ _=>(fI rfl (az (au (i:=0) (show (["giver","at","left"]:List Str).Nodup by decide +kernel) rfl (Or.inl rfl)) (az (au (i:=1) (show (["giver","at","left"]:List Str).Nodup by decide +kernel) rfl (Or.inl rfl)) (az (au (i:=2) (show (["giver","at","left"]:List Str).Nodup by decide +kernel) rfl (Or.inl rfl)) dS))))) (λ_ _ _ _ _=>(lW (aO nK (dv 2) ae (aF _)))) (λ_ _ _ _ _=>(d6 (aa (dv 0) (aa (dv 1) (aa (jB ae) (aa (jB ae) (aa (dv 2) aj))))))))))))))),λds Q h=>?_⟩
  obtain ⟨g,hs,cs,z,ns,rfl,wk,hl,q⟩:=h;have ok:=wk.ok;have sl:sizeLine=16777216:=sizeLine_eq;have oh:=xj ok.zR ok.nh;have oc:=t4 ok.lN ok.nc;refine bI (λρ=>ρ = [some (.p (dW g hs cs)),some (.p (.int z)),some (.p (.lst (ns.map D.int))),some (.o (.lst [])),none,none,none,none,none,none,none,none,none,none]) ?_ λN hN=>?_;rotate_left
  · walk_at "rs";exact hN _ rfl
  rintro ρ rfl;refine bI (λρ=>∃rs:List R3,rs.Perm (kK 0 hs)/\ρ = [some (.p (dW g hs cs)),some (.p (.int z)),some (.p (.lst (ns.map D.int))),some (.o (.lst [])),some (.n false (rs.map dR)),none,none,none,none,none,none,none,none,none]) ?_ λN hN=>?_;rotate_left
  · repeat (first | dsimp only[dW] | walk_at "rs1" | walk_at "rsx")
    exact ⟨hs,z,rfl,oh,λrs hp=>hN _ ⟨rs,hp,rfl⟩⟩
  rintro ρ ⟨rs,hpr,rfl⟩;refine bI (λρ=>∃rc:List R3,rc.Perm (kK 0 cs)/\ρ = [some (.p (dW g hs cs)),some (.p (.int z)),some (.p (.lst (ns.map D.int))),some (.o (.lst [])),some (.n false (rs.map dR)),some (.p (.lst (rc.map dR))),none,none,none,none,none,none,none,none]) ?_ λN hN=>?_;rotate_left
  · repeat (first | dsimp only[dW] | walk_at "rs1" | walk_at "rsx")
    exact ⟨⟨by decide,by decide⟩,cs,z / 1000,rfl,oc,λrc hp=>hN _ ⟨rc,hp,rfl⟩⟩
  rintro ρ ⟨rc,hpc,rfl⟩;have Rh:=CJ (yS ok.zR) hpr;have Rc:=CJ (vF ok.lN) hpc;obtain ⟨w,hw,hsum⟩:=HQ (g:=g) (rs:=rs) (rc:=rc) ok.g0 oh.w oc.w ok.nh ok.nc hpr hpc (wk.sm.imp id (by rintro ⟨a,b⟩;exact ⟨λs h=>by have:=a s h;have:=(ok.zR s h).lt;unfold cu eS;lia,λs h=>by have:=b s h;have:=(ok.lN s h).lt;unfold cu eS;lia⟩));obtain ⟨keys,hkeys⟩ : ∃keys,keys=rs.map bQ:=⟨_,rfl⟩
  rw[<-hkeys] at hw hsum;have S0:Out g hs cs keys (rc.map jI) w 0 rs (rc.map jI) [] []:=Out.start Rh Rc (λs h=>(yS ok.zR s h).1) (λs h=>(vF ok.lN s h).1) hkeys.symm;have lc:=kC (n:=0) oc.w;have lh:=kC (n:=0) oh.w;have nc:=ok.nc;have nh:=ok.nh;have hlc:rc.length<=2400:=by rw[hpc.length_eq];lia
  have hlk:keys.length<=2400:=by rw[hkeys,Lk,hpr.length_eq];lia
  have kn:keys.Nodup:=by rw[hkeys];exact Rh.gd
  have kcn:((rc.map jI).map (·.1)).Nodup:=by rw[eT];exact Rc.gd
  refine bI (Fw g hs cs keys rc w z ns rc.length) ?_ λN hN=>?_;rotate_left
  · repeat (first | walk_at "rs2" | walk_at "rsx")
    rw[Lk];refine ⟨⟨by lia,by lia⟩,?_⟩;refine dP (Fw g hs cs keys rc w z ns) ⟨rs,rc.map jI,[],[],λ_=>none,S0,rfl⟩ ?_ ?_
    · rintro k x ρ hx ⟨rs,ck,ps,al,y,O,rfl⟩;obtain ⟨hk,rfl⟩:=dg hx;rw[Int.zero_add];have hk':k<rc.length:=by lia
      have ec:=Lm hk';generalize rc[k]=c at ec;have g1:jk (rc.map dR) ((k:Nat):Int)=some (dR c):=sj ec;have mc:bQ c∈rc.map bQ:=Lx.mpr ⟨c,Ls ec,rfl⟩;have rb:=(oD Rc _).mp mc;have hc0:(rc.map jI)[k]?=some (bQ c,c.2.2):=by rw[LC,ec];rfl
      have cb:0<=c.2.2/\c.2.2<=1000000000:=by
        obtain ⟨s,hs',h0,_,_,e⟩:=fx ((Rc.vK _ _).mp (Lx.mpr ⟨c,Ls ec,rfl⟩));have:=(ok.lN s (gz hs').2.2).r1;have e:c.2.2=s.2.2:=e;lia
      dsimp only[Tg.d,dput];refine bI (λρ=>ρ = [some (.p (dW g hs cs)),some (.p (.int z)),some (.p (.lst (ns.map D.int))),some (.o (.lst (al.map d5))),some (.n false (rs.map dR)),some (.p (.lst (rc.map dR))),some (.p (.int (k:Nat))),some (.p (.int c.1)),some (.p (.int c.2.1)),some (.p (.int c.2.2)),y 10,y 11,y 12,y 13]) ?_ λN hN=>?_;rotate_left
      · repeat (first | dsimp only[dR] | walk_at "rs1" | walk_at "rsx" | set_option simprocs false in simp only[g1])
        exact hN _ rfl
      rintro ρ rfl;refine bI (λρ=>∃cell:Int,ρ = [some (.p (dW g hs cs)),some (.p (.int z)),some (.p (.lst (ns.map D.int))),some (.o (.lst (al.map d5))),some (.n false (rs.map dR)),some (.p (.lst (rc.map dR))),some (.p (.int (k:Nat))),some (.p (.int c.1)),some (.p (.int c.2.1)),some (.p (.int c.2.2)),some (.p (.int cell)),y 11,y 12,y 13]) ?_ λN hN=>?_;rotate_left
      · walk_at "rs";exact hN _ ⟨0,rfl⟩
      rintro ρ ⟨cell0,rfl⟩;refine bI (λρ=>∃cell:Int,ρ = [some (.p (dW g hs cs)),some (.p (.int z)),some (.p (.lst (ns.map D.int))),some (.o (.lst (al.map d5))),some (.n false (rs.map dR)),some (.p (.lst (rc.map dR))),some (.p (.int (k:Nat))),some (.p (.int c.1)),some (.p (.int c.2.1)),some (.p (.int c.2.2)),some (.p (.int cell)),y 11,y 12,y 13]) ?_ λN hN=>?_;rotate_left
      · walk_at "rs";refine Ej ?_;walk_at "rs";rw[Lk];refine ⟨λh=>?_,λ_=>hN _ ⟨_,rfl⟩⟩;have hp:0<ns.length:=by
          cases ns with
          | nil=>cases h
          | cons _ _=>exact Nat.zero_lt_succ _
        have e1:=Int.emod_nonneg (k:Int) (b:=(ns.length:Int)) (by lia);have e2:=Int.emod_lt_of_pos (k:Int) (b:=(ns.length:Int)) (by lia);refine ⟨by lia,?_⟩;generalize (k:Int) % (ns.length:Int)=y at e1 e2;obtain ⟨i,rfl⟩ : ∃i:Nat,y=(i:Int):=⟨y.toNat,(Int.toNat_of_nonneg e1).symm⟩
        have hi:=Lm (l:=ns) (i:=i) (by lia);exact ⟨_,sj hi,hN _ ⟨_,rfl⟩⟩
      rintro ρ ⟨cell,rfl⟩;obtain ⟨dec,k1,k2,I0⟩:=O.into (cell:=cell) kcn hc0 cb.1 cb.2;have hl0:ck.length=rc.length:=by have:=congrArg List.length O.kc;rwa [Lk,Lk,Lk] at this
      have pl:(ck.take k).length=k:=by rw[length_take];lia
      have ep:(ck.take k).map (·.1)=((rc.map jI).take k).map (·.1):=by rw[map_take,O.kc,map_take]
      have eq:ck.drop (k+1)=(rc.map jI).drop (k+1):=by
        have:=congrArg (List.drop 1) O.rest;rw[List.drop_drop,List.drop_drop] at this;exact this
      have pc0:∀p∈ck.take k,0<=p.2:=λp h=>O.c0 p (mem_of_mem_take h);have qc0:∀p∈ck.drop (k+1),0<=p.2:=λp h=>O.c0 p (mem_of_mem_drop h);have kk:∀v:Int,(ck.take k++(bQ c,v)::ck.drop (k+1)).map (·.1)=(rc.map jI).map (·.1):=λv=>by
        rw[<-O.kc];conv=>rhs;rw[dec]
        rw[LI,LI];rfl
      have bk:keys.length+gE w (((rc.map jI).take k).map (·.1))<=9990:=by
        refine Nat.le_trans (Nat.add_le_add_left ?_ _) hsum;rw[<-eT rc];conv=>rhs;rw[<-take_append_drop k (rc.map jI)]
        rw[LI,v5];lia
      refine bI (Fs g hs cs keys rc (keys.length+gE w (((rc.map jI).take k).map (·.1))) z ns k c (ck.take k) (ck.drop (k+1)) cell keys.length) ?_ λN hN=>?_;rotate_left
      · have hlr : (rs.map dR).length = keys.length := by rw [Lk, <- Lk (f := bQ), O.kr]
        unfold A6;dsimp only[aG];refine ⟨(by show 11<14;decide),Fs g hs cs keys rc (keys.length+gE w (((rc.map jI).take k).map (·.1))) z ns k c (ck.take k) (ck.drop (k+1)) cell,⟨rs,ps,al,c.2.2,0,0,y,I0,rfl⟩,?_,?_⟩
        · rw[hlr];clear I0;rintro j ρ hj ⟨rs,ps,al,need,m,a,y,I,rfl⟩;have lr2:(rs.map dR).length=keys.length:=by rw[Lk,<-Lk (f:=bQ),I.kr]
          refine ⟨⟨_,rfl,lr2⟩,?_⟩;have hjr:j<rs.length:=by rw[Lk] at lr2;lia
          have hr:=Lm hjr;generalize rs[j]=r at hr;have ga:(rs.map dR).getD j D.non=dR r:=by rw[getD_eq_getElem?_getD,LC,hr];rfl
          obtain ⟨pt,hpt,hkind⟩:=CY need (cell+r.2.1);have hct:=I.ct;have hm1:=I.m1;have r0:=I.r0 r (Ls hr);have n0:=I.n0;refine JO λNX hNX=>?_;repeat (first | dsimp only[dW,dR] | walk_at "rs1" | walk_at "rsx" | set_option simprocs false in simp only[ga])
          refine ⟨⟨by decide,by decide⟩,by decide,.int pt,hpt,rfl,λh1=>⟨λh2=>?_,λh2=>hNX _ ⟨rs,ps,al,need,m,a,wv 11 [_,_,_],I.skip,rfl⟩⟩,λh1=>⟨λz=>(nomatch z),λ_=>hNX _ ⟨rs,ps,al,need,m,a,wv 11 [_,_,_],I.skip,rfl⟩⟩⟩;have h1:=of_decide_eq_true h1;have h2:=of_decide_eq_true h2;walk_at "rs";have hx:(if r.2.2<pt then r.2.2 else pt)<=r.2.2/\(if r.2.2<pt then r.2.2 else pt)<=pt/\((if r.2.2<pt then r.2.2 else pt)=r.2.2\/(if r.2.2<pt then r.2.2 else pt)=pt):=by split<;>lia
          generalize (if r.2.2<pt then r.2.2 else pt)=x at h2 hx;have a2:a<=1:=by rcases I.a1 with z | z<;>lia
          obtain ⟨m',a',I'⟩:=I.pass (x:=x) kn k1 k2 (λy hy=>(oD Rh y).mp (by rw[<-hkeys];exact hy)) rb hr (by lia) (by lia) (by lia) (by show c.2.1+g<=r.2.1;lia) (by
            rcases hx.2.2 with e | e
            · exact .inl e
            · rcases hkind with y | y | y
              · exact .inr (.inl (by lia))
              · exact .inr (.inr ⟨y.1,by lia⟩)
              · lia)
          rw[Lk];refine ⟨rfl,rfl,by lia,rfl,_,2,by rw[LC,hr];rfl,rfl,rfl,hNX _ ⟨rs.set j (r.1,r.2.1,r.2.2 - x),_,al++[(r.1,r.2.1,c.1,c.2.1,x)],_,m',a',wv 11 [none,some (.p (.int pt)),some (.p (.int x))],I',?_⟩⟩;rw[LI,map_set];rfl
        · rw[hlr];rintro ρ ⟨rs,ps,al,need,m,a,y,I,rfl⟩;exact hN _ ⟨rs,ps,al,need,m,a,y,I,rfl⟩
      rintro ρ ⟨rs,ps,al,need,m,a,y,I,rfl⟩;have hct:=I.ct;have hm1:=I.m1;have n0:=I.n0;walk_at "rs";rw[Lk];have a2:a<=1:=by rcases I.a1 with z | z<;>lia
      refine ⟨λh=>⟨by lia,rs,_,ps,al++[(-1,-1,c.1,c.2.1,need)],wv 6 [_,_,_,_,_,_,_,_],I.out hc0 pl (kk _) eq ep pc0 qc0 (hw _ _ mc) ?_,by rw[LI];rfl⟩,λh=>⟨rs,_,ps,al,wv 6 [_,_,_,_,_,_,_,_],I.out hc0 pl (kk _) eq ep pc0 qc0 (hw _ _ mc) ?_,rfl⟩⟩
      · rw[if_pos (of_decide_eq_true h)];rfl
      · rw[if_neg (of_decide_eq_false h),append_nil]
    · rintro ρ ⟨rs,ck,ps,al,y,O,rfl⟩;rw[dh] at O;exact hN _ ⟨rs,ck,ps,al,y,O,rfl⟩
  rintro ρ ⟨rs,ck,ps,al,y,O,rfl⟩;have O':Out g hs cs keys (rc.map jI) w (rc.map jI).length rs ck ps al:=by rw[Lk];exact O
  obtain ⟨L,hlen⟩:=O'.JQ kn kcn (λk=>by rw[hkeys];exact oD Rh k) (λk=>by rw[eT];exact oD Rc k);rw[eT] at hlen;walk_at "rs";refine yA FK (λr=>if 0<r.2.2 then some (d5 (r.1,r.2.1,-1,-1,r.2.2)) else none) (by rw[<-Lk (f:=bQ),O.kr];lia) (λr _=>?_) ?_
  · repeat (first | dsimp only[dR] | walk_at "rs1" | walk_at "rsx")
    refine ⟨λh=>?_,λh=>?_⟩
    · rw[if_pos (of_decide_eq_true h)];rfl
    · rw[if_neg (of_decide_eq_false h)]
  rw[ft (λr:R3=>0<r.2.2) λr=>d5 (r.1,r.2.1,-1,-1,r.2.2)];have eh:(rs.filter λr=>decide (0<r.2.2)).map (λr=>d5 (r.1,r.2.1,-1,-1,r.2.2))=(mm (rs.map jI)).map d5:=by
    unfold mm mE;rw[List.filter_map,map_map,map_map];rfl
  rw[eh];walk_at "rs";rw[Lk,Lk,<-LI];rw[LA] at hlen;exact ⟨by lia,q _ L (by rw[LA];lia)⟩
theorem Ik {α β:Type}{f g:α->β}{l:List α}(h:∀x∈l,f x=g x):l.map f=l.map g:=map_congr_left h
noncomputable def jQ:DR:=λds P=>∃g hs cs,ds = [dW g hs cs]/\hs.length<=12/\P (.o (.lst ((mW hs).map d3)))
theorem tG (T:oG K mg)(F:lH K "hot_bands" "hot_bands" dc f fd):cH P w K mg base iX 1 f fd ["works"] (dN K jQ):=by
 refine tF F tW (λds Q h=>by obtain ⟨g,hs,cs,rfl,hl,q⟩:=h;rfl) λcdv A outer s H E hr=>⟨_,(ak (aZ (hO (g:=(.t [0,1,2])) (tc:=bN) (te:=(fP (aV (bq 1) (aV (bq 0) (aV (bq 2) eN))))) (sc0:=af dc) (N0:=["works"]) ["start","goal","rate"] [none,none,none] rfl (bX (aP (dv 0) ae)) (λ_ _ _ _ _=>(fI rfl (az (au (i:=0) (show (["start","goal","rate"]:List Str).Nodup by decide +kernel) rfl (Or.inl rfl)) (az (au (i:=1) (show (["start","goal","rate"]:List Str).Nodup by decide +kernel) rfl (Or.inl rfl)) (az (au (i:=2) (show (["start","goal","rate"]:List Str).Nodup by decide +kernel) rfl (Or.inl rfl)) dS))))) (λ_ _ _ _ _=>dH) (λ_ _ _ _ _=>(d6 (aa (dv 1) (aa (dv 0) (aa (dv 2) aj)))))))),λds Q h=>?_⟩
 obtain ⟨g,hs,cs,rfl,hl,q⟩:=h;try dsimp only[jA,fB,jz,gL,e8,ju,je,fb,e9,gM,cP,ja,jr,i9,gH,eO,cR,eL,gI,jt,gJ,fA,bq,dC,i6,dI,qr,iA,iC,jb,gK,rj,gZ,fN,gG,lS,gc,jy,i8,ui,lQ,dD,eN,aV,fP,jw,dG,qZ,iB,rh,lP,kH,fz,nW,bV,cx,qt,kI,hE,jx,jv,bN,aG,dput,cc,jH,B.val,bu,Tg.d,putN,dE,gN,cY,cZ,cU,aB,cq,aK,bO,lE,sD,List.map,List.length,dW]
 refine ⟨_,rfl,?_⟩;refine pD (λx=>match x with | .tup [a,b,c]=>.tup [b,a,c] | d=>d) (by rw[Lk];lia) (λx hx=>?_) ?_
 .obtain ⟨y,hy,rfl⟩:=Lx.mp hx;rfl
 .rw[map_map];unfold mW at q;rw[map_map] at q;exact q
noncomputable def iK:DR:=λds P=>∃g hs cs,ds = [dW g hs cs]/\cs.length<=12/\P (.o (.lst ((fZ g cs).map d3)))
theorem qA (T:oG K mg)(F:lH K "cold_bands" "cold_bands" cJ f fd):cH P w K mg base iX 1 f fd ["works"] (dN K iK):=by
 refine tF F kR (λds Q h=>by obtain ⟨g,hs,cs,rfl,hl,q⟩:=h;rfl) λcdv A outer s H E hr=>⟨_,(ai (aE (i:=1) kR.nd rfl (Or.inr rfl) (aP (dv 0) ae))
   (ak (aZ (hO (g:=(.t [0,1,2])) (tc:=bN) (te:=(fP (aV (i6 _ (bq 0) (bq 3)) (aV (i6 _ (bq 1) (bq 3)) (aV (bq 2) eN))))) (sc0:=af cJ) (N0:=["works","gap"]) ["start","goal","rate","gap"] [none,none,none,some 1] rfl (bX (aP (dv 0) ae)) (λ_ _ _ _ _=>(fI rfl (az (au (i:=0) (show (["start","goal","rate","gap"]:List Str).Nodup by decide +kernel) rfl (Or.inl rfl)) (az (au (i:=1) (show (["start","goal","rate","gap"]:List Str).Nodup by decide +kernel) rfl (Or.inl rfl)) (az (au (i:=2) (show (["start","goal","rate","gap"]:List Str).Nodup by decide +kernel) rfl (Or.inl rfl)) dS))))) (λ_ _ _ _ _=>dH) (λ_ _ _ _ _=>(d6 (aa (ar aM (dv 0) (dv 3)) (aa (ar aM (dv 1) (dv 3)) (aa (dv 2) aj))))))))),λds Q h=>?_⟩
 obtain ⟨g,hs,cs,rfl,hl,q⟩:=h;try dsimp only[jA,fB,jz,gL,e8,ju,je,fb,e9,gM,cP,ja,jr,i9,gH,eO,cR,eL,gI,jt,gJ,fA,bq,dC,i6,dI,qr,iA,iC,jb,gK,rj,gZ,fN,gG,lS,gc,jy,i8,ui,lQ,dD,eN,aV,fP,jw,dG,qZ,iB,rh,lP,kH,fz,nW,bV,cx,qt,kI,hE,jx,jv,bN,aG,dput,cc,jH,B.val,bu,Tg.d,putN,dE,gN,cY,cZ,cU,aB,cq,aK,bO,lE,sD,List.map,List.length,dW]
 refine ⟨_,rfl,_,rfl,?_⟩;refine pD (λx=>match x with | .tup [.int a,.int b,c]=>.tup [.int (a+g),.int (b+g),c] | d=>d) (by rw[Lk];lia) (λx hx=>?_) ?_
 .obtain ⟨y,hy,rfl⟩:=Lx.mp hx;rfl
 .rw[map_map];unfold fZ at q;rw[map_map] at q;exact q
noncomputable def iL:DR:=λds P=>∃(bs:List S3) (L:Int),ds = [.lst (bs.map d3),.int L]/\bs.length<=12/\(∀b∈bs,0<=b.2.2/\b.2.2<=1000000000)/\P (.p (.int (above bs L)))
theorem qB (T:oG K mg)(F:lH K "heat_above" "heat_above" cK f fd):cH P w K mg base iX 1 f fd ["bands","level"] (dN K iL):=by
 refine tF F qG (λds Q h=>by obtain ⟨bs,L,rfl,hl,hb,q⟩:=h;rfl) λcdv A outer s H E hr=>⟨_,(ak (aZ (aD (wm rfl) (by rfl) T.AZ boot_sum (aa (hO (g:=(.t [0,1,2])) (tc:=bN) (te:=(i6 _ (bq 2) (qZ _ (aV (dC _) (aV (i6 _ (bq 1) (qZ _ (aV (bq 0) (aV (bq 3) eN)))) eN))))) (sc0:=af cK) (N0:=["bands","level"]) ["low","high","rate","level"] [none,none,none,some 1] rfl (bX (dv 0)) (λ_ _ _ _ _=>(fI rfl (az (au (i:=0) (show (["low","high","rate","level"]:List Str).Nodup by decide +kernel) rfl (Or.inl rfl)) (az (au (i:=1) (show (["low","high","rate","level"]:List Str).Nodup by decide +kernel) rfl (Or.inl rfl)) (az (au (i:=2) (show (["low","high","rate","level"]:List Str).Nodup by decide +kernel) rfl (Or.inl rfl)) dS))))) (λ_ _ _ _ _=>dH) (λ_ _ _ _ _=>(ar eV (dv 2) (aD (iy rfl) (by rfl) T.jo boot_max (aa ae (aa (ar jM (dv 1) (aD (iy rfl) (by rfl) T.jo boot_max (aa (dv 0) (aa (dv 3) aj)))) aj)))))) aj)))),λds Q h=>?_⟩
 obtain ⟨bs,L,rfl,hl,hb,q⟩:=h;try dsimp only[jA,fB,jz,gL,e8,ju,je,fb,e9,gM,cP,ja,jr,i9,gH,eO,cR,eL,gI,jt,gJ,fA,bq,dC,i6,dI,qr,iA,iC,jb,gK,rj,gZ,fN,gG,lS,gc,jy,i8,ui,lQ,dD,eN,aV,fP,jw,dG,qZ,iB,rh,lP,kH,fz,nW,bV,cx,qt,kI,hE,jx,jv,bN,aG,dput,cc,jH,B.val,bu,Tg.d,putN,dE,gN,cY,cZ,cU,aB,cq,aK,bO,lE,sD,List.map,List.length]
 refine pD (λx=>match x with | .tup [.int a,.int b,.int c]=>.int (jn (a,b,c) L) | d=>d) (by rw[Lk];lia) (λx hx=>?_) ?_
 .obtain ⟨y,hy,rfl⟩:=Lx.mp hx;have:=hb y hy;try dsimp only[jA,fB,jz,gL,e8,ju,je,fb,e9,gM,cP,ja,jr,i9,gH,eO,cR,eL,gI,jt,gJ,fA,bq,dC,i6,dI,qr,iA,iC,jb,gK,rj,gZ,fN,gG,lS,gc,jy,i8,ui,lQ,dD,eN,aV,fP,jw,dG,qZ,iB,rh,lP,kH,fz,nW,bV,cx,qt,kI,hE,jx,jv,bN,aG,dput,cc,jH,B.val,bu,Tg.d,putN,dE,gN,cY,cZ,cU,aB,cq,aK,bO,lE,sD,List.map,List.length,d3]
  exact ⟨mulL ⟨by lia,by lia⟩,rfl⟩
 .rw[map_map];have e:List.map ((λx=>match x with | .tup [.int a,.int b,.int c]=>.int (jn (a,b,c) L) | d=>d)∘d3) bs=(bs.map λb=>jn b L).map D.int:=by
   rw[map_map];exact Ik λy _=>rfl
  rw[e];exact xT q
theorem iZ.wI {g:Int}{hs cs:List S3}(o:iZ g hs cs):∀b∈mW hs,0<=b.2.2/\b.2.2<=1000000000:=λb hb=>by
 obtain ⟨x,hx,rfl⟩:=Lx.mp hb;have h:=o.zR x hx;exact ⟨by have:=h.r0;show 0<=x.2.2;lia,h.r1⟩
theorem iZ.oT {g:Int}{hs cs:List S3}(o:iZ g hs cs):∀b∈fZ g cs,0<=b.2.2/\b.2.2<=1000000000:=λb hb=>by
 obtain ⟨x,hx,rfl⟩:=Lx.mp hb;have h:=o.lN x hx;exact ⟨by have:=h.r0;show 0<=x.2.2;lia,h.r1⟩
theorem BI (hs:List S3):(mW hs).length=hs.length:=by unfold mW;simp
theorem zD (g:Int)(cs:List S3):(fZ g cs).length=cs.length:=by unfold fZ;simp
noncomputable def iM:DR:=λds P=>∃g hs cs L,ds = [dW g hs cs,.int L]/\iZ g hs cs/\P (.p (.int (bD g hs cs L)))
theorem qC (T:oG K mg)(F_heat_above:Fn P w K mg base "heat_above" 1 ["bands","level"] (dN K iL))(F_cold_bands:Fn P w K mg base "cold_bands" 1 ["works"] (dN K iK))(F_hot_bands:Fn P w K mg base "hot_bands" 1 ["works"] (dN K jQ))(F:lH K "lack_above" "lack_above" dq f fd):cH P w K mg base iX 2 f fd ["works","level"] (dN K iM):=by
 refine tF F qH (λds Q h=>by obtain ⟨g,hs,cs,L,rfl,ok,q⟩:=h;rfl) λcdv A outer s H E hr=>⟨_,(ak (aZ (ar jM (br F_heat_above (hr.mono (by decide)) (by rfl) (aa (br F_cold_bands (hr.mono (by decide)) (by rfl) (aa (dv 0) aj)) (aa (dv 1) aj))) (br F_heat_above (hr.mono (by decide)) (by rfl) (aa (br F_hot_bands (hr.mono (by decide)) (by rfl) (aa (dv 0) aj)) (aa (dv 1) aj)))))),λds Q h=>?_⟩
 obtain ⟨g,hs,cs,L,rfl,ok,q⟩:=h;try dsimp only[jA,fB,jz,gL,e8,ju,je,fb,e9,gM,cP,ja,jr,i9,gH,eO,cR,eL,gI,jt,gJ,fA,bq,dC,i6,dI,qr,iA,iC,jb,gK,rj,gZ,fN,gG,lS,gc,jy,i8,ui,lQ,dD,eN,aV,fP,jw,dG,qZ,iB,rh,lP,kH,fz,nW,bV,cx,qt,kI,hE,jx,jv,bN,aG,dput,cc,jH,B.val,bu,Tg.d,putN,dE,gN,cY,cZ,cU,aB,cq,aK,bO,lE,sD,List.map,List.length]
 refine ⟨g,hs,cs,rfl,ok.nc,?_⟩;try dsimp only[jA,fB,jz,gL,e8,ju,je,fb,e9,gM,cP,ja,jr,i9,gH,eO,cR,eL,gI,jt,gJ,fA,bq,dC,i6,dI,qr,iA,iC,jb,gK,rj,gZ,fN,gG,lS,gc,jy,i8,ui,lQ,dD,eN,aV,fP,jw,dG,qZ,iB,rh,lP,kH,fz,nW,bV,cx,qt,kI,hE,jx,jv,bN,aG,dput,cc,jH,B.val,bu,Tg.d,putN,dE,gN,cY,cZ,cU,aB,cq,aK,bO,lE,sD,List.map,List.length]
 refine ⟨_,L,rfl,by rw[zD];exact ok.nc,ok.oT,g,hs,cs,rfl,ok.nh,?_⟩;try dsimp only[jA,fB,jz,gL,e8,ju,je,fb,e9,gM,cP,ja,jr,i9,gH,eO,cR,eL,gI,jt,gJ,fA,bq,dC,i6,dI,qr,iA,iC,jb,gK,rj,gZ,fN,gG,lS,gc,jy,i8,ui,lQ,dD,eN,aV,fP,jw,dG,qZ,iB,rh,lP,kH,fz,nW,bV,cx,qt,kI,hE,jx,jv,bN,aG,dput,cc,jH,B.val,bu,Tg.d,putN,dE,gN,cY,cZ,cU,aB,cq,aK,bO,lE,sD,List.map,List.length]
 exact ⟨_,L,rfl,by rw[BI];exact ok.nh,ok.wI,q⟩
noncomputable def eU (g:Int)(hs cs:List S3):List Int:=(LD 251).map λi=>bD g hs cs (i:Nat)
noncomputable def fw:DR:=λds P=>∃g hs cs,ds = [dW g hs cs]/\iZ g hs cs/\P (.o (.lst ((eU g hs cs).map D.int)))
theorem pI (T:oG K mg)(F_lack_above:Fn P w K mg base "lack_above" 2 ["works","level"] (dN K iM))(F:lH K "lacks_above" "lacks_above" cf f fd):cH P w K mg base iX 3 f fd ["works"] (dN K fw):=by
 refine tF F p0 (λds Q h=>by obtain ⟨g,hs,cs,rfl,ok,q⟩:=h;rfl) λcdv A outer s H E hr=>⟨_,(ak (aZ (hO (g:=(.n 0)) (tc:=bN) (te:=(dG _ (aV (bq 1) (aV (bq 0) eN)))) (sc0:=af cf) (N0:=["works"]) ["level","works"] [none,some 0] rfl (lX (by rfl) T.ix (aa (ar aM (HK (by rfl) T.BC) ae) aj)).di (λ_ _ _ _ _=>(au (i:=0) (show (["level","works"]:List Str).Nodup by decide +kernel) rfl (Or.inl rfl))) (λ_ _ _ _ _=>dH) (λ_ _ _ _ _=>(br F_lack_above (hr.mono (by decide)) (by rfl) (aa (dv 1) (aa (dv 0) aj))))))),λds Q h=>?_⟩
 obtain ⟨g,hs,cs,rfl,ok,q⟩:=h;try dsimp only[jA,fB,jz,gL,e8,ju,je,fb,e9,gM,cP,ja,jr,i9,gH,eO,cR,eL,gI,jt,gJ,fA,bq,dC,i6,dI,qr,iA,iC,jb,gK,rj,gZ,fN,gG,lS,gc,jy,i8,ui,lQ,dD,eN,aV,fP,jw,dG,qZ,iB,rh,lP,kH,fz,nW,bV,cx,qt,kI,hE,jx,jv,bN,aG,dput,cc,jH,B.val,bu,Tg.d,putN,dE,gN,cY,cZ,cU,aB,cq,aK,bO,lE,sD,List.map,List.length]
 refine ⟨by decide,?_⟩;refine pD (λx=>match x with | .int L=>.int (bD g hs cs L) | d=>d) (by rw[dh];decide) (λx hx=>?_) ?_
 .obtain ⟨i,hi,rfl⟩:=wU hx;exact ⟨g,hs,cs,_,rfl,ok,rfl⟩
 .have e:List.map (λx=>match x with | D.int L=>D.int (bD g hs cs L) | d=>d) (gC 0 (Int.toNat (250+1)))=(eU g hs cs).map D.int:=by
   unfold gC eU;rw[map_map,map_map];refine Ik λi _=>?_;show D.int (bD g hs cs (0+(i:Nat)))=D.int (bD g hs cs (i:Nat));rw[Int.zero_add]
  rw[e];exact q
theorem zY {g:Int}{hs cs:List S3}{n:Int}(h:n∈eU g hs cs):∃i:Nat,i<251/\n=bD g hs cs (i:Nat):=by
 unfold eU at h;obtain ⟨i,hi,e⟩:=Lx.mp h;exact ⟨i,mem_range.mp hi,e.symm⟩
theorem BS {g:Int}{hs cs:List S3}{i:Nat}(h:i<251):bD g hs cs (i:Nat)∈eU g hs cs:=Lx.mpr ⟨i,mem_range.mpr h,rfl⟩
structure gF (g:Int)(hs cs:List S3)(m:Int):Prop where
 z:0<=m
 ub:∀i:Nat,i<251->bD g hs cs (i:Nat)<=m
 at':m=0\/∃i:Nat,i<251/\m=bD g hs cs (i:Nat)
theorem gF.uniq {g:Int}{hs cs:List S3}{m m':Int}(h:gF g hs cs m)(h':gF g hs cs m'):m=m':=by
 have key:∀{a b:Int},gF g hs cs a->gF g hs cs b->a<=b:=λ{a b} x y=>by
  rcases x.at' with e | ⟨i,hi,e⟩
  .rw[e];exact y.z
  .rw[e];exact y.ub i hi
 exact Int.le_antisymm (key h h') (key h' h)
noncomputable def iP:DR:=λds P=>∃g hs cs,ds = [dW g hs cs]/\iZ g hs cs/\∀m,gF g hs cs m->P (.p (.int m))
theorem qE (T:oG K mg)(F_lacks_above:Fn P w K mg base "lacks_above" 3 ["works"] (dN K fw))(F:lH K "least_heat" "least_heat" du f fd):cH P w K mg base iX 4 f fd ["works"] (dN K iP):=by
 refine tF F qI (λds Q h=>by obtain ⟨g,hs,cs,rfl,ok,q⟩:=h;rfl) λcdv A outer s H E hr=>⟨_,(ak (aZ (aD (xC rfl) (by rfl) T.jo boot_max (aa (ar aM (fH (aa ae aj)) (br F_lacks_above (hr.mono (by decide)) (by rfl) (aa (dv 0) aj))) aj)))),λds Q h=>?_⟩
 obtain ⟨g,hs,cs,rfl,ok,q⟩:=h;try dsimp only[jA,fB,jz,gL,e8,ju,je,fb,e9,gM,cP,ja,jr,i9,gH,eO,cR,eL,gI,jt,gJ,fA,bq,dC,i6,dI,qr,iA,iC,jb,gK,rj,gZ,fN,gG,lS,gc,jy,i8,ui,lQ,dD,eN,aV,fP,jw,dG,qZ,iB,rh,lP,kH,fz,nW,bV,cx,qt,kI,hE,jx,jv,bN,aG,dput,cc,jH,B.val,bu,Tg.d,putN,dE,gN,cY,cZ,cU,aB,cq,aK,bO,lE,sD,List.map,List.length]
 refine ⟨g,hs,cs,rfl,ok,?_⟩;try dsimp only[jA,fB,jz,gL,e8,ju,je,fb,e9,gM,cP,ja,jr,i9,gH,eO,cR,eL,gI,jt,gJ,fA,bq,dC,i6,dI,qr,iA,iC,jb,gK,rj,gZ,fN,gG,lS,gc,jy,i8,ui,lQ,dD,eN,aV,fP,jw,dG,qZ,iB,rh,lP,kH,fz,nW,bV,cx,qt,kI,hE,jx,jv,bN,aG,dput,cc,jH,B.val,bu,Tg.d,putN,dE,gN,cY,cZ,cU,aB,cq,aK,bO,lE,sD,List.map,List.length]
 refine ⟨by rw[Lk];unfold eU;rw[Lk,length_range];exact fW (by decide),0::eU g hs cs,rfl,List.cons_ne_nil _ _,λm h1 h2=>q m ⟨h2 0 mem_cons_self,λi hi=>h2 _ (LO _ (BS hi)),?_⟩⟩;rcases Lz.mp h1 with e | e
 .exact .inl e
 .obtain ⟨i,hi,e⟩:=zY e;exact .inr ⟨i,hi,e⟩
noncomputable def xt (g:Int)(hs cs:List S3)(m:Int)(d:D):Prop:=(m=0/\d=.non)\/(m≠0/\∃L:Nat,L<251/\d=.int (L:Nat)/\bD g hs cs (L:Nat)=m/\∀i:Nat,i<251->bD g hs cs (i:Nat)=m->i<=L)
noncomputable def tS:DR:=λds P=>∃g hs cs,ds = [dW g hs cs]/\iZ g hs cs/\∀m d,gF g hs cs m->xt g hs cs m d->P (.p d)
theorem wD {g:Int}{hs cs:List S3}{x:D}(h:x∈bJ 0 ((eU g hs cs).map D.int)):∃i:Nat,i<251/\x=.tup [.int (i:Nat),.int (bD g hs cs (i:Nat))]:=by
  obtain ⟨i,hi⟩:=List.getElem?_of_mem h;obtain ⟨y,h1,h2⟩:=eQ hi;rw[LC] at h1;unfold eU at h1;rw[LC] at h1;have hlt:i<251:=by
    rcases Nat.lt_or_ge i 251 with z | z
    · exact z
    · rw [List.getElem?_eq_none (by rw [length_range];exact z)] at h1;cases h1
  rw[List.getElem?_range hlt] at h1;cases h1;rw[Nat.zero_add] at h2;exact ⟨i,hlt,h2⟩
theorem Ce (T:oG K mg)(F_least_heat:Fn P w K mg base "least_heat" 4 ["works"] (dN K iP))(F_lacks_above:Fn P w K mg base "lacks_above" 3 ["works"] (dN K fw))(F:lH K "pinch" "pinch" iQ f fd):cH P w K mg base iX 5 f fd ["works"] (dN K tS):=by
 refine tF F vT (λds Q h=>by obtain ⟨g,hs,cs,rfl,ok,q⟩:=h;rfl) λcdv A outer s H E hr=>⟨_,(ai (aE (i:=1) vT.nd rfl (Or.inr rfl) (br F_least_heat (hr.mono (by decide)) (by rfl) (aa (dv 0) aj)))
   (ai (cV (aO gf (dv 1) ae (aF _)) (ak (aZ mT)) bt)
   (ak (aZ (aD (xC rfl) (by rfl) T.jo boot_max (aa (hO (g:=(.t [0,1])) (tc:=(gc (i6 _ (bq 1) (bq 2)))) (te:=(bq 0)) (sc0:=af iQ) (N0:=["works","heat"]) ["level","lack","heat"] [none,none,some 1] rfl (lV (by rfl) T.nA (aa (br F_lacks_above (hr.mono (by decide)) (by rfl) (aa (dv 0) aj)) aj)) (λ_ _ _ _ _=>(fI rfl (az (au (i:=0) (show (["level","lack","heat"]:List Str).Nodup by decide +kernel) rfl (Or.inl rfl)) (az (au (i:=1) (show (["level","lack","heat"]:List Str).Nodup by decide +kernel) rfl (Or.inl rfl)) dS)))) (λ_ _ _ _ _=>(lW (aO gf (dv 1) (dv 2) (aF _)))) (λ_ _ _ _ _=>(dv 0))) aj)))))),λds Q h=>?_⟩
 obtain ⟨g,hs,cs,rfl,ok,q⟩:=h;try dsimp only[jA,fB,jz,gL,e8,ju,je,fb,e9,gM,cP,ja,jr,i9,gH,eO,cR,eL,gI,jt,gJ,fA,bq,dC,i6,dI,qr,iA,iC,jb,gK,rj,gZ,fN,gG,lS,gc,jy,i8,ui,lQ,dD,eN,aV,fP,jw,dG,qZ,iB,rh,lP,kH,fz,nW,bV,cx,qt,kI,hE,jx,jv,bN,aG,dput,cc,jH,B.val,bu,Tg.d,putN,dE,gN,cY,cZ,cU,aB,cq,aK,bO,lE,sD,List.map,List.length]
 refine ⟨g,hs,cs,rfl,ok,λm hm=>?_⟩;try dsimp only[jA,fB,jz,gL,e8,ju,je,fb,e9,gM,cP,ja,jr,i9,gH,eO,cR,eL,gI,jt,gJ,fA,bq,dC,i6,dI,qr,iA,iC,jb,gK,rj,gZ,fN,gG,lS,gc,jy,i8,ui,lQ,dD,eN,aV,fP,jw,dG,qZ,iB,rh,lP,kH,fz,nW,bV,cx,qt,kI,hE,jx,jv,bN,aG,dput,cc,jH,B.val,bu,Tg.d,putN,dE,gN,cY,cZ,cU,aB,cq,aK,bO,lE,sD,List.map,List.length]
 refine ⟨λh0=>q m .non hm (.inl ⟨of_decide_eq_true h0,rfl⟩),λh0=>?_⟩;have h0':m≠0:=of_decide_eq_false h0;refine ⟨g,hs,cs,rfl,ok,?_⟩;try dsimp only[jA,fB,jz,gL,e8,ju,je,fb,e9,gM,cP,ja,jr,i9,gH,eO,cR,eL,gI,jt,gJ,fA,bq,dC,i6,dI,qr,iA,iC,jb,gK,rj,gZ,fN,gG,lS,gc,jy,i8,ui,lQ,dD,eN,aV,fP,jw,dG,qZ,iB,rh,lP,kH,fz,nW,bV,cx,qt,kI,hE,jx,jv,bN,aG,dput,cc,jH,B.val,bu,Tg.d,putN,dE,gN,cY,cZ,cU,aB,cq,aK,bO,lE,sD,List.map,List.length]
 refine sS (λx=>match x with | .tup [a,.int b]=>if b=m then some a else none | _=>none) (by rw[eR,Lk];unfold eU;simp) (λx hx=>?_) ?_
 .obtain ⟨i,hi,rfl⟩:=wD hx;try dsimp only[jA,fB,jz,gL,e8,ju,je,fb,e9,gM,cP,ja,jr,i9,gH,eO,cR,eL,gI,jt,gJ,fA,bq,dC,i6,dI,qr,iA,iC,jb,gK,rj,gZ,fN,gG,lS,gc,jy,i8,ui,lQ,dD,eN,aV,fP,jw,dG,qZ,iB,rh,lP,kH,fz,nW,bV,cx,qt,kI,hE,jx,jv,bN,aG,dput,cc,jH,B.val,bu,Tg.d,putN,dE,gN,cY,cZ,cU,aB,cq,aK,bO,lE,sD,List.map,List.length]
  refine ⟨λc=>?_,λc=>?_⟩
  .rw[if_pos (of_decide_eq_true c)]
  .rw[if_neg (of_decide_eq_false c)]
 .have hfm:∃ns:List Int,(bJ 0 ((eU g hs cs).map D.int)).filterMap (λx=>match x with | .tup [a,.int b]=>if b=m then some a else none | _=>none)=ns.map D.int/\∀n,n∈ns↔∃i:Nat,i<251/\n=(i:Nat)/\bD g hs cs (i:Nat)=m:=by
   have e:(eU g hs cs).map D.int=(LD 251).map λi=>D.int (bD g hs cs (i:Nat)):=by unfold eU;rw[map_map];rfl
   refine ⟨((LD 251).filter λi=>decide (bD g hs cs (i:Nat)=m)).map λi=>((i:Nat):Int),?_,λn=>⟨λh=>?_,λ⟨i,hi,e1,e2⟩=>?_⟩⟩
   .rw[e,o8,List.filterMap_map,map_map];exact ft (λi:Nat=>bD g hs cs (i:Nat)=m) (λi=>D.int (i:Nat)) (LD 251)
   .obtain ⟨i,hi,e⟩:=Lx.mp h;obtain ⟨h1,h2⟩:=List.mem_filter.mp hi;exact ⟨i,mem_range.mp h1,e.symm,of_decide_eq_true h2⟩
   .exact Lx.mpr ⟨i,List.mem_filter.mpr ⟨mem_range.mpr hi,decide_eq_true e2⟩,e1.symm⟩
  obtain ⟨ns,e1,e2⟩:=hfm;rw[e1];refine ⟨ns,rfl,?_,λL h1 h2=>?_⟩
  .rcases hm.at' with e | ⟨i,hi,e⟩
   .exact absurd e h0'
   .exact List.ne_nil_of_mem ((e2 _).mpr ⟨i,hi,rfl,e.symm⟩)
  .obtain ⟨i,hi,rfl,e⟩:=(e2 _).mp h1;refine q m _ hm (.inr ⟨h0',i,hi,rfl,e,λj hj ej=>?_⟩);have:=h2 _ ((e2 _).mpr ⟨j,hj,rfl,ej⟩);lia
theorem Ae {g:Int}{hs cs:List S3}{m:Int}(h:Lst g hs cs m):gF g hs cs m:=⟨h.z,λi _=>h.ub i,h.at'⟩
theorem yF (i j:Int):(if j>i then j else i)=mx j i:=by unfold mx;split<;>split<;>lia
noncomputable def lx:DR:=λds P=>∃g hs cs L,ds = [dW g hs cs,.int L]/\iZ g hs cs/\P (.p (.int (bD g hs cs L)))
theorem vy (T:oG K mg)(F:lH K "_law_lack" "_law_lack" fh f fd):cH P w K mg base iX 1 f fd ["works","level"] (dN K lx):=by
 refine tF F bF (λds Q h=>by obtain ⟨g,hs,cs,L,rfl,ok,q⟩:=h;rfl) λcdv A outer s H E hr=>⟨_,(ai (aE (i:=2) bF.nd rfl (Or.inl rfl) ae)
   (ai (kW (g:=(.t [3,4,5])) PassesOwn.never rfl (bX (aP (dv 0) ae)) (fI rfl (az (au (i:=3) bF.nd rfl (Or.inl rfl)) (az (au (i:=4) bF.nd rfl (Or.inl rfl)) (az (au (i:=5) bF.nd rfl (Or.inl rfl)) dS)))) (ak (aE (i:=2) bF.nd rfl (Or.inl rfl) (ar aM (dv 2) (ar eV (dv 5) (aD (iy rfl) (by rfl) T.jo boot_max (aa ae (aa (ar jM (ar aM (dv 4) (aP (dv 0) ae)) (aD (iy rfl) (by rfl) T.jo boot_max (aa (dv 1) (aa (ar aM (dv 3) (aP (dv 0) ae)) aj)))) aj))))))))
   (ai (kW (g:=(.t [3,4,5])) PassesOwn.never rfl (bX (aP (dv 0) ae)) (fI rfl (az (au (i:=3) bF.nd rfl (Or.inl rfl)) (az (au (i:=4) bF.nd rfl (Or.inl rfl)) (az (au (i:=5) bF.nd rfl (Or.inl rfl)) dS)))) (ak (aE (i:=2) bF.nd rfl (Or.inl rfl) (ar jM (dv 2) (ar eV (dv 5) (aD (iy rfl) (by rfl) T.jo boot_max (aa ae (aa (ar jM (dv 3) (aD (iy rfl) (by rfl) T.jo boot_max (aa (dv 1) (aa (dv 4) aj)))) aj))))))))
   (ak (aZ (dv 2)))))),λds Q h=>?_⟩
 obtain ⟨g,hs,cs,L,rfl,ok,q⟩:=h;repeat (first | dsimp only[dW] | walk_at "rs1" | walk_at "rsx")
 refine dP (λj ρ=>∃(a3 a4 a5:Option B),ρ = [some (.p (dW g hs cs)),some (.p (.int L)),some (.p (.int (above (fZ g (cs.take j)) L))),a3,a4,a5]) ⟨none,none,none,by rw[List.take_zero];rfl⟩ ?_ ?_
 .rintro j x ρ hx ⟨b3,b4,b5,rfl⟩;rw[LC] at hx;obtain ⟨s,es,rfl⟩:=Option.map_eq_some_iff.mp hx;obtain ⟨o1,o2,o3,o4,o5⟩:=ok.lN s (Ls es);repeat (first | dsimp only[dW,d3] | walk_at "rs1" | walk_at "rsx")
  rw[yF L,take_snoc es,show fZ g (cs.take j++[s])=fZ g (cs.take j)++[(s.1+g,s.2.1+g,s.2.2)] by unfold fZ;rw[LI];rfl,oJ];exact ⟨mulL (by lia),_,_,_,rfl⟩
 rw[Lk,List.take_length];rintro ρ ⟨b3,b4,b5,rfl⟩;repeat (first | dsimp only[dW] | walk_at "rs1" | walk_at "rsx")
 refine dP (λj ρ=>∃(a3 a4 a5:Option B),ρ = [some (.p (dW g hs cs)),some (.p (.int L)),some (.p (.int (above (fZ g cs) L - above (mW (hs.take j)) L))),a3,a4,a5]) ⟨b3,b4,b5,by rw[List.take_zero,show above (mW []) L=0 from rfl,Int.sub_zero];rfl⟩ ?_ ?_
 .rintro j x ρ hx ⟨b3,b4,b5,rfl⟩;rw[LC] at hx;obtain ⟨s,es,rfl⟩:=Option.map_eq_some_iff.mp hx;obtain ⟨o1,o2,o3,o4,o5⟩:=ok.zR s (Ls es);repeat (first | dsimp only[dW,d3] | walk_at "rs1" | walk_at "rsx")
  rw[yF L,take_snoc es,show mW (hs.take j++[s])=mW (hs.take j)++[(s.2.1,s.1,s.2.2)] by unfold mW;rw[LI];rfl,oJ,<-Int.sub_sub];exact ⟨mulL (by lia),_,_,_,rfl⟩
 rw[Lk,List.take_length];rintro ρ ⟨b3,b4,b5,rfl⟩;walk_at "rs";exact q
theorem ne_int {a b:Int}{Q:B->Prop}(h:Q (.p (.bl (!decide (a=b))))):Jr (.int a) (.int b) Q:=⟨⟨gO _,gO _,by rw[ou];decide⟩,h⟩
theorem eq_int {a b:Int}{Q:B->Prop}(h:Q (.p (.bl (decide (a=b))))):KL (.int a) (.int b) Q:=⟨⟨gO _,gO _,by rw[ou];decide⟩,h⟩
noncomputable def gm:DR:=λds P=>∃(g:Int) (hs cs:List S3) (ps:List P5) (L:Int),ds = [dW g hs cs,.lst (ps.map d5),.int L]/\P (.p (.bl (ps.any (bp g L))))
theorem n5 (T:oG K mg)(F:lH K "_law_crossing" "_law_crossing" cC f fd):cH P w K mg base iX 1 f fd ["works","passes","level"] (dN K gm):=by
 refine tF F bS (λds Q h=>by obtain ⟨g,hs,cs,ps,L,rfl,q⟩:=h;rfl) λcdv A outer s H E hr=>⟨_,(ai (kW (g:=(.t [3,4,5,6,7])) PassesOwn.never rfl (bX (dv 1)) (fI rfl (az (au (i:=3) bS.nd rfl (Or.inl rfl)) (az (au (i:=4) bS.nd rfl (Or.inl rfl)) (az (au (i:=5) bS.nd rfl (Or.inl rfl)) (az (au (i:=6) bS.nd rfl (Or.inl rfl)) (az (au (i:=7) bS.nd rfl (Or.inl rfl)) dS)))))) (ai (cV (DW.dt (jE (aO (tD hr) (dv 3) (jB ae) (aF _)) (jE (aO yJ (dv 4) (dv 2) (aF _)) (j9 (DW.dt (nI (aO gf (dv 5) (jB ae) (aF _)) (mU (aO pH (ar aM (dv 6) (aP (dv 0) ae)) (dv 2) (aF _))))))))) (ak (aZ nE)) bt)
   (ak (cV (DW.dt (jE (aO (Gj hr) (dv 3) (jB ae) (aF _)) (j9 (aO pH (ar aM (dv 6) (aP (dv 0) ae)) (dv 2) (aF _))))) (ak (aZ nE)) bt))))
   (ak (aZ nE))),λds Q h=>?_⟩
 obtain ⟨g,hs,cs,ps,L,rfl,q⟩:=h;walk_at "rs";refine dP (λi ρ=>(∀p∈ps.take i,bp g L p=false)/\∃(a3 a4 a5 a6 a7:Option B),ρ = [some (.p (dW g hs cs)),some (.p (.lst (ps.map d5))),some (.p (.int L)),a3,a4,a5,a6,a7]) ⟨λp h=>(by rw[List.take_zero] at h;cases h),none,none,none,none,none,rfl⟩ ?_ ?_
 .rintro i x ρ hx ⟨hd,a3,a4,a5,a6,a7,rfl⟩;rw[LC] at hx;obtain ⟨p,hp,rfl⟩:=Option.map_eq_some_iff.mp hx;have yes:bp g L p=true->Q (.p (.bl true)):=λh=>by
   rw[show ps.any (bp g L)=true from List.any_eq_true.mpr ⟨p,Ls hp,h⟩] at q;exact q
  have no:bp g L p=false->∀y∈ps.take (i+1),bp g L y=false:=λh=>by
   rw[WS.take_snoc hp];exact dM hd h
  have ec:bp g L p=decide (p.1 ≠ -1/\L<=p.2.1/\(p.2.2.1 = -1\/p.2.2.2.1+g<L)\/p.1 = -1/\p.2.2.2.1+g<L):=rfl;repeat (first | dsimp only[dW,d5] | walk_at "rs2" | walk_at "rsx")
  refine bI (λρ=>¬(p.1 ≠ -1/\L<=p.2.1/\(p.2.2.1 = -1\/p.2.2.2.1+g<L))/\ρ = [some (.p (dW g hs cs)),some (.p (.lst (ps.map d5))),some (.p (.int L)),some (.p (.int p.1)),some (.p (.int p.2.1)),some (.p (.int p.2.2.1)),some (.p (.int p.2.2.2.1)),some (.p (.int p.2.2.2.2))]) ?_ λN hN=>?_
  .rintro ρ ⟨h1,rfl⟩;repeat (first | dsimp only[dW] | walk_at "rs1" | walk_at "rsx")
   refine eq_int ?_;walk_at "rs";refine ⟨λc=>⟨λc2=>yes ?_,λc2=>⟨no ?_,_,_,_,_,_,rfl⟩⟩,λc=>⟨λz=>(nomatch z),λ_=>⟨no ?_,_,_,_,_,_,rfl⟩⟩⟩
   .rw[ec];exact decide_eq_true (.inr ⟨of_decide_eq_true c,of_decide_eq_true c2⟩)
   .rw[ec];exact decide_eq_false λz=>z.elim h1 λy=>of_decide_eq_false c2 y.2
   .rw[ec];exact decide_eq_false λz=>z.elim h1 λy=>of_decide_eq_false c y.1
  .repeat (first | dsimp only[dW] | walk_at "rs1" | walk_at "rsx")
   refine ne_int ?_;walk_at "rs";have yes':p.1 ≠ -1/\L<=p.2.1/\(p.2.2.1 = -1\/p.2.2.2.1+g<L)->Q (.p (.bl true)):=λh=>yes (by rw[ec];exact decide_eq_true (.inl h));refine ⟨λc1=>⟨λc2=>⟨λc3=>⟨λ_=>yes' ⟨?_,of_decide_eq_true c2,.inl (of_decide_eq_true c3)⟩,λz=>(nomatch z)⟩,λc3=>⟨λc4=>yes' ⟨?_,of_decide_eq_true c2,.inr (of_decide_eq_true c4)⟩,λc4=>hN _ ⟨λz=>z.2.2.elim (of_decide_eq_false c3) (of_decide_eq_false c4),rfl⟩⟩⟩,λc2=>⟨λz=>(nomatch z),λ_=>hN _ ⟨λz=>of_decide_eq_false c2 z.2.1,rfl⟩⟩⟩,λc1=>⟨λz=>(nomatch z),λ_=>hN _ ⟨λz=>?_,rfl⟩⟩⟩
   .exact λz=>by rw[decide_eq_true z] at c1;cases c1
   .exact λz=>by rw[decide_eq_true z] at c1;cases c1
   .rw[decide_eq_false z.1] at c1;cases c1
 .rintro ρ ⟨hd,a3,a4,a5,a6,a7,rfl⟩;rw[Lk,List.take_length] at hd;walk_at "rs";rw[show ps.any (bp g L)=false from List.any_eq_false.mpr λp hp=>by rw[hd p hp];decide] at q;exact q
theorem Jb {g:Int}{hs cs:List S3}{ps:List P5}(L:Looks g hs cs ps){E:B->Prop}(q:E (.p (.int (aL Bt (gq ps))))):Dq [.lst ((ps.filter λp=>decide (p.1 = -1)).map λp=>D.int (ht p))] E:=by
 refine ⟨(ps.filter λp=>decide (p.1 = -1)).map ht,by rw[map_map];rfl,?_⟩;rw[show ((ps.filter λp=>decide (p.1 = -1)).map ht).sum=aL Bt (gq ps) from Hg gk L.gB];exact q
theorem xw {g:Int}{hs cs:List S3}{ps:List P5}(Z:Looks g hs cs ps)(ok:iZ g hs cs)(L:Int):ps.any (bp g L)=decide (bD g hs cs L<aL Bt (gq ps)):=by
 have h1:=Z.sR ok.zR ok.lN L;have h2:=Z.yx ok.zR ok.lN L;rw[Bool.eq_iff_iff,List.any_eq_true,decide_eq_true_iff];refine ⟨λ⟨p,hp,hc⟩=>?_,λh=>?_⟩
 .have:aL Bt (gq ps)≠bD g hs cs L:=λz=>by
   have:=h2.mp z p hp;rw[hc] at this;cases this
  lia
 .rcases Classical.em (∃p,p∈ps/\bp g L p=true) with z | z
  .exact z
  .have:=h2.mpr λp hp=>by
    cases e:bp g L p with
    | false=>rfl
    | true=>exact absurd ⟨p,hp,e⟩ z
   lia
noncomputable def CD:DR:=λds P=>∃ns:List Int,ds = [.scr ns]/\ns.length<=63/\P (.p (.bl true))
theorem Gm (T:oG K mg)(F_law_works:Fn P w K mg base "_law_works" 2 ["script"] (dN K jT))(F_shared:Fn P w K mg base "shared" 2 ["works"] (oe K Pt Ey pV))(F_pinch:Fn P w K mg base "pinch" 5 ["works"] (dN K tS))(F_law_drawn:Fn P w K mg base "_law_drawn" 2 ["works","number","cells"] (dN K jR))(F_looked_through:Fn P w K mg base "looked_through" 3 ["works","passes"] (dN K fe))(F_law_crossing:Fn P w K mg base "_law_crossing" 1 ["works","passes","level"] (dN K gm))(F_law_draw:Fn P w K mg base "_law_draw" 1 ["script","k"] (dN K iN))(F_law_lack:Fn P w K mg base "_law_lack" 1 ["works","level"] (dN K lx))(F:lH K "law" "law" jV f fd):cH P w K mg base iX 6 f fd ["script"] (oe K Pt Ey CD):=by
  refine Io F lA (λds Q h=>by obtain ⟨ns,rfl,hl,q⟩:=h;rfl) λcdv A outer s H E hr hT=>⟨_,(ai (aE (i:=1) lA.nd rfl (Or.inr rfl) (br F_law_works (hr.mono (by decide)) (by rfl) (aa (dv 0) aj)))
      (ai (aE (i:=2) lA.nd rfl (Or.inl rfl) (wx hT F_shared (hr.mono (by decide)) (by rfl) (aa (dv 1) aj)))
      (ai (aE (i:=3) lA.nd rfl (Or.inr rfl) (aD (wm rfl) (by rfl) T.AZ boot_sum (aa (hO (g:=(.n 0)) (tc:=(gc (i6 _ (i6 nW (bq 0) (dC _)) (rj gZ (dC _))))) (te:=(i6 nW (bq 0) (dC _))) (sc0:=af jV) (N0:=["script","works","passes","heat","level","drawn","found"]) ["one"] [none] rfl (bX (dv 2)) (λ_ _ _ _ _=>(au (i:=0) (show (["one"]:List Str).Nodup by decide +kernel) rfl (Or.inl rfl))) (λ_ _ _ _ _=>(lW (aO gf (aP (dv 0) ae) (jB ae) (aF _)))) (λ_ _ _ _ _=>(aP (dv 0) ae))) aj)))
      (ai (aE (i:=4) lA.nd rfl (Or.inl rfl) (br F_pinch (hr.mono (by decide)) (by rfl) (aa (dv 1) aj)))
      (ai (cV (aO gf (dv 3) ae (aF _)) (ak (aZ (oW Cd (dv 4) mT (aF _)))) bt)
      (ai (cV (DW.dt (nI (Br (oZ (Bg (T:="int") (by simp) (by rfl) T.lK (dv 4) (yN (v:=.ty "int") (by rfl) T.HA boot_int rfl)))) (nI (oZ (Bg (T:="bool") (by simp) (by rfl) T.lK (dv 4) (yN (v:=.ty "bool") (by rfl) T.Fz boot_bool rfl))) (nI (aO pH (dv 4) ae (aF _)) (mU (aO nK (dv 4) ae (aF _))))))) (ak (aZ nE)) bt)
      (ai (cV (DW.dt (nI (aO Im (br F_law_lack (hr.mono (by decide)) (by rfl) (aa (dv 1) (aa (dv 4) aj))) (dv 3) (aF _)) (mU (oZ (br F_law_crossing (hr.mono (by decide)) (by rfl) (aa (dv 1) (aa (dv 2) (aa (dv 4) aj)))))))) (ak (aZ nE)) bt)
      (ai (cV (aO (tD hr) (hO (g:=(.n 0)) (tc:=(gc (i6 _ (dG _ (aV (bq 2) (aV (bq 0) eN))) (bq 1)))) (te:=(bq 0)) (sc0:=af jV) (N0:=["script","works","passes","heat","level","drawn","found"]) ["above","heat","works"] [none,some 3,some 1] rfl (oY (by rfl) T.ix (aa (ar aM (dv 4) ae) (aa ae aj))).di (λ_ _ _ _ _=>(au (i:=0) (show (["above","heat","works"]:List Str).Nodup by decide +kernel) rfl (Or.inl rfl))) (λ_ _ _ _ _=>(lW (aO yJ (br F_law_lack (hr.mono (by decide)) (by rfl) (aa (dv 2) (aa (dv 0) aj))) (dv 1) (aF _)))) (λ_ _ _ _ _=>(dv 0))) (fH aj) (aF _)) (ak (aZ nE)) bt)
      (ai (aE (i:=5) lA.nd rfl (Or.inl rfl) (br F_law_drawn (hr.mono (by decide)) (by rfl) (aa (dv 1) (aa (br F_law_draw (hr.mono (by decide)) (by rfl) (aa (dv 0) (aa ae aj))) (aa (cy (dv 0) iD (bh ae)) aj)))))
      (ai (aE (i:=6) lA.nd rfl (Or.inl rfl) (br F_looked_through (hr.mono (by decide)) (by rfl) (aa (dv 1) (aa (dv 5) aj))))
      (ai (cV (DW.dt (nI (aO Cd (dv 6) mT (aF _)) (mU (aO pH (aP (dv 6) ae) (dv 3) (aF _))))) (ak (aZ nE)) bt)
      (ak (aZ (oW gf (oW nK (aP (dv 6) ae) (dv 3) (aF _)) (br F_law_crossing (hr.mono (by decide)) (by rfl) (aa (dv 1) (aa (dv 5) (aa (dv 4) aj)))) (aF _))))))))))))))),λds Q h=>?_⟩
  obtain ⟨ns,rfl,hl,q⟩:=h;refine bI (λρ=>∃g hs cs,Fy g hs cs/\ρ = [some (B.p (D.scr ns)),some (B.p (dW g hs cs)),none,none,none,none,none]) ?_ λN hN=>?_;rotate_left
  · walk_at "rs";exact ⟨ns,rfl,hl,λg hs cs wk=>hN _ ⟨g,hs,cs,wk,rfl⟩⟩
  rintro ρ ⟨g,hs,cs,wk,rfl⟩;have ok:=wk.ok;have sh:=xj ok.zR ok.nh;have sc:=t4 ok.lN ok.nc;have sl:sizeLine=16777216:=sizeLine_eq;refine bI (λρ=>∃ts:List P5,Looks g hs cs ts/\ts.length<=4800/\Tight g ts/\ρ = [some (B.p (D.scr ns)),some (B.p (dW g hs cs)),some (B.p (D.lst (ts.map d5))),none,none,none,none]) ?_ λN hN=>?_;rotate_left
  · walk_at "rs";exact ⟨g,hs,cs,rfl,ok,λts Lt _ hp ti=>hN _ ⟨ts,Lt,hp,ti,rfl⟩⟩
  rintro ρ ⟨ts,Lt,hpt,ti,rfl⟩;refine bI (λρ=>ρ = [some (B.p (D.scr ns)),some (B.p (dW g hs cs)),some (B.p (D.lst (ts.map d5))),some (.p (.int (aL Bt (gq ts)))),none,none,none]) ?_ λN hN=>?_;rotate_left
  · walk_at "rs";refine yA oV (λp=>if p.1 = -1 then some (.int (ht p)) else none) (by lia) (λp _=>?_) ?_
    · repeat (first | dsimp only[d5] | walk_at "rs1" | walk_at "rsx")
      refine ⟨λh=>?_,λh=>?_⟩
      · rw[if_pos (of_decide_eq_true h)];rfl
      · rw[if_neg (of_decide_eq_false h)]
    rw[ft (λp:P5=>p.1 = -1) λp=>D.int (ht p)];exact Jb Lt (hN _ rfl)
  rintro ρ rfl;have m1:=Ae (Lt.lst ok.zR ok.lN ti);generalize em:aL Bt (gq ts)=m at m1;refine bI (λρ=>∃d,xt g hs cs m d/\ρ = [some (B.p (D.scr ns)),some (B.p (dW g hs cs)),some (B.p (D.lst (ts.map d5))),some (.p (.int m)),some (.p d),none,none]) ?_ λN hN=>?_;rotate_left
  · walk_at "rs";refine ⟨g,hs,cs,rfl,ok,λm' d h1 h2=>hN _ ⟨d,?_,rfl⟩⟩;obtain rfl:=h1.uniq m1;exact h2
  rintro ρ ⟨d,pin,rfl⟩;refine bI (λρ=>∃L:Nat,L<250/\0<m/\bD g hs cs L=m/\(∀i:Nat,i<251->bD g hs cs i=m->i<=L)/\ρ = [some (B.p (D.scr ns)),some (B.p (dW g hs cs)),some (B.p (D.lst (ts.map d5))),some (.p (.int m)),some (.p (.int L)),none,none]) ?_ λN hN=>?_;rotate_left
  · walk_at "rs";refine ⟨λh=>?_,λh=>?_⟩
    · rcases pin with ⟨_,rfl⟩ | ⟨z,_⟩
      · walk_at "rs";exact q
      · exact absurd (of_decide_eq_true h) z
    · rcases pin with ⟨z,_⟩ | ⟨z,L,hL,rfl,e1,e2⟩
      · exact absurd z (of_decide_eq_false h)
      · have:=m1.z;refine hN _ ⟨L,?_,by lia,e1,e2,rfl⟩;have:L≠250:=λw=>by
          subst w;rw[show ((250:Nat):Int)=250 from rfl,zX ok.g1 ok.zR ok.lN] at e1;exact z e1.symm
        lia
  rintro ρ ⟨L,hL,hm,e1,e2,rfl⟩;refine bI (λρ=>ρ = [some (B.p (D.scr ns)),some (B.p (dW g hs cs)),some (B.p (D.lst (ts.map d5))),some (.p (.int m)),some (.p (.int L)),none,none]) ?_ λN hN=>?_;rotate_left
  · walk_at "rs";exact ⟨λz=>(nomatch z),λ_=>⟨λz=>(nomatch z),λ_=>⟨λz=>absurd (of_decide_eq_true z) (by lia),λ_=>⟨λz=>absurd (of_decide_eq_true z) (by lia),λ_=>hN _ rfl⟩⟩⟩⟩
  rintro ρ rfl;refine bI (λρ=>ρ = [some (B.p (D.scr ns)),some (B.p (dW g hs cs)),some (B.p (D.lst (ts.map d5))),some (.p (.int m)),some (.p (.int L)),none,none]) ?_ λN hN=>?_;rotate_left
  · walk_at "rs";refine ⟨g,hs,cs,L,rfl,ok,?_⟩;walk_at "rs";refine ⟨λz=>?_,λ_=>⟨g,hs,cs,ts,L,rfl,?_⟩⟩
    · rw[decide_eq_true e1] at z;cases z
    rw[xw Lt ok,em,e1,decide_eq_false (Int.lt_irrefl _)];walk_at "rs";exact ⟨λz=>(nomatch z),λ_=>hN _ rfl⟩
  rintro ρ rfl;refine bI (λρ=>ρ = [some (B.p (D.scr ns)),some (B.p (dW g hs cs)),some (B.p (D.lst (ts.map d5))),some (.p (.int m)),some (.p (.int L)),none,none]) ?_ λN hN=>?_;rotate_left
  · walk_at "rs";refine ⟨⟨by lia,by lia,by decide,by decide⟩,sS (λ_=>none) (by rw[dh];lia) (λx hx=>?_) ?_⟩
    · obtain ⟨i,hi⟩:=List.getElem?_of_mem hx;obtain ⟨h1,rfl⟩:=dg hi;walk_at "rs";refine ⟨g,hs,cs,_,rfl,ok,?_⟩;walk_at "rs";refine ⟨λz=>?_,λ_=>trivial⟩;have z:=of_decide_eq_true z;rw[show (L:Int)+1+(i:Nat)=((L+1+i:Nat):Int) from by lia] at z;have:=m1.ub (L+1+i) (by lia);have:=e2 (L+1+i) (by lia) (by lia);lia
    · rw [show ∀ l : List D, l.filterMap (λ_ => (none : Option D)) = [] from λl => by induction l with | nil => rfl | cons x l ih => exact ih];walk_at "rs";refine ⟨⟨by decide +kernel,by decide +kernel,by decide +kernel⟩,?_⟩;rw[vC _ (by decide +kernel)];exact ⟨λz=>(nomatch z),λ_=>hN _ rfl⟩
  rintro ρ rfl;refine bI (λρ=>∃ps:List P5,Looks g hs cs ps/\ps.length<=9990/\ρ = [some (B.p (D.scr ns)),some (B.p (dW g hs cs)),some (B.p (D.lst (ts.map d5))),some (.p (.int m)),some (.p (.int L)),some (.p (D.lst (ps.map d5))),none]) ?_ λN hN=>?_;rotate_left
  · walk_at "rs";refine ⟨ns,5,rfl,hl,⟨by decide,by decide⟩,λz hz=>?_⟩;walk_at "rs";exact ⟨g,hs,cs,z,iz ns none (some 63),rfl,wk,by rw[show (63:Int)=((63:Nat):Int) from rfl,sy,length_take];lia,λps L hp=>hN _ ⟨ps,L,hp,rfl⟩⟩
  rintro ρ ⟨ps,LL,hp,rfl⟩;refine bI (λρ=>ρ = [some (B.p (D.scr ns)),some (B.p (dW g hs cs)),some (B.p (D.lst (ts.map d5))),some (.p (.int m)),some (.p (.int L)),some (.p (D.lst (ps.map d5))),some (B.p (.tup [.int (aL Bt (gq ps)),.int (aL Bt (tq ps))]))]) ?_ λN hN=>?_;rotate_left
  · repeat (first | dsimp only[dW] | walk_at "rs1" | walk_at "rsx")
    exact ⟨g,hs,cs,ps,rfl,sh,sc,by lia,λ_=>hN _ rfl,λnL=>absurd LL nL⟩
  rintro ρ rfl;have le:=LL.sR ok.zR ok.lN L;rw[e1] at le;walk_at "rs";refine ⟨λz=>(nomatch z),λ_=>⟨λz=>absurd (of_decide_eq_true z) (by lia),λ_=>⟨g,hs,cs,ps,L,rfl,?_⟩⟩⟩;rw[xw LL ok,e1];walk_at "rs";exact q
end
end WS
namespace WS
open PySem L2 DL
theorem eW {α:Type}{P:List α->Prop}(h:∀x0,P [x0]):∀us:List α,us.length=1->P us:=λus hl=>match us,hl with | [x0],_=>h x0
theorem ky {α:Type}{P:List α->Prop}(h:∀x0 x1,P [x0,x1]):∀us:List α,us.length=2->P us:=λus hl=>match us,hl with | [x0,x1],_=>h x0 x1
theorem tE {α:Type}{P:List α->Prop}(h:∀x0 x1 x2,P [x0,x1,x2]):∀us:List α,us.length=3->P us:=λus hl=>match us,hl with | [x0,x1,x2],_=>h x0 x1 x2
theorem yK {α:Type}{P:List α->Prop}(h:∀x0 x1 x2 x3,P [x0,x1,x2,x3]):∀us:List α,us.length=4->P us:=λus hl=>match us,hl with | [x0,x1,x2,x3],_=>h x0 x1 x2 x3
theorem all_mk {l:PySem.W.OpenLaw}{w:LR}{K:Frag}{h:Heap}{mg:Str->Option Lg}{fa:Addr}(X:K.In h)(G:h.Ns mainGlobals mg)(hfa:mg "law" = some (.ref fa))
  {f1:Addr} {od1 an1:Option Addr} {sl1:Array (Option Lg)} {oc1 kV1 dc1 pm1 cd1 ct1:Lg}
  {f2:Addr} {od2 an2:Option Addr} {sl2:Array (Option Lg)} {oc2 kV2 dc2 pm2 cd2 ct2:Lg}
  {f3:Addr} {od3 an3:Option Addr} {sl3:Array (Option Lg)} {oc3 kV3 dc3 pm3 cd3 ct3:Lg}
  {f4:Addr} {od4 an4:Option Addr} {sl4:Array (Option Lg)} {oc4 kV4 dc4 pm4 cd4 ct4:Lg}
  {f5:Addr} {od5 an5:Option Addr} {sl5:Array (Option Lg)} {oc5 kV5 dc5 pm5 cd5 ct5:Lg}
  {f6:Addr} {od6 an6:Option Addr} {sl6:Array (Option Lg)} {oc6 kV6 dc6 pm6 cd6 ct6:Lg}
  {f7:Addr} {od7 an7:Option Addr} {sl7:Array (Option Lg)} {oc7 kV7 dc7 pm7 cd7 ct7:Lg}
  {f8:Addr} {od8 an8:Option Addr} {sl8:Array (Option Lg)} {oc8 kV8 dc8 pm8 cd8 ct8:Lg}
  {f9:Addr} {od9 an9:Option Addr} {sl9:Array (Option Lg)} {oc9 kV9 dc9 pm9 cd9 ct9:Lg}
  {f10:Addr} {od10 an10:Option Addr} {sl10:Array (Option Lg)} {oc10 kV10 dc10 pm10 cd10 ct10:Lg}
  {f11:Addr} {od11 an11:Option Addr} {sl11:Array (Option Lg)} {oc11 kV11 dc11 pm11 cd11 ct11:Lg}
  {f12:Addr} {od12 an12:Option Addr} {sl12:Array (Option Lg)} {oc12 kV12 dc12 pm12 cd12 ct12:Lg}
  {f13:Addr} {od13 an13:Option Addr} {sl13:Array (Option Lg)} {oc13 kV13 dc13 pm13 cd13 ct13:Lg}
  {f14:Addr} {od14 an14:Option Addr} {sl14:Array (Option Lg)} {oc14 kV14 dc14 pm14 cd14 ct14:Lg}
  {f15:Addr} {od15 an15:Option Addr} {sl15:Array (Option Lg)} {oc15 kV15 dc15 pm15 cd15 ct15:Lg}
  {f16:Addr} {od16 an16:Option Addr} {sl16:Array (Option Lg)} {oc16 kV16 dc16 pm16 cd16 ct16:Lg}
  {f17:Addr} {od17 an17:Option Addr} {sl17:Array (Option Lg)} {oc17 kV17 dc17 pm17 cd17 ct17:Lg}
  {f18:Addr} {od18 an18:Option Addr} {sl18:Array (Option Lg)} {oc18 kV18 dc18 pm18 cd18 ct18:Lg}
  {f19:Addr} {od19 an19:Option Addr} {sl19:Array (Option Lg)} {oc19 kV19 dc19 pm19 cd19 ct19:Lg}
  {f20:Addr} {od20 an20:Option Addr} {sl20:Array (Option Lg)} {oc20 kV20 dc20 pm20 cd20 ct20:Lg}
  {f21:Addr} {od21 an21:Option Addr} {sl21:Array (Option Lg)} {oc21 kV21 dc21 pm21 cd21 ct21:Lg}
  {f22:Addr} {od22 an22:Option Addr} {sl22:Array (Option Lg)} {oc22 kV22 dc22 pm22 cd22 ct22:Lg}
  {tk1:Tok}
  {bt1:Addr} {bo1:Option Addr} {bu1 bv1:Tok} {bn1:Nat} {bs1:Array (Option Lg)}
  {Pt mc:Addr}
  (a1:nsIn K mainGlobals "_law_draw" = some (some (.ref f1))) (l1:K.lookup f1=some ⟨oc1,od1,.func (fnOf "_law_draw" "_law_draw" (aR fg) (aI fg) (af fg) .none kV1 dc1 pm1 an1 cd1 ct1),sl1⟩) (c1:codeIn K cd1 "_law_draw" = true) (k1:keepIn K (.ref f1)=true)
  (a2:nsIn K mainGlobals "_law_stream" = some (some (.ref f2))) (l2:K.lookup f2=some ⟨oc2,od2,.func (fnOf "_law_stream" "_law_stream" (aR dr) (aI dr) (af dr) .none kV2 dc2 pm2 an2 cd2 ct2),sl2⟩) (c2:codeIn K cd2 "_law_stream" = true) (k2:keepIn K (.ref f2)=true)
  (a3:nsIn K mainGlobals "_law_works" = some (some (.ref f3))) (l3:K.lookup f3=some ⟨oc3,od3,.func (fnOf "_law_works" "_law_works" (aR df) (aI df) (af df) .none kV3 dc3 pm3 an3 cd3 ct3),sl3⟩) (c3:codeIn K cd3 "_law_works" = true) (k3:keepIn K (.ref f3)=true)
  (a4:nsIn K mainGlobals "rates_by_step" = some (some (.ref f4))) (l4:K.lookup f4=some ⟨oc4,od4,.func (fnOf "rates_by_step" "rates_by_step" (aR bR) (aI bR) (af bR) .none kV4 dc4 pm4 an4 cd4 ct4),sl4⟩) (c4:codeIn K cd4 "rates_by_step" = true) (k4:keepIn K (.ref f4)=true)
  (a5:nsIn K mainGlobals "warmest_first" = some (some (.ref f5))) (l5:K.lookup f5=some ⟨oc5,od5,.func (fnOf "warmest_first" "warmest_first" (aR bB) (aI bB) (af bB) .none kV5 dc5 pm5 an5 cd5 ct5),sl5⟩) (c5:codeIn K cd5 "warmest_first" = true) (k5:keepIn K (.ref f5)=true)
  (a6:nsIn K mainGlobals "is_warm_enough" = some (some (.ref f6))) (l6:K.lookup f6=some ⟨oc6,od6,.func (fnOf "is_warm_enough" "is_warm_enough" (aR bH) (aI bH) (af bH) .none kV6 dc6 pm6 an6 cd6 ct6),sl6⟩) (c6:codeIn K cd6 "is_warm_enough" = true) (k6:keepIn K (.ref f6)=true)
  (a7:nsIn K mainGlobals "shared" = some (some (.ref f7))) (l7:K.lookup f7=some ⟨oc7,od7,.func (fnOf "shared" "shared" (aR gy) (aI gy) (af gy) .none kV7 dc7 pm7 an7 cd7 ct7),sl7⟩) (c7:codeIn K cd7 "shared" = true) (k7:keepIn K (.ref f7)=true)
  (a8:nsIn K mainGlobals "heat_above" = some (some (.ref f8))) (l8:K.lookup f8=some ⟨oc8,od8,.func (fnOf "heat_above" "heat_above" (aR cK) (aI cK) (af cK) .none kV8 dc8 pm8 an8 cd8 ct8),sl8⟩) (c8:codeIn K cd8 "heat_above" = true) (k8:keepIn K (.ref f8)=true)
  (a9:nsIn K mainGlobals "cold_bands" = some (some (.ref f9))) (l9:K.lookup f9=some ⟨oc9,od9,.func (fnOf "cold_bands" "cold_bands" (aR cJ) (aI cJ) (af cJ) .none kV9 dc9 pm9 an9 cd9 ct9),sl9⟩) (c9:codeIn K cd9 "cold_bands" = true) (k9:keepIn K (.ref f9)=true)
  (a10:nsIn K mainGlobals "hot_bands" = some (some (.ref f10))) (l10:K.lookup f10=some ⟨oc10,od10,.func (fnOf "hot_bands" "hot_bands" (aR dc) (aI dc) (af dc) .none kV10 dc10 pm10 an10 cd10 ct10),sl10⟩) (c10:codeIn K cd10 "hot_bands" = true) (k10:keepIn K (.ref f10)=true)
  (a11:nsIn K mainGlobals "lack_above" = some (some (.ref f11))) (l11:K.lookup f11=some ⟨oc11,od11,.func (fnOf "lack_above" "lack_above" (aR dq) (aI dq) (af dq) .none kV11 dc11 pm11 an11 cd11 ct11),sl11⟩) (c11:codeIn K cd11 "lack_above" = true) (k11:keepIn K (.ref f11)=true)
  (a12:nsIn K mainGlobals "lacks_above" = some (some (.ref f12))) (l12:K.lookup f12=some ⟨oc12,od12,.func (fnOf "lacks_above" "lacks_above" (aR cf) (aI cf) (af cf) .none kV12 dc12 pm12 an12 cd12 ct12),sl12⟩) (c12:codeIn K cd12 "lacks_above" = true) (k12:keepIn K (.ref f12)=true)
  (a13:nsIn K mainGlobals "least_heat" = some (some (.ref f13))) (l13:K.lookup f13=some ⟨oc13,od13,.func (fnOf "least_heat" "least_heat" (aR du) (aI du) (af du) .none kV13 dc13 pm13 an13 cd13 ct13),sl13⟩) (c13:codeIn K cd13 "least_heat" = true) (k13:keepIn K (.ref f13)=true)
  (a14:nsIn K mainGlobals "pinch" = some (some (.ref f14))) (l14:K.lookup f14=some ⟨oc14,od14,.func (fnOf "pinch" "pinch" (aR iQ) (aI iQ) (af iQ) .none kV14 dc14 pm14 an14 cd14 ct14),sl14⟩) (c14:codeIn K cd14 "pinch" = true) (k14:keepIn K (.ref f14)=true)
  (a15:nsIn K mainGlobals "_law_steps" = some (some (.ref f15))) (l15:K.lookup f15=some ⟨oc15,od15,.func (fnOf "_law_steps" "_law_steps" (aR eD) (aI eD) (af eD) .none kV15 dc15 pm15 an15 cd15 ct15),sl15⟩) (c15:codeIn K cd15 "_law_steps" = true) (k15:keepIn K (.ref f15)=true)
  (a16:nsIn K mainGlobals "_law_drawn" = some (some (.ref f16))) (l16:K.lookup f16=some ⟨oc16,od16,.func (fnOf "_law_drawn" "_law_drawn" (aR de) (aI de) (af de) .none kV16 dc16 pm16 an16 cd16 ct16),sl16⟩) (c16:codeIn K cd16 "_law_drawn" = true) (k16:keepIn K (.ref f16)=true)
  (a17:nsIn K mainGlobals "heat_by_step" = some (some (.ref f17))) (l17:K.lookup f17=some ⟨oc17,od17,.func (fnOf "heat_by_step" "heat_by_step" (aR cB) (aI cB) (af cB) .none kV17 dc17 pm17 an17 cd17 ct17),sl17⟩) (c17:codeIn K cd17 "heat_by_step" = true) (k17:keepIn K (.ref f17)=true)
  (a18:nsIn K mainGlobals "may_pass" = some (some (.ref f18))) (l18:K.lookup f18=some ⟨oc18,od18,.func (fnOf "may_pass" "may_pass" (aR fi) (aI fi) (af fi) .none kV18 dc18 pm18 an18 cd18 ct18),sl18⟩) (c18:codeIn K cd18 "may_pass" = true) (k18:keepIn K (.ref f18)=true)
  (a19:nsIn K mainGlobals "looked_through" = some (some (.ref f19))) (l19:K.lookup f19=some ⟨oc19,od19,.func (fnOf "looked_through" "looked_through" (aR aS) (aI aS) (af aS) .none kV19 dc19 pm19 an19 cd19 ct19),sl19⟩) (c19:codeIn K cd19 "looked_through" = true) (k19:keepIn K (.ref f19)=true)
  (a20:nsIn K mainGlobals "_law_crossing" = some (some (.ref f20))) (l20:K.lookup f20=some ⟨oc20,od20,.func (fnOf "_law_crossing" "_law_crossing" (aR cC) (aI cC) (af cC) .none kV20 dc20 pm20 an20 cd20 ct20),sl20⟩) (c20:codeIn K cd20 "_law_crossing" = true) (k20:keepIn K (.ref f20)=true)
  (a21:nsIn K mainGlobals "_law_lack" = some (some (.ref f21))) (l21:K.lookup f21=some ⟨oc21,od21,.func (fnOf "_law_lack" "_law_lack" (aR fh) (aI fh) (af fh) .none kV21 dc21 pm21 an21 cd21 ct21),sl21⟩) (c21:codeIn K cd21 "_law_lack" = true) (k21:keepIn K (.ref f21)=true)
  (a22:nsIn K mainGlobals "law" = some (some (.ref f22))) (l22:K.lookup f22=some ⟨oc22,od22,.func (fnOf "law" "law" (aR jV) (aI jV) (af jV) .none kV22 dc22 pm22 an22 cd22 ct22),sl22⟩) (c22:codeIn K cd22 "law" = true) (k22:keepIn K (.ref f22)=true)
  (z1:nsIn K mainGlobals "len" = some none)
  (z2:nsIn K mainGlobals "range" = some none)
  (z3:nsIn K mainGlobals "min" = some none)
  (z4:nsIn K mainGlobals "sum" = some none)
  (z5:nsIn K mainGlobals "enumerate" = some none)
  (z6:nsIn K mainGlobals "max" = some none)
  (z7:nsIn K mainGlobals "sorted" = some none)
  (z8:nsIn K mainGlobals "list" = some none)
  (z9:nsIn K mainGlobals "all" = some none)
  (z10:nsIn K mainGlobals "set" = some none)
  (z11:nsIn K mainGlobals "isinstance" = some none)
  (z12:nsIn K mainGlobals "bool" = some none)
  (z13:nsIn K mainGlobals "int" = some none)
  (y1:nsIn K mainGlobals "LEVELS" = some (some (.int 250 tk1)))
  (yt1:nsIn K mainGlobals "BOUGHT" = some (some (.ref bt1))) (yl1:K.lookup bt1=some ⟨.type "tuple",bo1,.seq #[.int (-1) bu1,.int (-1) bv1] bn1,bs1⟩)
  (m1:cd5=.ref mc) (m2:PySem.W.codeHdIn K mc Pt=true) (m3:K.lookup Pt=none)
  : ∃(fd:FuncData) (c:Addr),K.lookup Pt=none/\PySem.W.codeHdIn K c Pt=true/\(∀(s:Li) (v:Lg),BindsTo s fd ⟨[v],[]⟩ [("script",v)])/\∀base:Heap,K.In base->base.Ns mainGlobals mg->bM mg base->cH l.prog w K mg base iX 6 fa fd ["script"] (tZ K Pt Ey):=by
 have e:=hfa.symm.trans (mg_of X G a22);cases e;have F1:=bP (st:=fg) l1 c1 k1;have b1:=F1.binds (ps:=["script","k"]) λ_ _ _ _ _ _=>ky λ_ _=>rfl;have F2:=bP (st:=dr) l2 c2 k2;have b2:=F2.binds (ps:=["number","low","wide","most"]) λ_ _ _ _ _ _=>yK λ_ _ _ _=>rfl;have F3:=bP (st:=df) l3 c3 k3;have b3:=F3.binds (ps:=["script"]) λ_ _ _ _ _ _=>eW λ_=>rfl;have F4:=bP (st:=bR) l4 c4 k4;have b4:=F4.binds (ps:=["streams"]) λ_ _ _ _ _ _=>eW λ_=>rfl;have F5:=bP (st:=bB) l5 c5 k5;have b5:=F5.binds (ps:=["steps"]) λ_ _ _ _ _ _=>eW λ_=>rfl;have F6:=bP (st:=bH) l6 c6 k6;have b6:=F6.binds (ps:=["gap","giver","taker"]) λ_ _ _ _ _ _=>tE λ_ _ _=>rfl;have F7:=bP (st:=gy) l7 c7 k7;have b7:=F7.binds (ps:=["works"]) λ_ _ _ _ _ _=>eW λ_=>rfl;have F8:=bP (st:=cK) l8 c8 k8;have b8:=F8.binds (ps:=["bands","level"]) λ_ _ _ _ _ _=>ky λ_ _=>rfl;have F9:=bP (st:=cJ) l9 c9 k9;have b9:=F9.binds (ps:=["works"]) λ_ _ _ _ _ _=>eW λ_=>rfl;have F10:=bP (st:=dc) l10 c10 k10;have b10:=F10.binds (ps:=["works"]) λ_ _ _ _ _ _=>eW λ_=>rfl;have F11:=bP (st:=dq) l11 c11 k11;have b11:=F11.binds (ps:=["works","level"]) λ_ _ _ _ _ _=>ky λ_ _=>rfl;have F12:=bP (st:=cf) l12 c12 k12;have b12:=F12.binds (ps:=["works"]) λ_ _ _ _ _ _=>eW λ_=>rfl;have F13:=bP (st:=du) l13 c13 k13;have b13:=F13.binds (ps:=["works"]) λ_ _ _ _ _ _=>eW λ_=>rfl;have F14:=bP (st:=iQ) l14 c14 k14;have b14:=F14.binds (ps:=["works"]) λ_ _ _ _ _ _=>eW λ_=>rfl;have F15:=bP (st:=eD) l15 c15 k15;have b15:=F15.binds (ps:=["streams","number"]) λ_ _ _ _ _ _=>ky λ_ _=>rfl;have F16:=bP (st:=de) l16 c16 k16;have b16:=F16.binds (ps:=["works","number","cells"]) λ_ _ _ _ _ _=>tE λ_ _ _=>rfl;have F17:=bP (st:=cB) l17 c17 k17;have b17:=F17.binds (ps:=["pairs"]) λ_ _ _ _ _ _=>eW λ_=>rfl;have F18:=bP (st:=fi) l18 c18 k18;have b18:=F18.binds (ps:=["gap","giver","taker","heat"]) λ_ _ _ _ _ _=>yK λ_ _ _ _=>rfl;have F19:=bP (st:=aS) l19 c19 k19;have b19:=F19.binds (ps:=["works","passes"]) λ_ _ _ _ _ _=>ky λ_ _=>rfl;have F20:=bP (st:=cC) l20 c20 k20;have b20:=F20.binds (ps:=["works","passes","level"]) λ_ _ _ _ _ _=>tE λ_ _ _=>rfl;have F21:=bP (st:=fh) l21 c21 k21;have b21:=F21.binds (ps:=["works","level"]) λ_ _ _ _ _ _=>ky λ_ _=>rfl;have F22:=bP (st:=jV) l22 c22 k22;have b22:=F22.binds (ps:=["script"]) λ_ _ _ _ _ _=>eW λ_=>rfl;have T:oG K mg:=⟨mg_none_of X G z1,mg_none_of X G z2,mg_none_of X G z3,mg_none_of X G z4,mg_none_of X G z5,mg_none_of X G z6,mg_none_of X G z7,mg_none_of X G z8,mg_none_of X G z9,mg_none_of X G z10,mg_none_of X G z11,mg_none_of X G z12,mg_none_of X G z13,⟨_,mg_of X G y1⟩,⟨_,mg_of X G yt1,λH=>.inr ⟨_,_,_,yl1,rfl,rfl,fW (by show 2<=1000;decide),.cons ⟨_,rfl⟩ (.cons ⟨_,rfl⟩ .nil)⟩⟩⟩
 subst m1;have FC:=DK (st:=bB) l5 c5 m2;have G1:∀base:Heap,K.In base/\bM mg base->Fn l.prog w K mg base "_law_draw" 1 ["script","k"] (dN K iN):=λbase B=>dJ F1 (mg_of X G a1) b1 (vx T F1);have G2:∀base:Heap,K.In base/\bM mg base->Fn l.prog w K mg base "_law_stream" 1 ["number","low","wide","most"] (dN K iO):=λbase B=>dJ F2 (mg_of X G a2) b2 (qD T F2);have G3:∀base:Heap,K.In base/\bM mg base->Fn l.prog w K mg base "_law_works" 2 ["script"] (dN K jT):=λbase B=>dJ F3 (mg_of X G a3) b3 (tJ T (G1 base B) (G2 base B) F3);have G4:∀base:Heap,K.In base/\bM mg base->Fn l.prog w K mg base "rates_by_step" 1 ["streams"] (dN K dU):=λbase B=>dJ F4 (mg_of X G a4) b4 (mY T F4);have G5:∀base:Heap,K.In base/\bM mg base->Fn l.prog w K mg base "warmest_first" 1 ["steps"] (oe K Pt Ey fJ):=λbase B=>dJ F5 (mg_of X G a5) b5 (mZ B.1 B.2 T FC);have G6:∀base:Heap,K.In base/\bM mg base->Fn l.prog w K mg base "is_warm_enough" 1 ["gap","giver","taker"] (dN K dm):=λbase B=>dJ F6 (mg_of X G a6) b6 (mz T F6);have G7:∀base:Heap,K.In base/\bM mg base->Fn l.prog w K mg base "shared" 2 ["works"] (oe K Pt Ey pV):=λbase B=>dJ F7 (mg_of X G a7) b7 (Aj T (G4 base B) (G5 base B) (G6 base B) F7);have G8:∀base:Heap,K.In base/\bM mg base->Fn l.prog w K mg base "heat_above" 1 ["bands","level"] (dN K iL):=λbase B=>dJ F8 (mg_of X G a8) b8 (qB T F8);have G9:∀base:Heap,K.In base/\bM mg base->Fn l.prog w K mg base "cold_bands" 1 ["works"] (dN K iK):=λbase B=>dJ F9 (mg_of X G a9) b9 (qA T F9);have G10:∀base:Heap,K.In base/\bM mg base->Fn l.prog w K mg base "hot_bands" 1 ["works"] (dN K jQ):=λbase B=>dJ F10 (mg_of X G a10) b10 (tG T F10);have G11:∀base:Heap,K.In base/\bM mg base->Fn l.prog w K mg base "lack_above" 2 ["works","level"] (dN K iM):=λbase B=>dJ F11 (mg_of X G a11) b11 (qC T (G8 base B) (G9 base B) (G10 base B) F11);have G12:∀base:Heap,K.In base/\bM mg base->Fn l.prog w K mg base "lacks_above" 3 ["works"] (dN K fw):=λbase B=>dJ F12 (mg_of X G a12) b12 (pI T (G11 base B) F12);have G13:∀base:Heap,K.In base/\bM mg base->Fn l.prog w K mg base "least_heat" 4 ["works"] (dN K iP):=λbase B=>dJ F13 (mg_of X G a13) b13 (qE T (G12 base B) F13);have G14:∀base:Heap,K.In base/\bM mg base->Fn l.prog w K mg base "pinch" 5 ["works"] (dN K tS):=λbase B=>dJ F14 (mg_of X G a14) b14 (Ce T (G13 base B) (G12 base B) F14);have G15:∀base:Heap,K.In base/\bM mg base->Fn l.prog w K mg base "_law_steps" 1 ["streams","number"] (dN K jS):=λbase B=>dJ F15 (mg_of X G a15) b15 (tI T F15);have G16:∀base:Heap,K.In base/\bM mg base->Fn l.prog w K mg base "_law_drawn" 2 ["works","number","cells"] (dN K jR):=λbase B=>dJ F16 (mg_of X G a16) b16 (tH T (G15 base B) F16);have G17:∀base:Heap,K.In base/\bM mg base->Fn l.prog w K mg base "heat_by_step" 1 ["pairs"] (dN K gj):=λbase B=>dJ F17 (mg_of X G a17) b17 (n4 T F17);have G18:∀base:Heap,K.In base/\bM mg base->Fn l.prog w K mg base "may_pass" 2 ["gap","giver","taker","heat"] (dN K ly):=λbase B=>dJ F18 (mg_of X G a18) b18 (vz T (G6 base B) F18);have G19:∀base:Heap,K.In base/\bM mg base->Fn l.prog w K mg base "looked_through" 3 ["works","passes"] (dN K fe):=λbase B=>dJ F19 (mg_of X G a19) b19 (mB T (G17 base B) (G4 base B) (G18 base B) F19);have G20:∀base:Heap,K.In base/\bM mg base->Fn l.prog w K mg base "_law_crossing" 1 ["works","passes","level"] (dN K gm):=λbase B=>dJ F20 (mg_of X G a20) b20 (n5 T F20);have G21:∀base:Heap,K.In base/\bM mg base->Fn l.prog w K mg base "_law_lack" 1 ["works","level"] (dN K lx):=λbase B=>dJ F21 (mg_of X G a21) b21 (vy T F21);exact ⟨fnOf "law" "law" (aR jV) (aI jV) (af jV) .none kV22 dc22 pm22 an22 cd22 ct22,_,m3,m2,λs v=>.of_eq rfl,λbase kb _ B=>(λB=>D4 (Gm T (G3 base B) (G7 base B) (G14 base B) (G16 base B) (G19 base B) (G20 base B) (G1 base B) (G21 base B) F22)) ⟨kb,B⟩⟩
end WS
open PySem PySem.W PyProof.Rows
set_option maxRecDepth 100000 in
set_option maxHeartbeats 0 in
theorem PySem.Challenge.cw_warmshare_k19_whole_nothing_passes_the_p_holds : PySem.Challenge.rw_warmshare_k19_whole_nothing_passes_the_p.Holds := by
  w_on;o_law;k_head;(case hw=>w_witness2)
  k_fill
  refine DL.C2 (l:=PySem.Challenge.rw_warmshare_k19_whole_nothing_passes_the_p) (k:=6) (x:="script") (qn:=WS.Ey) rfl rfl ⟨rfl,by decide,by decide,rfl⟩ (λw h Y=>⟨PySem.W.km_in_of Y,PySem.W.km_tabs_of Y _ (mem_singleton.mpr rfl)⟩) ?F
  case F =>
    intro w mg fa h KX G hmg
    refine' WS.all_mk KX G hmg ?a1 ?l1 ?c1 ?k1 ?a2 ?l2 ?c2 ?k2 ?a3 ?l3 ?c3 ?k3 ?a4 ?l4 ?c4 ?k4 ?a5 ?l5 ?c5 ?k5 ?a6 ?l6 ?c6 ?k6 ?a7 ?l7 ?c7 ?k7 ?a8 ?l8 ?c8 ?k8 ?a9 ?l9 ?c9 ?k9 ?a10 ?l10 ?c10 ?k10 ?a11 ?l11 ?c11 ?k11 ?a12 ?l12 ?c12 ?k12 ?a13 ?l13 ?c13 ?k13 ?a14 ?l14 ?c14 ?k14 ?a15 ?l15 ?c15 ?k15 ?a16 ?l16 ?c16 ?k16 ?a17 ?l17 ?c17 ?k17 ?a18 ?l18 ?c18 ?k18 ?a19 ?l19 ?c19 ?k19 ?a20 ?l20 ?c20 ?k20 ?a21 ?l21 ?c21 ?k21 ?a22 ?l22 ?c22 ?k22 ?z1 ?z2 ?z3 ?z4 ?z5 ?z6 ?z7 ?z8 ?z9 ?z10 ?z11 ?z12 ?z13 ?y1 ?yt1 ?yl1 ?m1 ?m2 ?m3
    (case a1=>k_is)
    (case l1=>k_is)
    (case c1=>k_is)
    (case k1=>k_is)
    (case a2=>k_is)
    (case l2=>k_is)
    (case c2=>k_is)
    (case k2=>k_is)
    (case a3=>k_is)
    (case l3=>k_is)
    (case c3=>k_is)
    (case k3=>k_is)
    (case a4=>k_is)
    (case l4=>k_is)
    (case c4=>k_is)
    (case k4=>k_is)
    (case a5=>k_is)
    (case l5=>k_is)
    (case c5=>k_is)
    (case k5=>k_is)
    (case a6=>k_is)
    (case l6=>k_is)
    (case c6=>k_is)
    (case k6=>k_is)
    (case a7=>k_is)
    (case l7=>k_is)
    (case c7=>k_is)
    (case k7=>k_is)
    (case a8=>k_is)
    (case l8=>k_is)
    (case c8=>k_is)
    (case k8=>k_is)
    (case a9=>k_is)
    (case l9=>k_is)
    (case c9=>k_is)
    (case k9=>k_is)
    (case a10=>k_is)
    (case l10=>k_is)
    (case c10=>k_is)
    (case k10=>k_is)
    (case a11=>k_is)
    (case l11=>k_is)
    (case c11=>k_is)
    (case k11=>k_is)
    (case a12=>k_is)
    (case l12=>k_is)
    (case c12=>k_is)
    (case k12=>k_is)
    (case a13=>k_is)
    (case l13=>k_is)
    (case c13=>k_is)
    (case k13=>k_is)
    (case a14=>k_is)
    (case l14=>k_is)
    (case c14=>k_is)
    (case k14=>k_is)
    (case a15=>k_is)
    (case l15=>k_is)
    (case c15=>k_is)
    (case k15=>k_is)
    (case a16=>k_is)
    (case l16=>k_is)
    (case c16=>k_is)
    (case k16=>k_is)
    (case a17=>k_is)
    (case l17=>k_is)
    (case c17=>k_is)
    (case k17=>k_is)
    (case a18=>k_is)
    (case l18=>k_is)
    (case c18=>k_is)
    (case k18=>k_is)
    (case a19=>k_is)
    (case l19=>k_is)
    (case c19=>k_is)
    (case k19=>k_is)
    (case a20=>k_is)
    (case l20=>k_is)
    (case c20=>k_is)
    (case k20=>k_is)
    (case a21=>k_is)
    (case l21=>k_is)
    (case c21=>k_is)
    (case k21=>k_is)
    (case a22=>k_is)
    (case l22=>k_is)
    (case c22=>k_is)
    (case k22=>k_is)
    (case z1=>k_is)
    (case z2=>k_is)
    (case z3=>k_is)
    (case z4=>k_is)
    (case z5=>k_is)
    (case z6=>k_is)
    (case z7=>k_is)
    (case z8=>k_is)
    (case z9=>k_is)
    (case z10=>k_is)
    (case z11=>k_is)
    (case z12=>k_is)
    (case z13=>k_is)
    (case y1=>k_is)
    (case yt1=>k_is)
    (case yl1=>k_is)
    (case m1=>rfl)
    (case m2=>kernel_rfl)
    (case m3=>kernel_rfl)
#print axioms PySem.Challenge.cw_warmshare_k19_whole_nothing_passes_the_p_holds