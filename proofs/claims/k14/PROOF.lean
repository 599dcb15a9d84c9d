import PyProof.Rows.All
import Wide.All
import OpenK.AllK
import Wide.FinOn
import Lean
import PyProof.EqAt
import PyProof.EqKinds
import PyProof.TupleCall
import KE.KSortKey
import KE.KLam
import KE.KMinKey
import KE.KDictList
import KE.KSortTup
import KE.KEqDict
import PyProof.SetKind
import PyProof.TupleKey
import PyProof.IsRules
import PyProof.Rows.SetFrom
import PyProof.SetRoads
import PyProof.Rows.FactsT2
import PyProof.SetScanFacts
import PySem.SetTable
import PySem.Challenge.RW_warmshare_k14_a_told_sharing_is_good
open PySem renaming Value->GR,wpAny_bind->GS,Shared->GU,wpAny_pure->GX,Program->Hj,Around->Hr,World->Hs
open List renaming getElem?_eq_getElem->GV,getElem?_eq_some_iff->Hb,length_map->Hh,mem_of_getElem?->Hi,size_toArray->Hk,mem_cons->Hn,length_append->Hu,mem_cons_of_mem->Hv,getElem?_map->Hw
open Nat renaming le_refl->GW,ne_of_lt->Hm,lt_of_lt_of_le->Ho
open Array renaming getElem?_toList->GY,getElem?_eq_getElem->Ha,length_toList->Hd
open PySem.Heap renaming get?_push_of_some->GZ,lt_size->Hg,get?_push_size->Hq
open PyProof.Rows renaming wpS_bind->Hc,wpS_pure->He,SortSt->Hf
open Bool renaming false_eq_true->Hl,false_ne_true->Ht
open PySem.W (Frag nsIn fnOf keepIn codeIn kia_one mg_of mg_none_of findIn kitx_list instObj methodObj lookIn kitx_dict plainGet specialIn isFn kitOne kitx_tuple cellsFrom_some tabObj codeHd_of_K)
open PyProof.Rows (boot_bool boot_enumerate boot_int boot_isinstance boot_list boot_max boot_min boot_set boot_sorted boot_sum boot_tuple)
open List (mem_map map_cons map_append mem_append length_cons map_map length_take append_assoc mem_range filter_cons mem_singleton length_drop nodup_cons length_range filter_append sum_cons sum_append nodup_append mem_cons_self filterMap_cons take_append_drop pairwise_append mem_append_left mem_append_right mem_of_mem_take mem_of_mem_drop perm_append_comm pairwise_map getD_eq_getElem?_getD map_congr_left filter_sublist map_take map_drop take_of_length_le drop_eq_getElem_cons map_set pairwise_iff_getElem mem_iff_getElem? length_set lookup_cons nodup_range append_nil length_eq_zero_iff eq_nil_or_concat concat_eq_append)
theorem aZa (h:True:=by rfl):True:=h
theorem aZb (h:True:=by decide):True:=h
theorem aZc (h:True:=by intro _;rfl):True:=h
theorem aZd (h:True:=by first | exact .inl rfl | exact .inr rfl | assumption):True:=h
theorem aZe (h:True:=by decide +kernel):True:=h
theorem aZf (h:True:=by first | exact Or.inl rfl | exact Or.inr (Or.inl rfl) | exact Or.inr (Or.inr rfl)):True:=h
theorem aZg (h:True:=by first | exact .inl rfl | exact .inr rfl):True:=h
theorem aZh (h:True:=by exact Nat.le_of_ble_eq_true rfl):True:=h
theorem aZi (h:True:=by exact λ_ _=>rfl):True:=h
set_option maxHeartbeats 4000000
set_option bootstrap.genMatcherCode false
set_option genSizeOfSpec false
noncomputable section
set_option Elab.async false
set_option linter.all false
set_option maxRecDepth 100000
namespace L2
open PySem PySem.Spec PyProof.Rows
noncomputable abbrev Key:=Sum Int Str
noncomputable def mY:Key->GR->Bool
  | .inl k,v=>Value.isInt k v
  | .inr x,v=>Value.isStrOf x v
noncomputable def Fq (w:Hs):Key->Int
  | .inl k=>hashInt k
  | .inr x=>hashStr w x
theorem bq:∀{k:Key} {v:GR},mY k v=true->(∃i t,k=Sum.inl i/\v=Value.int i t)\/(∃x t,k=Sum.inr x/\v=Value.str x t)
  | .inl i,v,h=>by
    obtain ⟨t,e⟩:=Value.isInt_shape (k:=i) (v:=v) h;exact .inl ⟨i,t,rfl,e⟩
  | .inr x,v,h=>by
    obtain ⟨t,e⟩:=Value.isStrOf_shape (x:=x) (v:=v) h;exact .inr ⟨x,t,rfl,e⟩
theorem u0 (i:Int)(t:Tok):mY (.inl i) (.int i t)=true:=by simp[mY,Value.isInt]
theorem u5 (x:Str)(t:Tok):mY (.inr x) (.str x t)=true:=by simp[mY,Value.isStrOf]
theorem BA (a b:Int):decide ((Sum.inl a:Key)=Sum.inl b)=(a == b):=by
  by_cases e:a=b
  · subst e;simp
  · have h:¬(Sum.inl a:Key)=Sum.inl b:=λq=>e (Sum.inl.inj q);rw[decide_eq_false h];exact (beq_eq_false_iff_ne.mpr e).symm
theorem BF (a b:Str):decide ((Sum.inr a:Key)=Sum.inr b)=decide (a=b):=by
  by_cases e:a=b
  · subst e;simp
  · have h:¬(Sum.inr a:Key)=Sum.inr b:=λq=>e (Sum.inr.inj q);rw[decide_eq_false h,decide_eq_false e]
theorem BB (a:Int)(b:Str):decide ((Sum.inl a:Key)=Sum.inr b)=false:=decide_eq_false (λq=>nomatch q)
theorem BE (a:Str)(b:Int):decide ((Sum.inr a:Key)=Sum.inl b)=false:=decide_eq_false (λq=>nomatch q)
noncomputable def bw (prog:Hj)(w:Hs):PySem.KeyKind prog w Key where
  is:=mY
  hash:=Fq w
  inj:=λv a b ha hb=>by
    rcases bq ha with ⟨i,t,rfl,rfl⟩ | ⟨x,t,rfl,rfl⟩
    · rcases bq hb with ⟨j,u,rfl,e⟩ | ⟨y,u,rfl,e⟩
      · injection e with e1 _;rw[e1]
      · exact nomatch e
    · rcases bq hb with ⟨j,u,rfl,e⟩ | ⟨y,u,rfl,e⟩
      · exact nomatch e
      · injection e with e1 _;rw[e1]
  byValue:=λk v h=>by
    rcases bq h with ⟨i,t,rfl,rfl⟩ | ⟨x,t,rfl,rfl⟩<;>rfl
  pyHash:=λhv h=>by
    rcases bq hv with ⟨i,t,rfl,rfl⟩ | ⟨x,t,rfl,rfl⟩
    · exact wpAny_pyHash_int h
    · exact wpAny_pyHash_str h
  eqBool:=λhu hv h=>by
    rcases bq hu with ⟨i,t,rfl,rfl⟩ | ⟨x,t,rfl,rfl⟩
    · rcases bq hv with ⟨j,u,rfl,rfl⟩ | ⟨y,u,rfl,rfl⟩
      · rw[BA] at h;exact wpAny_eqBool_int h
      · rw[BB] at h;exact SeqAt.EqAt.int_str i t y u _ _ _ _ h
    · rcases bq hv with ⟨j,u,rfl,rfl⟩ | ⟨y,u,rfl,rfl⟩
      · rw[BE] at h;exact SeqAt.EqAt.str_int x t j u _ _ _ _ h
      · rw[BF] at h;exact wpAny_eqBool_str h
  «strs»:=λk x t v h=>by
    rcases bq h with ⟨i,u,rfl,e⟩ | ⟨y,u,rfl,e⟩
    · exact nomatch e
    · injection e with e1 _
      subst e1;cases v<;>rfl
theorem qq (prog:Hj)(w:Hs)(i:Int)(t:Tok):(bw prog w).is (.inl i) (.int i t)=true:=u0 i t
theorem qr (prog:Hj)(w:Hs)(x:Str)(t:Tok):(bw prog w).is (.inr x) (.str x t)=true:=u5 x t
end L2
namespace L2
open PySem PySem.Spec PyProof.Rows
inductive V where
  | non | bl (b:Bool) | int (i:Int) | str (x:Str) | byt (b:Array UInt8) | flt (b:UInt64) | ref (a:Addr) | ty (n:String)
  deriving DecidableEq
noncomputable def RelV:V->GR->Prop
  | .non,u=>u=Value.none
  | .bl b,u=>u=Value.bool b
  | .int i,u=>∃t,u=Value.int i t
  | .str x,u=>∃t,u=Value.str x t
  | .byt b,u=>∃t,u=Value.bytes b t
  | .flt b,u=>∃t,u=Value.float b t
  | .ref a,u=>u=Value.ref a
  | .ty n,u=>u=Value.type n
noncomputable abbrev Vals:List V->List GR->Prop:=Paired RelV
theorem Vals.length {xs:List V}{us:List GR}(r:Vals xs us):xs.length=us.length:=Paired.length r
theorem Vals.get:∀{xs:List V} {us:List GR} {i:Nat} {x:V},Vals xs us->xs[i]?=some x->∃u,us[i]?=some u/\RelV x u
  | _,_,_,_,.nil,e=>by simp at e
  | _,_,0,_,.cons r _,e=>by simp at e;subst e;exact ⟨_,rfl,r⟩
  | _,_,i+1,x,.cons _ t,e=>by
    obtain ⟨u,h1,h2⟩:=Vals.get (i:=i) (x:=x) t (by simpa using e);exact ⟨u,by simpa using h1,h2⟩
theorem Vals.append:∀{xs ys:List V} {us ws:List GR},Vals xs us->Vals ys ws->Vals (xs++ys) (us++ws)
  | _,_,_,_,.nil,s=>s
  | _,_,_,_,.cons r t,s=>.cons r (Vals.append t s)
theorem Vals.take:∀{xs:List V} {us:List GR} (n:Nat),Vals xs us->Vals (xs.take n) (us.take n)
  | _,_,0,_=>.nil
  | _,_,_+1,.nil=>.nil
  | _,_,n+1,.cons r t=>.cons r (Vals.take n t)
theorem Vals.drop:∀{xs:List V} {us:List GR} (n:Nat),Vals xs us->Vals (xs.drop n) (us.drop n)
  | _,_,0,r=>r
  | _,_,_+1,.nil=>.nil
  | _,_,n+1,.cons _ t=>Vals.drop n t
theorem Vals.none_of:∀{xs:List V} {us:List GR} {i:Nat},Vals xs us->xs[i]?=none->us[i]?=none:=λ{xs us i} r e=>by
  have h1:=r.length;have h2:xs.length<=i:=List.getElem?_eq_none_iff.mp e;exact List.getElem?_eq_none_iff.mpr (by lia)
noncomputable def j7:Option V->Option GR->Prop
  | some v,some u=>RelV v u
  | none,none=>True
  | _,_=>False
noncomputable def KV {κ:Type}:List (κ×V)->List (κ×GR)->Prop:=Paired λ(p:κ×V) (q:κ×GR)=>p.1=q.1/\RelV p.2 q.2
noncomputable def kV:Key->V
  | .inl i=>.int i
  | .inr x=>.str x
inductive HO where
  | lst (xs:List V)
  | tup (xs:List V)
  | dK (kvs:List (Key×V)) | dT (kvs:List (List Key×V))
  | set (S:Int->Bool) (n:Nat)
  | ins (C dx:Addr) (fs:List (Str×V))
  | own (x:Addr)
  | xd (fs:List (Str×V))
  | met (f x:Addr)
  | rng (lo hi:Int)
  | cx (o:Obj) (u:HO)
  | tbl (ps:Array GR)
  | ext (φ:Heap->Prop)
noncomputable abbrev Hp:=Addr->Option HO
noncomputable def upd (H:Hp)(a:Addr)(o:HO):Hp:=λb=>if b=a then some o else H b
theorem ay {H:Hp}{a:Addr}{o:HO}:upd H a o a=some o:=by unfold upd;rw[if_pos rfl]
theorem aw {H:Hp}{a b:Addr}{o:HO}(h:b≠a):upd H a o b=H b:=by unfold upd;rw[if_neg h]
theorem xC {H:Hp}{a b:Addr}{o u:HO}(h:H a=some o)(h':H b=some u)(d:o≠u):a≠b:=by
  intro e;subst e;rw[h] at h';exact d (Option.some.inj h')
theorem aH {H:Hp}{a b:Addr}{o:HO}(h:H a=some o)(h':H b=none):a≠b:=by
  intro e;subst e;rw[h] at h';cases h'
section
variable (P:Hj) (w:Hs)
noncomputable def bC (H:Hp)(h:Heap)(a:Addr):HO->Prop
  | .lst xs=>xs.length<=sizeLine/\∃(its:List GR) (n:Nat),Vals xs its/\h.get? a=some { cls:=.type "list",data:=.seq its.toArray n }
  | .tup xs=>xs.length<=sizeLine/\∃its:List GR,Vals xs its/\IsTup h a its.toArray
  | .dK kvs=>kvs.length<=sizeLine/\(a == sysModules)=false/\∃vs,KV kvs vs/\h.DictOf (bw P w) a vs
  | .dT kvs=>kvs.length<=sizeLine/\(a == sysModules)=false/\∃xs:List (List Key×Addr×GR),
      Paired (λ(p:List Key×V) (q:List Key×Addr×GR)=>p.1=q.1/\H q.2.1=some (.tup (p.1.map kV))/\RelV p.2 q.2.2) kvs xs /\
      ∃o es ep,h.get? a=some o/\o.ExactDict/\o.data=.dict es ep/\es.toList=xs.map (entryOfKey (tupleKind (bw P w)))/\(xs.map (·.1)).Nodup
  | .set S n=>h.SetOf (intKind P w) a S n
  | .ins C dx fs=>H dx=some (.own a)/\fs.length<=1000/\dx≠a/\h.get? a=some (instObj C dx) /\
      ∃mA,h.Ns1 dx mA/\(∀f,j7 (fs.lookup f) (mA f))/\PySem.Within mA (fs.map (·.1))
  | .own _=>∃o,h.get? a=some o
  | .xd fs=>∃mA,h.Ns1 a mA/\∀f,j7 (fs.lookup f) (mA f)
  | .rng lo hi=>∃t u v,h.get? a=some { cls:=.type "range",data:=.fields #[.int lo t,.int hi u,.int 1 v] }
  | .cx o u=>h.get? a=some o/\bC H h a u
  | .tbl qs=>∃tb:Array GR,h.get? a=some { cls:=.none,data:=.fields tb }/\TriplesOk tb.toList /\
      ∀pos cv,codeAmong pos tb.toList=some cv->∃c q t,cv=.ref c/\qs[0]?=some (.str q t)/\H c=some (.own a)/\h.CodeRec (.ref c) q
  | .met f x=>h.get? a=some (methodObj (.ref f) (.ref x))
  | .ext φ=>φ h/\(∃o,h.get? a=some o)/\∀h1 h2:Heap,φ h1->(∀o,h1.get? a=some o->h2.get? a=some o)->φ h2
noncomputable def gA (H:Hp)(h:Heap):Prop:=∀a o,H a=some o->bC P w H h a o
end
section
variable {P:Hj} {w:Hs} {H H':Hp} {h h':Heap} {a:Addr} {o:HO}
theorem bC.lt (x:bC P w H h a o):a<h.objs.size:=by
  cases o with
  | lst xs=>obtain ⟨_,_,_,_,e⟩:=x;exact Hg e
  | tup xs=>obtain ⟨_,_,_,p⟩:=x;exact p.lt
  | dK kvs=>obtain ⟨_,_,_,_,o,_,_,e,_⟩:=x;exact Hg e
  | dT kvs=>obtain ⟨_,_,_,_,o,_,_,e,_⟩:=x;exact Hg e
  | set S n=>obtain ⟨o,_,_,_,e,_⟩:=x;exact Hg e
  | ins C dx fs=>obtain ⟨_,_,_,e,_⟩:=x;exact Hg e
  | own y=>obtain ⟨_,e⟩:=x;exact Hg e
  | xd fs=>obtain ⟨_,⟨_,_,_,e,_⟩,_⟩:=x;exact Hg e
  | rng lo hi=>obtain ⟨_,_,_,e⟩:=x;exact Hg e
  | cx ob u=>obtain ⟨e,_⟩:=x;exact Hg e
  | tbl qs=>obtain ⟨_,e,_⟩:=x;exact Hg e
  | met f y=>exact Hg (show h.get? a=some _ from x)
  | ext φ=>obtain ⟨_,⟨_,e⟩,_⟩:=x;exact Hg e
theorem Paired.zB {α β:Type}{F G:α->β->Prop}:∀{l₁:List α} {l₂:List β},Paired F l₁ l₂->(∀a b,F a b->G a b)->Paired G l₁ l₂
  | _,_,.nil,_=>.nil
  | _,_,.cons r t,f=>.cons (f _ _ r) (Paired.zB t f)
theorem Paired.imp' {α β:Type}{F G:α->β->Prop}(f:∀a b,F a b->G a b){l₁:List α}{l₂:List β}(r:Paired F l₁ l₂):Paired G l₁ l₂:=Paired.zB r f
theorem bC.d8 (x:bC P w H h a o)(k:∀b u,(b=a\/H b=some (.own a))->h.get? b=some u->h'.get? b=some u)
    (ho:∀b,H b=some (.own a)->H' b=some (.own a)) (ht:∀b xs,H b=some (.tup xs)->H' b=some (.tup xs)):bC P w H' h' a o:=by
  induction o with
  | lst xs=>obtain ⟨z,its,n,r,e⟩:=x;exact ⟨z,its,n,r,k _ _ (.inl rfl) e⟩
  | tup xs=>obtain ⟨z,its,r,ob,e,c⟩:=x;exact ⟨z,its,r,ob,k _ _ (.inl rfl) e,c⟩
  | dK kvs=>obtain ⟨z,y,vs,r,ob,es,ep,e,c⟩:=x;exact ⟨z,y,vs,r,ob,es,ep,k _ _ (.inl rfl) e,c⟩
  | dT kvs =>
    obtain ⟨z,y,xs,r,ob,es,ep,e,c⟩:=x;exact ⟨z,y,xs,Paired.zB r λp q z=>⟨z.1,ht _ _ z.2.1,z.2.2⟩,ob,es,ep,k _ _ (.inl rfl) e,c⟩
  | set S n=>obtain ⟨ob,es,ep,t,e,c⟩:=x;exact ⟨ob,es,ep,t,k _ _ (.inl rfl) e,c⟩
  | ins C dx fs =>
    obtain ⟨d,z,ne,e,mA,⟨od,es,ep,e2,c⟩,r⟩:=x;exact ⟨ho _ d,z,ne,k _ _ (.inl rfl) e,mA,⟨od,es,ep,k _ _ (.inr d) e2,c⟩,r⟩
  | own y=>obtain ⟨ob,e⟩:=x;exact ⟨ob,k _ _ (.inl rfl) e⟩
  | xd fs=>obtain ⟨mA,⟨od,es,ep,e,c⟩,r⟩:=x;exact ⟨mA,⟨od,es,ep,k _ _ (.inl rfl) e,c⟩,r⟩
  | rng lo hi=>obtain ⟨t,u,v,e⟩:=x;exact ⟨t,u,v,k _ _ (.inl rfl) e⟩
  | cx ob u ih=>obtain ⟨e,q⟩:=x;exact ⟨k _ _ (.inl rfl) e,ih q⟩
  | tbl qs =>
    obtain ⟨m,e,t,f⟩:=x;refine ⟨m,k _ _ (.inl rfl) e,t,λpos cv z=>?_⟩;obtain ⟨c,q,u,r,r2,o,c2,ob,vs,tk,e2,g,rest⟩:=f pos cv z;cases e2;exact ⟨c,q,u,r,r2,ho _ o,c,ob,vs,tk,rfl,k _ _ (.inr o) g,rest⟩
  | met f y =>
    have e:h.get? a=some (methodObj (.ref f) (.ref y)):=x;show h'.get? a=some (methodObj (.ref f) (.ref y));exact k a _ (.inl rfl) e
  | ext φ=>obtain ⟨p,⟨o,e⟩,st⟩:=x;exact ⟨st _ _ p λo q=>k _ _ (.inl rfl) q,⟨o,k _ _ (.inl rfl) e⟩,st⟩
theorem gA.lt (x:gA P w H h)(e:H a=some o):a<h.objs.size:=(x a o e).lt
theorem gA.fresh (x:gA P w H h)(e:h.objs.size<=a):H a=none:=by
  cases q:H a with
  | none=>rfl
  | some u=>exact absurd (Ho (x.lt q) e) (Nat.lt_irrefl _)
theorem gA.kept (x:gA P w H h)(k:∀b u,h.get? b=some u->h'.get? b=some u):gA P w H h':=λa o e =>
  (x a o e).d8 (λb u _ q=>k b u q) (λ_ q=>q) λ_ _ q=>q
theorem gA.laid (x:gA P w H h)(k:∀b u,h.get? b=some u->h'.get? b=some u)(hp:h.objs.size<=a)(new:bC P w (upd H a o) h' a o):gA P w (upd H a o) h':=λb u e=>by
  have hn:=x.fresh hp;by_cases hb:b=a
  · subst hb;rw[ay] at e;cases e;exact new
  · rw[aw hb] at e;exact (x b u e).d8 (λc v _ q=>k c v q) (λc q=>by rw[aw (aH q hn)];exact q) λc xs q=>by rw[aw (aH q hn)];exact q
end
noncomputable def Rd (H:Hp)(a:Addr)(u:HO):Prop:=H a=some u\/∃o,H a=some (.cx o u)
theorem Rd.ok {P:Hj}{w:Hs}{H:Hp}{h:Heap}{a:Addr}{u:HO}(r:Rd H a u)(x:gA P w H h):bC P w H h a u:=by
  rcases r with r | ⟨o,r⟩
  · exact x a u r
  · obtain ⟨_,q⟩:=x a _ r;exact q
noncomputable def CU:Option HO->Prop
  | some (.lst _)=>True
  | some (.dK _)=>True
  | some (.dT _)=>True
  | some (.set _ _)=>True
  | some (.ins _ _ _)=>True
  | some (.ext _)=>True
  | _=>False
section
variable {P:Hj} {w:Hs} {H:Hp} {h h':Heap} {x e:Addr} {o':HO}
theorem gA.write (ok:gA P w H h)(mu:CU (H x))(he:e=x\/H e=some (.own x))(k:∀b u,b≠e->h.get? b=some u->h'.get? b=some u)(heo:∃u,h'.get? e=some u)
    (new:bC P w (upd H x o') h' x o'):gA P w (upd H x o') h':=λb u q=>by
  have nown:∀c y,H c=some (.own y)->c≠x:=λc y r z=>by subst z;rw[r] at mu;exact mu
  have ntup:∀c xs,H c=some (.tup xs)->c≠x:=λc xs r z=>by subst z;rw[r] at mu;exact mu
  by_cases hb:b=x
  · subst hb;rw[ay] at q;cases q;exact new
  · rw[aw hb] at q;by_cases hbe:b=e
    · have q':H b=some (.own x):=by
        rcases he with z | z
        · exact absurd (hbe.trans z) hb
        · rw[hbe];exact z
      rw[q] at q';cases q';obtain ⟨v,hv⟩:=heo;exact ⟨v,by rw[hbe];exact hv⟩
    · refine (ok b u q).d8 (λc v hc r => k c v ?_ r) (λc r => by rw [aw (nown c b r)];exact r) λc xs r => by rw [aw (ntup c xs r)];exact r
      rcases hc with rfl | hc
      · exact hbe
      · rintro rfl;rcases he with z | z
        · exact nown c b hc z
        · rw[hc] at z;cases z;exact hb rfl
end
structure Un (fs ex:List Addr)(H H':Hp)(h h':Heap):Prop where
  keep:∀b o,h.get? b=some o->H b=none->b∉fs->b∉ex->h'.get? b=some o
  slot:∀b o,h.get? b=some o->H b=none->b∈fs->b∉ex->∃sl,h'.get? b=some { o with slots:=sl }
  free:∀b o,h.get? b=some o->H b=none->b∉ex->H' b=none
  there:∀b o,h.get? b=some o->b∉ex->∃o',h'.get? b=some o'
  oZ:∀b xs,H b=some (.tup xs)->H' b=some (.tup xs)
  lS:∀b o u,H b=some (.cx o u)->H' b=some (.cx o u)
  lK:∀b ps,H b=some (.tbl ps)->∃more,H' b=some (.tbl (ps++more))
section
variable {fs fs' ex ex':List Addr} {H H1 H2:Hp} {h h1 h2 h':Heap} {a x e:Addr} {o:HO}
theorem Un.any (u:Un fs ex H H1 h h1){b:Addr}{ob:Obj}(q:h.get? b=some ob)(n:H b=none)(hx:b∉ex):∃sl,h1.get? b=some { ob with slots:=sl }:=by
  by_cases hb:b∈fs
  · exact u.slot b ob q n hb hx
  · exact ⟨ob.slots,u.keep b ob q n hb hx⟩
theorem Un.kept (k:∀b u,h.get? b=some u->h'.get? b=some u):Un fs ex H H h h':=
  ⟨λb ob q _ _ _=>k b ob q,λb ob q _ _ _=>⟨ob.slots,k b ob q⟩,λ_ _ _ n _=>n,λb ob q _=>⟨ob,k b ob q⟩,λ_ _ q=>q,λ_ _ _ q=>q,λ_ ps q=>⟨#[],by rw[q];simp⟩⟩
theorem Un.refl:Un fs ex H H h h:=Un.kept λ_ _ q=>q
theorem Un.laid (k:∀b u,h.get? b=some u->h'.get? b=some u)(hp:h.objs.size<=a)(hn:H a=none):Un fs ex H (upd H a o) h h' where
  keep:=λb u q _ _ _=>k b u q
  slot:=λb u q _ _ _=>⟨u.slots,k b u q⟩
  free:=λb u q n _=>by rw[aw (Hm (Ho (Hg q) hp))];exact n
  there:=λb u q _=>⟨u,k b u q⟩
  oZ:=λb xs q=>by rw[aw (aH q hn)];exact q
  lS:=λb u xs q=>by rw[aw (aH q hn)];exact q
  lK:=λb ps q=>⟨#[],by rw[aw (aH q hn),q];simp⟩
theorem Un.write (mu:CU (H x))(he:e=x\/H e=some (.own x))(k:∀b u,b≠e->h.get? b=some u->h'.get? b=some u)(heo:∃u,h'.get? e=some u):Un fs ex H (upd H x o) h h':=by
  have hx:∀b,H b=none->b≠x:=λb n z=>by subst z;rw[n] at mu;exact mu
  have hb:∀b,H b=none->b≠e:=λb n z=>by
    subst z;rcases he with r | r
    · exact hx b n r
    · rw[n] at r;cases r
  have hm:∀b u,H b=some u->¬CU (some u)->b≠x:=λb u q nm z=>by subst z;rw[q] at mu;exact nm mu
  refine ⟨λb u q n _ _=>k b u (hb b n) q,λb u q n _ _=>⟨u.slots,k b u (hb b n) q⟩,λb u q n _=>by rw[aw (hx b n)];exact n,λb u q _=>?_,
    λb xs q=>by rw[aw (hm b _ q λz=>z)];exact q,λb u xs q=>by rw[aw (hm b _ q λz=>z)];exact q,λb ps q=>⟨#[],by rw[aw (hm b _ q λz=>z),q];simp⟩⟩
  by_cases hbe:b=e
  · subst hbe;exact heo
  · exact ⟨u,k b u hbe q⟩
end
noncomputable def ES (h:Heap)(H:Hp):List Addr:=(List.range h.objs.size).filter λa=>(H a).isSome
noncomputable def ou (h:Heap)(H:Hp):Heap:=PySem.W.hideAll h (ES h H)
theorem uY (h:Heap)(H:Hp):(ou h H).objs.size=h.objs.size:=PySem.W.hideAll_size _ _
theorem kM {h:Heap}{H:Hp}{b:Addr}{o:Obj}(e:h.get? b=some o)(n:H b=none):(ou h H).get? b=some o:=
  PySem.W.hideAll_get _ e λhm=>by
    have q:(H b).isSome=true:=(List.mem_filter.mp hm).2;rw[n] at q;simp at q
theorem zC {h:Heap}{H:Hp}{b:Addr}{o:Obj}(e:(ou h H).get? b=some o):h.get? b=some o/\H b=none:=by
  have e':h.get? b=some o:=PySem.W.of_hideAll (ES h H) e;refine ⟨e',?_⟩;cases q:H b with
  | none=>rfl
  | some x =>
    have hm:b∈ES h H:=List.mem_filter.mpr ⟨mem_range.mpr (Hg e'),by simp[q]⟩;have z:(ou h H).get? b=none:=PySem.W.hideAll_none (ES h H) hm;rw[z] at e;cases e
noncomputable def yz (g h:Heap)(L:Addr):List (Addr×Obj):=(List.range h.objs.size).filterMap λa=>if a=L\/(g.get? a).isSome=true then none else (h.get? a).map λo=>(a,o)
noncomputable def rest (g h:Heap)(L d:Addr):List (Addr×Obj):=(yz g h L).filter λp=>decide (p.1≠d)
end L2
namespace L2
open PySem PySem.Spec PyProof.Rows
structure Mod (K:Frag)(mg:Str->Option GR)(base:Heap):Prop where
  DB:K.In base
  glob:base.Ns mainGlobals mg
  blt:∃mb,base.Ns builtinsNs mb/\∀x:Str,x≠"__name__"->mb x=bootBuiltins x
  nolimit:base.NoLimit
structure Cx where
  prog:Hj
  w:Hs
  K:Frag
  mg:Str->Option GR
  base:Heap
  A:Hr
  N:List Str
  s₀:GU
  H₀:Hp
  env:Env
  outer:List Env
  stack:List Env
  ex:List Addr
  fn:Str->Bool
  calm:Bool
  pn:List (Addr×Obj)
  xe:GR->GU->Prop
noncomputable def vO (l:List Env):List Addr:=l.filterMap (·.frame)
noncomputable abbrev Cx.fs (X:Cx):List Addr:=vO X.outer
noncomputable def vU (sc:Scope)(x:Str):Prop:=sc.names.lookup x=some .local\/sc.names.lookup x=some .cell\/sc.names.lookup x=some .free
noncomputable def Loc (sc:Scope)(x:Str):Prop:=sc.names.lookup x=some .local\/sc.names.lookup x=some .cell
noncomputable def Look (env:Env)(h:Heap)(m:Str->Option GR)(x:Str)(u:GR):Prop:=
  (env.kindOf x=some .local/\m x=some u)\/((env.kindOf x=some .cell\/env.kindOf x=some .free)/\∃c,env.cells.lookup x=some c/\h.IsCell c (some u))
structure Cx.Ok (X:Cx):Prop where
  mod:Mod X.K X.mg X.base
  kind:X.env.scope.kind=.function
  glob:X.env.globals=mainGlobals
  blt:X.env.builtins=builtinsNs
  above:X.s₀.heap.objs.size<=X.env.locals
  inj:∀x y c,X.env.cells.lookup x=some c->X.env.cells.lookup y=some c->x=y
  has:∀x,(X.env.kindOf x=some .cell\/X.env.kindOf x=some .free)->∃c,X.env.cells.lookup x=some c
  C4:∀x c,X.fn x=true->X.env.cells.lookup x=some c->X.s₀.heap.objs.size<=c
  hd:X.calm=true->X.A.handled=none
  frames:X.A.frames=some X.stack
  EO:X.stack=X.outer\/(X.stack=X.env::X.outer/\X.env.frame=some X.env.locals)
  EE:∀b∈X.ex,b≠X.env.locals/\∀x c,X.env.cells.lookup x=some c->c≠b
  bs:∀b o,X.base.get? b=some o->X.s₀.heap.get? b=some o/\X.H₀ b=none
  An:X.base.objs.size<=X.s₀.heap.objs.size
  xF:∀b o,X.base.get? b=some o->b∉X.ex
  wQ:∀b∈X.ex,b∉X.fs
  kJ:X.s₀.heap.FunFrames X.base X.outer
  CL:∀b∈X.fs,X.H₀ b=none
structure Inv (X:Cx)(pins:List (Addr×Obj))(σ:List (Option V))(H:Hp)(s:GU):Prop where
  ok:X.Ok
  os:s.os=X.s₀.os
  bare:AllBare s.gens
  base:Un X.fs X.ex X.H₀ H X.s₀.heap s.heap
  loc:∃m,s.heap.Ns X.env.locals m/\∀(i:Nat) (x:Str) (v:V),X.N[i]?=some x->σ[i]?=some (some v)->vU X.env.scope x->∃u,RelV v u/\Look X.env s.heap m x u
  cell:∀x c,X.env.cells.lookup x=some c->∃v,s.heap.IsCell c v
  free:H X.env.locals=none
  gH:∀x c,X.env.cells.lookup x=some c->H c=none
  pin:∀p∈X.pn++pins,s.heap.get? p.1=some p.2/\H p.1=none/\p.1≠X.env.locals/\p.1∉X.fs/\∀v,p.2.data≠.cell v
  bf:gA X.prog X.w H s.heap
  len:σ.length=X.N.length
section
variable {X:Cx} {pins:List (Addr×Obj)} {σ:List (Option V)} {H H':Hp} {s:GU} {h':Heap}
theorem Cx.Ok.Fw (ok:X.Ok){b:Addr}{o:Obj}(e:X.base.get? b=some o):b∉X.fs:=λhb=>by
  have:=(ok.kJ.mem hb).1;rw[e] at this;cases this
theorem Inv.bs (I:Inv X pins σ H s):∀b o,X.base.get? b=some o->s.heap.get? b=some o/\H b=none:=λb o e =>
  ⟨I.base.keep b o (I.ok.bs b o e).1 (I.ok.bs b o e).2 (I.ok.Fw e) (I.ok.xF b o e),I.base.free b o (I.ok.bs b o e).1 (I.ok.bs b o e).2 (I.ok.xF b o e)⟩
theorem Inv.bk (I:Inv X pins σ H s):∀b o,X.base.get? b=some o->s.heap.get? b=some o:=λb o e=>(I.bs b o e).1
theorem Inv.mod (I:Inv X pins σ H s):Mod X.K X.mg X.base:=I.ok.mod
theorem Inv.lU (I:Inv X pins σ H s):X.K.In s.heap:=I.ok.mod.DB.keeps I.bk
theorem Inv.nolimit (I:Inv X pins σ H s):s.heap.NoLimit:=I.ok.mod.nolimit.keeps I.bk
theorem Inv.lt (I:Inv X pins σ H s):X.env.locals<s.heap.objs.size:=let ⟨_,hn,_⟩:=I.loc;hn.lt
theorem Inv.sz (I:Inv X pins σ H s):X.s₀.heap.objs.size<=s.heap.objs.size:=Nat.le_trans I.ok.above (Nat.le_of_lt I.lt)
theorem Inv.Fx (I:Inv X pins σ H s){a:Addr}(h:s.heap.objs.size<=a):a∉X.fs:=λhb=>by
  obtain ⟨_,o,ho,_⟩:=I.ok.kJ.mem hb;exact absurd (Ho (Hg ho) (Nat.le_trans I.sz h)) (Nat.lt_irrefl _)
theorem Inv.A7 (I:Inv X pins σ H s):∀x c,X.env.cells.lookup x=some c->c≠X.env.locals:=λx c e z=>by
  obtain ⟨v,o,ho,hd⟩:=I.cell x c e;obtain ⟨m,⟨o',es,ep,ho',hd',_⟩,_⟩:=I.loc;rw[z,ho'] at ho;cases ho;rw[hd'] at hd;cases hd
theorem Inv.kJ (I:Inv X pins σ H s):s.heap.FunFrames X.base X.outer:=by
  have all:∀(l:List Env),(∀b∈vO l,b∈X.fs)->X.s₀.heap.FunFrames X.base l->s.heap.FunFrames X.base l:=by
    intro l;induction l with
    | nil=>intro _ _;trivial
    | cons env r ih =>
      intro hs hl;obtain ⟨hk,⟨L,o,hf,hn,ho,hd⟩,hr⟩:=hl;have hL:L∈X.fs:=hs L (by unfold vO;rw[filterMap_cons,hf];exact mem_cons_self);obtain ⟨sl,e⟩:=I.base.slot L o ho (I.ok.CL L hL) hL λz=>I.ok.wQ L z hL;exact ⟨hk,⟨L,_,hf,hn,e,hd⟩,ih (λb hb=>hs b (by unfold vO;rw[filterMap_cons,hf];exact Hv _ hb)) hr⟩
  exact all X.outer (λ_ hb=>hb) I.ok.kJ
theorem Inv.stack (I:Inv X pins σ H s):s.heap.FunFrames X.base X.stack:=by
  rcases I.ok.EO with e | ⟨e,hf⟩
  · rw[e];exact I.kJ
  · rw[e];obtain ⟨m,hn,_⟩:=I.loc;refine .cons (by rw[I.ok.kind];decide) hf hn ?_ I.kJ;exact Heap.get?_none_of_le (Nat.le_trans I.ok.An I.ok.above)
theorem Inv.su (I:Inv X pins σ H s):∀b∈vO X.stack,b∈X.env.locals::X.fs:=λb hb=>by
  rcases I.ok.EO with e | ⟨e,hf⟩
  · rw[e] at hb;exact Hv _ hb
  · rw[e] at hb;unfold vO at hb;rw[filterMap_cons,hf] at hb;exact hb
theorem Inv.uB (I:Inv X pins σ H s):∀b∈vO X.stack,H b=none:=λb hb=>by
  rcases Hn.mp (I.su b hb) with e | hb
  · rw[e];exact I.free
  · obtain ⟨_,o,ho,_⟩:=I.ok.kJ.mem hb;exact I.base.free b o ho (I.ok.CL b hb) λz=>I.ok.wQ b z hb
theorem Inv.step {g':Array GenState}{t':Nat}{d':Drawn}{ch:List Addr}(I:Inv X pins σ H s)
    (hch:∀b∈ch,(b∈X.ex\/X.s₀.heap.objs.size<=b)/\b≠X.env.locals/\(∀x c,X.env.cells.lookup x=some c->c≠b)/\∀p∈X.pn++pins,p.1≠b)
    (keep:∀b o,b≠X.env.locals->b∉X.fs->b∉ch->s.heap.get? b=some o->H b=none->h'.get? b=some o)
    (slot:∀b o,b≠X.env.locals->b∈X.fs->b∉ch->s.heap.get? b=some o->H b=none->∃sl,h'.get? b=some { o with slots:=sl }) (free:∀b o,b∉ch->s.heap.get? b=some o->H b=none->H' b=none)
    (there:∀b o,b∉ch->s.heap.get? b=some o->∃o',h'.get? b=some o')
    (oZ:∀b xs,H b=some (.tup xs)->H' b=some (.tup xs)) (lS:∀b o u,H b=some (.cx o u)->H' b=some (.cx o u)) (lK:∀b ps,H b=some (.tbl ps)->∃more,H' b=some (.tbl (ps++more)))
    (ns:∀m,s.heap.Ns X.env.locals m->h'.Ns X.env.locals m) (bf:gA X.prog X.w H' h') (hg:AllBare g') :
    Inv X pins σ H' { s with heap:=h',gens:=g',drawn:=d',toks:=t' }:=by
  have neL:∀b o,X.s₀.heap.get? b=some o->b≠X.env.locals:=λb o e=>Hm (Ho (Hg e) I.ok.above);have neC:∀b o,X.s₀.heap.get? b=some o->b∉X.ex->b∉ch:=λb o e hx hb=>by
    rcases (hch b hb).1 with z | z
    · exact hx z
    · exact absurd (Ho (Hg e) z) (Nat.lt_irrefl _)
  have cellK:∀x c,X.env.cells.lookup x=some c->∀v,s.heap.IsCell c v->h'.IsCell c v:= by
    rintro x c e v ⟨o,ho,hd⟩;have nch:c∉ch:=λz=>(hch c z).2.2.1 x c e rfl;by_cases hc:c∈X.fs
    · obtain ⟨sl,q⟩:=slot c o (I.A7 x c e) hc nch ho (I.gH x c e);exact ⟨_,q,hd⟩
    · exact ⟨o,keep c o (I.A7 x c e) hc nch ho (I.gH x c e),hd⟩
  refine ⟨I.ok,I.os,hg,⟨λb o e n hb hx=>?_,λb o e n hb hx=>?_,λb o e n hx=>?_,λb o e hx=>?_,λb xs e=>oZ b xs (I.base.oZ b xs e),λb o xs e=>lS b o xs (I.base.lS b o xs e),λb ps e=>?_⟩,?_,λx c e=>?_,?_,λx c e=>?_,λp hp=>?_,bf,I.len⟩
  · exact keep b o (neL b o e) hb (neC b o e hx) (I.base.keep b o e n hb hx) (I.base.free b o e n hx)
  · obtain ⟨sl,e1⟩:=I.base.slot b o e n hb hx;obtain ⟨sl',e2⟩:=slot b _ (neL b o e) hb (neC b o e hx) e1 (I.base.free b o e n hx);exact ⟨sl',e2⟩
  · obtain ⟨o',e1⟩:=I.base.there b o e hx;exact free b o' (neC b o e hx) e1 (I.base.free b o e n hx)
  · obtain ⟨o',e1⟩:=I.base.there b o e hx;exact there b o' (neC b o e hx) e1
  · obtain ⟨m1,e1⟩:=I.base.lK b ps e;obtain ⟨m2,e2⟩:=lK b _ e1;exact ⟨m1++m2,by rw[e2,Array.append_assoc]⟩
  · obtain ⟨m,hn,hl⟩:=I.loc;refine ⟨m,ns m hn,λi x v e1 e2 e3=>?_⟩;obtain ⟨u,r,l⟩:=hl i x v e1 e2 e3;refine ⟨u,r,?_⟩;rcases l with l | ⟨k,c,e,z⟩
    · exact .inl l
    · exact .inr ⟨k,c,e,cellK x c e _ z⟩
  · obtain ⟨v,z⟩:=I.cell x c e;exact ⟨v,cellK x c e v z⟩
  · obtain ⟨m,⟨o,_,_,ho,_⟩,_⟩:=I.loc;exact free _ o (λz=>(hch _ z).2.1 rfl) ho I.free
  · obtain ⟨v,o,ho,hd⟩:=I.cell x c e;exact free c o (λz=>(hch c z).2.2.1 x c e rfl) ho (I.gH x c e)
  · obtain ⟨e,n,ne,nf,d⟩:=I.pin p hp;have nch:p.1∉ch:=λz=>(hch p.1 z).2.2.2 p hp rfl;exact ⟨keep p.1 p.2 ne nf nch e n,free p.1 p.2 nch e n,ne,nf,d⟩
theorem Inv.un {t':Nat}(I:Inv X pins σ H s)(u:Un X.fs [] H H' s.heap h')(bf:gA X.prog X.w H' h'):Inv X pins σ H' { s with heap:=h',toks:=t' }:=by
  obtain ⟨m,⟨o,es,ep,ho,r⟩,_⟩:=id I.loc;obtain ⟨sl,hL⟩:=u.any ho I.free (by simp);exact I.step (g':=s.gens) (d':=s.drawn) (ch:=[]) (λ_ z=>nomatch z) (λb o _ hb _ e n=>u.keep b o e n hb (by simp)) (λb o _ hb _ e n=>u.slot b o e n hb (by simp)) (λb o _ e n=>u.free b o e n (by simp)) (λb o _ e=>u.there b o e (by simp)) u.oZ u.lS u.lK (λm' hm=>by
    obtain ⟨o',es',ep',ho',r'⟩:=hm;rw[ho] at ho';cases ho';exact ⟨_,es',ep',hL,r'⟩) bf I.bare
theorem Inv.call {g':Array GenState}{t':Nat}{d':Drawn}{ch:List Addr}(I:Inv X pins σ H s)(u:Un (vO X.stack) ch H H' s.heap h')(bf:gA X.prog X.w H' h')(hg:AllBare g')
    (hch:∀b∈ch,(b∈X.ex\/X.s₀.heap.objs.size<=b)/\b≠X.env.locals/\(∀x c,X.env.cells.lookup x=some c->c≠b)/\∀p∈X.pn++pins,p.1≠b) :
    Inv X pins σ H' { s with heap:=h',gens:=g',drawn:=d',toks:=t' }:=by
  obtain ⟨m,⟨o,es,ep,ho,r⟩,_⟩:=id I.loc;obtain ⟨sl,hL⟩:=u.any ho I.free λz=>(hch _ z).2.1 rfl;exact I.step (ch:=ch) hch (λb o hL hb hc e n=>u.keep b o e n (λz=>(Hn.mp (I.su b z)).elim hL hb) hc) (λb o _ _ hc e n=>u.any e n hc) (λb o hc e n=>u.free b o e n hc) (λb o hc e=>u.there b o e hc) u.oZ u.lS u.lK (λm' hm=>by
    obtain ⟨o',es',ep',ho',r'⟩:=hm;rw[ho] at ho';cases ho';exact ⟨_,es',ep',hL,r'⟩) bf hg
theorem Inv.turned {t':Nat}{it:Addr}(I:Inv X pins σ H s)(k:∀b o,b≠it->s.heap.get? b=some o->h'.get? b=some o)(hn:H it=none)(hL:it≠X.env.locals)
    (h1:it∈X.ex\/X.s₀.heap.objs.size<=it) (h2:∀x c,X.env.cells.lookup x=some c->c≠it) (h3:∀p∈X.pn++pins,p.1≠it):Inv X pins σ H { s with heap:=h',toks:=t' }:=by
  have nit:∀b u,H b=some u->b≠it:=λb u e z=>by rw[z,hn] at e;cases e
  refine I.step (g':=s.gens) (d':=s.drawn) (ch:=[it]) (λb hb=>?_) (λb o _ _ hc e _=>k b o (λz=>hc (by simp[z])) e) (λb o _ _ hc e _=>⟨o.slots,k b o (λz=>hc (by simp[z])) e⟩) (λ_ _ _ _ n=>n)
    (λb o hc e=>⟨o,k b o (λz=>hc (by simp[z])) e⟩) (λ_ _ e=>e) (λ_ _ _ e=>e) (λb ps e=>⟨#[],by rw[e];simp⟩) (λm hm=>?_) (λb u e=>?_) I.bare
  · have e : b = it := by simpa using hb
    subst e;exact ⟨h1,hL,h2,h3⟩
  · obtain ⟨o,es,ep,ho,r⟩:=hm;exact ⟨o,es,ep,k _ o (Ne.symm hL) ho,r⟩
  · refine (I.bf b u e).d8 (λc v hc q=>k c v ?_ q) (λ_ q=>q) λ_ _ q=>q;rcases hc with z | z
    · rw[z];exact nit b u e
    · exact nit c _ z
theorem Inv.tok (I:Inv X pins σ H s)(t:Nat):Inv X pins σ H { s with toks:=t }:=I.un (h':=s.heap) (t':=t) Un.refl I.bf
theorem Inv.kept {t':Nat}(I:Inv X pins σ H s)(k:∀b u,s.heap.get? b=some u->h'.get? b=some u):Inv X pins σ H { s with heap:=h',toks:=t' }:=I.un (Un.kept k) (I.bf.kept k)
theorem Inv.laid {a:Addr}{o:HO}{t':Nat}(I:Inv X pins σ H s)(k:∀b u,s.heap.get? b=some u->h'.get? b=some u)(hp:s.heap.objs.size<=a)(new:bC X.prog X.w (upd H a o) h' a o) :
    Inv X pins σ (upd H a o) { s with heap:=h',toks:=t' }:=I.un (Un.laid k hp (I.bf.fresh hp)) (I.bf.laid k hp new)
theorem Inv.write {x e:Addr}{o:HO}{t':Nat}(I:Inv X pins σ H s)(mu:CU (H x))(he:e=x\/H e=some (.own x))(k:∀b u,b≠e->s.heap.get? b=some u->h'.get? b=some u)(heo:∃u,h'.get? e=some u)
    (new:bC X.prog X.w (upd H x o) h' x o):Inv X pins σ (upd H x o) { s with heap:=h',toks:=t' }:=I.un (Un.write mu he k heo) (I.bf.write mu he k heo new)
theorem Inv.ui {pins':List (Addr×Obj)}(I:Inv X pins σ H s)(h:∀p∈pins',s.heap.get? p.1=some p.2/\H p.1=none/\p.1≠X.env.locals/\p.1∉X.fs/\∀v,p.2.data≠.cell v):Inv X pins' σ H s:=
  ⟨I.ok,I.os,I.bare,I.base,I.loc,I.cell,I.free,I.gH,λp hp=>(mem_append.mp hp).elim (λz=>I.pin p (mem_append_left _ z)) (h p),I.bf,I.len⟩
theorem qu {N:List Str}(hN:N.Nodup){i j:Nat}{x:Str}(a:N[i]?=some x)(b:N[j]?=some x):i=j:=by
  obtain ⟨h1,e1⟩:=Hb.mp a;obtain ⟨h2,e2⟩:=Hb.mp b;exact (List.getElem_inj hN).mp (e1.trans e2.symm)
theorem nv {M:Model}{A:Hr}{E:GR->GU->Prop}{i:Nat}{x:Str}{v:V}{u:GR}{Q:Unit->GU->Prop}(I:Inv X pins σ H s)(hN:X.N.Nodup)(hi:X.N[i]?=some x)(hx:Loc X.env.scope x)(r:RelV v u)
    (h:∀s',Inv X pins (σ.set i (some v)) H s'->(∃a,Heap.SameBut a s.heap s'.heap/\(a=X.env.locals\/X.env.cells.lookup x=some a))->Q () s') (hf:autoParam (X.fn x=true\/X.env.scope.names.lookup x=some .local) aZd._auto_1):wpAny M A (storeName X.env x u) Q E s:=by
  obtain ⟨m,hn,hl⟩:=id I.loc;have hcls:(X.env.scope.kind == .class || (X.env.scope.kind == .module && X.env.locals != X.env.globals))=false:=by rw[I.ok.kind];rfl
  have hiσ:i<σ.length:=by rw[I.len];exact (Hb.mp hi).1
  have A7:=I.A7;have tracked:∀{a:Addr} {h':Heap},(∃o,s.heap.get? a=some o/\H a=none)->Heap.SameBut a s.heap h'->gA X.prog X.w H h':=λ{a h'} ha hs b ob e=>by
    obtain ⟨_,_,hfree⟩:=ha;refine (I.bf b ob e).d8 (λc w' hc q=>(hs.2 c ?_).trans q) (λ_ q=>q) λ_ _ q=>q;rintro rfl;rcases hc with rfl | hc
    · rw[hfree] at e;cases e
    · rw[hfree] at hc;cases hc
  rcases hx with hk | hk
  · refine wpAny_storeName_local hk hn (λh' hn' hs=>?_) hcls;obtain ⟨oL,_,_,hoL,_⟩:=id hn;refine h _ ⟨I.ok,I.os,I.bare,⟨λb o e n hb hx=>?_,λb o e n hb hx=>?_,I.base.free,λb o e hx=>?_,I.base.oZ,I.base.lS,I.base.lK⟩,⟨_,hn',λj y v' e1 e2 e3=>?_⟩,λy c e=>?_,I.free,I.gH,λp hp=>?_,tracked ⟨oL,hoL,I.free⟩ hs,by simpa using I.len⟩ ⟨_,hs,.inl rfl⟩
    · exact (hs.2 b (Hm (Ho (Hg e) I.ok.above))).trans (I.base.keep b o e n hb hx)
    · obtain ⟨sl,e1⟩:=I.base.slot b o e n hb hx;exact ⟨sl,(hs.2 b (Hm (Ho (Hg e) I.ok.above))).trans e1⟩
    · obtain ⟨o',e1⟩:=I.base.there b o e hx;exact ⟨o',(hs.2 b (Hm (Ho (Hg e) I.ok.above))).trans e1⟩
    · by_cases hj:j=i
      · subst hj;rw[hi] at e1;cases e1;rw[List.getElem?_set_self hiσ] at e2;cases e2;exact ⟨u,r,.inl ⟨hk,by simp⟩⟩
      · rw[List.getElem?_set_ne (Ne.symm hj)] at e2;obtain ⟨u',r',q⟩:=hl j y v' e1 e2 e3;refine ⟨u',r',?_⟩;rcases q with ⟨k,e⟩ | ⟨k,c,e,z⟩
        · refine .inl ⟨k,?_⟩;have:y≠x:=λe=>hj (qu hN e1 (e ▸ hi));simp[this,e]
        · exact .inr ⟨k,c,e,z.sameBut hs (A7 y c e)⟩
    · obtain ⟨w',z⟩:=I.cell y c e;exact ⟨w',z.sameBut hs (A7 y c e)⟩
    · obtain ⟨e,n,ne,nf,d⟩:=I.pin p hp;exact ⟨(hs.2 p.1 ne).trans e,n,ne,nf,d⟩
  · have hfn:X.fn x=true:=by
      rcases hf with z | z
      · exact z
      · rw[z] at hk;cases hk
    obtain ⟨c,hc⟩:=I.ok.has x (.inl hk);obtain ⟨w',z⟩:=I.cell x c hc;refine wpAny_storeName_cell I.ok.kind hk hc z (λh' hc' hs=>?_);obtain ⟨oc,hoc,hocd⟩:=id z;refine h { s with heap:=h' } ⟨I.ok,I.os,I.bare,⟨λb o e n hb hx=>?_,λb o e n hb hx=>?_,I.base.free,λb o e hx=>?_,I.base.oZ,I.base.lS,I.base.lK⟩,⟨m,hn.sameBut hs (Ne.symm (A7 x c hc)),λj y v' e1 e2 e3=>?_⟩,λy c' e=>?_,I.free,I.gH,λp hp=>?_,tracked ⟨oc,hoc,I.gH x c hc⟩ hs,by simpa using I.len⟩ ⟨c,hs,.inr hc⟩
    · exact (hs.2 b (Hm (Ho (Hg e) (I.ok.C4 x c hfn hc)))).trans (I.base.keep b o e n hb hx)
    · obtain ⟨sl,e1⟩:=I.base.slot b o e n hb hx;exact ⟨sl,(hs.2 b (Hm (Ho (Hg e) (I.ok.C4 x c hfn hc)))).trans e1⟩
    · obtain ⟨o',e1⟩:=I.base.there b o e hx;exact ⟨o',(hs.2 b (Hm (Ho (Hg e) (I.ok.C4 x c hfn hc)))).trans e1⟩
    · by_cases hj:j=i
      · subst hj;rw[hi] at e1;cases e1;rw[List.getElem?_set_self hiσ] at e2;cases e2;exact ⟨u,r,.inr ⟨.inl hk,c,hc,hc'⟩⟩
      · rw[List.getElem?_set_ne (Ne.symm hj)] at e2;obtain ⟨u',r',q⟩:=hl j y v' e1 e2 e3;refine ⟨u',r',?_⟩;rcases q with q | ⟨k,c',e,z'⟩
        · exact .inl q
        · refine .inr ⟨k,c',e,z'.sameBut hs ?_⟩;rintro rfl;exact hj (qu hN e1 (I.ok.inj _ _ _ e hc ▸ hi))
    · by_cases hcc:c'=c
      · subst hcc;exact ⟨_,hc'⟩
      · obtain ⟨w2,z2⟩:=I.cell y c' e;exact ⟨w2,z2.sameBut hs hcc⟩
    · obtain ⟨e,n,ne,nf,d⟩:=I.pin p hp;refine ⟨(hs.2 p.1 ?_).trans e,n,ne,nf,d⟩;intro q;rw[q,hoc] at e;have q':oc=p.2:=Option.some.inj e;exact d w' (by rw[<-q'];exact hocd)
theorem lJ {M:Model}{A:Hr}{E:GR->GU->Prop}{i:Nat}{x:Str}{v:V}{u:GR}{Q:Unit->GU->Prop}(I:Inv X pins σ H s)(hN:X.N.Nodup)(hi:X.N[i]?=some x)(hx:Loc X.env.scope x)(r:RelV v u)
    (h:∀s',Inv X pins (σ.set i (some v)) H s'->Q () s') (hf:autoParam (X.fn x=true\/X.env.scope.names.lookup x=some .local) aZd._auto_1):wpAny M A (storeName X.env x u) Q E s:=
  nv I hN hi hx r (λs' I' _=>h s' I') hf
theorem Inv.C5 {s':GU}{ch:List Addr}(I:Inv X pins σ H s)(ho:s'.os=s.os)(u:Un (vO X.stack) ch H H' s.heap s'.heap)(bf:gA X.prog X.w H' s'.heap)(hg:AllBare s'.gens)
    (hch:∀b∈ch,(b∈X.ex\/X.s₀.heap.objs.size<=b)/\b≠X.env.locals/\(∀x c,X.env.cells.lookup x=some c->c≠b)/\∀p∈X.pn++pins,p.1≠b):Inv X pins σ H' s':=by
  obtain ⟨h',g',d',t',o'⟩:=s';have e:o'=s.os:=ho;subst e;exact I.call (g':=g') (t':=t') (d':=d') u bf hg hch
end
noncomputable abbrev XK:=GR->Option Addr->Hp->Prop
noncomputable abbrev St:=List (Option V)
noncomputable abbrev VK:=V->Hp->Prop
noncomputable abbrev TE:=St->Hp->VK->Prop
noncomputable abbrev TT:=St->Hp->(Bool->Hp->Prop)->Prop
noncomputable abbrev TA:=St->Hp->(List V->Hp->Prop)->Prop
structure Ends where
  nx:St->Hp->Prop
  rt:VK
  bk:St->Hp->Prop:=λ_ _=>False
  ct:St->Hp->Prop:=λ_ _=>False
noncomputable abbrev TS:=Ends->St->Hp->Prop
noncomputable def EP (X:Cx)(pins:List (Addr×Obj))(σ:St)(Q:VK)(u:GR)(s':GU):Prop:=∃v H',Inv X pins σ H' s'/\RelV v u/\Q v H'
noncomputable def TP (X:Cx)(pins:List (Addr×Obj))(σ:St)(Q:Bool->Hp->Prop)(b:Bool)(s':GU):Prop:=∃H',Inv X pins σ H' s'/\Q b H'
noncomputable def AP (X:Cx)(pins:List (Addr×Obj))(σ:St)(Q:List V->Hp->Prop)(us:List GR)(s':GU):Prop:=∃vs H',Inv X pins σ H' s'/\Vals vs us/\Q vs H'
noncomputable def SP (X:Cx)(pins:List (Addr×Obj))(D:Ends)(f:Flow)(s':GU):Prop:=
  match f with
  | .next=>∃σ' H',Inv X pins σ' H' s'/\D.nx σ' H'
  | .brk=>∃σ' H',Inv X pins σ' H' s'/\D.bk σ' H'
  | .cont=>∃σ' H',Inv X pins σ' H' s'/\D.ct σ' H'
  | .ret u=>∃v σ' H',Inv X pins σ' H' s'/\RelV v u/\D.rt v H'
noncomputable def PE (X:Cx)(e:Expr)(t:TE):Prop:=
  ∀(pins:List (Addr×Obj)) (s:GU) (σ:St) (H:Hp) (Q:VK),Inv X pins σ H s->t σ H Q->wpAny (model X.prog X.w) X.A (eval e X.env) (EP X pins σ Q) X.xe s
noncomputable def PT (X:Cx)(e:Expr)(t:TT):Prop:=
  ∀(pins:List (Addr×Obj)) (s:GU) (σ:St) (H:Hp) (Q:Bool->Hp->Prop),Inv X pins σ H s->t σ H Q->wpAny (model X.prog X.w) X.A (isTrue e X.env (eval e X.env)) (TP X pins σ Q) X.xe s
noncomputable def PW (X:Cx)(e:Expr)(t:TT):Prop:=
  ∀(whole:Sem GR) (pins:List (Addr×Obj)) (s:GU) (σ:St) (H:Hp) (Q:Bool->Hp->Prop),Inv X pins σ H s->t σ H Q->wpAny (model X.prog X.w) X.A (isTrue e X.env whole) (TP X pins σ Q) X.xe s
theorem PW.pt {X:Cx}{e:Expr}{t:TT}(h:PW X e t):PT X e t:=h _
noncomputable def PA (X:Cx)(es:List Expr)(t:TA):Prop:=
  ∀(pos:Pos) (pins:List (Addr×Obj)) (s:GU) (σ:St) (H:Hp) (Q:List V->Hp->Prop),Inv X pins σ H s->t σ H Q->wpAny (model X.prog X.w) X.A (spliced (backTo pos (starEach es X.env))) (AP X pins σ Q) X.xe s
noncomputable def PS (X:Cx)(st:Stmt)(t:TS):Prop:=
  ∀(pins:List (Addr×Obj)) (s:GU) (σ:St) (H:Hp) (D:Ends),Inv X pins σ H s->t D σ H->wpAny (model X.prog X.w) X.A (exec st X.env) (SP X pins D) X.xe s
noncomputable def mj (X:Cx)(st:List Stmt)(t:TS):Prop:=
  ∀(pins:List (Addr×Obj)) (s:GU) (σ:St) (H:Hp) (D:Ends),Inv X pins σ H s->t D σ H->wpAny (model X.prog X.w) X.A (execs st X.env) (SP X pins D) X.xe s
theorem bt {α:Type}{t:Sem α}{Q Q':α->GU->Prop}{M:Model}{A:Hr}{E:GR->GU->Prop}{s:GU}(h:wpAny M A t Q E s)(hQ:∀a s,Q a s->Q' a s):wpAny M A t Q' E s:=wpAny_mono h hQ λ_ _ x=>x
end L2
namespace L2
open PySem PySem.Spec PyProof.Rows
section
variable {X:Cx}
theorem bin {a b:Expr}{ta tb:TE}(ha:PE X a ta)(hb:PE X b tb){pins:List (Addr×Obj)}{s:GU}{σ:St}{H:Hp}{R:V->V->Hp->Prop}(I:Inv X pins σ H s)(h:ta σ H λx H1=>tb σ H1 λy H2=>R x y H2)
    {α:Type} {Q:α->GU->Prop} {f:GR->GR->Sem α}
    (hf:∀v u s2 x y H2,Inv X pins σ H2 s2->RelV x v->RelV y u->R x y H2->wpAny (model X.prog X.w) X.A (f v u) Q X.xe s2) :
    wpAny (model X.prog X.w) X.A (eval a X.env) (λv s₁=>wpAny (model X.prog X.w) X.A (eval b X.env) (λu s₂=>wpAny (model X.prog X.w) X.A (f v u) Q X.xe s₂) X.xe s₁) X.xe s:=by
  refine bt (ha pins s σ H _ I h) ?_;rintro v s1 ⟨x,H1,I1,r1,q1⟩;refine bt (hb pins s1 σ H1 _ I1 q1) ?_;rintro u s2 ⟨y,H2,I2,r2,q2⟩;exact hf v u s2 x y H2 I2 r1 r2 q2
noncomputable def Cz (i:Nat):TE:=λσ H Q=>∃v,σ[i]?=some (some v)/\Q v H
noncomputable def tC (v:V):TE:=λ_ H Q=>Q v H
theorem fR {i:Nat}{x:Str}{pos:Pos}(hN:X.N[i]?=some x)(hv:vU X.env.scope x)(hd:autoParam ((x == ("__debug__" : Str))=false) aZb._auto_1)(hcd:autoParam ((x == ("__classdict__" : Str))=false) aZb._auto_1):PE X (.Name x pos) (Cz i):=by
  intro pins s σ H Q I h;obtain ⟨v,e,h⟩:=h;obtain ⟨m,hn,hl⟩:=I.loc;obtain ⟨u,r,l⟩:=hl i x v hN e hv;have fin:EP X pins σ Q u s:=⟨v,H,I,r,h⟩
  rcases l with ⟨hk,hm⟩ | ⟨hk,c,hc,hcell⟩
  · exact wpAny_Name (wpAny_loadName_local I.ok.kind hk hn hm fin) hd
  · rcases hk with hk | hk
    · exact wpAny_Name (wpAny_loadName_cell I.ok.kind hk hc hcell fin) hd
    · exact wpAny_Name (wpAny_loadName_free I.ok.kind hk hc hcell fin hcd) hd
theorem B7 {i j pos}:PE X (.Constant (.int i) j pos) (tC (.int i)):=λ_ _ _ H _ I h=>wpAny_Constant_int ⟨.int i,H,I.tok _,⟨_,rfl⟩,h⟩
theorem DX {b j pos}:PE X (.Constant (.bool b) j pos) (tC (.bl b)):=λ_ _ _ H _ I h=>Constant_bool ⟨.bl b,H,I,rfl,h⟩
theorem B9 {j pos}:PE X (.Constant .none j pos) (tC .non):=λ_ _ _ H _ I h=>Constant_none ⟨.non,H,I,rfl,h⟩
noncomputable def Gl (X:Cx)(x:Str):Prop:=X.env.kindOf x=some .globalImplicit
theorem t8 {E:GR->GU->Prop}{pins:List (Addr×Obj)}{s:GU}{σ:St}{H:Hp}{x:Str}{u:GR}{pos:Pos}{Q:GR->GU->Prop}(I:Inv X pins σ H s)(hg:Gl X x)(hm:X.mg x=some u)(h:Q u s)
    (hd:autoParam ((x == ("__debug__" : Str))=false) aZb._auto_1):wpAny (model X.prog X.w) X.A (eval (.Name x pos) X.env) Q E s:=
  Calls.Name_function_global I.ok.kind hg (Calls.loadGlobal_global (by rw[I.ok.glob];exact I.mod.glob.keeps I.bk) hm h) hd
theorem fg {E:GR->GU->Prop}{pins:List (Addr×Obj)}{s:GU}{σ:St}{H:Hp}{x:Str}{u:GR}{pos:Pos}{Q:GR->GU->Prop}(I:Inv X pins σ H s)(hg:Gl X x)(hm:X.mg x=none)(hv:bootBuiltins x=some u)(h:Q u s)
    (hn:autoParam (x≠"__name__") aZb._auto_1) (hd:autoParam ((x == ("__debug__" : Str))=false) aZb._auto_1):wpAny (model X.prog X.w) X.A (eval (.Name x pos) X.env) Q E s:=by
  obtain ⟨mb,h1,h2⟩:=I.mod.blt;exact Calls.Name_function_global I.ok.kind hg (Calls.loadGlobal_builtin (by rw[I.ok.glob];exact I.mod.glob.keeps I.bk) hm (by rw[I.ok.blt];exact h1.keeps I.bk) ((h2 x hn).trans hv) h) hd
theorem ug {x:Str}{v:V}{u:GR}{pos:Pos}(hg:Gl X x)(hm:X.mg x=some u)(r:RelV v u)(hd:autoParam ((x == ("__debug__" : Str))=false) aZb._auto_1):PE X (.Name x pos) (tC v):=
  λ_ _ _ H _ I h=>t8 I hg hm ⟨v,H,I,r,h⟩ hd
theorem jX {x:Str}{v:V}{u:GR}{pos:Pos}(hg:Gl X x)(hm:X.mg x=none)(hv:bootBuiltins x=some u)(r:RelV v u)(hn:autoParam (x≠"__name__") aZb._auto_1)(hd:autoParam ((x == ("__debug__" : Str))=false) aZb._auto_1):PE X (.Name x pos) (tC v):=
  λ_ _ _ H _ I h=>fg I hg hm hv ⟨v,H,I,r,h⟩ hn hd
variable {a b:Expr} {ta tb:TE} {pos:Pos}
noncomputable def PC (X:Cx)(op:CmpOp)(a b:Expr)(t:TE):Prop:=
  ∀(pins:List (Addr×Obj)) (s:GU) (σ:St) (H:Hp) (Q:VK),Inv X pins σ H s->t σ H Q ->
    wpAny (model X.prog X.w) X.A (eval a X.env) (λv s₁=>wpAny (model X.prog X.w) X.A (eval b X.env) (λu s₂=>wpAny (model X.prog X.w) X.A (compareOp op v u) (EP X pins σ Q) X.xe s₂) X.xe s₁) X.xe s
theorem xD (b:Expr){op:CmpOp}(h:op≠.In)(h2:op≠.NotIn):behindInMarks op b=false:=by
  have e1:(op == CmpOp.In)=false:=by cases op<;>first | rfl | exact absurd rfl h
  have e2:(op == CmpOp.NotIn)=false:=by cases op<;>first | rfl | exact absurd rfl h2
  cases b<;>simp[behindInMarks,e1,e2]
noncomputable def tB (t:TE):TT:=λσ H Q=>t σ H λx H1=>∃c,x=.bl c/\Q c H1
theorem Fz {op:CmpOp}{t:TE}(h:PC X op a b t)(h1:behindInMarks op b=false:=by first | exact xD _ (by decide) (by decide) | rfl):PT X (.Compare a [op] [b] pos) (tB t):=by
  intro pins s σ H Q I hw;refine wpAny_isTrue_Compare1 (bt (h pins s σ H _ I hw) λv s1 h1=>bt h1 λu s2 h2=>bt h2 ?_) h1;rintro c s3 ⟨x,H1,I1,r1,q1⟩;obtain ⟨d,rfl,q⟩:=q1;cases r1;exact wpAny_truthy_bool ⟨H1,I1,q⟩
theorem Cf {e:Expr}{t:TE}(h:PE X e t)(he:autoParam (∀whole,isTrue e X.env whole=(do let v <-whole;standAt e.pos;holding [v] (truthy v))) aZc._auto_1):PT X e (tB t):=by
  intro pins s σ H Q I hw;refine isTrue_plain (bt (h pins s σ H _ I hw) ?_) (he _);rintro v s1 ⟨x,H1,I1,r1,q1⟩;obtain ⟨d,rfl,q⟩:=q1;cases r1;exact wpAny_truthy_bool ⟨H1,I1,q⟩
variable {tA tB':TT} {rest:List Expr}
noncomputable def Ek (t u:TT):TT:=λσ H Q=>t σ H λc H1=>if c=true then u σ H1 Q else Q false H1
noncomputable def Gv (t u:TT):TT:=λσ H Q=>t σ H λc H1=>if c=true then Q true H1 else u σ H1 Q
noncomputable def FT (t:TT):TT:=λσ H Q=>t σ H λc H1=>Q (!c) H1
theorem zR (ha:PT X a tA):PW X (.BoolOp .And [a] pos) tA:=by
  intro wh pins s σ H Q I h;refine isTrue_and (bt (ha pins s σ H Q I h) λc s1 e=>?_);cases c with
  | true=>exact isTrue_and_nil e
  | false=>exact e
theorem Cj (ha:PT X a tA):PW X (.BoolOp .Or [a] pos) tA:=by
  intro wh pins s σ H Q I h;refine isTrue_or (bt (ha pins s σ H Q I h) λc s1 e=>?_);cases c with
  | false=>exact isTrue_or_nil e
  | true=>exact e
theorem Cg (ha:PT X a tA)(hb:PW X (.BoolOp .And (b::rest) pos) tB'):PW X (.BoolOp .And (a::b::rest) pos) (Ek tA tB'):=by
  intro wh pins s σ H Q I h;refine isTrue_and (bt (ha pins s σ H _ I h) ?_);rintro c s1 ⟨H1,I1,q1⟩;cases c with
  | true=>exact hb wh pins s1 σ H1 Q I1 q1
  | false=>exact ⟨H1,I1,q1⟩
theorem D6 (ha:PT X a tA)(hb:PW X (.BoolOp .Or (b::rest) pos) tB'):PW X (.BoolOp .Or (a::b::rest) pos) (Gv tA tB'):=by
  intro wh pins s σ H Q I h;refine isTrue_or (bt (ha pins s σ H _ I h) ?_);rintro c s1 ⟨H1,I1,q1⟩;cases c with
  | true=>exact ⟨H1,I1,q1⟩
  | false=>exact hb wh pins s1 σ H1 Q I1 q1
theorem Ce (ha:PT X a tA):PT X (.UnaryOp .Not a pos) (FT tA):=by
  intro pins s σ H Q I h;exact isTrue_not (ha pins s σ H (λc H1=>Q (!c) H1) I h)
noncomputable def El (ta tb:TE):TE:=λσ H Q=>ta σ H λx H1=>∃c,x=.bl c/\if c=true then tb σ H1 Q else Q (.bl false) H1
noncomputable def FU (ta tb:TE):TE:=λσ H Q=>ta σ H λx H1=>∃c,x=.bl c/\if c=true then Q (.bl true) H1 else tb σ H1 Q
noncomputable def Er (ta:TE):TE:=λσ H Q=>ta σ H λx H1=>∃c,x=.bl c/\Q (.bl (!c)) H1
theorem Cb {op}{t:TE}(h:PE X a t):PE X (.BoolOp op [a] pos) t:=λpins s σ H Q I hw=>BoolOp_one (h pins s σ H Q I hw)
theorem B6 (ha:PE X a ta)(hb:PE X (.BoolOp .And (b::rest) pos) tb):PE X (.BoolOp .And (a::b::rest) pos) (El ta tb):=by
  intro pins s σ H Q I h;refine BoolOp_and (bt (ha pins s σ H _ I h) ?_);rintro v s1 ⟨x,H1,I1,r1,q1⟩;obtain ⟨c,rfl,q1⟩:=q1;cases r1;refine wpAny_truthy_bool ?_;cases c with
  | true=>exact hb pins s1 σ H1 Q I1 q1
  | false=>exact ⟨.bl false,H1,I1,rfl,q1⟩
theorem D1 (ha:PE X a ta)(hb:PE X (.BoolOp .Or (b::rest) pos) tb):PE X (.BoolOp .Or (a::b::rest) pos) (FU ta tb):=by
  intro pins s σ H Q I h;refine BoolOp_or (bt (ha pins s σ H _ I h) ?_);rintro v s1 ⟨x,H1,I1,r1,q1⟩;obtain ⟨c,rfl,q1⟩:=q1;cases r1;refine wpAny_truthy_bool ?_;cases c with
  | false=>exact hb pins s1 σ H1 Q I1 q1
  | true=>exact ⟨.bl true,H1,I1,rfl,q1⟩
theorem Ca (ha:PE X a ta):PE X (.UnaryOp .Not a pos) (Er ta):=by
  intro pins s σ H Q I h;refine UnaryOp_ (bt (ha pins s σ H _ I h) ?_);rintro v s1 ⟨x,H1,I1,r1,q1⟩;obtain ⟨c,rfl,q1⟩:=q1;cases r1;exact not_of (wpAny_truthy_bool ⟨.bl (!c),H1,I1,rfl,q1⟩)
end
end L2
namespace L2
open PySem PySem.Spec PyProof.Rows
noncomputable def cb (K:Frag)(H:Hp)(a:Addr)(xs:List V):Prop:=
  Rd H a (.lst xs) \/
    ∃(o:Obj) (its:Array GR) (n:Nat),K.lookup a=some o/\o.cls=.type "list"/\o.dict=none/\o.data=.seq its n/\its.size<=sizeLine/\Vals xs its.toList
noncomputable def fA (K:Frag)(H:Hp)(a:Addr)(xs:List V):Prop:=
  Rd H a (.tup xs) \/
    ∃(o:Obj) (its:Array GR) (n:Nat),K.lookup a=some o/\o.cls=.type "tuple"/\o.data=.seq its n/\its.size<=sizeLine/\Vals xs its.toList
noncomputable def E4:GR->Option V
  | .none=>some .non
  | .bool b=>some (.bl b)
  | .int i _=>some (.int i)
  | .str x _=>some (.str x)
  | .bytes b _=>some (.byt b)
  | .float b _=>some (.flt b)
  | .ref a=>some (.ref a)
  | .type n=>some (.ty n)
  | _=>none
theorem RelV.abs {x:V}{u:GR}(r:RelV x u):E4 u=some x:=by
  cases x with
  | non=>cases r;rfl
  | bl _=>cases r;rfl
  | int _=>obtain ⟨t,rfl⟩:=r;rfl
  | str _=>obtain ⟨t,rfl⟩:=r;rfl
  | byt _=>obtain ⟨t,rfl⟩:=r;rfl
  | flt _=>obtain ⟨t,rfl⟩:=r;rfl
  | ref _=>cases r;rfl
  | ty _=>cases r;rfl
theorem RelV.inj {x y:V}{u:GR}(r:RelV x u)(q:RelV y u):x=y:=Option.some.inj (r.abs.symm.trans q.abs)
theorem Vals.inj:∀{xs ys:List V} {us:List GR},Vals xs us->Vals ys us->xs=ys
  | _,_,_,.nil,.nil=>rfl
  | _,_,_,.cons r t,.cons r' t'=>by rw[r.inj r',Vals.inj t t']
section
variable {X:Cx} {pins:List (Addr×Obj)} {σ:St} {H:Hp} {s:GU} {a:Addr} {xs ys:List V}
theorem cb.of {K:Frag}(h:H a=some (.lst xs)):cb K H a xs:=.inl (.inl h)
theorem Inv.list (I:Inv X pins σ H s)(h:cb X.K H a xs):∃its:List GR,Vals xs its/\PlainL s.heap a its.toArray/\xs.length<=sizeLine:=by
  rcases h with h | ⟨o,its,n,hk,hc,hd,hs,hz,r⟩
  · obtain ⟨z,its,n,r,e⟩:=h.ok I.bf;exact ⟨its,r,⟨_,n,e,rfl,rfl,rfl⟩,z⟩
  · refine ⟨its.toList, r, ⟨o, n, I.lU a o hk, hc, hd, by simpa using hs⟩, ?_⟩;have e:=r.length;simp only[Hd] at e;lia
theorem Inv.tuple (I:Inv X pins σ H s)(h:fA X.K H a xs):∃its:List GR,Vals xs its/\IsTup s.heap a its.toArray/\xs.length<=sizeLine:=by
  rcases h with h | ⟨o,its,n,hk,hc,hs,hz,r⟩
  · obtain ⟨z,its,r,p⟩:=h.ok I.bf;exact ⟨its,r,p,z⟩
  · refine ⟨its.toList, r, ⟨o, I.lU a o hk, hc, n, by simpa using hs⟩, ?_⟩;have e:=r.length;simp only[Hd] at e;lia
theorem Inv.xp (I:Inv X pins σ H s)(h:cb X.K H a xs)(h':cb X.K H a ys):xs=ys:=by
  obtain ⟨its,r,⟨o,n,e,_,_,d⟩,_⟩:=I.list h;obtain ⟨its',r',⟨o',n',e',_,_,d'⟩,_⟩:=I.list h';rw[e] at e';cases e';rw[d] at d';injection d' with d1 _
  have:its=its':=by simpa using congrArg Array.toList d1
  subst this;exact r.inj r'
theorem Inv.nA (I:Inv X pins σ H s)(h:fA X.K H a xs)(h':fA X.K H a ys):xs=ys:=by
  obtain ⟨its,r,⟨o,e,_,n,d⟩,_⟩:=I.tuple h;obtain ⟨its',r',⟨o',e',_,n',d'⟩,_⟩:=I.tuple h';rw[e] at e';cases e';rw[d] at d';injection d' with d1 _
  have:its=its':=by simpa using congrArg Array.toList d1
  subst this;exact r.inj r'
end
noncomputable abbrev Cx.mf (X:Cx)(E:GR->GU->Prop):Cx:={ X with xe:=E }
noncomputable abbrev Cx.AB (X:Cx):Cx:=X.mf λ_ _=>False
theorem Cx.Ok.mf {X:Cx}(ok:X.Ok)(E:GR->GU->Prop):(X.mf E).Ok:=
  ⟨ok.mod,ok.kind,ok.glob,ok.blt,ok.above,ok.inj,ok.has,ok.C4,ok.hd,ok.frames,ok.EO,ok.EE,ok.bs,ok.An,ok.xF,ok.wQ,ok.kJ,ok.CL⟩
theorem Cx.Ok.fZ {X:Cx}{E:GR->GU->Prop}(ok:(X.mf E).Ok):X.Ok:=
  ⟨ok.mod,ok.kind,ok.glob,ok.blt,ok.above,ok.inj,ok.has,ok.C4,ok.hd,ok.frames,ok.EO,ok.EE,ok.bs,ok.An,ok.xF,ok.wQ,ok.kJ,ok.CL⟩
section
variable {X:Cx} {pins:List (Addr×Obj)} {σ:St} {H:Hp} {s:GU} {E:GR->GU->Prop}
theorem Inv.mf (I:Inv X pins σ H s)(E:GR->GU->Prop):Inv (X.mf E) pins σ H s:=⟨I.ok.mf E,I.os,I.bare,I.base,I.loc,I.cell,I.free,I.gH,I.pin,I.bf,I.len⟩
theorem Inv.fZ (I:Inv (X.mf E) pins σ H s):Inv X pins σ H s:=⟨I.ok.fZ,I.os,I.bare,I.base,I.loc,I.cell,I.free,I.gH,I.pin,I.bf,I.len⟩
theorem SP.fZ {D:Ends}{f:Flow}{s':GU}(h:SP (X.mf E) pins D f s'):SP X pins D f s':=by
  cases f with
  | next=>obtain ⟨σ',H',I,q⟩:=h;exact ⟨σ',H',I.fZ,q⟩
  | brk=>obtain ⟨σ',H',I,q⟩:=h;exact ⟨σ',H',I.fZ,q⟩
  | cont=>obtain ⟨σ',H',I,q⟩:=h;exact ⟨σ',H',I.fZ,q⟩
  | ret u=>obtain ⟨v,σ',H',I,r,q⟩:=h;exact ⟨v,σ',H',I.fZ,r,q⟩
theorem mj.AB {st:List Stmt}{t:TS}(h:mj X.AB st t):mj X st t:=λpins s σ H D I hw =>
  wpAny_mono (h pins s σ H D (I.mf _) hw) (λ_ _ q=>q.fZ) λ_ _ z=>False.elim z
end
section
variable {X:Cx} {st:Stmt} {rest:List Stmt} {t u:TS} {e:Expr} {te:TE} {pos:Pos}
noncomputable def Eo:TS:=λD σ H=>D.nx σ H
noncomputable def FW (t u:TS):TS:=λD σ H=>t { D with nx:=u D } σ H
theorem uk:mj X [] Eo:=λ_ _ σ H _ I h=>wpAny_execs_nil ⟨σ,H,I,h⟩
theorem xX (h1:PS X st t)(h2:mj X rest u):mj X (st::rest) (FW t u):=by
  intro pins s σ H D I h;refine wpAny_execs_cons (bt (h1 pins s σ H { D with nx:=u D } I h) λf s1 q=>?_);cases f with
  | next =>
    obtain ⟨σ',H',I',q⟩:=q;exact h2 pins s1 σ' H' D I' q
  | ret v=>exact q
  | brk=>exact q
  | cont=>exact q
theorem um (h1:PS X st t):mj X [st] t:=by
  intro pins s σ H D I h;refine wpAny_execs_cons (bt (h1 pins s σ H D I h) λf s1 q=>?_);cases f with
  | next=>exact wpAny_execs_nil q
  | ret v=>exact q
  | brk=>exact q
  | cont=>exact q
theorem Inv.quiet {pins:List (Addr×Obj)}{σ:St}{H:Hp}{s:GU}(I:Inv X pins σ H s):interactive X.env=false:=by simp[interactive,I.ok.kind]
noncomputable def En (te:TE):TS:=λD σ H=>te σ H λ_ H1=>D.nx σ H1
theorem uj (he:PE X e te)(hs:autoParam (swapsWith e none pos.line X.env=pure false) aZa._auto_1):PS X (.Expr e pos) (En te):=by
  intro pins s σ H D I h;exact wpAny_Expr_any (bt (he pins s σ H _ I h) (by rintro v s1 ⟨x,H1,I1,r1,q1⟩;exact ⟨σ,H1,I1,q1⟩)) I.quiet hs
noncomputable def FV (te:TE):TS:=λD σ H=>te σ H D.rt
theorem xU (he:PE X e te):PS X (.Return (some e) pos) (FV te):=by
  intro pins s σ H D I h;exact wpAny_Return_some (bt (he pins s σ H _ I h) (by rintro v s1 ⟨x,H1,I1,r1,q1⟩;exact ⟨x,σ,H1,I1,r1,q1⟩))
noncomputable def FP (c:TT)(t u:TS):TS:=λD σ H=>c σ H λb H1=>if b=true then t D σ H1 else u D σ H1
theorem AF {c:Expr}{a b:List Stmt}{tc:TT}(hc:PT X c tc)(ha:mj X a t)(hb:mj X b u):PS X (.If c a b pos) (FP tc t u):=by
  intro pins s σ H D I h;refine wpAny_If (bt (hc pins s σ H _ I h) ?_);rintro d s1 ⟨H1,I1,q1⟩;cases d with
  | true=>exact ha pins s1 σ H1 D I1 q1
  | false=>exact hb pins s1 σ H1 D I1 q1
end
noncomputable abbrev TG:=V->St->Hp->(St->Hp->Prop)->Prop
noncomputable abbrev Al:=List V->St->Hp->(St->Hp->Prop)->Prop
noncomputable def PG (X:Cx)(target:Expr)(t:TG):Prop:=
  ∀(pins:List (Addr×Obj)) (s:GU) (σ:St) (H:Hp) (v:V) (u:GR) (Q:St->Hp->Prop),Inv X pins σ H s->RelV v u->t v σ H Q ->
    wpAny (model X.prog X.w) X.A (assign target X.env u) (λ_ s'=>∃σ' H',Inv X pins σ' H' s'/\Q σ' H') X.xe s
noncomputable def Ez (X:Cx)(ts:List Expr)(t:Al):Prop:=
  ∀(pins:List (Addr×Obj)) (s:GU) (σ:St) (H:Hp) (vs:List V) (us:List GR) (Q:St->Hp->Prop),Inv X pins σ H s->Vals vs us->t vs σ H Q ->
    wpAny (model X.prog X.w) X.A (assignInOrder ((assignEach ts X.env).map (·.2)) us) (λ_ s'=>∃σ' H',Inv X pins σ' H' s'/\Q σ' H') X.xe s
noncomputable abbrev eN:=V->V->V->Hp->(Hp->Prop)->Prop
noncomputable def AY (X:Cx)(t:eN):Prop:=
  ∀(pins:List (Addr×Obj)) (s:GU) (σ:St) (H:Hp) (o i v:V) (ov iv u:GR) (Q:Hp->Prop),Inv X pins σ H s->RelV o ov->RelV i iv->RelV v u->t o i v H Q ->
    wpAny (model X.prog X.w) X.A (setItem ov iv u) (λ_ s'=>∃H',Inv X pins σ H' s'/\Q H') X.xe s
noncomputable abbrev CJ:=V->V->Hp->VK->Prop
noncomputable def CW (X:Cx)(op:Operator)(t:CJ):Prop:=
  ∀(pins:List (Addr×Obj)) (s:GU) (σ:St) (H:Hp) (x y:V) (v u:GR) (Q:VK),Inv X pins σ H s->RelV x v->RelV y u->t x y H Q ->
    wpAny (model X.prog X.w) X.A (inplaceOp op v u) (EP X pins σ Q) X.xe s
section
variable {X:Cx} {pos:Pos}
noncomputable def tX (i:Nat):TG:=λv σ H Q=>Q (σ.set i (some v)) H
theorem ax {i:Nat}{x:Str}(hN:X.N.Nodup)(hi:X.N[i]?=some x)(hx:Loc X.env.scope x)(hf:autoParam (X.fn x=true\/X.env.scope.names.lookup x=some .local) aZd._auto_1):PG X (.Name x pos) (tX i):=by
  intro pins s σ H v u Q I r h;exact wpAny_assign_Name (lJ I hN hi hx r (λs' I'=>⟨_,H,I',h⟩) hf)
noncomputable def Dq:Al:=λvs σ H Q=>vs = []/\Q σ H
noncomputable def Av (t:TG)(u:Al):Al:=λvs σ H Q=>∃v r,vs=v::r/\t v σ H λσ' H'=>u r σ' H' Q
theorem iE:Ez X [] Dq:=by
  intro pins s σ H vs us Q I r h;obtain ⟨e,h⟩:=h;subst e;cases r;exact assignInOrder_nil ⟨σ,H,I,h⟩
theorem aV {e:Expr}{es:List Expr}{t:TG}{u:Al}(h1:PG X e t)(h2:Ez X es u)
    (hs:autoParam ((assignEach (e::es) X.env).map (·.2)=assign e X.env::(assignEach es X.env).map (·.2)) aZa._auto_1):Ez X (e::es) (Av t u):=by
  intro pins s σ H vs us Q I r h;obtain ⟨v,vr,e1,h⟩:=h;subst e1;cases r with
  | cons r rr =>
    rw[hs];refine assignInOrder_cons (bt (h1 pins s σ H _ _ _ I r h) ?_);rintro _ s1 ⟨σ1,H1,I1,q1⟩;exact h2 pins s1 σ1 H1 _ _ Q I1 rr q1
noncomputable def E8 (to ti:TE)(t:eN):TG:=λv σ H Q=>to σ H λo H1=>ti σ H1 λi H2=>t o i v H2 λH3=>Q σ H3
theorem xQ {o i:Expr}{to ti:TE}{t:eN}(ho:PE X o to)(hi:PE X i ti)(hs:AY X t)
    (ha:autoParam (∀v,assign (.Subscript o i pos) X.env v=(do
      let ov <-holding [v] (eval o X.env)
      let iv <-holding [v,ov] (eval i X.env)
      standAt pos
      holding [v,ov,iv] (setItem ov iv v)
      release [v,ov,iv] [])) aZc._auto_1):PG X (.Subscript o i pos) (E8 to ti t):=by
  intro pins s σ H v u Q I r h;rw[ha];refine GS (wpAny_holding (bt (ho pins s σ H _ I h) ?_));rintro ov s1 ⟨x,H1,I1,r1,q1⟩;refine GS (wpAny_holding (bt (hi pins s1 σ H1 _ I1 q1) ?_));rintro iv s2 ⟨y,H2,I2,r2,q2⟩;refine GS (wpAny_standAt (GS (wpAny_holding (bt (hs pins s2 σ H2 x y v ov iv u _ I2 r1 r2 r q2) ?_))));rintro _ s3 ⟨H3,I3,q3⟩;exact wpAny_release ⟨σ,H3,I3,q3⟩
noncomputable def Em (te:TE)(g:TG):TS:=λD σ H=>te σ H λx H1=>g x σ H1 D.nx
theorem sd {tg e:Expr}{te:TE}{g:TG}(he:PE X e te)(hg:PG X tg g)(hs:autoParam (swapsWithSole [tg] e pos.line X.env=pure false) aZa._auto_1)(hw:autoParam (swappedStores [tg] e X.env=pure none) aZa._auto_1)
    (h1:autoParam ((assignEach [tg] X.env).map (·.2) = [assign tg X.env]) aZa._auto_1):PS X (.Assign [tg] e pos) (Em te g):=by
  intro pins s σ H D I h;refine wpAny_Assign_stores (bt (he pins s σ H _ I h) ?_) hs hw;rintro v s1 ⟨x,H1,I1,r1,q1⟩;rw[h1];exact bt (hg pins s1 σ H1 x v _ I1 r1 q1) λ_ s2 q=>q
theorem oN {i:Nat}{x:Str}{e:Expr}{te:TE}{pos':Pos}(hN:X.N.Nodup)(hi:X.N[i]?=some x)(hx:Loc X.env.scope x)(he:PE X e te)(hs:autoParam (swapsWith e (some (.Name x pos')) pos.line X.env=pure false) aZa._auto_1)(hf:autoParam (X.fn x=true\/X.env.scope.names.lookup x=some .local) aZd._auto_1) :
    PS X (.Assign [.Name x pos'] e pos) (Em te (tX i)):=by
  intro pins s σ H D I h;refine wpAny_Assign_Name (bt (he pins s σ H _ I h) ?_) hs;rintro v s1 ⟨y,H1,I1,r1,q1⟩;exact lJ I1 hN hi hx r1 (λs2 I2=>⟨_,H1,I2,q1⟩) hf
noncomputable def FN (i:Nat)(te:TE)(ti:CJ):TS:=λD σ H=>∃x,σ[i]?=some (some x)/\te σ H λy H1=>ti x y H1 λz H2=>D.nx (σ.set i (some z)) H2
theorem Cd {i:Nat}{x:Str}{e:Expr}{te:TE}{op:Operator}{ti:CJ}{pos':Pos}(hN:X.N.Nodup)(hi:X.N[i]?=some x)(hx:Loc X.env.scope x)(he:PE X e te)(ho:CW X op ti)(hf:autoParam (X.fn x=true\/X.env.scope.names.lookup x=some .local) aZd._auto_1) :
    PS X (.AugAssign (.Name x pos') op e pos) (FN i te ti):=by
  intro pins s σ H D I h;obtain ⟨v,e1,h⟩:=h;obtain ⟨m,hn,hl⟩:=I.loc;have vis:vU X.env.scope x:=by rcases hx with k | k;exact .inl k;exact .inr (.inl k)
  obtain ⟨u,r,l⟩:=hl i x v hi e1 vis;refine wpAny_AugAssign_Name ?_;have go:wpAny (model X.prog X.w) X.A (eval e X.env) (λw s₂=>wpAny (model X.prog X.w) X.A (inplaceOp op u w) (λr s₃=>wpAny (model X.prog X.w) X.A (storeName X.env x r) (λ_=>SP X pins D .next) X.xe s₃) X.xe s₂) X.xe s:=by
    refine bt (he pins s σ H _ I h) ?_;rintro w s1 ⟨y,H1,I1,r1,q1⟩;refine bt (ho pins s1 σ H1 v y u w _ I1 r r1 q1) ?_;rintro z s2 ⟨zv,H2,I2,r2,q2⟩;exact lJ I2 hN hi hx r2 (λs3 I3=>⟨_,H2,I3,q2⟩) hf
  rcases l with ⟨hk,hm⟩ | ⟨hk,c,hc,hcell⟩
  · exact wpAny_loadName_local I.ok.kind hk hn hm go
  · rcases hk with hk | hk
    · exact wpAny_loadName_cell I.ok.kind hk hc hcell go
    · rcases hx with k | k
      · have:X.env.scope.names.lookup x=some .free:=hk;rw[k] at this;cases this
      · have:X.env.scope.names.lookup x=some .free:=hk;rw[k] at this;cases this
noncomputable def AL (to ti te:TE)(tget:V->V->Hp->VK->Prop)(tip:CJ)(tset:eN):TS:=λD σ H=>to σ H λo H1=>ti σ H1 λi H2=>tget o i H2 λx H3=>te σ H3 λy H4=>tip x y H4 λz H5=>tset o i z H5 λH6=>D.nx σ H6
noncomputable def CV (X:Cx)(t:V->V->Hp->VK->Prop):Prop:=
  ∀(pins:List (Addr×Obj)) (s:GU) (σ:St) (H:Hp) (o i:V) (ov iv:GR) (Q:VK),Inv X pins σ H s->RelV o ov->RelV i iv->t o i H Q ->
    wpAny (model X.prog X.w) X.A (getItem ov iv) (EP X pins σ Q) X.xe s
theorem zO {o i e:Expr}{to ti te:TE}{tget:V->V->Hp->VK->Prop}{tip:CJ}{tset:eN}{op:Operator}{tpos:Pos}(ho:PE X o to)(hi:PE X i ti)(hg:CV X tget)(he:PE X e te)(hp:CW X op tip)(hs:AY X tset)
    (ha:∀ov iv new,augStore i ov iv new=(do holding [new,ov,iv] (setItem ov iv new);release [new,ov,iv] [];pure .next):=by intros;rfl):PS X (.AugAssign (.Subscript o i tpos) op e pos) (AL to ti te tget tip tset):=by
  intro pins s σ H D I h;refine wpAny_AugAssign_SubscriptAny (bt (ho pins s σ H _ I h) ?_) ha;rintro ov s1 ⟨x1,H1,I1,r1,q1⟩;refine bt (hi pins s1 σ H1 _ I1 q1) ?_;rintro iv s2 ⟨x2,H2,I2,r2,q2⟩;refine bt (hg pins s2 σ H2 x1 x2 ov iv _ I2 r1 r2 q2) ?_;rintro old s3 ⟨x3,H3,I3,r3,q3⟩;refine bt (he pins s3 σ H3 _ I3 q3) ?_;rintro v s4 ⟨x4,H4,I4,r4,q4⟩;refine bt (hp pins s4 σ H4 x3 x4 old v _ I4 r3 r4 q4) ?_;rintro new s5 ⟨x5,H5,I5,r5,q5⟩;exact bt (hs pins s5 σ H5 x1 x2 x5 ov iv new _ I5 r1 r2 r5 q5) (by rintro _ s6 ⟨H6,I6,q6⟩;exact ⟨σ,H6,I6,q6⟩)
noncomputable def EG (f:Int->Int->Int):CJ:=λx y H Q=>∃i j,x=.int i/\y=.int j/\Q (.int (f i j)) H
theorem Bv:CW X .Add (EG λi j=>i+j):=by
  intro pins s σ H x y v u Q I r1 r2 h;obtain ⟨i,j,e1,e2,q⟩:=h;subst e1;subst e2;obtain ⟨t,rfl⟩:=r1;obtain ⟨t',rfl⟩:=r2;exact iadd_int ⟨.int _,H,I.tok _,⟨_,rfl⟩,q⟩
theorem xg:CW X .Sub (EG λi j=>i - j):=by
  intro pins s σ H x y v u Q I r1 r2 h;obtain ⟨i,j,e1,e2,q⟩:=h;subst e1;subst e2;obtain ⟨t,rfl⟩:=r1;obtain ⟨t',rfl⟩:=r2;exact isub_int ⟨.int _,H,I.tok _,⟨_,rfl⟩,q⟩
end
section
variable {X:Cx} {pos:Pos}
noncomputable def CA (c:TT)(tb:TS):TS:=λD σ H=>∃W:Nat->St->Hp->Prop,(∃m,W m σ H)/\∀m σ H,W m σ H ->
  c σ H λb H1=>if b=true then ∃N:St->Hp->Prop,(∀σ' H',N σ' H'->∃m',m'<m/\W m' σ' H')/\tb { D with nx:=N,ct:=N,bk:=D.nx } σ H1 else D.nx σ H1
theorem xW {c:Expr}{body:List Stmt}{tc:TT}{tb:TS}(hp:PassesOwn (model X.prog X.w) X.A X.env X.xe)(hc:PT X c tc)(hb:mj X body tb):PS X (.While c body [] pos) (CA tc tb):=by
  intro pins s σ H D I h;obtain ⟨W,⟨m0,w0⟩,turn⟩:=h;refine wpAny_While (codeAny_whileLoop (λn s'=>∃σ' H',Inv X pins σ' H' s'/\W n σ' H') ?_ m0 ⟨σ,H,I,w0⟩);rintro n s1 ⟨σ1,H1,I1,w1⟩;refine wpAny_passesOwn hp (bt (hc pins s1 σ1 H1 _ I1 (turn n σ1 H1 w1)) ?_);rintro b s2 ⟨H2,I2,q2⟩;cases b with
  | true =>
    obtain ⟨N,hN,q2⟩:=q2;rw[if_pos rfl];refine wpAny_passesOwn hp (bt (hb pins s2 σ1 H2 _ I2 q2) λf s3 q3=>?_);cases f with
    | next =>
      obtain ⟨σ3,H3,I3,n3⟩:=q3;obtain ⟨m',hm,w3⟩:=hN σ3 H3 n3;exact ⟨m',hm,σ3,H3,I3,w3⟩
    | cont =>
      obtain ⟨σ3,H3,I3,n3⟩:=q3;obtain ⟨m',hm,w3⟩:=hN σ3 H3 n3;exact ⟨m',hm,σ3,H3,I3,w3⟩
    | brk=>exact q3
    | ret v=>exact q3
  | false =>
    rw[if_neg Ht];exact wpAny_execs_nil ⟨σ1,H2,I2,q2⟩
end
structure It where
  go:Nat->Hp->Prop
  vQ:Nat->Hp->V->Hp->Prop
  stop:Nat->Hp->Prop
noncomputable def hE (X:Cx)(pins:List (Addr×Obj))(H:Hp)(b:Addr):Prop:=
  H b=none/\b≠X.env.locals/\b∉X.fs/\(b∈X.ex\/X.s₀.heap.objs.size<=b)/\(∀x c,X.env.cells.lookup x=some c->c≠b)/\∀p∈X.pn++pins,p.1≠b
theorem Inv.wV {X:Cx}{pins:List (Addr×Obj)}{σ:St}{H H':Hp}{s:GU}{b:Addr}(I:Inv X pins σ H s)(hb:s.heap.objs.size<=b)(hn:H' b=none):hE X pins H' b:=by
  refine ⟨hn,Nat.ne_of_gt (Ho I.lt hb),I.Fx hb,.inr (Nat.le_trans I.sz hb),λx c e z=>?_,λp hp z=>?_⟩
  · obtain ⟨v,q⟩:=I.cell x c e;exact absurd (Ho q.lt (by rw[z];exact hb)) (Nat.lt_irrefl _)
  · exact absurd (Ho (Hg (I.pin p hp).1) (by rw[z];exact hb)) (Nat.lt_irrefl _)
structure Turn (P:Hj)(w:Hs)(K:Frag)(tg:Expr)(J:It)(fp:List Addr)(it:Addr)(tn:Nat->Heap->Prop):Prop where
  mem:it∈fp
  obj:∀i h,tn i h->∀b∈fp,∃o,h.get? b=some o/\∀v,o.data≠.cell v
  keep:∀i h h',tn i h->(∀b∈fp,∀o,h.get? b=some o->h'.get? b=some o)->tn i h'
  item:∀(X:Cx),X.prog=P->X.w=w->X.K=K->X.calm=true->∀(i:Nat) (pins:List (Addr×Obj)) (s:GU) (σ:St) (H:Hp) (E:GR->GU->Prop),Inv X pins σ H s->(∀b∈fp,hE X pins H b)->tn i s.heap->J.go i H ->
    wpAny (model P w) X.A (pyNext (.ref it)) (λr s1=>∃u,r=some u /\
      wpAny (model P w) X.A (letOwnedTupleGo tg (.ref it) u) (λ_ s2=>∃x H',Inv X pins σ H' s2/\RelV x u/\J.vQ i H x H'/\tn (i+1) s2.heap/\∀b∈fp,H' b=none) E s1) E s
  done:∀(X:Cx),X.prog=P->X.w=w->X.K=K->X.calm=true->∀(i:Nat) (pins:List (Addr×Obj)) (s:GU) (σ:St) (H:Hp) (E:GR->GU->Prop),Inv X pins σ H s->(∀b∈fp,hE X pins H b)->tn i s.heap->J.stop i H ->
    wpAny (model P w) X.A (pyNext (.ref it)) (λr s1=>r=none/\Inv X pins σ H s1) E s
  self:∀(A:Hr) (i:Nat) (s:GU) (Q:GR->GU->Prop) (E:GR->GU->Prop),tn i s.heap->Q (.ref it) s->wpAny (model P w) A (pyIter (.ref it)) Q E s
noncomputable abbrev TI:=St->Hp->(It->Hp->Prop)->Prop
noncomputable def Ge (X:Cx)(pins:List (Addr×Obj))(σ:St)(tg:Expr)(R:It->Hp->Prop)(itv:GR)(s2:GU):Prop:=
  ∃(it:Addr) (fp:List Addr) (tn:Nat->Heap->Prop) (J:It) (H':Hp),itv=.ref it/\Inv X pins σ H' s2/\Turn X.prog X.w X.K tg J fp it tn/\tn 0 s2.heap/\(∀b∈fp,hE X pins H' b)/\R J H'
noncomputable def PI (X:Cx)(tg iter:Expr)(wi:TI):Prop:=
  ∀(pins:List (Addr×Obj)) (s:GU) (σ:St) (H:Hp) (R:It->Hp->Prop),Inv X pins σ H s->wi σ H R ->
    wpAny (model X.prog X.w) X.A (eval iter X.env) (λv s1=>wpAny (model X.prog X.w) X.A (pyIter v) (Ge X pins σ tg R) X.xe s1) X.xe s
theorem w6 {M:Model}{A:Hr}{E:GR->GU->Prop}{s:GU}{tg:Expr}{it:Addr}{u:GR}{o:Obj}{n:String}{vs:Array GR}{Q:Unit->GU->Prop}(ho:s.heap.get? it=some o)(hc:o.cls=.type n)(hd:o.data=.fields vs)
    (hn:["enumerate","zip","dict_itemiterator","dict_reverseitemiterator","odict_iterator","itertools.zip_longest","itertools.pairwise"].contains n=false) (hQ:Q () s):wpAny M A (letOwnedTupleGo tg (.ref it) u) Q E s:=by
  unfold letOwnedTupleGo;cases tg<;>first
    | exact GX hQ
    | (cases u<;>first
        | exact GX hQ
        | (refine GS (wpAny_load ho ?_)
           rw[hc,hd];show wpAny M A (if (["enumerate","zip","dict_itemiterator","dict_reverseitemiterator","odict_iterator","itertools.zip_longest","itertools.pairwise"].contains n && vs[0]? == some (rawInt _))=true then _ else _) Q E s;rw[if_neg (by intro h;rw[hn,Bool.false_and] at h;cases h)];exact GX hQ))
noncomputable def EU (K:Frag)(a:Addr):It:=
  ⟨λi H=>∃xs x,cb K H a xs/\xs[i]?=some x,λi H x H'=>H'=H/\∀xs,cb K H a xs->xs[i]?=some x,λi H=>∃xs,cb K H a xs/\xs.length<=i⟩
noncomputable def EV (K:Frag)(a:Addr):It:=
  ⟨λi H=>∃xs x,fA K H a xs/\xs[i]?=some x,λi H x H'=>H'=H/\∀xs,fA K H a xs->xs[i]?=some x,λi H=>∃xs,fA K H a xs/\xs.length<=i⟩
noncomputable def CQ (lo:Int)(n:Nat):It:=⟨λi _=>i<n,λi H x H'=>H'=H/\x=.int (lo+i),λi _=>n<=i⟩
theorem vL {P:Hj}{w:Hs}{K:Frag}{tg:Expr}(a it:Addr):Turn P w K tg (EU K a) [it] it (λi h=>h.IsListIter it a i) where
  mem:=by simp
  obj:=λi h st b hb=>by
    have e:b=it:=by simpa using hb
    subst e;obtain ⟨o,e,c,d⟩:=st;exact ⟨o,e,λv z=>by rw[d] at z;cases z⟩
  keep:=λi h h' st k=>st.at λo e=>k it (by simp) o e
  item:=by
    intro X hP hw hK hc i pins s σ H E I hf st hg;subst hP hw hK;obtain ⟨xs,x,hq,hx⟩:=hg;obtain ⟨its,rv,p,hz⟩:=I.list hq;obtain ⟨u,hu,ru⟩:=rv.get hx;obtain ⟨f0,f1,f2,f3,f4,f5⟩:=hf it (by simp);refine wpAny_pyNext_list_item st p.isList (x:=u) (by simpa using hu) λh' st' sb=>?_;have I1:Inv X pins σ H { s with heap:=h' }:=I.turned (t':=s.toks) (λb o hb e=>(sb.2 b hb).trans e) f0 f1 f3 f4 f5;obtain ⟨o,e,c,d⟩:=id st';exact ⟨u,rfl,w6 (s:={ s with heap:=h' }) e c d (by decide) ⟨x,H,I1,ru,⟨rfl,λys hy=>by rw[I.xp hy hq];exact hx⟩,st',λb hb=>(hf b hb).1⟩⟩
  done:=by
    intro X hP hw hK hc i pins s σ H E I hf st hg;subst hP hw hK;obtain ⟨xs,hq,hx⟩:=hg;obtain ⟨its,rv,p,hz⟩:=I.list hq;obtain ⟨f0,f1,f2,f3,f4,f5⟩:=hf it (by simp);have hl:=rv.length;exact wpAny_pyNext_list_end (I.ok.hd hc) st p.isList (by simp;lia) λh' eb=>⟨rfl,I.turned (t':=s.toks) (λb o hb e=>eb b o hb e) f0 f1 f3 f4 f5⟩
  self:=λ_ _ _ _ _ st h=>wpAny_pyIter_listiter st h
theorem sD {P:Hj}{w:Hs}{K:Frag}{tg:Expr}(a it:Addr):Turn P w K tg (EV K a) [it] it (λi h=>h.IsTupleIter it a i) where
  mem:=by simp
  obj:=λi h st b hb=>by
    have e:b=it:=by simpa using hb
    subst e;obtain ⟨o,e,c,d⟩:=st;exact ⟨o,e,λv z=>by rw[d] at z;cases z⟩
  keep:=λi h h' st k=>st.at λo e=>k it (by simp) o e
  item:=by
    intro X hP hw hK hc i pins s σ H E I hf st hg;subst hP hw hK;obtain ⟨xs,x,hq,hx⟩:=hg;obtain ⟨its,rv,p,hz⟩:=I.tuple hq;obtain ⟨u,hu,ru⟩:=rv.get hx;obtain ⟨f0,f1,f2,f3,f4,f5⟩:=hf it (by simp);refine wpAny_pyNext_tuple_item st (show s.heap.IsTuple a its.toArray from p) (x:=u) (by simpa using hu) λh' st' sb=>?_;have I1:Inv X pins σ H { s with heap:=h' }:=I.turned (t':=s.toks) (λb o hb e=>(sb.2 b hb).trans e) f0 f1 f3 f4 f5;obtain ⟨o,e,c,d⟩:=id st';exact ⟨u,rfl,w6 (s:={ s with heap:=h' }) e c d (by decide) ⟨x,H,I1,ru,⟨rfl,λys hy=>by rw[I.nA hy hq];exact hx⟩,st',λb hb=>(hf b hb).1⟩⟩
  done:=by
    intro X hP hw hK hc i pins s σ H E I hf st hg;subst hP hw hK;obtain ⟨xs,hq,hx⟩:=hg;obtain ⟨its,rv,p,hz⟩:=I.tuple hq;obtain ⟨f0,f1,f2,f3,f4,f5⟩:=hf it (by simp);have hl:=rv.length;exact wpAny_pyNext_tuple_end (I.ok.hd hc) st (show s.heap.IsTuple a its.toArray from p) (by simp;lia) λh' eb=>⟨rfl,I.turned (t':=s.toks) (λb o hb e=>eb b o hb e) f0 f1 f3 f4 f5⟩
  self:=λ_ _ _ _ _ st h=>wpAny_pyIter_tupleiter st h
theorem sC {P:Hj}{w:Hs}{K:Frag}{tg:Expr}(it:Addr)(lo:Int)(n:Nat):Turn P w K tg (CQ lo n) [it] it (λi h=>IsRangeIter h it (lo+(i:Nat)*1) ((n:Int) - (i:Nat)) 1) where
  mem:=by simp
  obj:=λi h st b hb=>by
    have e:b=it:=by simpa using hb
    subst e;exact ⟨_,st,λv z=>by
      have z':Data.fields _=Data.cell v:=z;cases z'⟩
  keep:=λi h h' st k=>k it (by simp) _ st
  item:=by
    intro X hP hw hK hc i pins s σ H E I hf st hg;subst hP hw hK;obtain ⟨f0,f1,f2,f3,f4,f5⟩:=hf it (by simp);have W:=Walks.range (prog:=X.prog) (w:=X.w) (I.ok.hd hc) it lo 1 n;refine W.item i s _ _ hg st λv h' tk hv st' kk=>?_;obtain ⟨t,rfl⟩:=hv;have I1:Inv X pins σ H { s with heap:=h',toks:=tk }:=I.turned (λb o hb e=>kk b o (by simpa using hb) e) f0 f1 f3 f4 f5;refine ⟨_,rfl,w6 (s:={ s with heap:=h',toks:=tk }) (n:="range_iterator") st' rfl rfl (by decide) ⟨.int (lo+i),H,I1,⟨t,?_⟩,⟨rfl,rfl⟩,st',λb hb=>(hf b hb).1⟩⟩;rw[Int.mul_one]
  done:=by
    intro X hP hw hK hc i pins s σ H E I hf st hg;subst hP hw hK;obtain ⟨f0,f1,f2,f3,f4,f5⟩:=hf it (by simp);exact wpAny_pyNext_range_end (I.ok.hd hc) st (by have:n<=i:=hg;lia) λh' eb=>⟨rfl,I.turned (t':=s.toks) (λb o hb e=>eb b o hb e) f0 f1 f3 f4 f5⟩
  self:=λ_ _ _ _ _ st h=>wpAny_pyIter_rangeiter st h
end L2
namespace L2
open PySem PySem.Spec PyProof.Rows
section
variable {X:Cx} {tg:Expr}
noncomputable def Du (K:Frag)(tl:TE):TI:=λσ H R=>tl σ H λx H1=>∃a,x=.ref a/\(∃xs,cb K H1 a xs)/\R (EU K a) H1
noncomputable def Ff (K:Frag)(tl:TE):TI:=λσ H R=>tl σ H λx H1=>∃a,x=.ref a/\(∃xs,fA K H1 a xs)/\R (EV K a) H1
theorem uh {l:Expr}{tl:TE}(hl:PE X l tl):PI X tg l (Du X.K tl):=by
  intro pins s σ H R I h;refine bt (hl pins s σ H _ I h) ?_;rintro v s1 ⟨x,H1,I1,r1,q1⟩;obtain ⟨a,e,⟨xs,hq⟩,q⟩:=q1;subst e;cases r1;obtain ⟨its,rv,p,hz⟩:=I1.list hq;refine wpAny_pyIter_list p.isList ?_;refine ⟨s1.heap.objs.size,[s1.heap.objs.size],_,_,H1,rfl,I1.kept (t':=s1.toks) λb o e=>GZ _ e,vL a _,⟨_,Hq _ rfl,rfl,rfl⟩,λb hb=>?_,q⟩;have e:b=s1.heap.objs.size:=by simpa using hb
  subst e;exact I1.wV (GW _) (I1.bf.fresh (GW _))
theorem Cc {l:Expr}{tl:TE}(hl:PE X l tl):PI X tg l (Ff X.K tl):=by
  intro pins s σ H R I h;refine bt (hl pins s σ H _ I h) ?_;rintro v s1 ⟨x,H1,I1,r1,q1⟩;obtain ⟨a,e,⟨xs,hq⟩,q⟩:=q1;subst e;cases r1;obtain ⟨its,rv,p,hz⟩:=I1.tuple hq;refine wpAny_pyIter_tuple (show s1.heap.IsTuple a its.toArray from p) ?_;refine ⟨s1.heap.objs.size,[s1.heap.objs.size],_,_,H1,rfl,I1.kept (t':=s1.toks) λb o e=>GZ _ e,sD a _,⟨_,Hq _ rfl,rfl,rfl⟩,λb hb=>?_,q⟩;have e:b=s1.heap.objs.size:=by simpa using hb
  subst e;exact I1.wV (GW _) (I1.bf.fresh (GW _))
theorem qG {pins:List (Addr×Obj)}{σ:St}{H:Hp}{s:GU}{R:It->Hp->Prop}{E:GR->GU->Prop}{lo hi:Int}{t u v:Tok}{tk:Nat}(I:Inv X pins σ H s)(h1 : -(2 ^ 62)<=lo)(h2:lo<2 ^ 62)(h3 : -(2 ^ 62)<=hi)(h4:hi<2 ^ 62)
    (q:R (CQ lo (hi - lo).toNat) H):wpAny (model X.prog X.w) X.A (pyIter (.ref s.heap.objs.size)) (Ge X pins σ tg R) E { s with heap:=s.heap.push { cls:=.type "range",data:=.fields #[.int lo t,.int hi u,.int 1 v] },toks:=tk }:=by
  refine wpAny_pyIter_range (IsRange.new ..) (small_one h1 h2 h3 h4) ?_;have I1:Inv X pins σ H { s with heap:=s.heap.push { cls:=.type "range",data:=.fields #[.int lo t,.int hi u,.int 1 v] },toks:=tk }:=I.kept λb o e=>GZ _ e;refine ⟨(s.heap.push { cls:=.type "range",data:=.fields #[.int lo t,.int hi u,.int 1 v] }).objs.size,[(s.heap.push { cls:=.type "range",data:=.fields #[.int lo t,.int hi u,.int 1 v] }).objs.size],_,_,H,rfl,
    I1.kept (t':=tk) λb o e=>GZ _ e,sC _ lo (hi - lo).toNat,?_,λb hb=>?_,q⟩
  · have e1 : lo + ((0 : Nat):Int) * 1 = lo := by simp
    have e2:(((hi - lo).toNat:Nat):Int) - ((0:Nat):Int)=Builtin.Range.rangeSize lo hi 1:=by rw[rangeSize_one];split<;>lia
    show IsRangeIter _ _ (lo+((0:Nat):Int)*1) ((((hi - lo).toNat:Nat):Int) - ((0:Nat):Int)) 1;rw[e1,e2];exact Hq _ rfl
  · have e : b = (s.heap.push { cls := .type "range", data := .fields #[.int lo t, .int hi u, .int 1 v] }).objs.size := by simpa using hb
    subst e;exact I1.wV (GW _) (I1.bf.fresh (GW _))
noncomputable def Dv (ta:TA):TI:=λσ H R=>ta σ H λvs H1=>∃j:Int,vs = [.int j]/\-(2 ^ 62)<=j/\j<2 ^ 62/\R (CQ 0 j.toNat) H1
noncomputable def Dw (ta:TA):TI:=λσ H R=>ta σ H λvs H1=>∃i j:Int,vs = [.int i,.int j]/\(-(2 ^ 62)<=i/\i<2 ^ 62/\-(2 ^ 62)<=j/\j<2 ^ 62)/\R (CQ i (j - i).toNat) H1
theorem vo {a:Expr}{ta:TA}{p pos:Pos}(hg:Gl X "range")(hm:X.mg "range" = none)(ha:PA X [a] ta)(hs:autoParam (starEach [a] X.env = [(false,eval a X.env)]) aZa._auto_1):PI X tg (.Call (.Name "range" p) [a] [] pos) (Dv ta):=by
  intro pins s σ H R I h;refine Call_ (fg I hg hm boot_range (PyProof.Rows.callWith_type1 (bt (ha pos pins s σ H _ I h) ?_) hs rfl));rintro us s1 ⟨vs,H1,I1,r1,q1⟩;obtain ⟨j,e,q1,q2,q⟩:=q1;subst e;cases r1 with
  | cons r rr =>
    cases rr;obtain ⟨t,rfl⟩:=r;exact call_range_1 (qG I1 (by lia) (by lia) q1 q2 (by simpa using q))
theorem vp {a b:Expr}{ta:TA}{p pos:Pos}(hg:Gl X "range")(hm:X.mg "range" = none)(ha:PA X [a,b] ta)(hs:autoParam (starEach [a,b] X.env = [(false,eval a X.env),(false,eval b X.env)]) aZa._auto_1)(hs2:autoParam (starEach [b] X.env = [(false,eval b X.env)]) aZa._auto_1) :
    PI X tg (.Call (.Name "range" p) [a,b] [] pos) (Dw ta):=by
  intro pins s σ H R I h;refine Call_ (fg I hg hm boot_range (PyProof.Rows.callWith_type1 (bt (ha pos pins s σ H _ I h) ?_) (by rw[hs,hs2]) (by rw[hs2];rfl)));rintro us s1 ⟨vs,H1,I1,r1,q1⟩;obtain ⟨i,j,e,⟨q1,q2,q3,q4⟩,q⟩:=q1;subst e;cases r1 with
  | cons r rr =>
    cases rr with
    | cons r' rr =>
      cases rr;obtain ⟨t,rfl⟩:=r;obtain ⟨t',rfl⟩:=r';exact call_range_2 (qG I1 q1 q2 q3 q4 q)
noncomputable def FO (wi:TI)(g:TG)(tb:TS):TS:=λD σ H=>wi σ H λJ H1=>∃W:Nat->Nat->St->Hp->Prop,(∃m,W 0 m σ H1)/\∀i m σ H,W i m σ H ->
  (J.stop i H/\D.nx σ H)\/(J.go i H/\∃N:St->Hp->Prop,(∀σ' H',N σ' H'->∃m',m'<m/\W (i+1) m' σ' H')/\∀x H',J.vQ i H x H'->g x σ H' λσ2 H2=>tb { D with nx:=N,ct:=N,bk:=D.nx } σ2 H2)
noncomputable def lq (fp:List Addr)(h:Heap):List (Addr×Obj):=fp.filterMap λb=>(h.get? b).map λo=>(b,o)
theorem fh {fp:List Addr}{h:Heap}{b:Addr}{o:Obj}(hb:b∈fp)(e:h.get? b=some o):(b,o)∈lq fp h:=List.mem_filterMap.mpr ⟨b,hb,by rw[e];rfl⟩
theorem vj {fp:List Addr}{h:Heap}{p:Addr×Obj}(hp:p∈lq fp h):p.1∈fp/\h.get? p.1=some p.2:=by
  obtain ⟨b,hb,e⟩:=List.mem_filterMap.mp hp;cases q:h.get? b with
  | none=>rw[q] at e;cases e
  | some o =>
    rw[q] at e;have e':(b,o)=p:=Option.some.inj e;subst e';exact ⟨hb,q⟩
theorem Inv.pinned {pins:List (Addr×Obj)}{σ:St}{H:Hp}{s:GU}{fp:List Addr}(I:Inv X pins σ H s)(hf:∀b∈fp,hE X pins H b)(ho:∀b∈fp,∃o,s.heap.get? b=some o/\∀v,o.data≠.cell v):Inv X (pins++lq fp s.heap) σ H s:=
  I.ui λp hp=>(mem_append.mp hp).elim (λz=>I.pin p (mem_append_right _ z)) λz=>by
    obtain ⟨hb,e⟩:=vj z;obtain ⟨f0,f1,f2,_⟩:=hf p.1 hb;obtain ⟨o,e',d⟩:=ho p.1 hb;rw[e] at e';cases e';exact ⟨e,f0,f1,f2,d⟩
theorem Inv.iK {pins pl:List (Addr×Obj)}{σ:St}{H:Hp}{s:GU}(I:Inv X (pins++pl) σ H s):Inv X pins σ H s:=I.ui λp hp=>I.pin p (mem_append_right _ (mem_append_left _ hp))
theorem se {iter:Expr}{body:List Stmt}{wi:TI}{g:TG}{tb:TS}{pos:Pos}(hp:PassesOwn (model X.prog X.w) X.A X.env X.xe)(hc:X.calm=true)(hi:PI X tg iter wi)(hg:PG X tg g)(hb:mj X body tb)
    (hs:autoParam (∀x,foldedSetIterable iter X.env x=pure x) aZc._auto_1):PS X (.For tg iter body [] pos) (FO wi g tb):=by
  intro pins s σ H D I h;refine wpAny_For (bt (hi pins s σ H _ I h) λv s1 h1=>bt h1 λitv s2 h2=>?_) hs;obtain ⟨it,fp,tn,J,H2,e,I2,T,st2,f2,W,⟨m0,w0⟩,turn⟩:=h2;subst e;have stat:∀{H':Hp},(∀b∈fp,H' b=none)->∀b∈fp,hE X pins H' b:=λhn b hb=>⟨hn b hb,(f2 b hb).2⟩
  refine codeAny_forLoop_any (λn s'=>∃i σ' H',Inv X pins σ' H' s'/\tn i s'.heap/\(∀b∈fp,H' b=none)/\W i n σ' H') ?_ m0 ⟨0,σ,H2,I2,st2,λb hb=>(f2 b hb).1,w0⟩;rintro n s3 ⟨i,σ3,H3,I3,st3,fr3,w3⟩;rcases turn i n σ3 H3 w3 with ⟨stop,qn⟩ | ⟨go,N,hN,step⟩
  · refine wpAny_passesOwn hp (bt (T.done X rfl rfl rfl hc i pins s3 σ3 H3 X.xe I3 (stat fr3) st3 stop) ?_);rintro r s4 ⟨hr,I4⟩;subst hr;exact wpAny_execs_nil ⟨σ3,H3,I4,qn⟩
  · refine wpAny_passesOwn hp (bt (T.item X rfl rfl rfl hc i pins s3 σ3 H3 X.xe I3 (stat fr3) st3 go) ?_);rintro r s4 ⟨u,hr,h4⟩;subst hr;refine wpAny_passesOwn hp (bt h4 ?_);rintro _ s5 ⟨x,H5,I5,r5,y5,st5,fr5⟩;have I5':=I5.pinned (stat fr5) (T.obj _ _ st5);refine wpAny_passesOwn hp (bt (hg _ s5 σ3 H5 x u _ I5' r5 (step x H5 y5)) ?_);rintro _ s6 ⟨σ6,H6,I6,q6⟩;refine wpAny_passesOwn hp (bt (hb _ s6 σ6 H6 _ I6 q6) λf s7 q7=>?_);have again:∀{σ7:St} {H7:Hp},Inv X (pins++lq fp s5.heap) σ7 H7 s7->N σ7 H7->∃m,m<n/\∃i σ' H',Inv X pins σ' H' s7/\tn i s7.heap/\(∀b∈fp,H' b=none)/\W i m σ' H':=λ{σ7 H7} I7 n7=>by
      obtain ⟨m',hm,w7⟩:=hN σ7 H7 n7;refine ⟨m',hm,i+1,σ7,H7,I7.iK,T.keep _ _ _ st5 λb hb o e=>(I7.pin (b,o) (mem_append_right _ (mem_append_right _ (fh hb e)))).1,λb hb=>?_,w7⟩;obtain ⟨o,e,d⟩:=T.obj _ _ st5 b hb;exact (I7.pin (b,o) (mem_append_right _ (mem_append_right _ (fh hb e)))).2.1
    cases f with
    | next=>obtain ⟨σ7,H7,I7,n7⟩:=q7;exact again I7 n7
    | cont=>obtain ⟨σ7,H7,I7,n7⟩:=q7;exact again I7 n7
    | brk=>obtain ⟨σ7,H7,I7,q7⟩:=q7;exact ⟨σ7,H7,I7.iK,q7⟩
    | ret v=>obtain ⟨x7,σ7,H7,I7,r7,q7⟩:=q7;exact ⟨x7,σ7,H7,I7.iK,r7,q7⟩
end
end L2
namespace L2
open PySem PySem.Spec PyProof.Rows
noncomputable abbrev R2:=V->V->Hp->VK->Prop
noncomputable def gE (X:Cx)(f:GR->GR->Sem GR)(r:R2):Prop:=
  ∀(pins:List (Addr×Obj)) (s:GU) (σ:St) (H:Hp) (x y:V) (v u:GR) (Q:VK),Inv X pins σ H s->RelV x v->RelV y u->r x y H Q ->
    wpAny (model X.prog X.w) X.A (f v u) (EP X pins σ Q) X.xe s
noncomputable def E3 (X:Cx)(f:GR->Sem GR)(r:V->Hp->VK->Prop):Prop:=
  ∀(pins:List (Addr×Obj)) (s:GU) (σ:St) (H:Hp) (x:V) (v:GR) (Q:VK),Inv X pins σ H s->RelV x v->r x H Q ->
    wpAny (model X.prog X.w) X.A (f v) (EP X pins σ Q) X.xe s
noncomputable def dP (X:Cx)(f:GR)(r:List V->Hp->VK->Prop):Prop:=
  ∀(pins:List (Addr×Obj)) (s:GU) (σ:St) (H:Hp) (xs:List V) (us:List GR) (Q:VK),Inv X pins σ H s->Vals xs us->r xs H Q ->
    wpAny (model X.prog X.w) X.A (call f us) (EP X pins σ Q) X.xe s
noncomputable def E1 (X:Cx)(r:V->Hp->(Bool->Hp->Prop)->Prop):Prop:=
  ∀(pins:List (Addr×Obj)) (s:GU) (σ:St) (H:Hp) (x:V) (v:GR) (Q:Bool->Hp->Prop),Inv X pins σ H s->RelV x v->r x H Q ->
    wpAny (model X.prog X.w) X.A (truthy v) (TP X pins σ Q) X.xe s
noncomputable def CN (r:R2)(ta tb:TE):TE:=λσ H Q=>ta σ H λx H1=>tb σ H1 λy H2=>r x y H2 Q
noncomputable def GL (r:V->Hp->VK->Prop)(ta:TE):TE:=λσ H Q=>ta σ H λx H1=>r x H1 Q
noncomputable def rI (C:Int->Int->Prop)(g:Int->Int->V):R2:=λx y H Q=>∃i j,x=.int i/\y=.int j/\C i j/\Q (g i j) H
noncomputable def zU (g:Int->Int->V):R2:=λx y H Q=>∃i j,x=.int i/\y=.int j/\Q (g i j) H
noncomputable def rU (g:Int->V):V->Hp->VK->Prop:=λx H Q=>∃i,x=.int i/\Q (g i) H
section
variable {X:Cx} {a b c:Expr} {ta tb tc:TE} {pos:Pos}
theorem A4 (ha:PE X a ta)(hb:PE X b tb){pins:List (Addr×Obj)}{s:GU}{σ:St}{H:Hp}{R:V->V->Hp->Prop}(I:Inv X pins σ H s)
    (h:ta σ H λx H1=>tb σ H1 λy H2=>R x y H2) {Q:GR->GU->Prop} {f:GR->GR->Sem GR}
    (hf:∀v u s2 x y H2,Inv X pins σ H2 s2->RelV x v->RelV y u->R x y H2->wpAny (model X.prog X.w) X.A (f v u) Q X.xe s2) :
    wpAny (model X.prog X.w) X.A (eval a X.env) (λv s₁=>wpAny (model X.prog X.w) X.A (eval b X.env) (λu s₂=>wpAny (model X.prog X.w) X.A (f v u) Q X.xe s₂) X.xe s₁) X.xe s:=by
  refine bt (ha pins s σ H _ I h) ?_;rintro v s1 ⟨x,H1,I1,r1,q1⟩;refine bt (hb pins s1 σ H1 _ I1 q1) ?_;rintro u s2 ⟨y,H2,I2,r2,q2⟩;exact hf v u s2 x y H2 I2 r1 r2 q2
theorem xK {op:Operator}{r:R2}(ho:gE X (binaryOp op) r)(ha:PE X a ta)(hb:PE X b tb):PE X (.BinOp a op b pos) (CN r ta tb):=by
  intro pins s σ H Q I h;exact wpAny_BinOp (A4 ha hb I h λv u s2 x y H2 I2 rx ry q=>ho pins s2 σ H2 x y v u Q I2 rx ry q)
theorem D3 {op:UnaryOp}{r:V->Hp->VK->Prop}(ho:E3 X (unaryOp op) r)(ha:PE X a ta):PE X (.UnaryOp op a pos) (GL r ta):=by
  intro pins s σ H Q I h;exact UnaryOp_ (bt (ha pins s σ H _ I h) (by rintro v s1 ⟨x,H1,I1,r1,q1⟩;exact ho pins s1 σ H1 x v Q I1 r1 q1))
theorem EL {f:GR->GR->Sem GR}{C:Int->Int->Prop}{g:Int->Int->Int}
    (rule:∀(i j:Int) (t u:Tok) (s:GU) (Q:GR->GU->Prop) (E:GR->GU->Prop),C i j->Q (.int (g i j) s.toks) { s with toks:=s.toks+1 }->wpAny (model X.prog X.w) X.A (f (.int i t) (.int j u)) Q E s) :
    gE X f (rI C λi j=>.int (g i j)):=by
  intro pins s σ H x y v u Q I rx ry h;obtain ⟨i,j,rfl,rfl,hc,q⟩:=h;obtain ⟨t,rfl⟩:=rx;obtain ⟨t',rfl⟩:=ry;exact rule i j t t' s _ _ hc ⟨.int (g i j),H,I.tok _,⟨_,rfl⟩,q⟩
theorem DJ {f:GR->GR->Sem GR}{g:Int->Int->Int}
    (rule:∀(i j:Int) (t u:Tok) (s:GU) (Q:GR->GU->Prop) (E:GR->GU->Prop),Q (.int (g i j) s.toks) { s with toks:=s.toks+1 }->wpAny (model X.prog X.w) X.A (f (.int i t) (.int j u)) Q E s) :
    gE X f (zU λi j=>.int (g i j)):=by
  intro pins s σ H x y v u Q I rx ry h;obtain ⟨i,j,rfl,rfl,q⟩:=h;obtain ⟨t,rfl⟩:=rx;obtain ⟨t',rfl⟩:=ry;exact rule i j t t' s _ _ ⟨.int (g i j),H,I.tok _,⟨_,rfl⟩,q⟩
theorem zF {f:GR->GR->Sem GR}{g:Int->Int->Bool}
    (rule:∀(i j:Int) (t u:Tok) (s:GU) (Q:GR->GU->Prop) (E:GR->GU->Prop),Q (.bool (g i j)) s->wpAny (model X.prog X.w) X.A (f (.int i t) (.int j u)) Q E s) :
    gE X f (zU λi j=>.bl (g i j)):=by
  intro pins s σ H x y v u Q I rx ry h;obtain ⟨i,j,rfl,rfl,q⟩:=h;obtain ⟨t,rfl⟩:=rx;obtain ⟨t',rfl⟩:=ry;exact rule i j t t' s _ _ ⟨.bl (g i j),H,I,rfl,q⟩
noncomputable def CO (i j:Int):Prop:=0<j/\j<1073741824
noncomputable def CP (i j:Int):Prop:=0<=j/\j<=1000000/\i.natAbs<2 ^ 64
noncomputable def qY (i j:Int):Prop:=(-(2 ^ 64)<i/\i<2 ^ 64)\/(-(2 ^ 64)<j/\j<2 ^ 64)
theorem qY.ok {i j:Int}(h:qY i j):IntMulOk i j:=by
  rcases h with ⟨h1,h2⟩ | ⟨h1,h2⟩
  · exact .of_left (intBits_le_64 h1 h2)
  · exact .of_right (intBits_le_64 h1 h2)
theorem BQ:gE X (binaryOp .Add) (zU λi j=>.int (i+j)):=DJ λ_ _ _ _ _ _ _ q=>add_int q
theorem B5:gE X (binaryOp .Sub) (zU λi j=>.int (i - j)):=DJ λ_ _ _ _ _ _ _ q=>sub_int q
theorem BW:gE X (binaryOp .Mult) (rI qY λi j=>.int (i*j)):=EL λ_ _ _ _ _ _ _ hc q=>mul_int q hc.ok
theorem zG:gE X (binaryOp .FloorDiv) (rI CO λi j=>.int (i / j)):=EL λi j _ _ _ _ _ hc q=>by
  have h1:(0:Int)<j:=hc.1;have h2:j<1073741824:=hc.2;exact floordiv_int (by lia) (by rw[Int.fdiv_eq_ediv_of_nonneg i (by lia)];exact q) (.inl (PyProof.noPylong_small (by lia)))
theorem BV:gE X (binaryOp .Mod) (rI (λ_ j=>0<j) λi j=>.int (i % j)):=EL λi j _ _ _ _ _ hc q=>by
  have h1:(0:Int)<j:=hc;exact mod_int' (by lia) (by rw[Int.fmod_eq_emod_of_nonneg i (by lia)];exact q)
theorem BY:gE X (binaryOp .Pow) (rI CP λi j=>.int (i ^ j.toNat)):=EL λ_ _ _ _ _ _ _ hc q=>pow_int_small hc.1 hc.2.1 hc.2.2 q
theorem GO {f:GR->Sem GR}{g:Int->Int}
    (rule:∀(i:Int) (t:Tok) (s:GU) (Q:GR->GU->Prop) (E:GR->GU->Prop),Q (.int (g i) s.toks) { s with toks:=s.toks+1 }->wpAny (model X.prog X.w) X.A (f (.int i t)) Q E s) :
    E3 X f (rU λi=>.int (g i)):=by
  intro pins s σ H x v Q I rx h;obtain ⟨i,rfl,q⟩:=h;obtain ⟨t,rfl⟩:=rx;exact rule i t s _ _ ⟨.int (g i),H,I.tok _,⟨_,rfl⟩,q⟩
theorem CG:E3 X (unaryOp .USub) (rU λi=>.int (-i)):=GO λ_ _ _ _ _ q=>neg_int q
end
noncomputable def Ee:V->V->Bool
  | .non,.non=>true | .non,.int _=>true | .int _,.non=>true | .non,.bl _=>true | .bl _,.non=>true | .non,.str _=>true | .str _,.non=>true
  | .int _,.int _=>true | .bl _,.bl _=>true | .str _,.str _=>true | .byt _,.byt _=>true
  | .int _,.str _=>true | .str _,.int _=>true | .bl _,.str _=>true | .str _,.bl _=>true
  | _,_=>false
noncomputable def GG:R2:=λx y H Q=>Ee x y=true/\Q (.bl (decide (x=y))) H
noncomputable def GI:R2:=λx y H Q=>Ee x y=true/\Q (.bl (!decide (x=y))) H
theorem tL {i j:Int}:decide (V.int i=V.int j)=(i == j):=by
  rw[Bool.eq_iff_iff];simp
theorem wF {i j:Bool}:decide (V.bl i=V.bl j)=(i == j):=by
  rw[Bool.eq_iff_iff];simp
theorem tM {i j:Str}:decide (V.str i=V.str j)=(i == j):=by
  rw[Bool.eq_iff_iff];simp
theorem tK {i j:Array UInt8}:decide (V.byt i=V.byt j)=(i.toList == j.toList):=by
  rw[Bool.eq_iff_iff];cases i;cases j;simp
section
variable {X:Cx} {a b c:Expr} {ta tb tc:TE} {pos:Pos}
theorem aG {pins:List (Addr×Obj)}{σ:St}{H:Hp}{s:GU}{Q:VK}{k k':Bool}(I:Inv X pins σ H s)(q:Q (.bl k) H)(e:k=k'):EP X pins σ Q (.bool k') s:=by
  subst e;exact ⟨.bl k,H,I,rfl,q⟩
theorem DK:gE X (compareOp .Eq) GG:=by
  intro pins s σ H x y v u Q I rx ry h;obtain ⟨hs,q⟩:=h;cases x with
  | non =>
    cases rx;cases y with
    | non=>cases ry;exact PySem.EqNone.eq_none_none (aG I q (by simp))
    | bl j=>cases ry;exact PySem.EqNone.eq_none_bool (aG I q (by simp))
    | int j=>obtain ⟨t',rfl⟩:=ry;exact PySem.EqNone.eq_none_int (aG I q (by simp))
    | str j=>obtain ⟨t',rfl⟩:=ry;exact PySem.EqNone.eq_none_str (aG I q (by simp))
    | _=>exact absurd (show false=true from hs) Ht
  | bl i =>
    cases rx;cases y with
    | non=>cases ry;exact PySem.EqNone.eq_bool_none (aG I q (by simp))
    | bl j=>cases ry;exact eq_bool (aG I q wF)
    | str j=>obtain ⟨t',rfl⟩:=ry;exact PySem.EqMixed.eq_bool_str (aG I q (by simp))
    | _=>exact absurd (show false=true from hs) Ht
  | int i =>
    obtain ⟨t,rfl⟩:=rx;cases y with
    | non=>cases ry;exact PySem.EqNone.eq_int_none (aG I q (by simp))
    | int j=>obtain ⟨t',rfl⟩:=ry;exact eq_int (aG I q tL)
    | str j=>obtain ⟨t',rfl⟩:=ry;exact PySem.EqMixed.eq_int_str (aG I q (by simp))
    | _=>exact absurd (show false=true from hs) Ht
  | str i =>
    obtain ⟨t,rfl⟩:=rx;cases y with
    | non=>cases ry;exact PySem.EqNone.eq_str_none (aG I q (by simp))
    | bl j=>cases ry;exact PySem.EqMixed.eq_str_bool (aG I q (by simp))
    | int j=>obtain ⟨t',rfl⟩:=ry;exact PySem.EqMixed.eq_str_int (aG I q (by simp))
    | str j=>obtain ⟨t',rfl⟩:=ry;exact eq_str (aG I q tM)
    | _=>exact absurd (show false=true from hs) Ht
  | byt i =>
    obtain ⟨t,rfl⟩:=rx;cases y with
    | byt j=>obtain ⟨t',rfl⟩:=ry;exact PySem.W.eq_bytes (aG I q tK)
    | _=>exact absurd (show false=true from hs) Ht
  | _=>cases y<;>exact absurd (show false=true from hs) Ht
theorem DU:gE X (compareOp .NotEq) GI:=by
  intro pins s σ H x y v u Q I rx ry h;obtain ⟨hs,q⟩:=h;cases x with
  | non =>
    cases rx;cases y with
    | non=>cases ry;exact PySem.EqNone.ne_none_none (aG I q (by simp))
    | bl j=>cases ry;exact PySem.EqNone.ne_none_bool (aG I q (by simp))
    | int j=>obtain ⟨t',rfl⟩:=ry;exact PySem.EqNone.ne_none_int (aG I q (by simp))
    | str j=>obtain ⟨t',rfl⟩:=ry;exact PySem.EqNone.ne_none_str (aG I q (by simp))
    | _=>exact absurd (show false=true from hs) Ht
  | bl i =>
    cases rx;cases y with
    | non=>cases ry;exact PySem.EqNone.ne_bool_none (aG I q (by simp))
    | bl j=>cases ry;exact ne_bool (aG I q (congrArg not wF))
    | str j=>obtain ⟨t',rfl⟩:=ry;exact PySem.EqMixed.ne_bool_str (aG I q (by simp))
    | _=>exact absurd (show false=true from hs) Ht
  | int i =>
    obtain ⟨t,rfl⟩:=rx;cases y with
    | non=>cases ry;exact PySem.EqNone.ne_int_none (aG I q (by simp))
    | int j=>obtain ⟨t',rfl⟩:=ry;exact ne_int (aG I q (congrArg not tL))
    | str j=>obtain ⟨t',rfl⟩:=ry;exact PySem.EqMixed.ne_int_str (aG I q (by simp))
    | _=>exact absurd (show false=true from hs) Ht
  | str i =>
    obtain ⟨t,rfl⟩:=rx;cases y with
    | non=>cases ry;exact PySem.EqNone.ne_str_none (aG I q (by simp))
    | bl j=>cases ry;exact PySem.EqMixed.ne_str_bool (aG I q (by simp))
    | int j=>obtain ⟨t',rfl⟩:=ry;exact PySem.EqMixed.ne_str_int (aG I q (by simp))
    | str j=>obtain ⟨t',rfl⟩:=ry;exact ne_str (aG I q (congrArg not tM))
    | _=>exact absurd (show false=true from hs) Ht
  | byt i =>
    obtain ⟨t,rfl⟩:=rx;cases y with
    | byt j=>obtain ⟨t',rfl⟩:=ry;exact PySem.W.ne_bytes (aG I q (congrArg not tK))
    | _=>exact absurd (show false=true from hs) Ht
  | _=>cases y<;>exact absurd (show false=true from hs) Ht
theorem DQ:gE X (compareOp .Lt) (zU λi j=>.bl (decide (i<j))):=zF λ_ _ _ _ _ _ _ q=>lt_int q
theorem DP:gE X (compareOp .LtE) (zU λi j=>.bl (decide (i<=j))):=zF λ_ _ _ _ _ _ _ q=>le_int q
theorem DN:gE X (compareOp .Gt) (zU λi j=>.bl (decide (j<i))):=zF λ_ _ _ _ _ _ _ q=>gt_int q
theorem DM:gE X (compareOp .GtE) (zU λi j=>.bl (decide (j<=i))):=zF λ_ _ _ _ _ _ _ q=>ge_int q
theorem BU:gE X (compareOp .Is) (λx y H Q=>y=.non/\Q (.bl (decide (x=.non))) H):=by
  intro pins s σ H x y v u Q I rx ry h;obtain ⟨rfl,q⟩:=h;cases ry;refine is_none_gen (aG I q ?_);cases x<;>first
    | (cases rx;rfl)
    | (obtain ⟨t,rfl⟩:=rx;rfl)
theorem gE.or {f:GR->GR->Sem GR}{r r':R2}(h:gE X f r)(h':gE X f r'):gE X f (λx y H Q=>r x y H Q\/r' x y H Q):=by
  intro pins s σ H x y v u Q I rx ry q;rcases q with q | q
  · exact h pins s σ H x y v u Q I rx ry q
  · exact h' pins s σ H x y v u Q I rx ry q
theorem aA (b:Expr){op:CmpOp}(h:autoParam (op≠.In) aZb._auto_1)(h2:autoParam (op≠.NotIn) aZb._auto_1):behindInMarks op b=false:=by
  have e1:(op == CmpOp.In)=false:=by cases op<;>first | rfl | exact absurd rfl h
  have e2:(op == CmpOp.NotIn)=false:=by cases op<;>first | rfl | exact absurd rfl h2
  cases b<;>simp[behindInMarks,e1,e2]
theorem zJ {op:CmpOp}{r:R2}(ho:gE X (compareOp op) r)(ha:PE X a ta)(hb:PE X b tb)(hm:behindInMarks op b=false):PE X (.Compare a [op] [b] pos) (CN r ta tb):=by
  intro pins s σ H Q I h;exact wpAny_Compare1 (A4 ha hb I h λv u s2 x y H2 I2 rx ry q=>ho pins s2 σ H2 x y v u Q I2 rx ry q) hm
noncomputable def Et (t:TE):TT:=λσ H Q=>t σ H λx H'=>∃k,x=.bl k/\Q k H'
theorem zQ {op:CmpOp}{r:R2}(ho:gE X (compareOp op) r)(ha:PE X a ta)(hb:PE X b tb)(hm:behindInMarks op b=false):PT X (.Compare a [op] [b] pos) (Et (CN r ta tb)):=by
  intro pins s σ H Q I h;refine wpAny_isTrue_Compare1 (bt (ha pins s σ H _ I h) λv s1 ⟨x,H1,I1,r1,q1⟩=>bt (hb pins s1 σ H1 _ I1 q1) λu s2 ⟨y,H2,I2,r2,q2⟩ =>
    bt (ho pins s2 σ H2 x y v u _ I2 r1 r2 q2) λc s3 ⟨z,H3,I3,r3,k,e,q3⟩=>?_) hm
  subst e;cases r3;exact wpAny_truthy_bool ⟨H3,I3,q3⟩
noncomputable def E2 (K:Frag)(x:V)(H:Hp)(k:Bool):Prop:=
  match x with
  | .non=>k=false
  | .bl b=>k=b
  | .int i=>k=(i != 0)
  | .str y=>y.length<=sizeLine/\k=((y.length:Int) != 0)
  | .byt y=>y.size<=sizeLine/\k=((y.size:Int) != 0)
  | .ref p=>(∃xs,cb K H p xs/\k = !xs.isEmpty)\/(∃xs,fA K H p xs/\k = !xs.isEmpty)\/∃kvs,H p=some (.dK kvs)/\k = !kvs.isEmpty
  | _=>False
theorem rM {κ:Type}{kvs:List (κ×V)}{vs:List (κ×GR)}(r:KV kvs vs):(!vs.isEmpty) = !kvs.isEmpty:=by
  cases r<;>rfl
theorem kO {xs:List V}{its:List GR}(r:Vals xs its):(!its.toArray.isEmpty) = !xs.isEmpty:=by
  cases r<;>simp
theorem i9:(sizeLine:Nat)<2 ^ 63:=by rw[sizeLine_eq];decide
theorem FZ:E1 X (λx H Q=>∃k,E2 X.K x H k/\Q k H):=by
  intro pins s σ H x v Q I rx h;obtain ⟨k,e,q⟩:=h;have hl:=i9;have hs:sizeLine=16777216:=sizeLine_eq;cases x with
  | non =>
    cases rx;have e':k=false:=e;subst e';exact truthy_none ⟨H,I,q⟩
  | bl b =>
    cases rx;have e':k=b:=e;subst e';exact wpAny_truthy_bool ⟨H,I,q⟩
  | int i =>
    obtain ⟨t,rfl⟩:=rx;have e':k=(i != 0):=e;subst e';exact PySem.P.truthy_int ⟨H,I,q⟩
  | str y =>
    obtain ⟨t,rfl⟩:=rx;obtain ⟨hy,e'⟩ : y.length<=sizeLine/\k=((y.length:Int) != 0):=e;subst e';exact PySem.P.truthy_str (by lia) ⟨H,I.tok _,q⟩
  | byt y =>
    obtain ⟨t,rfl⟩:=rx;obtain ⟨hy,e'⟩ : y.size<=sizeLine/\k=((y.size:Int) != 0):=e;subst e';exact PySem.W.truthy_bytes (by lia) ⟨H,I.tok _,q⟩
  | ref p =>
    cases rx;have e':(∃xs,cb X.K H p xs/\k = !xs.isEmpty)\/(∃xs,fA X.K H p xs/\k = !xs.isEmpty)\/∃kvs,H p=some (.dK kvs)/\k = !kvs.isEmpty:=e;rcases e' with ⟨xs,hx,e'⟩ | ⟨xs,hx,e'⟩ | ⟨kvs,hx,e'⟩
    · subst e';obtain ⟨its,r,pl,hz⟩:=I.list hx;have hlen:=r.length;exact wpAny_truthy_list pl.isList (by simp only[Hk];lia) ⟨H,I.tok _,by rw[kO r];exact q⟩
    · subst e';obtain ⟨its,r,pl,hz⟩:=I.tuple hx;have hlen:=r.length;exact truthy_tuple pl (by simp only[Hk];lia) ⟨H,I.tok _,by rw[kO r];exact q⟩
    · subst e';obtain ⟨hz,hS,vs,r,m⟩ : kvs.length<=sizeLine/\(p == sysModules)=false/\∃vs,KV kvs vs/\s.heap.DictOf (bw X.prog X.w) p vs:=I.bf p _ hx;have hlen:kvs.length=vs.length:=Paired.length r;exact wpAny_truthy_dict hS m (by lia) ⟨H,I.tok _,by rw[rM r];exact q⟩
  | _=>exact (show False from e).elim
theorem rY:gE X (binaryOp .Add) (λx y H Q=>∃i j,x=.str i/\y=.str j/\i.length+j.length<=sizeLine/\Q (.str (i++j)) H):=by
  intro pins s σ H x y v u Q I rx ry h;obtain ⟨i,j,rfl,rfl,hz,q⟩:=h;obtain ⟨t,rfl⟩:=rx;obtain ⟨t',rfl⟩:=ry;exact add_str (λt' tk=>⟨.str (i++j),H,I.tok _,⟨_,rfl⟩,q⟩) hz
theorem vals1 {x:V}{us:List GR}(r:Vals [x] us):∃u,us = [u]/\RelV x u:=by
  cases r with
  | cons r1 r2=>cases r2;exact ⟨_,rfl,r1⟩
theorem vals2 {x y:V}{us:List GR}(r:Vals [x,y] us):∃u w',us = [u,w']/\RelV x u/\RelV y w':=by
  cases r with
  | cons r1 r2 =>
    cases r2 with
    | cons r3 r4=>cases r4;exact ⟨_,_,rfl,r1,r3⟩
theorem uJ (hc:X.calm=true):dP X (.builtin "max") (λxs H Q=>∃i j,xs = [.int i,.int j]/\Q (.int (if j>i then j else i)) H):=by
  intro pins s σ H xs us Q I r h;obtain ⟨i,j,rfl,q⟩:=h;obtain ⟨u,w',rfl,⟨t,rfl⟩,⟨t',rfl⟩⟩:=vals2 r;refine max_two_ints (I.ok.hd hc) λh' tk k=>⟨_,H,I.kept k,?_,q⟩
  by_cases hj:j>i
  · rw[if_pos hj,if_pos hj];exact ⟨_,rfl⟩
  · rw[if_neg hj,if_neg hj];exact ⟨_,rfl⟩
theorem uL (hc:X.calm=true):dP X (.builtin "min") (λxs H Q=>∃i j,xs = [.int i,.int j]/\Q (.int (if j<i then j else i)) H):=by
  intro pins s σ H xs us Q I r h;obtain ⟨i,j,rfl,q⟩:=h;obtain ⟨u,w',rfl,⟨t,rfl⟩,⟨t',rfl⟩⟩:=vals2 r;refine min_two_ints (I.ok.hd hc) λh' tk k=>⟨_,H,I.kept k,?_,q⟩
  by_cases hj:j<i
  · rw[if_pos hj,if_pos hj];exact ⟨_,rfl⟩
  · rw[if_neg hj,if_neg hj];exact ⟨_,rfl⟩
noncomputable def CS (K:Frag)(x:V)(H:Hp)(n:Nat):Prop:=
  match x with
  | .str y=>y.length<=sizeLine/\n=y.length
  | .byt y=>y.size<=sizeLine/\n=y.size
  | .ref p=>(∃xs,cb K H p xs/\n=xs.length)\/∃xs,fA K H p xs/\n=xs.length
  | _=>False
theorem v5:dP X (.builtin "len") (λxs H Q=>∃x n,xs = [x]/\CS X.K x H n/\Q (.int n) H):=by
  intro pins s σ H xs us Q I r h;obtain ⟨x,n,rfl,e,q⟩:=h;obtain ⟨u,rfl,rx⟩:=vals1 r;have hl:=i9;have hs:sizeLine=16777216:=sizeLine_eq;cases x with
  | str y =>
    obtain ⟨t,rfl⟩:=rx;obtain ⟨hy,e'⟩ : y.length<=sizeLine/\n=y.length:=e;subst e';exact len_str (by lia) ⟨.int _,H,I.tok _,⟨_,rfl⟩,q⟩
  | byt y =>
    obtain ⟨t,rfl⟩:=rx;obtain ⟨hy,e'⟩ : y.size<=sizeLine/\n=y.size:=e;subst e';exact PySem.W.len_bytes (by lia) ⟨.int _,H,I.tok _,⟨_,rfl⟩,q⟩
  | ref p =>
    cases rx;have e':(∃xs,cb X.K H p xs/\n=xs.length)\/∃xs,fA X.K H p xs/\n=xs.length:=e;rcases e' with ⟨xs,hx,e'⟩ | ⟨xs,hx,e'⟩
    · subst e';obtain ⟨its,r',pl,hz⟩:=I.list hx;have hlen:=r'.length;exact Calls.call_len_list pl.isList (by simp only[Hk];lia) ⟨.int xs.length,H,I.tok _,⟨_,by simp only[Hk];rw[hlen]⟩,q⟩
    · subst e';obtain ⟨its,r',pl,hz⟩:=I.tuple hx;have hlen:=r'.length;exact len_tuple pl (by simp only[Hk];lia) ⟨.int xs.length,H,I.tok _,⟨_,by simp only[Hk];rw[hlen]⟩,q⟩
  | _=>exact (show False from e).elim
end
end L2
namespace L2
open PySem PySem.Spec PyProof.Rows
structure AX (h:Heap)(x dx C:Addr)(mA:Str->Option GR):Prop where
  obj:h.get? x=some (instObj C dx)
  ns:h.Ns1 dx mA
  ne:dx≠x
theorem vb {h:Heap}{dx:Addr}{mA:Str->Option GR}(n:h.Ns1 dx mA):∃od,h.get? dx=some od/\∀name,lookIn name od=some (mA name):=by
  obtain ⟨o,es,ep,ho,hd,hk,_,hm⟩:=n;refine ⟨o,ho,λname=>?_⟩;have e:=hm name;unfold nsFind findBy at e;rw[<-Array.find?_toList] at e;unfold lookIn;rw[hd];dsimp only;split
  · rename_i y q;rw[q] at e;exact congrArg some e
  · rename_i q;rw[q] at e;have a:es.toList.any (·.refKey)=false:=by
      rw[List.any_eq_false];intro y hy;obtain ⟨z,t,hkey⟩:=hk y (Array.mem_toList_iff.mp hy);simp[DictEntry.refKey,hkey]
    have a':¬es.toList.any (·.refKey)=true:=by rw[a];exact Ht
    rw[if_neg a'];exact congrArg some e
theorem AX.look {h:Heap}{x dx C:Addr}{mA:Str->Option GR}(I:AX h x dx C mA):∃od,PySem.W.InstAt h x (instObj C dx) C (some od)/\∀name,lookIn name od=some (mA name):=
  let ⟨od,ho,hl⟩:=vb I.ns
  ⟨od,⟨I.obj,rfl,rfl,ho⟩,hl⟩
section
variable {prog:Hj} {w:Hs} {A:Hr} {E:GR->GU->Prop} {s:GU} {K:Frag} {x dx C f:Addr} {mA:Str->Option GR} {name:Str} {v:GR}
end
theorem j7.some_of {v:V}{o:Option GR}(r:j7 (some v) o):∃u,o=some u/\RelV v u:=by
  cases o with
  | none=>exact (show False from r).elim
  | some u=>exact ⟨u,rfl,r⟩
section
variable {P:Hj} {w:Hs} {H H':Hp} {h h':Heap} {a C dx:Addr} {fs fs':List (Str×V)}
theorem fe (bf:gA P w H h)(e:H a=some (.ins C dx fs)):∃mA,AX h a dx C mA/\(∀f,j7 (fs.lookup f) (mA f))/\PySem.Within mA (fs.map (·.1))/\fs.length<=1000/\H dx=some (.own a):=by
  obtain ⟨d,z,ne,ob,mA,n,r,q⟩:=(show bC P w H h a (.ins C dx fs) from bf a _ e)
  exact ⟨mA,⟨ob,n,ne⟩,r,q,z,d⟩
end
structure ET (K:Frag)(C:Addr):Prop where
  pg:plainGet K C Str.empty=true
  hd:PySem.W.hasDictIn K C=true
  po:PySem.W.plainOver K C=true
  sa:findIn K (.ref C) "__setattr__" = some (some (.builtin "object.__setattr__"))
theorem ET.get {K:Frag}{C:Addr}(c:ET K C)(f:Str):plainGet K C f=true:=c.pg
structure GP (K:Frag)(C:Addr)(f:Str)(v:V)(u:GR):Prop where
  at_:findIn K (.ref C) f=some (some u)
  rel:RelV v u
  get:specialIn K u "__get__" = some none
  cp:PySem.W.copiedNames.contains f=false
structure Meth (K:Frag)(C:Addr)(m:Str)(f:Addr):Prop where
  at_:findIn K (.ref C) m=some (some (.ref f))
  fn:isFn K (.ref f)=true
  kp:keepIn K (.ref f)=true
section
variable {X:Cx} {pins:List (Addr×Obj)} {σ:St} {H:Hp} {s:GU} {a C dx:Addr} {fs:List (Str×V)} {f:Str} {v:V} {A:Hr} {E:GR->GU->Prop}
end
section
variable {X:Cx} {o e value:Expr} {f:Str} {pos pos' tpos:Pos} {ta tv:TE}
end
section
variable {X:Cx} {pins:List (Addr×Obj)} {σ:St} {H:Hp} {s:GU} {A:Hr} {E:GR->GU->Prop} {Q:GR->GU->Prop} {c:GR} {b:Bool}
inductive jE (K:Frag)(H:Hp):V->GR->Prop where
  | non:jE K H .non (.type "NoneType")
  | bl (x:Bool):jE K H (.bl x) (.type "bool")
  | int (i:Int):jE K H (.int i) (.type "int")
  | str (x:Str):jE K H (.str x) (.type "str")
  | flt (x:UInt64):jE K H (.flt x) (.type "float")
  | lst {a:Addr} {xs:List V} (e:H a=some (.lst xs)):jE K H (.ref a) (.type "list")
  | cx {a:Addr} {o:Obj} {xs:List V} (e:H a=some (.cx o (.lst xs))):jE K H (.ref a) (.type "list")
  | tup {a:Addr} {xs:List V} (e:H a=some (.tup xs)):jE K H (.ref a) (.type "tuple")
  | dK {a:Addr} {kvs:List (Key×V)} (e:H a=some (.dK kvs)):jE K H (.ref a) (.type "dict")
  | dT {a:Addr} {kvs:List (List Key×V)} (e:H a=some (.dT kvs)):jE K H (.ref a) (.type "dict")
  | ins {a C dx:Addr} {fs:List (Str×V)} (e:H a=some (.ins C dx fs)) (cl:ET K C) (ha:findIn K (.ref C) "__class__" = some (some (.builtin "object.__class__")))
      (hn:specialIn K (.builtin "object.__class__") "__get__" = some (some (.builtin "getset_descriptor.__get__"))) (htk:PySem.W.takesIn K (.builtin "object.__class__")=some true)
      (hm:PySem.W.mroIn K C (.type "object")=some true):jE K H (.ref a) (.ref C)
theorem gi {x:V}{u t:GR}(I:Inv X pins σ H s)(rx:RelV x u)(ty:jE X.K H x t)(e:kitOne X.K t c=some b)(h:∀tk,Q (.bool b) { s with toks:=tk }) :
    wpAny (model X.prog X.w) A (call (.builtin "isinstance") [u,c]) Q E s:=by
  cases ty with
  | non=>cases (show u=Value.none from rx);exact kia_one PySem.W.kitx_none I.lU True.intro e (λz=>nomatch z) h
  | bl y=>cases (show u=Value.bool y from rx);exact kia_one PySem.W.kitx_bool I.lU True.intro e (λz=>nomatch z) h
  | int i=>obtain ⟨t,q⟩:=(show ∃t,u=Value.int i t from rx);cases q;exact kia_one PySem.W.kitx_int I.lU True.intro e (λz=>nomatch z) h
  | str y=>obtain ⟨t,q⟩:=(show ∃t,u=Value.str y t from rx);cases q;exact kia_one PySem.W.kitx_str I.lU True.intro e (λz=>nomatch z) h
  | flt y=>obtain ⟨t,q⟩:=(show ∃t,u=Value.float y t from rx);cases q;exact kia_one PySem.W.kitx_float I.lU True.intro e (λz=>nomatch z) h
  | @lst a xs ea =>
    cases (show u=Value.ref a from rx);obtain ⟨_,_,n,_,h1⟩:=(show bC X.prog X.w H s.heap a (.lst xs) from I.bf a _ ea)
    exact kia_one kitx_list I.lU ⟨_,h1,rfl⟩ e (λz=>nomatch z) h
  | @cx a ob xs ea =>
    cases (show u=Value.ref a from rx);obtain ⟨_,_,_,n,_,h1⟩:=(show bC X.prog X.w H s.heap a (.cx ob (.lst xs)) from I.bf a _ ea)
    exact kia_one kitx_list I.lU ⟨_,h1,rfl⟩ e (λz=>nomatch z) h
  | @tup a xs ea =>
    cases (show u=Value.ref a from rx);obtain ⟨_,_,_,p⟩:=(show bC X.prog X.w H s.heap a (.tup xs) from I.bf a _ ea)
    obtain ⟨o,h1,h2,_⟩:=p;exact kia_one kitx_tuple I.lU ⟨o,h1,h2⟩ e (λz=>nomatch z) h
  | @dK a kvs ea =>
    cases (show u=Value.ref a from rx);obtain ⟨_,_,vs,_,p⟩:=(show bC X.prog X.w H s.heap a (.dK kvs) from I.bf a _ ea)
    obtain ⟨o,es,ep,h1,h2,_⟩:=p;exact kia_one kitx_dict I.lU ⟨o,h1,h2.1⟩ e (λz=>nomatch z) h
  | @dT a kvs ea =>
    cases (show u=Value.ref a from rx);obtain ⟨_,_,xs,_,o,es,ep,h1,h2,_⟩:=(show bC X.prog X.w H s.heap a (.dT kvs) from I.bf a _ ea)
    exact kia_one kitx_dict I.lU ⟨o,h1,h2.1⟩ e (λz=>nomatch z) h
  | @ins a C dx fs ea cl ha hn htk hm =>
    cases (show u=Value.ref a from rx);obtain ⟨mA,O,_⟩:=fe I.bf ea;obtain ⟨od,J,_⟩:=O.look;exact kia_one (PySem.W.kitx_own (cl.get _) cl.hd ha hn htk hm) I.lU J e (λz=>nomatch z) h
end
end L2
namespace L2
open PySem PySem.Spec PyProof.Rows
structure bQ (k:Nat)(A:Hr):Prop where
  hd:A.handled=none
  dp:A.depth+3*k+5<recursionLimit
  un:A.units+16*k+200<cLine
  gs:A.guards=some []
theorem bQ.mono {j k:Nat}{A:Hr}(r:bQ k A)(h:j<=k):bQ j A:=⟨r.hd,by have:=r.dp;lia,by have:=r.un;lia,r.gs⟩
theorem bQ.deeper {k:Nat}{A:Hr}(r:bQ (k+1) A)(env:Env):bQ k (A.deeper env):=
  ⟨r.hd,by have:=r.dp;show A.depth+1+3*k+5<_;lia,by have:=r.un;show A.units+3+16*k+200<_;lia,r.gs⟩
theorem bQ.depth {k:Nat}{A:Hr}(r:bQ k A):A.depth<recursionLimit:=by have:=r.dp;lia
theorem bQ.units {k:Nat}{A:Hr}(r:bQ k A):A.units+64<cLine:=by have:=r.un;lia
noncomputable def Ep:TA:=λ_ H Q=>Q [] H
noncomputable def AN (ta:TE)(tr:TA):TA:=λσ H Q=>ta σ H λx H1=>tr σ H1 λxs H2=>Q (x::xs) H2
section
variable {X:Cx} {e:Expr} {es:List Expr} {te:TE} {t:TA} {pos:Pos}
theorem jf:PA X [] Ep:=λ_ _ _ _ H Q I h=>Calls.spliced_nil ⟨[],H,I,.nil,h⟩
theorem eh (ha:PE X e te)(hr:PA X es t)(hs:autoParam (starEach (e::es) X.env=(false,eval e X.env)::starEach es X.env) aZa._auto_1):PA X (e::es) (AN te t):=by
  intro pos pins s σ H Q I h;rw[hs];show wpAny _ _ (spliced ((false,eval e X.env)::backTo pos (starEach es X.env))) _ _ s;refine Calls.spliced_cons (bt (ha pins s σ H _ I h) ?_);rintro u s1 ⟨x,H1,I1,r1,q1⟩;exact bt (hr pos pins s1 σ H1 _ I1 q1) (by rintro us s2 ⟨xs,H2,I2,r2,q2⟩;exact ⟨x::xs,H2,I2,.cons r1 r2,q2⟩)
noncomputable def FY (t:TA):TE:=λσ H Q=>t σ H λxs H1=>xs.length<=sizeLine/\∀p,H1 p=none->Q (.ref p) (upd H1 p (.tup xs))
noncomputable def FR (t:TA):TE:=λσ H Q=>t σ H λxs H1=>xs.length<=sizeLine/\∀p,H1 p=none->Q (.ref p) (upd H1 p (.lst xs))
theorem xO {x1}(h:PA X es t):PE X (.Tuple es x1 pos) (FY t):=by
  intro pins s σ H Q I hq;refine wpAny_Tuple_spliced (bt (h pos pins s σ H _ I hq) λus s1 ⟨xs,H1,I1,r,z,q⟩=>⟨by rw[<-r.length];exact z,?_⟩);have hf:H1 s1.heap.objs.size=none:=I1.bf.fresh (GW _);refine ⟨.ref s1.heap.objs.size,upd H1 s1.heap.objs.size (.tup xs),I1.laid (t':=s1.toks) (λb u e=>GZ _ e) (GW _) ?_,rfl,q _ hf⟩;exact ⟨z,us,r,⟨_,Hq _ rfl,rfl,_,rfl⟩⟩
theorem B8 (h:PA X es t):PE X (.List es pos) (FR t):=by
  intro pins s σ H Q I hq;refine wpAny_List_spliced (bt (h pos pins s σ H _ I hq) λus s1 ⟨xs,H1,I1,r,z,q⟩=>⟨by rw[<-r.length];exact z,?_⟩);have hf:H1 s1.heap.objs.size=none:=I1.bf.fresh (GW _);refine ⟨.ref s1.heap.objs.size,upd H1 s1.heap.objs.size (.lst xs),I1.laid (t':=s1.toks) (λb u e=>GZ _ e) (GW _) ?_,rfl,q _ hf⟩;exact ⟨z,us,0,r,Hq _ rfl⟩
end
noncomputable abbrev Sp:=List V->Hp->VK->XK->Prop
noncomputable abbrev yo:=List Env->Hp->GU->XK->GR->GU->Prop
structure yu (P:Hj)(w:Hs)(K:Frag)(mg:Str->Option GR)(base:Heap)(A:Hr)(outer:List Env)(s:GU)(H:Hp):Prop where
  frames:A.frames=some outer
  mod:Mod K mg base
  bs:∀b o,base.get? b=some o->s.heap.get? b=some o/\H b=none
  An:base.objs.size<=s.heap.objs.size
  kJ:s.heap.FunFrames base outer
  CL:∀b∈vO outer,H b=none
  bf:gA P w H s.heap
  bare:AllBare s.gens
noncomputable def CE (outer:List Env)(P:Hj)(w:Hs)(H:Hp)(s:GU)(Q:VK)(u:GR)(s':GU):Prop:=
  ∃v H',s'.os=s.os/\AllBare s'.gens/\Un (vO outer) [] H H' s.heap s'.heap/\gA P w H' s'.heap/\RelV v u/\Q v H'
noncomputable def CR (CX:yo)(outer:List Env)(P:Hj)(w:Hs)(H:Hp)(s:GU)(Q:VK)(E:XK)(r:Result)(s':GU):Prop:=
  match r with
  | .ok (.ret u)=>CE outer P w H s Q u s'
  | .ok _=>False
  | .error e=>CX outer H s E e s'
structure cw (P:Hj)(w:Hs)(K:Frag)(mg:Str->Option GR)(base:Heap)(CX:yo)(k:Nat)(f:Addr)(fd:FuncData)(ps:List Str)(sp:Sp):Prop where
  len:∀vs H Q E,sp vs H Q E->vs.length=ps.length
  run:∀(A:Hr) (outer:List Env) (s:GU) (H:Hp) (args:Args) (us:List GR) (vs:List V) (Q:VK) (E:XK),bQ k A->yu P w K mg base A outer s H->BindsTo s fd args (ps.zip us)->Vals vs us->sp vs H Q E ->
    codeAny (model P w) A (.call (.ref f) args) (CR CX outer P w H s Q E) s
theorem cw.imp {P:Hj}{w:Hs}{K:Frag}{mg:Str->Option GR}{base:Heap}{CX:yo}{k:Nat}{f:Addr}{fd:FuncData}{ps:List Str}{sp sp':Sp}(F:cw P w K mg base CX k f fd ps sp)
    (h:∀vs H Q E,sp' vs H Q E->sp vs H Q E):cw P w K mg base CX k f fd ps sp':=
  ⟨λvs H Q E q=>F.len vs H Q E (h _ _ _ _ q),λA outer s H args us vs Q E hr he hb hv hs=>F.run A outer s H args us vs Q E hr he hb hv (h _ _ _ _ hs)⟩
section
variable {X:Cx} {pins:List (Addr×Obj)} {σ:St} {H:Hp} {s s':GU}
theorem Inv.E6 (I:Inv X pins σ H s):yu X.prog X.w X.K X.mg X.base X.A X.stack s H:=
  ⟨I.ok.frames,I.ok.mod,I.bs,Nat.le_trans I.ok.An I.sz,I.stack,I.uB,I.bf,I.bare⟩
theorem Inv.after {Q:VK}{u:GR}(I:Inv X pins σ H s)(h:CE X.stack X.prog X.w H s Q u s'):EP X pins σ Q u s':=by
  obtain ⟨v,H',os,bare,un,bf,r,q⟩:=h;obtain ⟨hh,g,d,t,os'⟩:=s';obtain rfl:os'=s.os:=os;exact ⟨v,H',I.call (h':=hh) (g':=g) (d':=d) (t':=t) (ch:=[]) un bf bare (λb z=>absurd z (by simp)),r,q⟩
end
noncomputable def AM (sp:Sp)(dvs:List V)(E:XK)(t:TA):TE:=λσ H Q=>t σ H λvs H1=>sp (vs++dvs) H1 Q E
noncomputable def Binds (K:Frag)(fd:FuncData)(ps:List Str)(ds:List GR):Prop:=
  ∀(s:GU) (us:List GR),K.In s.heap->(us++ds).length=ps.length->BindsTo s fd ⟨us,[]⟩ (ps.zip (us++ds))
theorem Binds.all {K:Frag}{fd:FuncData}{ps:List Str}(h:∀us:List GR,us.length=ps.length->bindArgs fd ⟨us,[]⟩=pure (ps.zip us)):Binds K fd ps []:=λs us _ hl=>by
  rw[append_nil] at hl ⊢;exact .of_eq (h us hl)
noncomputable def Passes (CX:yo)(X:Cx)(E:XK):Prop:=∀(pins:List (Addr×Obj)) (σ:St) (H:Hp) (s:GU) (e:GR) (s':GU),Inv X pins σ H s->CX X.stack H s E e s'->X.xe e s'
section
variable {X:Cx} {CX:yo} {k:Nat} {f C:Addr} {fd:FuncData} {ps:List Str} {sp:Sp} {dvs:List V} {ds:List GR} {E:XK} {x m:Str} {p pos apos:Pos} {e o:Expr} {es:List Expr} {ta:TE} {t:TA}
theorem Cm {pins:List (Addr×Obj)}{σ:St}{H:Hp}{s:GU}{Q:VK}{us:List GR}{vs:List V}(F:cw X.prog X.w X.K X.mg X.base CX k f fd ps sp)(hr:bQ k X.A)(hb:Binds X.K fd ps ds)(hd:Vals dvs ds)(hx:Passes CX X E)
    (I:Inv X pins σ H s) (r:Vals vs us) (h:sp (vs++dvs) H Q E):wpAny (model X.prog X.w) X.A (call (.ref f) us) (EP X pins σ Q) X.xe s:=by
  have r2:Vals (vs++dvs) (us++ds):=r.append hd;have hl:(us++ds).length=ps.length:=by rw[<-r2.length];exact F.len _ _ _ _ h
  refine wpAny_call (codeAny_mono (F.run X.A X.stack s H ⟨us,[]⟩ (us++ds) (vs++dvs) Q E hr I.E6 (hb s us I.lU hl) r2 h) λr s' hq=>?_);cases r with
  | error e=>exact hx pins σ H s e s' I hq
  | ok fl =>
    cases fl with
    | ret u=>exact I.after hq
    | next=>exact False.elim hq
    | brk=>exact False.elim hq
    | cont=>exact False.elim hq
theorem zI (F:cw X.prog X.w X.K X.mg X.base CX k f fd ps sp)(hr:bQ k X.A)(hg:Gl X x)(hm:X.mg x=some (.ref f))(hk:keepIn X.K (.ref f)=true)(hb:Binds X.K fd ps ds)(hd:Vals dvs ds)(hx:Passes CX X E)
    (ha:PA X (e::es) t) (hdb:autoParam ((x == ("__debug__" : Str))=false) aZb._auto_1) (he:autoParam (starEach (e::es) X.env=(false,eval e X.env)::starEach es X.env) aZa._auto_1) (hpl:autoParam ((backTo pos (starEach es X.env)).any (·.1)=false) aZa._auto_1) :
    PE X (.Call (.Name x p) (e::es) [] pos) (AM sp dvs E t):=by
  intro pins s σ H Q I h;refine wpAny_Call_Name_kw (t8 I hg hm ?_ hdb);refine PySem.W.callWith_K (h₀:=X.base) I.ok.mod.DB hk (bt (ha pos pins s σ H _ I h) λus s1 ⟨vs,H1,I1,r,q⟩=>⟨I1.lU,?_⟩) he hpl;exact Cm F hr hb hd hx I1 r q
structure Mk (K:Frag)(C f:Addr):Prop where
  makes:PySem.W.makesIn K C=true
  init:findIn K (.ref C) "__init__" = some (some (.ref f))
  fn:isFn K (.ref f)=true
  kp:keepIn K (.ref C)=true
end
section
variable {X:Cx} {CX:yo} {k:Nat} {f C:Addr} {fd:FuncData} {ps ks:List Str} {sp:Sp} {E:XK} {x m:Str} {p pos apos kpos:Pos} {e o:Expr} {es:List Expr} {kws:List Keyword} {te ta:TE} {t tk:TA} {nm:Option Str}
structure EW (K:Frag)(fd:FuncData)(ps ks:List Str)(g:List GR->List GR->List GR)(gV:List V->List V->List V):Prop where
  to:∀(s:GU) (us ws:List GR),K.In s.heap->(g us ws).length=ps.length->BindsTo s fd ⟨us,ks.zip ws⟩ (ps.zip (g us ws))
  rel:∀{vs:List V} {us:List GR} {zs:List V} {ws:List GR},Vals vs us->Vals zs ws->Vals (gV vs zs) (g us ws)
variable {g:List GR->List GR->List GR} {gV:List V->List V->List V}
end
structure aX (N P:List Str)(sc:Scope):Prop where
  kind:sc.kind=.function
  co:sc.isCoroutine=false
  gen:sc.isGenerator=false
  nd:N.Nodup
  pre:N.take P.length=P
  par:∀x∈P,sc.names.lookup x=some .local\/sc.names.lookup x=some .cell
  BK:∀y∈sc.names,y.2≠.free
theorem mC {kindOf:Str->Option NameKind}{x:Str}:∀{binds:List (Str×GR)} {m:Str->Option GR},(∀v,(x,v)∉binds)->bindL kindOf binds m x=m x
  | [],_,_=>rfl
  | (n,v)::r,m,h=>by
    unfold bindL;rw[mC λw hw=>h w (Hv _ hw)];split
    · have : x ≠ n := by rintro rfl;exact h v mem_cons_self
      simp[this]
    · rfl
theorem mz {kindOf:Str->Option NameKind}{x:Str}:∀{binds:List (Str×GR)} {m:Str->Option GR},(∀v,(x,v)∉binds)->bindC kindOf binds m x=m x
  | [],_,_=>rfl
  | (n,v)::r,m,h=>by
    unfold bindC;rw[mz λw hw=>h w (Hv _ hw)];split
    · rfl
    · have : x ≠ n := by rintro rfl;exact h v mem_cons_self
      simp[this]
theorem mB {kindOf:Str->Option NameKind}{x:Str}{v:GR}:∀{P:List Str} {vs:List GR} {i:Nat} {m:Str->Option GR},P.Nodup->P[i]?=some x->vs[i]?=some v->kindOf x=some .local ->
    bindL kindOf (P.zip vs) m x=some v
  | [],_,_,_,_,h,_,_=>by simp at h
  | _::_,[],_,_,_,_,h,_=>by simp at h
  | p::P,w::vs,0,m,nd,h1,h2,hk=>by
    simp at h1 h2;subst h1;subst h2;show bindL kindOf ((p,w)::P.zip vs) m p=_;unfold bindL;rw[mC λv hv=>(nodup_cons.mp nd).1 (List.of_mem_zip hv).1,if_pos hk];simp
  | p::P,w::vs,i+1,m,nd,h1,h2,hk=>by
    show bindL kindOf ((p,w)::P.zip vs) m x=_;unfold bindL;exact mB (i:=i) (nodup_cons.mp nd).2 (by simpa using h1) (by simpa using h2) hk
theorem my {kindOf:Str->Option NameKind}{x:Str}{v:GR}:∀{P:List Str} {vs:List GR} {i:Nat} {m:Str->Option GR},P.Nodup->P[i]?=some x->vs[i]?=some v->kindOf x≠some .local ->
    bindC kindOf (P.zip vs) m x=some v
  | [],_,_,_,_,h,_,_=>by simp at h
  | _::_,[],_,_,_,_,h,_=>by simp at h
  | p::P,w::vs,0,m,nd,h1,h2,hk=>by
    simp at h1 h2;subst h1;subst h2;show bindC kindOf ((p,w)::P.zip vs) m p=_;unfold bindC;rw[mz λv hv=>(nodup_cons.mp nd).1 (List.of_mem_zip hv).1,if_neg hk];simp
  | p::P,w::vs,i+1,m,nd,h1,h2,hk=>by
    show bindC kindOf ((p,w)::P.zip vs) m x=_;unfold bindC;exact my (i:=i) (nodup_cons.mp nd).2 (by simpa using h1) (by simpa using h2) hk
noncomputable def start (N:List Str)(vs:List V):St:=vs.map some++List.replicate (N.length - vs.length) none
noncomputable def nN (CX:yo)(P:Hj)(w:Hs)(K:Frag)(mg:Str->Option GR)(base:Heap)(N:List Str)(qual:Str)(scope:Scope)(f:Addr)(cd:GR)(A:Hr)(outer:List Env)(s:GU)(H:Hp)(E:XK):Cx where
  prog:=P
  w:=w
  K:=K
  mg:=mg
  base:=base
  A:=A.deeper (envOfC qual scope s.heap.objs.size f cd)
  N:=N
  s₀:=s
  H₀:=H
  env:=envOfC qual scope s.heap.objs.size f cd
  outer:=outer
  stack:=envOfC qual scope s.heap.objs.size f cd::outer
  ex:=[]
  calm:=true
  fn:=λ_=>true
  pn:=[]
  xe:=λe s'=>wpAny (model P w) (A.deeper (envOfC qual scope s.heap.objs.size f cd)) (leaving (envOfC qual scope s.heap.objs.size f cd) e) (λ_ s''=>CX outer H s E e s'') (λe' s''=>CX outer H s E e' s'') s'
theorem pA {sc:Scope}{n:Nat}{x:Str}(h:sc.names.lookup x=some .cell):∃c,(cellsFrom n sc.names []).lookup x=some c:=by
  have q:=cellsFrom_some sc.names n [] (.inl h);exact Option.isSome_iff_exists.mp q
theorem uZ {CX:yo}{P:Hj}{w:Hs}{K:Frag}{mg:Str->Option GR}{base:Heap}{N ps:List Str}{qual:Str}{scope:Scope}{f:Addr}{cd:GR}{A:Hr}{outer:List Env}{s s1:GU}{H:Hp}{E:XK}{us:List GR}{vs:List V}
    (S:aX N ps scope) (hd:A.handled=none) (e0:yu P w K mg base A outer s H) (hl:vs.length=ps.length) (r:Vals vs us)
    (x:InCallC s s.heap.objs.size (bindL (envOfC qual scope s.heap.objs.size f cd).kindOf (ps.zip us) λ_=>none) (cellsFrom (s.heap.objs.size+1) scope.names []) (bindC (envOfC qual scope s.heap.objs.size f cd).kindOf (ps.zip us) λ_=>none) s1) :
    Inv (nN CX P w K mg base N qual scope f cd A outer s H E) [] (start N vs) H s1:=by
  have hpl:ps.length<=N.length:=by have:=congrArg List.length S.pre;rw[length_take] at this;lia
  obtain ⟨h1,tk,rfl,hk⟩:=x.done;have AA:∀b:Addr,b∉(nN CX P w K mg base N qual scope f cd A outer s H E).ex:=λb z=>absurd (show b∈([]:List Addr) from z) (by simp);refine ⟨⟨e0.mod,S.kind,rfl,rfl,GW _,λy z c h1 h2=>?_,λy hy=>?_,λy c _ h=>?_,λ_=>hd,Around.frames_deeper e0.frames,.inr ⟨rfl,rfl⟩,λb z=>absurd z (AA b),e0.bs,e0.An,λb _ _=>AA b,λb z=>absurd z (AA b),e0.kJ,e0.CL⟩,
    rfl,e0.bare,Un.kept hk,⟨_,x.toInCall.ns,λi y v h1 h2 h3=>?_⟩,λy c h=>⟨_,x.cell y c h⟩,e0.bf.fresh (GW _),λy c h=>?_,λp hp=>absurd (show p∈([]:List (Addr×Obj)) from hp) (by simp),e0.bf.kept hk,?_⟩
  · exact name_of_addr x.apart (PySem.mem_of_lookup h1) (PySem.mem_of_lookup h2)
  · have hy:scope.names.lookup y=some .cell\/scope.names.lookup y=some .free:=hy;rcases hy with hy | hy
    · exact pA hy
    · exact absurd rfl (S.BK _ (PySem.mem_of_lookup hy))
  · exact Nat.le_of_lt (x.above y c (PySem.mem_of_lookup h))
  · have hi:i<vs.length:=by
      unfold start at h2;by_cases hi:i<vs.length
      · exact hi
      · rw [List.getElem?_append_right (by simpa using hi)] at h2;rw[List.getElem?_replicate] at h2;split at h2<;>cases h2
    have ha:vs[i]?=some v:=by
      unfold start at h2;rw[List.getElem?_append_left (by simpa using hi),Hw] at h2;cases e:vs[i]? with
      | none=>rw[e] at h2;cases h2
      | some a=>rw[e] at h2;cases h2;rfl
    obtain ⟨u,hu,rv⟩:=r.get ha;have hp:ps[i]?=some y:=by
      rw[<-S.pre,List.getElem?_take_of_lt (by lia)];exact h1
    have ndP:ps.Nodup:=by rw[<-S.pre];exact S.nd.sublist (List.take_sublist _ _)
    refine ⟨u,rv,?_⟩;rcases S.par y (Hi hp) with k | k
    · exact .inl ⟨k,mB ndP hp hu k⟩
    · obtain ⟨c,e⟩:=pA (n:=s.heap.objs.size+1) k;refine .inr ⟨.inl k,c,e,?_⟩;have q:=x.cell y c e;rw[my ndP hp hu (by show scope.names.lookup y≠_;rw[k];decide)] at q;exact q
  · exact e0.bf.fresh (Nat.le_of_lt (x.above y c (PySem.mem_of_lookup h)))
  · unfold start;show _=N.length;rw[Hu,Hh,List.length_replicate];lia
theorem Au {CX:yo}{P:Hj}{w:Hs}{K:Frag}{mg:Str->Option GR}{base:Heap}{k:Nat}{f:Addr}{name qual:Str}{params:Arguments}{body:List Stmt}{scope:Scope}{dV kV doc pm cdv ct oc:GR}{an od:Option Addr}
    {osl:Array (Option GR)} {N ps:List Str} {sp:Sp} (lk:K.lookup f=some ⟨oc,od,.func (fnOf name qual params body scope dV kV doc pm an cdv ct),osl⟩) (hcd:codeIn K cdv qual=true) (S:aX N ps scope)
    (len:∀vs H Q E,sp vs H Q E->vs.length=ps.length)
    (hbody:∀(A:Hr) (outer:List Env) (s:GU) (H:Hp) (vs:List V) (Q:VK) (E:XK),bQ k (A.deeper (envOfC qual scope s.heap.objs.size f cdv))->sp vs H Q E ->
      ∃t,mj (nN CX P w K mg base N qual scope f cdv A outer s H E) body t/\t { nx:=λ_ H'=>Q .non H',rt:=Q } (start N vs) H) :
    cw P w K mg base CX (k+1) f (fnOf name qual params body scope dV kV doc pm an cdv ct) ps sp:=by
  refine ⟨len,λA outer s H args us vs Q E hr e0 hb r hsp=>?_⟩;have hl:=len _ _ _ _ hsp;have KX:K.In s.heap:=e0.mod.DB.keeps λb o e=>(e0.bs b o e).1;have lim:s.heap.NoLimit:=e0.mod.nolimit.keeps λb o e=>(e0.bs b o e).1;have hkind:∀y∈ps.zip us,scope.names.lookup y.1=some .local\/(scope.names.lookup y.1=some .cell/\((cellsFrom (s.heap.objs.size+1) scope.names []).lookup y.1).isSome=true):= by
    rintro ⟨n,v⟩ hy;rcases S.par n (List.of_mem_zip hy).1 with q | q
    · exact .inl q
    · exact .inr ⟨q,cellsFrom_some _ _ _ (.inl q)⟩
  refine codeAny_call_function hr.depth (KX _ _ lk) rfl S.co S.gen rfl (PySem.W.codeRec_of KX hcd) (hb _ _ _ _ ?_);refine wpAny_newFunctionEnv_cells S.kind hkind λenv he s1 x=>?_;subst he;refine ⟨lim.keeps x.toInCall.keep,codeAny_func ?_⟩;obtain ⟨t,ht,hq⟩:=hbody A outer s H vs Q E (hr.deeper _) hsp;have I:Inv (nN CX P w K mg base N qual scope f cdv A outer s H E) [] (start N vs) H s1:=uZ S hr.hd e0 hl r x;refine wpAny_mono (ht [] s1 (start N vs) H _ I hq) (λfl s' hs=>?_) λe s' hs=>hs;have fin:∀{σ':St} {H':Hp} {v:V} {u:GR},Inv (nN CX P w K mg base N qual scope f cdv A outer s H E) [] σ' H' s'->RelV v u->Q v H'->CE outer P w H s Q u s':=
    λ{σ' H' v u} J rv q=>⟨v,H',J.os,J.bare,J.base,J.bf,rv,q⟩
  cases fl with
  | ret u =>
    obtain ⟨v,σ',H',J,rv,q⟩:=hs;exact fin J rv q
  | next =>
    obtain ⟨σ',H',J,q⟩:=hs;exact fin (v:=V.non) (u:=Value.none) J rfl q
  | brk =>
    obtain ⟨_,_,_,q⟩:=hs;exact False.elim q
  | cont =>
    obtain ⟨_,_,_,q⟩:=hs;exact False.elim q
end L2
namespace L2
open PySem PySem.Spec PyProof.Rows
section
variable {X:Cx} {x:Str} {p pos:Pos} {e:Expr} {es:List Expr} {t:TA} {id T:String} {r:List V->Hp->VK->Prop}
noncomputable def ER (r:List V->Hp->VK->Prop)(t:TA):TE:=λσ H Q=>t σ H λvs H1=>r vs H1 Q
theorem qC (hc:dP X (.builtin id) r)(hg:Gl X x)(hm:X.mg x=none)(hv:bootBuiltins x=some (.builtin id))(ha:PA X (e::es) t)(hn:autoParam (x≠"__name__") aZb._auto_1)(hdb:autoParam ((x == ("__debug__" : Str))=false) aZb._auto_1)
    (he:autoParam (starEach (e::es) X.env=(false,eval e X.env)::starEach es X.env) aZa._auto_1) (hpl:autoParam ((backTo pos (starEach es X.env)).any (·.1)=false) aZa._auto_1):PE X (.Call (.Name x p) (e::es) [] pos) (ER r t):=by
  intro pins s σ H Q I h;refine wpAny_Call_Name_kw (fg I hg hm hv ?_ hn hdb);exact PyProof.Rows.callWith_builtin1 (bt (ha pos pins s σ H _ I h) (by rintro us s1 ⟨vs,H1,I1,r1,q1⟩;exact hc pins s1 σ H1 vs us Q I1 r1 q1)) he hpl
theorem m9 (hc:dP X (.type T) r)(hg:Gl X x)(hm:X.mg x=none)(hv:bootBuiltins x=some (.type T))(ha:PA X (e::es) t)(hn:autoParam (x≠"__name__") aZb._auto_1)(hdb:autoParam ((x == ("__debug__" : Str))=false) aZb._auto_1)
    (he:autoParam (starEach (e::es) X.env=(false,eval e X.env)::starEach es X.env) aZa._auto_1) (hpl:autoParam ((backTo pos (starEach es X.env)).any (·.1)=false) aZa._auto_1):PE X (.Call (.Name x p) (e::es) [] pos) (ER r t):=by
  intro pins s σ H Q I h;refine wpAny_Call_Name_kw (fg I hg hm hv ?_ hn hdb);exact PyProof.Rows.callWith_type1 (bt (ha pos pins s σ H _ I h) (by rintro us s1 ⟨vs,H1,I1,r1,q1⟩;exact hc pins s1 σ H1 vs us Q I1 r1 q1)) he hpl
end
end L2
namespace HT
open PySem PyProof.Rows
section
open PySem.SeqAt
open PySem.AutoSeq1 (wpAny_loadPart')
open PySem.MeetsSeq PySem.MeetsSeq2 PySem.MeetsSeq3
end
section
variable {prog:Hj} {w:Hs} {A:Hr} {E:GR->GU->Prop} {s:GU}
theorem yE {t b:Addr}{vs ws:List GR}{Q:GR->GU->Prop}(ht:IsTup s.heap t vs.toArray)(hb:IsTup s.heap b ws.toArray)(hv:vs≠[])
    (h1:ws = []->Q (.ref t) s) (h2:ws≠[]->Q (.ref s.heap.objs.size) { s with heap:=s.heap.push { cls:=.type "tuple",data:=.seq (vs++ws).toArray } })
    (hsz:vs.length+ws.length<=sizeLine):wpAny (model prog w) A (binaryOp .Add (.ref t) (.ref b)) Q E s:=by
  obtain ⟨⟨cls,dd,data,sl⟩,ho,hc,n,hd⟩:=id ht;obtain ⟨⟨cls2,dd2,data2,sl2⟩,ho2,hc2,n2,hd2⟩:=id hb;simp only at hc hd hc2 hd2;subst hc hd hc2 hd2;have e:vs.toArray++ws.toArray=(vs++ws).toArray:=by simp
  by_cases hw:ws = []
  · exact concat_meets ⟨_,ho,rfl⟩ ⟨_,ho2,rfl⟩ noFill_tuple_add seq_tuple_add PySem.F.slot_tuple_add PySem.F.entry_tuple_add (PySem.F.args_tuple_add_2 _ _)
      (tuple_addW1 t b vs.toArray ws.toArray n n2 dd dd2 sl sl2 (by simpa using hv) (by simp[hw])) ⟨ho,ho2,h1 hw⟩
  · refine concat_meets ⟨_,ho,rfl⟩ ⟨_,ho2,rfl⟩ noFill_tuple_add seq_tuple_add PySem.F.slot_tuple_add PySem.F.entry_tuple_add (PySem.F.args_tuple_add_2 _ _)
      (tuple_addW2 t b vs.toArray ws.toArray n n2 dd dd2 sl sl2 (by simpa using hv) (by simpa using hw) (by rw[Hk,Hk];exact hsz)) ⟨ho,ho2,?_⟩
    rw[e];exact h2 hw
noncomputable def cm (n d:Nat):Option Int->Nat
  | none=>d
  | some v=>if v<0 then (v+(n:Int)).toNat else min v.toNat n
theorem qL (n d:Nat):cm n d none=d:=rfl
theorem uv (n d k:Nat):cm n d (some (k:Int))=min k n:=by
  show (if (k:Int)<0 then ((k:Int)+(n:Int)).toNat else min (k:Int).toNat n)=min k n;rw[if_neg (by lia),Int.toNat_natCast]
theorem Cn (n d:Nat)(hd:d<=n)(o:Option Int):cm n d o<=n:=by
  cases o with
  | none=>exact hd
  | some v =>
    show (if v<0 then (v+(n:Int)).toNat else min v.toNat n)<=n;by_cases hv:v<0
    · rw[if_pos hv];lia
    · rw[if_neg hv];exact Nat.min_le_right _ _
theorem sQ (v:Int)(n d:Nat):(if v<0 then max (v+(n:Int)) 0 else min v (n:Int))=((cm n d (some v):Nat):Int):=by
  show (if v<0 then max (v+(n:Int)) 0 else min v (n:Int))=(((if v<0 then (v+(n:Int)).toNat else min v.toNat n):Nat):Int)
  by_cases hv:v<0
  · simp only[if_pos hv];lia
  · simp only[if_neg hv];lia
theorem rg (lo hi:Option Int)(n:Nat):Builtin.Slice.sliceAdjust lo hi 1 (n:Int)=(((cm n 0 lo:Nat):Int),((cm n n hi:Nat):Int)):=by
  have h1:¬((1:Int)<0):=by lia
  unfold Builtin.Slice.sliceAdjust;simp only[h1,if_false];refine Prod.ext ?_ ?_
  · cases lo with
    | none=>rfl
    | some v=>exact sQ v n 0
  · cases hi with
    | none=>rfl
    | some v=>exact sQ v n n
theorem r6 (i j:Nat):Builtin.Slice.slicePlaces (i:Int) (j:Int) 1=j - i:=by
  unfold Builtin.Slice.slicePlaces;have h1:(1:Int)>0:=by lia
  simp only[h1,if_true,Int.ediv_one];split<;>lia
theorem lH {v:GR}{o:Option Int}{Q:Option Int->GU->Prop}(p:IsPart v o)(h:Q o s):wpAny (model prog w) A (Builtin.Slice.slicePartIndex v) Q E s:=by
  cases p with
  | none=>exact slicePart_none h
  | int i t=>exact slicePart_int h
theorem jm {sl:Addr}{vl vu:GR}{lo hi:Option Int}{n:Nat}{Q:Int×Int×Nat->GU->Prop}(hs:s.heap.IsSliceOf sl vl vu .none)(pl:IsPart vl lo)(pu:IsPart vu hi)
    (h:Q (((cm n 0 lo:Nat):Int),1,cm n n hi - cm n 0 lo) s):wpAny (model prog w) A (Builtin.Slice.sliceApplied (.ref sl) (pure (n:Int))) Q E s:=by
  obtain ⟨os,hos,hcs,hds⟩:=id hs;unfold Builtin.Slice.sliceApplied Builtin.Slice.sliceFields;refine GS (GS (wpAny_field hos hds (x:=vl) rfl (GS (wpAny_field hos hds (x:=vu) rfl (GS (wpAny_field hos hds (x:=.none) rfl (GX ?_)))))));refine GS (slicePart_none ?_);show wpAny _ _ (if ((1:Int) == 0)=true then _ else _) _ _ s;rw[if_neg (by decide)];refine GS (lH pl (GS (lH pu (GS (GX ?_)))));show wpAny _ _ (match Builtin.Slice.sliceAdjust lo hi 1 (n:Int) with | (lo,hi)=>pure (lo,(1:Int),Builtin.Slice.slicePlaces lo hi 1)) _ _ s;rw[rg lo hi n];show wpAny _ _ (pure (((cm n 0 lo:Nat):Int),(1:Int),Builtin.Slice.slicePlaces ((cm n 0 lo:Nat):Int) ((cm n n hi:Nat):Int) 1)) _ _ s;rw[r6];exact GX h
theorem xR (xs:Array GR)(i k:Nat):((List.range k).filterMap λ(m:Nat)=>xs[((i:Int)+(m:Int)*1).toNat]?).toArray=((xs.toList.drop i).take k).toArray:=by
  have e:(λ(m:Nat)=>xs[((i:Int)+(m:Int)*1).toNat]?)=λm=>xs[i+m]?:=by
    funext m
    have:((i:Int)+(m:Int)*1).toNat=i+m:=by lia
    rw[this]
  rw[e];have:=pick_run xs i k;rw[List.filterMap_map] at this;have e2:((λx=>xs[x]?)∘λx=>i+x)=λm=>xs[i+m]?:=rfl;rw[e2] at this;rw[this]
theorem iq {t sl:Addr}{items:Array GR}{vl vu:GR}{lo hi:Option Int}{Q:GR->GU->Prop}(ht:IsTup s.heap t items)(hs:s.heap.IsSliceOf sl vl vu .none)(pl:IsPart vl lo)(pu:IsPart vu hi)
    (hw:¬(cm items.size 0 lo=0/\cm items.size items.size hi=items.size))
    (h:Q (.ref s.heap.objs.size) { s with heap:=s.heap.push { cls:=.type "tuple",data:=.seq ((items.toList.drop (cm items.size 0 lo)).take (cm items.size items.size hi - cm items.size 0 lo)).toArray } })
    (hsz:items.size<=sizeLine):wpAny (model prog w) A (getItem (.ref t) (.ref sl)) Q E s:=by
  have htake:sizeOk (.seq ((items.toList.drop (cm items.size 0 lo)).take (cm items.size items.size hi - cm items.size 0 lo)).toArray):=by
    show ((items.toList.drop (cm items.size 0 lo)).take (cm items.size items.size hi - cm items.size 0 lo)).toArray.size<=sizeLine;rw[Hk,length_take,length_drop,Hd];lia
  have hj:cm items.size items.size hi<=items.size:=Cn _ _ (GW _) hi;obtain ⟨os,hos,hcs,hds⟩:=id hs;have hTs:s.TypeIs (.ref sl) "slice":=⟨os,hos,hcs⟩
  unfold getItem;try with_reducible refine wpAny_holding ?_
  first | refine GS (GX ?_) | skip
  refine GS (wpAny_sequenceKey ht.typeIs (by decide) ?_);refine GS (wpAny_callSpecial?_slot (name:=Str.ofString "__getitem__") ht.typeIs PyProof.Rows.slot_tuple_getitem
    (wpAny_call_entry PyProof.Rows.slot_tuple_getitem ht.typeIs entry_tuple_getitem ?_ (args_tuple_getitem _ _)))
  show wpAny _ _ (Builtin.Tuple.tupleItemsOf (.ref t) >>= _) _ _ s;refine GS (tupleItemsOf_ ht ?_);refine GS (wpAny_typeOf hTs ?_);rw[if_pos (by decide)];refine GS (jm hs pl pu ?_);have hno:¬((((cm items.size 0 lo:Nat):Int) == 0 && (1:Int) == 1 && (cm items.size items.size hi - cm items.size 0 lo) == items.size)=true):=by
    intro q;rw[Bool.and_eq_true,Bool.and_eq_true] at q;have q1:((cm items.size 0 lo:Nat):Int)=0:=eq_of_beq q.1.1;have q2:cm items.size items.size hi - cm items.size 0 lo=items.size:=eq_of_beq q.2;exact hw ⟨by lia,by lia⟩
  show wpAny _ _ (if (((cm items.size 0 lo:Nat):Int) == 0 && (1:Int) == 1 && (cm items.size items.size hi - cm items.size 0 lo) == items.size)=true then _ else _) _ _ s;rw[if_neg hno,xR];first
    | exact GS (m:=Builtin.Tuple.tupleExact _) (wpAny_newObj_type (GX ⟨_,rfl,GX h⟩) htake)
    | exact GS (m:=Builtin.Tuple.tupleExact _) (wpAny_newObj_type (GS (GX (GX ⟨_,rfl,GX h⟩))) htake)
    | exact GS (GS (m:=Builtin.Tuple.tupleExact _) (wpAny_newObj_type (GX (GX ⟨_,rfl,GX h⟩)) htake))
    | exact GS (GS (m:=Builtin.Tuple.tupleExact _) (wpAny_newObj_type (GX ⟨_,rfl,GX h⟩) htake))
end
end HT
namespace L2
open PySem PySem.Spec PyProof.Rows
noncomputable abbrev TO:=St->Hp->(Option Int->Hp->Prop)->Prop
noncomputable def PO (X:Cx)(e:Option Expr)(t:TO):Prop:=
  ∀(pins:List (Addr×Obj)) (s:GU) (σ:St) (H:Hp) (Q:Option Int->Hp->Prop),Inv X pins σ H s->t σ H Q ->
    wpAny (model X.prog X.w) X.A (evalPart e X.env) (λu s'=>∃o H',Inv X pins σ H' s'/\IsPart u o/\Q o H') X.xe s
noncomputable def Ac:TO:=λ_ H Q=>Q none H
noncomputable def Es (t:TE):TO:=λσ H Q=>t σ H λx H1=>∃i,x=.int i/\Q (some i) H1
theorem intsAre_of {ns:List Int}:∀{us:List GR},Vals (ns.map V.int) us->IntsAre us ns:=by
  induction ns with
  | nil=>intro us r;rw[List.map_nil] at r;cases r;exact .nil
  | cons n ns ih =>
    intro us r;rw[map_cons] at r;cases r with
    | cons r1 r2 =>
      obtain ⟨t,e⟩:=r1;subst e;exact .cons n t (ih r2)
section
variable {X:Cx} {e:Expr} {te:TE} {lo hi:Option Expr} {tl th:TO} {pos p2:Pos}
theorem zM:PO X none Ac:=by
  intro pins s σ H Q I h;rw[evalPart_none];exact GX ⟨none,H,I,.none,h⟩
theorem zN (h:PE X e te):PO X (some e) (Es te):=by
  intro pins s σ H Q I hw;rw[evalPart_some];refine bt (h pins s σ H _ I hw) ?_;rintro u s1 ⟨x,H1,I1,r1,q1⟩;obtain ⟨i,rfl,q⟩:=q1;obtain ⟨t,rfl⟩:=r1;exact ⟨some i,H1,I1,.int i t,q⟩
noncomputable def AZ (X:Cx)(r:V->Option Int->Option Int->Hp->VK->Prop):Prop:=
  ∀(pins:List (Addr×Obj)) (s:GU) (σ:St) (H:Hp) (x:V) (v vl vu:GR) (lo hi:Option Int) (sl:Addr) (Q:VK),Inv X pins σ H s->RelV x v->s.heap.IsSliceOf sl vl vu .none->IsPart vl lo->IsPart vu hi->r x lo hi H Q ->
    ∃T id,typeLookup (.type T) "__getitem__" = pure (some (.builtin id))/\s.TypeIs v T/\wpAny (model X.prog X.w) X.A (getItem v (.ref sl)) (EP X pins σ Q) X.xe s
theorem AZ.or {r r':V->Option Int->Option Int->Hp->VK->Prop}(h:AZ X r)(h':AZ X r'):AZ X (λx lo hi H Q=>r x lo hi H Q\/r' x lo hi H Q):=by
  intro pins s σ H x v vl vu lo hi sl Q I rx hs pl pu q;rcases q with q | q
  · exact h pins s σ H x v vl vu lo hi sl Q I rx hs pl pu q
  · exact h' pins s σ H x v vl vu lo hi sl Q I rx hs pl pu q
noncomputable def GK (r:V->Option Int->Option Int->Hp->VK->Prop)(te:TE)(tl th:TO):TE:=λσ H Q=>te σ H λx H1=>tl σ H1 λl H2=>th σ H2 λu H3=>r x l u H3 Q
theorem xM {r:V->Option Int->Option Int->Hp->VK->Prop}(hr:AZ X r)(he:PE X e te)(hl:PO X lo tl)(hu:PO X hi th):PE X (.Subscript e (.Slice lo hi none p2) pos) (GK r te tl th):=by
  intro pins s σ H Q I h;refine Subscript_ (bt (he pins s σ H _ I h) ?_);rintro v s1 ⟨x,H1,I1,r1,q1⟩;refine wpAny_Slice (bt (hl pins s1 σ H1 _ I1 q1) λvl s2 ⟨l,H2,I2,pl,q2⟩=>bt (hu pins s2 σ H2 _ I2 q2) ?_);rintro vu s3 ⟨u,H3,I3,pu,q3⟩;rw[evalPart_none];refine GX ?_;have I4:Inv X pins σ H3 { s3 with heap:=s3.heap.push { cls:=.type "slice",data:=.fields #[vl,vu,.none] } }:=I3.kept (t':=s3.toks) λb ob q=>GZ _ q;obtain ⟨T,id,hT,ht,hg⟩:=hr pins { s3 with heap:=s3.heap.push { cls:=.type "slice",data:=.fields #[vl,vu,.none] } } σ H3 x v vl vu l u s3.heap.objs.size Q I4 r1 (Heap.IsSliceOf.new ..) pl pu q3;show wpAny (model X.prog X.w) X.A (subscriptTail e (.Slice lo hi none p2) v (.ref s3.heap.objs.size)) (EP X pins σ Q) X.xe { s3 with heap:=s3.heap.push { cls:=.type "slice",data:=.fields #[vl,vu,.none] } };exact tail_any (ops:=[.ref s3.heap.objs.size,v]) ht hT hg (by with_unfolding_all rfl)
noncomputable def lR (xs:List V)(lo hi:Option Int):List V:=(xs.drop (HT.cm xs.length 0 lo)).take (HT.cm xs.length xs.length hi - HT.cm xs.length 0 lo)
theorem jr (xs:List V)(lo hi:Option Int):(lR xs lo hi).length<=xs.length:=by
  unfold lR;rw[length_take,length_drop];lia
noncomputable def FH (K:Frag):V->Option Int->Option Int->Hp->VK->Prop:=λx lo hi H Q=>∃a xs,x=.ref a/\fA K H a xs /\
  ¬(HT.cm xs.length 0 lo=0/\HT.cm xs.length xs.length hi=xs.length)/\∀p,H p=none->Q (.ref p) (upd H p (.tup (lR xs lo hi)))
theorem Cr:AZ X (FH X.K):=by
  intro pins s σ H x v vl vu lo hi sl Q I rx hs pl pu h;obtain ⟨a,xs,rfl,hx,hw,q⟩:=h;cases rx;obtain ⟨its,r,ht,hz⟩:=I.tuple hx;have hlen:its.toArray.size=xs.length:=by rw[Hk];exact r.length.symm
  refine ⟨"tuple",_,PyProof.Rows.slot_tuple_getitem.lookup,ht.typeIs,?_⟩;refine HT.iq ht hs pl pu (by rw[hlen];exact hw) ?_ (by rw[hlen];exact hz);rw[hlen];refine ⟨.ref s.heap.objs.size,_,I.laid (t':=s.toks) (o:=.tup (lR xs lo hi)) (λb ob q=>GZ _ q) (GW _) ?_,rfl,q _ (I.bf.fresh (GW _))⟩;exact ⟨Nat.le_trans (jr xs lo hi) hz,_,(r.drop (HT.cm xs.length 0 lo)).take (HT.cm xs.length xs.length hi - HT.cm xs.length 0 lo),IsTup.new _ _⟩
noncomputable def D7 (K:Frag):R2:=λx y H Q=>∃a b xs ys,x=.ref a/\y=.ref b/\fA K H a xs/\fA K H b ys/\xs≠[]/\xs.length+ys.length<=sizeLine /\
  (ys = []->Q (.ref a) H)/\(ys≠[]->∀p,H p=none->Q (.ref p) (upd H p (.tup (xs++ys))))
theorem Vals.oF {xs:List V}{us:List GR}(r:Vals xs us):us = []↔xs = []:=by
  cases r with
  | nil=>simp
  | cons _ _=>simp
theorem oK:gE X (binaryOp .Add) (D7 X.K):=by
  intro pins s σ H x y v u Q I rx ry h;obtain ⟨a,b,xs,ys,rfl,rfl,ha,hb,hx,hz,q1,q2⟩:=h;cases rx;cases ry;obtain ⟨its,r1,p1,_⟩:=I.tuple ha;obtain ⟨its2,r2,p2,_⟩:=I.tuple hb;refine HT.yE p1 p2 (λz=>hx (r1.oF.mp z)) (λz=>⟨.ref a,H,I,rfl,q1 (r2.oF.mp z)⟩) (λz=>?_) (by rw[<-r1.length,<-r2.length];exact hz);refine ⟨.ref s.heap.objs.size,_,I.laid (t':=s.toks) (o:=.tup (xs++ys)) (λb ob q=>GZ _ q) (GW _) ?_,rfl,q2 (λw=>z (r2.oF.mpr w)) _ (I.bf.fresh (GW _))⟩;exact ⟨by rw[Hu];exact hz,_,r1.append r2,IsTup.new _ _⟩
end
end L2
namespace L2
open PySem PySem.Spec PyProof.Rows
noncomputable def zd (n:Nat)(i:Int):Option Nat:=if 0<=i then (if i<n then some i.toNat else none) else if -(n:Int)<=i then some (i+n).toNat else none
noncomputable def fE {α:Type}(xs:List α)(i:Int):Option α:=(zd xs.length i).bind λj=>xs[j]?
theorem ze {n:Nat}{i:Int}{j:Nat}(h:zd n i=some j):seqIndex? i n=some j/\j<n/\-(n:Int)<=i/\i<n:=by
  unfold zd at h;by_cases h0:0<=i
  · rw[if_pos h0] at h;by_cases h1:i<n
    · rw[if_pos h1] at h;have e:i.toNat=j:=Option.some.inj h;exact ⟨by rw[seqIndex_of h0 h1,e],by lia,by lia,h1⟩
    · rw[if_neg h1] at h;cases h
  · rw[if_neg h0] at h;by_cases h1 : -(n:Int)<=i
    · rw[if_pos h1] at h;have e:(i+n).toNat=j:=Option.some.inj h;exact ⟨by rw[seqIndex_neg (by lia) h1,e],by lia,h1,by lia⟩
    · rw[if_neg h1] at h;cases h
theorem jL {α:Type}{xs:List α}{i:Int}{v:α}(h:fE xs i=some v):∃j,seqIndex? i xs.length=some j/\xs[j]?=some v/\j<xs.length/\-(xs.length:Int)<=i/\i<xs.length:=by
  unfold fE at h;cases e:zd xs.length i with
  | none=>rw[e] at h;cases h
  | some j =>
    rw[e] at h;obtain ⟨h1,h2,h3,h4⟩:=ze e;exact ⟨j,h1,h,h2,h3,h4⟩
theorem hV {α:Type}{xs:List α}{j:Nat}{v:α}(h:xs[j]?=some v):fE xs (j:Int)=some v:=by
  have hj:j<xs.length:=(Hb.mp h).1;have e:zd xs.length (j:Int)=some j:=by
    unfold zd;rw[if_pos (by lia),if_pos (by lia)];simp
  unfold fE;rw[e];exact h
noncomputable def sF (b:Expr):Prop:=∀o i,subscripted b false o i=operate [o,i] (getItem o i)
noncomputable def yw (X:Cx)(r:R2):Prop:=
  ∀(value slice:Expr) (pins:List (Addr×Obj)) (s:GU) (σ:St) (H:Hp) (x y:V) (v u:GR) (Q:VK),Inv X pins σ H s->RelV x v->RelV y u->r x y H Q ->
    subscripted slice false v u=operate [v,u] (getItem v u)->wpAny (model X.prog X.w) X.A (subscriptTail value slice v u) (EP X pins σ Q) X.xe s
noncomputable def GA (X:Cx)(id:String)(r:V->List V->Hp->VK->Prop):Prop:=
  ∀(pins:List (Addr×Obj)) (s:GU) (σ:St) (H:Hp) (x:V) (xs:List V) (v:GR) (us:List GR) (Q:VK),Inv X pins σ H s->RelV x v->Vals xs us->r x xs H Q ->
    wpAny (model X.prog X.w) X.A (call (.builtin id) (v::us)) (EP X pins σ Q) X.xe s
section
variable {X:Cx} {a b:Expr} {ta tb:TE} {pos:Pos}
theorem yw.or {r r':R2}(h:yw X r)(h':yw X r'):yw X (λx y H Q=>r x y H Q\/r' x y H Q):=by
  intro value slice pins s σ H x y v u Q I rx ry q hs;rcases q with q | q
  · exact h value slice pins s σ H x y v u Q I rx ry q hs
  · exact h' value slice pins s σ H x y v u Q I rx ry q hs
theorem DY {r:R2}(hr:yw X r)(ha:PE X a ta)(hb:PE X b tb)(hs:sF b):PE X (.Subscript a b pos) (CN r ta tb):=by
  intro pins s σ H Q I h;exact Subscript_ (A4 ha hb I h λv u s2 x y H2 I2 rx ry q=>hr a b pins s2 σ H2 x y v u Q I2 rx ry q (hs _ _))
noncomputable def D9 (K:Frag):R2:=λx y H Q=>∃p xs i v,x=.ref p/\y=.int i/\cb K H p xs/\fE xs i=some v/\Q v H
noncomputable def Eb (K:Frag):R2:=λx y H Q=>∃p xs i v,x=.ref p/\y=.int i/\fA K H p xs/\fE xs i=some v/\Q v H
noncomputable def Ea:R2:=λx y H Q=>∃z i c,x=.str z/\y=.int i/\z.length<=sizeLine/\fE z.cps.toList i=some c/\Q (.str ⟨#[c]⟩) H
theorem zf:yw X (D9 X.K):=by
  intro value slice pins s σ H x y v u Q I rx ry h hs;obtain ⟨p,xs,i,z,rfl,rfl,hq,he,q⟩:=h;cases rx;obtain ⟨t,rfl⟩:=ry;obtain ⟨its,r,pl,hz⟩:=I.list hq;obtain ⟨j,h1,h2,h3,h4,h5⟩:=jL he;obtain ⟨w,ew,rw'⟩:=r.get h2;have hl:=r.length;have hn:=i9;have fin:EP X pins σ Q w s:=⟨z,H,I,rw',q⟩
  by_cases h0:0<=i
  · have hj:i.toNat=j:=by
      rw[seqIndex_of h0 h5] at h1;exact Option.some.inj h1
    exact item_listR pl.isList h0 (by lia) (by rw[hj];simpa using ew) fin hs
  · have hj:(i+(its.toArray.size:Int)).toNat=j:=by
      rw[seqIndex_neg (by lia) h4] at h1;rw[Hk,<-hl];exact Option.some.inj h1
    exact subscriptTail_builtinR (x:=w) pl.isList.typeIs slot_list_getitem.lookup
      (wpAny_getItem_list_neg (Q:=λr s'=>r=w/\EP X pins σ Q r s') pl.isList (by lia) (by rw[Hk]<;>lia) (by lia) (by rw[hj];simpa using ew) ⟨rfl,fin⟩) hs
theorem Bz:yw X (Eb X.K):=by
  intro value slice pins s σ H x y v u Q I rx ry h hs;obtain ⟨p,xs,i,z,rfl,rfl,hq,he,q⟩:=h;cases rx;obtain ⟨t,rfl⟩:=ry;obtain ⟨its,r,pl,hz⟩:=I.tuple hq;obtain ⟨j,h1,h2,h3,h4,h5⟩:=jL he;obtain ⟨w,ew,rw'⟩:=r.get h2;have hl:=r.length;have hn:=i9;have fin:EP X pins σ Q w s:=⟨z,H,I,rw',q⟩
  exact subscriptTail_builtinR (x:=w) pl.typeIs slot_tuple_getitem.lookup
    (getItem_tuple (j:=j) (Q:=λr s'=>r=w/\EP X pins σ Q r s') pl (by lia) (by lia) (by rw[Hk,<-hl];exact h1) (by simpa using ew) ⟨rfl,fin⟩) hs
theorem By:yw X Ea:=by
  intro value slice pins s σ H x y v u Q I rx ry h hs;obtain ⟨z,i,c,rfl,rfl,hz,he,q⟩:=h;obtain ⟨t,rfl⟩:=rx;obtain ⟨t',rfl⟩:=ry;obtain ⟨j,h1,h2,h3,h4,h5⟩:=jL he;have hl:z.cps.toList.length=z.length:=by simp[Str.length]
  rw[hl] at h1 h4 h5;have hn:=i9;exact tail_any (typeIs_str s z t) slot_str_getitem.lookup (getItem_str (c:=c) (by
    have e1:decide (i < -(2 ^ 63:Int))=false:=decide_eq_false (by lia);have e2:decide (i>=2 ^ 63)=false:=decide_eq_false (by lia);rw[e1,e2,Bool.or_false]) (by rw[h1];simpa using h2) ⟨.str ⟨#[c]⟩,H,I.tok _,⟨_,rfl⟩,q⟩) hs
noncomputable def GH (K:Frag):R2:=λx y H Q=>D9 K x y H Q\/Eb K x y H Q\/Ea x y H Q
theorem Bx:yw X (GH X.K):=zf.or (Bz.or By)
theorem oU (lo hi:Option Int)(n:Nat):(sliceBounds lo hi none n).1=((HT.cm n 0 lo:Nat):Int)/\(sliceBounds lo hi none n).2.1=((HT.cm n n hi:Nat):Int)/\(sliceBounds lo hi none n).2.2=1:=by
  refine ⟨?_,?_,rfl⟩
  · cases lo with
    | none=>simp[sliceBounds,HT.cm]
    | some i =>
      simp only[sliceBounds,HT.cm,Option.getD_none,show (1:Int)>0 by decide,if_true];by_cases h:i<0
      · simp only[h,if_true]<;>lia
      · simp only[h,if_false]<;>lia
  · cases hi with
    | none=>simp[sliceBounds,HT.cm]
    | some i =>
      simp only[sliceBounds,HT.cm,Option.getD_none,show (1:Int)>0 by decide,if_true];by_cases h:i<0
      · simp only[h,if_true]<;>lia
      · simp only[h,if_false]<;>lia
theorem md (its:List GR)(lo hi:Option Int):slicePick its.toArray lo hi none=((its.drop (HT.cm its.length 0 lo)).take (HT.cm its.length its.length hi - HT.cm its.length 0 lo)).toArray:=by
  obtain ⟨h1,h2,h3⟩:=oU lo hi its.toArray.size;unfold slicePick;rw[h1,h2,h3];simp only[sliceRange_one,pick_run,Hk]<;>rfl
noncomputable def FG (K:Frag):V->Option Int->Option Int->Hp->VK->Prop:=λx lo hi H Q=>∃a xs,x=.ref a/\cb K H a xs/\∀p,H p=none->Q (.ref p) (upd H p (.lst (lR xs lo hi)))
theorem zZ:AZ X (FG X.K):=by
  intro pins s σ H x v vl vu lo hi sl Q I rx hs pl pu h;obtain ⟨a,xs,rfl,hx,q⟩:=h;cases rx;obtain ⟨its,r,ht,hz⟩:=I.list hx;have hlen:=r.length;refine ⟨"list",_,slot_list_getitem.lookup,ht.isList.typeIs,?_⟩;refine wpAny_getItem_list_slice ht.isList hs pl pu .none (by simp) ?_ (by rw[Hk]<;>lia);rw[md,<-hlen];refine ⟨.ref s.heap.objs.size,_,I.laid (t':=s.toks) (o:=.lst (lR xs lo hi)) (λb ob q=>GZ _ q) (GW _) ?_,rfl,q _ (I.bf.fresh (GW _))⟩;exact ⟨Nat.le_trans (jr xs lo hi) hz,_,0,(r.drop (HT.cm xs.length 0 lo)).take (HT.cm xs.length xs.length hi - HT.cm xs.length 0 lo),Hq _ rfl⟩
noncomputable def Dp:V->Bool
  | .non=>true
  | .bl _=>true
  | .int _=>true
  | .str _=>true
  | _=>false
theorem nI:dP X (.type "list") (λxs H Q=>∃p ys,xs = [.ref p]/\(cb X.K H p ys\/fA X.K H p ys)/\∀l,H l=none->Q (.ref l) (upd H l (.lst ys))):=by
  intro pins s σ H xs us Q I r h;obtain ⟨p,ys,rfl,hq,q⟩:=h;obtain ⟨u,rfl,rx⟩:=vals1 r;cases rx;have fin:∀(its:List GR),Vals ys its->ys.length<=sizeLine->∀(h':Heap) (c':Nat),(∀b o',s.heap.get? b=some o'->h'.get? b=some o') ->
      h'.get? s.heap.objs.size=some { cls:=.type "list",dict:=none,data:=.seq its.toArray c',slots:=#[] }->EP X pins σ Q (.ref s.heap.objs.size) { s with heap:=h' }:=λits r' hz h' c' kp e =>
    ⟨.ref s.heap.objs.size,_,I.laid (t':=s.toks) kp (GW _) (show bC X.prog X.w _ h' _ (.lst ys) from ⟨hz,its,c',r',e⟩),rfl,q _ (I.bf.fresh (GW _))⟩
  rcases hq with hq | hq
  · obtain ⟨its,r',pl,hz⟩:=I.list hq;have hlen:=r'.length;obtain ⟨o,ho,hc,n,hd⟩:=pl.isList;exact call_list_seq p (.inl rfl) ho hc hd (λh' c' kp e=>fin its r' hz h' c' kp e) (by simp only[Hk]<;>lia)
  · obtain ⟨its,r',pl,hz⟩:=I.tuple hq;have hlen:=r'.length;obtain ⟨o,ho,hc,n,hd⟩:=pl;exact call_list_seq p (.inr rfl) ho hc hd (λh' c' kp e=>fin its r' hz h' c' kp e) (by simp only[Hk]<;>lia)
noncomputable def Gx (K:Frag)(T:String)(x:V)(H:Hp):Prop:=match x with
  | .str _=>T = "str"
  | .int _=>T = "int"
  | .ref p=>(T = "list"/\∃xs,cb K H p xs)\/(T = "tuple"/\∃o,K.lookup p=some o/\o.cls=.type "tuple"/\o.dict=none) \/
      (T = "dict"/\((∃kvs,H p=some (.dK kvs))\/∃kvs,H p=some (.dT kvs)))\/(T = "set"/\∃S n,H p=some (.set S n))
  | _=>False
theorem CF {pins:List (Addr×Obj)}{σ:St}{H:Hp}{s:GU}{T:String}{x:V}{v:GR}(I:Inv X pins σ H s)(r:RelV x v)(ty:Gx X.K T x H) :
    s.TypeIs v T/\∀a,v=.ref a->∃ob,s.heap.get? a=some ob/\ob.dict=none:=by
  cases x with
  | str z =>
    obtain ⟨t,rfl⟩:=r;cases (show T = "str" from ty);exact ⟨typeIs_str s z t,λ_ e=>nomatch e⟩
  | int i =>
    obtain ⟨t,rfl⟩:=r;cases (show T = "int" from ty);exact ⟨typeIs_int s i t,λ_ e=>nomatch e⟩
  | ref p =>
    cases r;rcases ty with ⟨rfl,xs,hq⟩ | ⟨rfl,o,hk,hc,hd⟩ | ⟨rfl,hk⟩ | ⟨rfl,S,n,hk⟩
    · obtain ⟨its,_,pl,_⟩:=I.list hq;refine ⟨pl.isList.typeIs,λa e=>?_⟩;cases e;obtain ⟨o,n,e,c,hd,_⟩:=pl;exact ⟨o,e,hd⟩
    · refine ⟨⟨o,I.lU p o hk,hc⟩,λa e=>?_⟩;cases e;exact ⟨o,I.lU _ o hk,hd⟩
    · have z:∃o,s.heap.get? p=some o/\o.ExactDict:=by
        rcases hk with ⟨kvs,hk⟩ | ⟨kvs,hk⟩
        · obtain ⟨_,_,_,_,o,_,_,e,ex,_⟩:=I.bf p _ hk;exact ⟨o,e,ex⟩
        · obtain ⟨_,_,_,_,o,_,_,e,ex,_⟩:=I.bf p _ hk;exact ⟨o,e,ex⟩
      obtain ⟨o,e,ex⟩:=z;refine ⟨⟨o,e,ex.1⟩,λa e2=>?_⟩;cases e2;exact ⟨o,e,ex.2.1⟩
    · obtain ⟨o,_,_,_,e,ex,_⟩:=I.bf p _ hk;refine ⟨⟨o,e,ex.1⟩,λa e2=>?_⟩;cases e2;exact ⟨o,e,ex.2.1⟩
  | _=>exact False.elim ty
noncomputable def GJ (K:Frag)(T:String)(r:V->List V->Hp->VK->Prop)(to:TE)(t:TA):TE:=λσ H Q=>to σ H λx H1=>Gx K T x H1/\t σ H1 λxs H2=>r x xs H2 Q
variable {o e:Expr} {es:List Expr} {to:TE} {t:TA} {name:Str} {apos cpos:Pos} {T id:String} {r:V->List V->Hp->VK->Prop}
theorem AD (pa:PlainAttrs T)(slot:Slot T name id)(hty:typeOf (.builtin id)=pure (.type "method_descriptor"))(hm:GA X id r)(ho:PE X o to)(ha:PA X (e::es) t)
    (hbase:autoParam (attributeBase o name X.env (eval o X.env)=eval o X.env) aZa._auto_1)
    (hfew:autoParam (((backTo cpos (starEach (e::es) X.env)).all (λx=>!x.1) && (backToKw cpos (keywordEach [] X.env)).all (λx=>x.1.isSome)
      && decide ((e::es).length+([]:List Keyword).length+(if ([]:List Keyword).isEmpty then 0 else 1)<30))=true) aZa._auto_1)
    (hline:autoParam ((apos.endLine == cpos.line)=true) aZa._auto_1) (hs:autoParam (starEach (e::es) X.env=(false,eval e X.env)::starEach es X.env) aZa._auto_1) (hplain:autoParam ((backTo cpos (starEach es X.env)).any (·.1)=false) aZa._auto_1) :
    PE X (.Call (.Attribute o name apos) (e::es) [] cpos) (GJ X.K T r to t):=by
  intro pins s σ H Q I h;refine wpAny_Call_method_late hbase hfew hline rfl (bt (ho pins s σ H _ I h) ?_);rintro v s1 ⟨x,H1,I1,r1,ty,q1⟩;obtain ⟨h1,h2⟩:=CF I1 r1 ty;refine ⟨T,id,pa,slot,hty,h1,h2,?_⟩;have hA:=ha cpos pins s1 σ H1 _ I1 q1;rw[hs] at hA ⊢;refine Calls.callWith_builtin (by show (false || (backTo cpos (starEach es X.env)).any (·.1))=false;rw[hplain]<;>rfl) (Calls.evalArgs_plain ?_);exact bt hA (by rintro us s2 ⟨vs,H2,I2,r2,q2⟩;exact hm pins s2 σ H2 x vs v us Q I2 r1 r2 q2)
end
end L2
namespace L2
open PySem PySem.Spec PyProof.Rows
noncomputable def Gd (X:Cx)(id:String)(r:V->List V->Hp->VK->Prop):Prop:=
  ∀(pins:List (Addr×Obj)) (s:GU) (σ:St) (H:Hp) (x:V) (xs:List V) (v:GR) (us:List GR) (Q:VK),Inv X pins σ H s->RelV x v->Vals xs us->r x xs H Q ->
    wpAny (model X.prog X.w) X.A (call (.builtin id) (v::us)) (EP X pins σ Q) X.xe s
theorem Vals.one:∀{x:V} {us:List GR},Vals [x] us->∃u,us = [u]/\RelV x u
  | _,_,.cons r .nil=>⟨_,rfl,r⟩
theorem Vals.rep {xs:List V}{us:List GR}(h:Vals xs us):∀k:Nat,Vals (List.replicate k xs).flatten (List.replicate k us).flatten
  | 0=>.nil
  | k+1=>by
    rw[List.replicate_succ,List.replicate_succ,List.flatten_cons,List.flatten_cons];exact Vals.append h (Vals.rep h k)
theorem foldl_rep (its:List GR):∀(k:Nat) (acc:List GR),
    List.foldl (λx1 x2=>x1++x2) acc.toArray (List.replicate k its.toArray)=(acc++(List.replicate k its).flatten).toArray
  | 0,acc=>by simp
  | k+1,acc=>by
    have e:acc.toArray++its.toArray=(acc++its).toArray:=by simp
    have e2:(acc++its)++(List.replicate k its).flatten=acc++(List.replicate (k+1) its).flatten:=by
      rw[List.replicate_succ,List.flatten_cons,append_assoc]
    rw[<-e2,<-foldl_rep its k (acc++its),<-e,List.replicate_succ,List.foldl_cons]
section
variable {X:Cx} {pins:List (Addr×Obj)} {σ:St} {H:Hp} {s:GU} {l b:Addr} {xs ys zs:List V}
theorem Inv.DC {its its':List GR}{n:Nat}{f:Array GR->Array GR}{t':Nat}(I:Inv X pins σ H s)(hH:H l=some (.lst xs))
    (e:s.heap.get? l=some { cls:=.type "list",data:=.seq its.toArray n }) (hf:f its.toArray=its'.toArray) (hv:Vals ys its') (hz:ys.length<=sizeLine) :
    Inv X pins σ (upd H l (.lst ys)) { s with heap:=s.heap.update l (Obj.mapSeq f),toks:=t' }:=by
  have q:=PySem.IsL.update e f;rw[hf] at q;refine I.write (x:=l) (e:=l) (by rw[hH];exact trivial) (.inl rfl) (λb' u hb hu=>(Heap.get?_update_other s.heap (Obj.mapSeq f) (Ne.symm hb)).trans hu) ⟨_,q⟩ ?_;exact ⟨hz,its',_,hv,q⟩
theorem Inv.BI {its:List GR}{t':Nat}(I:Inv X pins σ H s)(hv:Vals ys its)(hz:ys.length<=sizeLine) :
    Inv X pins σ (upd H s.heap.objs.size (.lst ys)) { s with heap:=s.heap.push { cls:=.type "list",data:=.seq its.toArray },toks:=t' }:=
  I.laid (λ_ _ q=>GZ _ q) (GW _) ⟨hz,its,0,hv,Hq _ rfl⟩
theorem Inv.fresh (I:Inv X pins σ H s):H s.heap.objs.size=none:=I.bf.fresh (GW _)
theorem Inv.ve (I:Inv X pins σ H s)(hH:H l=some (.lst xs)):xs.length<=sizeLine/\∃(its:List GR) (n:Nat),Vals xs its/\xs.length=its.length/\s.heap.get? l=some { cls:=.type "list",data:=.seq its.toArray n }:=by
  obtain ⟨z,its,n,r,e⟩:=I.bf l _ hH;exact ⟨z,its,n,r,r.length,e⟩
theorem qv {n:Nat}(h:n<=sizeLine):Builtin.List.listTooLong n=false:=by
  unfold Builtin.List.listTooLong;exact decide_eq_false (by lia)
end
section
variable {X:Cx}
noncomputable def uq:V->List V->Hp->VK->Prop:=λx vs H Q=>∃l xs y,x=.ref l/\vs = [y]/\H l=some (.lst xs)/\xs.length<sizeLine/\Q .non (upd H l (.lst (xs++[y])))
theorem m7:Gd X "list.append" uq:=by
  intro pins s σ H x vs v us Q I rx rv h;obtain ⟨l,xs,y,rfl,rfl,hH,hz,q⟩:=h;cases rx;obtain ⟨u,rfl,ru⟩:=rv.one;obtain ⟨z,its,n,r,hl,e⟩:=I.ve hH;refine call_meets F.slot_list_append ⟨_,e,rfl⟩ F.entry_list_append (F.args_list_append_2 _ _) (PySem.list_append l its.toArray n u (by rw[Hk];lia)) ⟨e,?_⟩;refine ⟨.non,_,I.DC (its':=its++[u]) hH e (by simp) (r.append (.cons ru .nil)) ?_,rfl,q⟩;rw[Hu,List.length_singleton];lia
noncomputable def zT:V->List V->Hp->VK->Prop:=λx vs H Q=>∃l b xs zs,x=.ref l/\vs = [.ref b]/\H l=some (.lst xs)/\H b=some (.lst zs)/\xs.length+zs.length<=sizeLine/\Q .non (upd H l (.lst (xs++zs)))
theorem vi:Gd X "list.extend" zT:=by
  intro pins s σ H x vs v us Q I rx rv h;obtain ⟨l,b,xs,zs,rfl,rfl,hH,hB,hz,q⟩:=h;cases rx;obtain ⟨u,rfl,ru⟩:=rv.one;cases ru;obtain ⟨z,its,n,r,hl,e⟩:=I.ve hH;obtain ⟨z2,its2,n2,r2,hl2,e2⟩:=I.ve hB;have hsz:its.toArray.size+its2.toArray.size<=sizeLine:=by rw[Hk,Hk];lia
  have hlong:¬(!its.toArray.isEmpty && Builtin.List.listTooLong (its.toArray.size+its2.toArray.size))=true:=by
    rw[qv hsz,Bool.and_false];exact Ht
  refine call_meets F.slot_list_extend ⟨_,e,rfl⟩ F.entry_list_extend (F.args_list_extend_2 _ _)
    (AutoSeq1.list_extend_list_list_0 l its.toArray n b its2.toArray n2 hlong (by rw[Hk];lia) (by lia)) ⟨e,e2,?_⟩
  refine ⟨.non,_,I.DC (its':=its++its2) hH e (by simp) (r.append r2) ?_,rfl,q⟩;rw[Hu];lia
noncomputable def FD:R2:=λx y H Q=>∃l b xs zs,x=.ref l/\y=.ref b/\H l=some (.lst xs)/\H b=some (.lst zs)/\xs.length+zs.length<=sizeLine/\∀p,H p=none->Q (.ref p) (upd H p (.lst (xs++zs)))
theorem BR:gE X (binaryOp .Add) FD:=by
  intro pins s σ H x y v u Q I rx ry h;obtain ⟨l,b,xs,zs,rfl,rfl,hH,hB,hz,q⟩:=h;cases rx;cases ry;obtain ⟨z,its,n,r,hl,e⟩:=I.ve hH;obtain ⟨z2,its2,n2,r2,hl2,e2⟩:=I.ve hB;refine PySem.P.add_list e e2 ?_ (by rw[Hk,Hk];lia);have ea:its.toArray++its2.toArray=(its++its2).toArray:=by simp
  rw[ea];exact ⟨.ref _,_,I.BI (t':=s.toks) (r.append r2) (by rw[Hu];lia),rfl,q _ I.fresh⟩
noncomputable def FF:R2:=λx y H Q=>∃l k xs,x=.ref l/\y=.int k/\H l=some (.lst xs)/\-(2 ^ 63)<=k/\k<2 ^ 63/\xs.length*k.toNat<=sizeLine /\
  ∀p,H p=none->Q (.ref p) (upd H p (.lst (List.replicate k.toNat xs).flatten))
theorem len_rep {α:Type}(xs:List α)(k:Nat):(List.replicate k xs).flatten.length=k*xs.length:=by
  induction k with
  | zero=>simp
  | succ k ih=>rw[List.replicate_succ,List.flatten_cons,Hu,ih,Nat.succ_mul,Nat.add_comm]
theorem BZ:gE X (binaryOp .Mult) FF:=by
  intro pins s σ H x y v u Q I rx ry h;obtain ⟨l,k,xs,rfl,rfl,hH,h1,h2,hz,q⟩:=h;cases rx;obtain ⟨t,rfl⟩:=ry;obtain ⟨z,its,n,r,hl,e⟩:=I.ve hH;have hlen:its.toArray.size*k.toNat<=sizeLine:=by rw[Hk,<-hl];exact hz
  have hcap:¬its.toArray.size*k.toNat>(2 ^ 63 - 1) / 8:=by
    have:(sizeLine:Nat)<=(2 ^ 63 - 1) / 8:=by decide
    lia
  have hfit:¬(!Builtin.List.listFitsIndex k)=true:=by
    rw[fitsIndex_both h1 h2];exact Ht
  have hlong:¬Builtin.List.listTooLong (its.toArray.size*k.toNat)=true:=by
    rw[qv hlen];exact Ht
  have hnew:List.foldl (λx1 x2=>x1++x2) #[] (List.replicate (if its.toArray.isEmpty=true then 0 else k.toNat) its.toArray)=(List.replicate k.toNat its).flatten.toArray:=by
    have f0:∀m:Nat,List.foldl (λx1 x2=>x1++x2) #[] (List.replicate m its.toArray)=(List.replicate m its).flatten.toArray:=λm=>by
      have:=foldl_rep its m [];rw[List.nil_append] at this;exact this
    rw[f0];cases its with
    | nil=>simp
    | cons a r'=>rw[if_neg (by simp)]
  refine wpAny_binaryOp_repeat_ref (T:="list") (U:="int") (by decide) ⟨_,e,rfl⟩ (λs'=>typeIs_int s' k t) noFill_list_mul F.fills_int_mul F.slot_int_rmul repeat_list F.slot_int_index.lookup
    (call_meets F.slot_int_rmul (typeIs_int s k t) F.entry_int_rmul (F.args_int_rmul_2 _ _) (int___rmul___int_list k t l its.toArray n)
      ⟨e,rfl,⟨_,e,rfl⟩,call_meets F.slot_list_mul ⟨_,e,rfl⟩ F.entry_list_mul (F.args_list_mul_2 _ _) (AutoListH.list___mul___list_int_3 l its.toArray n k t hfit hcap hlong) ⟨e,?_⟩⟩)
  rw[hnew];exact ⟨.ref _,_,I.BI (t':=s.toks) (r.rep k.toNat) (by rw[len_rep,Nat.mul_comm];exact hz),rfl,q _ I.fresh⟩
end
section
variable {prog:Hj} {w:Hs} {A:Hr} {E:GR->GU->Prop} {s:GU}
end
section
variable {X:Cx}
end
end L2
namespace Att
open PySem PySem.W PySem.Calls PyProof.Rows
theorem jH {P:Params}{h:Heap}:∀(ns:List Int) (vs:List GR),WellAll P h vs (ns.map WData.int)->IntsAre vs ns:=by
  intro ns;induction ns with
  | nil =>
    intro vs w;rw[List.map_nil] at w;cases w;exact .nil
  | cons n ns ih =>
    intro vs w;rw[map_cons] at w;cases w with
    | cons a b =>
      cases a;exact .cons _ _ (ih _ b)
theorem vA {l:OpenLaw}{n:Nat}(hn:l.most=some n){P:Params}{h:Heap}{args:List WData}{vals:List GR}
    (hpre:l.row.toRowW.claim.pre args=true) (hwl:WellAll P h vals args) :
    ∃a vs ns,vals = [Value.ref a]/\args = [WData.list (ns.map WData.int)]/\h.get? a=some { cls:=.type "list",data:=.seq vs.toArray }/\IntsAre vs ns/\ns.length<=n:=by
  have hsh:WShape.hasAll [] args [.list .int]=true:=(pre_splitW hpre).1;have hc:l.pre.holds [] { args:=args }=true:=(pre_splitW hpre).2;obtain ⟨d,r,rfl,h1,h2⟩:=hasAllW_cons hsh;obtain rfl:=hasAllW_nil h2;obtain ⟨xs,rfl,h3⟩:=hasW_list h1;obtain ⟨ns,rfl⟩:=items_int h3;have hlen:ns.length<=n:=by
    unfold OpenLaw.pre at hc;have h4:(WTm.not (.lt (.lit (.int (n:Int))) (.len (.arg 0)))).holds [] { args:=[.list (ns.map .int)] }=true:=by
      have h4:=(holds_andW hc).1;rw[hn] at h4;exact h4
    have h5:=condW_of h4 (w_not (w_lt w_lit (w_len_list (w_arg rfl))));rw[Hh] at h5;refine Nat.le_of_not_lt λq=>?_;have q':(n:Int)<((ns.length:Nat):Int):=by lia
    first
      | (rw[decide_eq_true q'] at h5;exact absurd h5 (by decide))
      | (simp at h5;lia)
  cases hwl with
  | cons w1 w2 =>
    cases w2;cases w1 with
    | list ho hall=>exact ⟨_,_,ns,rfl,rfl,ho,jH ns _ hall,hlen⟩
theorem vq (l:OpenLaw)(args:List WData):l.row.toRowW.claim.post args (.bool true) args=true:=
  postW_of (r:=l.row.toRowW) (X:=(true == true))
    (show WShape.has [] (.bool true) .bool=true by first | rfl | decide | simp[WShape.has,WShape.arms,WShape.armsAll])
    (show (WTm.eq .res (.lit (.bool true))).value [] { args:=args,res:=some (.bool true),after:=args }=some (.bool (true == true)) from w_eq_bool (w_res rfl) w_lit) rfl
theorem pk {l:OpenLaw}{n:Nat}{q:Hj}{loose:List Str}{XP:(Str->Option GR)->Heap->Prop}{YP:Hs->Heap->Prop}{d:DefRec}
    (hn:l.most=some n) (hdf:d.params.defaults = [])
    (call:∀(w:Hs) (s₀ s₁:GU) (mg mb:Str->Option GR) (fa:Addr) (o:Obj) (pm cd doc:GR) (a:Addr) (vs:List GR) (ns:List Int),
      Ground q loose [] XP w s₀ mg mb s₁.heap->YP w s₁.heap ->
      s₁.heap.get? fa=some o->o.data=.func (docDef d.name d.params d.body d.scope pm cd doc)->s₁.heap.CodeRec cd d.name->mg d.name=some (.ref fa) ->
      s₁.heap.get? a=some { cls:=.type "list",data:=.seq vs.toArray }->IntsAre vs ns->ns.length<=n->s₁.gens = #[] ->
      codeAny (model l.prog w) callerA (.call (.ref fa) ⟨[.ref a],[]⟩) (λr s'=>r=.ok (.ret (.bool true))/\OldK s₁.heap s'.heap/\s'.os=s₁.os/\AllBare s'.gens) s₁) :
    WalkO q loose XP YP l.row.toRowW d [] (λf vs=>PySem.call f vs):=by
  intro w s₀ s₁ mg mb G Y fa o pm cd doc dV kV ho hd hcd hD hmg hg args vals as hpre hlay hrd hwl hlo;obtain rfl:dV=.none:=Dflts.none hD hdf;obtain rfl:kV=.none:=Dflts.noKw hD;obtain ⟨a,vs,ns,rfl,rfl,hobj,hints,hlen⟩:=vA hn hpre hwl;refine enter_call (codeAny_mono (call w s₀ s₁ mg mb fa o pm cd doc a vs ns G Y ho (fd_plain hd) hcd hmg hobj hints hlen hg) λr s' hq=>?_);obtain ⟨rfl,h2,h3,h4⟩:=hq;exact ⟨.inl ⟨.bool true,.bool true,[],rfl,λ_=>rfl,.bool true,vq l _,λ_=>⟨List.Pairwise.nil,λ_ hm=>(nomatch hm)⟩⟩,h2,h3,h4⟩
section
variable {prog:Hj} {w:Hs} {A:Hr} {E:GR->GU->Prop} {s:GU} {K:Frag}
end
end Att
namespace L2
open PySem PySem.Spec PyProof.Rows
theorem nB:∀{vs:List GR} {ns:List Int},IntsAre vs ns->Vals (ns.map V.int) vs
  | _,_,.nil=>.nil
  | _,_,.cons n t h=>.cons ⟨t,rfl⟩ (nB h)
end L2
namespace L2
open PySem PySem.Spec PyProof.Rows
end L2
namespace L2
open PySem PySem.Spec PyProof.Rows
noncomputable def aP (s:Stmt):Arguments:=match s with
  | .FunctionDef _ a _ _ _ _ _ _ _ _=>a
  | _=>{ posonlyargs:=[],args:=[],vararg:=none,kwonlyargs:=[],kw_defaults:=[],kwarg:=none,defaults:=[] }
noncomputable def aF (s:Stmt):List Stmt:=match s with
  | .FunctionDef _ _ b _ _ _ _ _ _ _=>b
  | _=>[]
noncomputable def af (s:Stmt):Scope:=match s with
  | .FunctionDef _ _ _ _ _ _ sc _ _ _=>sc
  | _=>{ kind:=.function,names:=[],isGenerator:=false,isCoroutine:=false }
noncomputable abbrev g7:yo:=λ_ _ _ _ _ _=>False
noncomputable abbrev E0:XK:=λ_ _ _=>False
theorem DV {X:Cx}:Passes g7 X E0:=λ_ _ _ _ _ _ _ h=>h.elim
structure mh (K:Frag)(x qual:Str)(st:Stmt)(f:Addr)(fd:FuncData):Prop where
  ex:∃(oc:GR) (od:Option Addr) (kV doc pm:GR) (an:Option Addr) (cdv ct:GR) (osl:Array (Option GR)),
    fd=fnOf x qual (aP st) (aF st) (af st) .none kV doc pm an cdv ct/\K.lookup f=some ⟨oc,od,.func fd,osl⟩/\codeIn K cdv qual=true
  kp:keepIn K (.ref f)=true
section
variable {P:Hj} {w:Hs} {K:Frag} {mg:Str->Option GR} {base:Heap}
theorem mh.ok {x qual:Str}{st:Stmt}{f:Addr}{fd:FuncData}{N ps:List Str}{k:Nat}{sp:Sp}(F:mh K x qual st f fd)(S:aX N ps (af st))(len:∀vs H Q E,sp vs H Q E->vs.length=ps.length)
    (hbody:∀(cdv:GR) (A:Hr) (outer:List Env) (s:GU) (H:Hp) (vs:List V) (Q:VK) (E:XK),bQ k (A.deeper (envOfC qual (af st) s.heap.objs.size f cdv))->sp vs H Q E ->
      ∃t,mj (nN g7 P w K mg base N qual (af st) f cdv A outer s H E).AB (aF st) t/\t { nx:=λ_ H'=>Q .non H',rt:=Q } (start N vs) H):cw P w K mg base g7 (k+1) f fd ps sp:=by
  obtain ⟨oc,od,kV,doc,pm,an,cdv,ct,osl,rfl,lk,hcd⟩:=F.ex;refine Au lk hcd S len λA outer s H vs Q E hr hsp=>?_;obtain ⟨t,h,q⟩:=hbody cdv A outer s H vs Q E hr hsp;exact ⟨t,h.AB,q⟩
theorem mh.binds {x qual:Str}{st:Stmt}{f:Addr}{fd:FuncData}{ps:List Str}(F:mh K x qual st f fd)
    (h:∀(kV doc pm:GR) (an:Option Addr) (cdv ct:GR) (us:List GR),us.length=ps.length->bindArgs (fnOf x qual (aP st) (aF st) (af st) .none kV doc pm an cdv ct) ⟨us,[]⟩=pure (ps.zip us)):Binds K fd ps []:=by
  obtain ⟨oc,od,kV,doc,pm,an,cdv,ct,osl,rfl,lk,hcd⟩:=F.ex;exact .all (h kV doc pm an cdv ct)
theorem cM {x qual:Str}{st:Stmt}{f:Addr}{oc:GR}{od an:Option Addr}{osl:Array (Option GR)}{kV doc pm cdv ct:GR}(l:K.lookup f=some ⟨oc,od,.func (fnOf x qual (aP st) (aF st) (af st) .none kV doc pm an cdv ct),osl⟩)
    (c:codeIn K cdv qual=true) (k:keepIn K (.ref f)=true):mh K x qual st f (fnOf x qual (aP st) (aF st) (af st) .none kV doc pm an cdv ct):=⟨⟨oc,od,kV,doc,pm,an,cdv,ct,osl,rfl,l,c⟩,k⟩
end
theorem mV {A:Hr}{k:Nat}(hr:bQ k A):A.units+1<cLine:=Nat.lt_of_le_of_lt (Nat.add_le_add_left (by decide:1<=64) _) hr.units
theorem vC {n:Nat}(h:n<=1000):n<sizeLine:=Nat.lt_of_le_of_lt h (by decide)
section
variable {X:Cx}
theorem pv (i:Nat){x:Str}{pos:Pos}(hN:autoParam (X.N[i]?=some x) aZa._auto_1)(hv:autoParam (vU X.env.scope x) aZf._auto_1)(hd:autoParam ((x == ("__debug__" : Str))=false) aZb._auto_1)
    (hcd:autoParam ((x == ("__classdict__" : Str))=false) aZb._auto_1):PE X (.Name x pos) (Cz i):=fR hN hv hd hcd
end
theorem qc {A B:Prop}(h:B):if false=true then A else B:=by
  rw[if_neg Ht];exact h
theorem rN {A B:Prop}(h:A):if true=true then A else B:=by
  rw[if_pos rfl];exact h
noncomputable def ai (H H':Hp):Prop:=∀b o,H b=some o->H' b=some o
theorem ai.refl (H:Hp):ai H H:=λ_ _ h=>h
theorem ai.trans {H H1 H2:Hp}(a:ai H H1)(b:ai H1 H2):ai H H2:=λc o h=>b c o (a c o h)
theorem ai.free {H H':Hp}(e:ai H H'){l:Addr}(h:H' l=Option.none):H l=Option.none:=by
  cases q:H l with
  | none=>rfl
  | some o =>
    rw[e l o q] at h;cases h
theorem ai.seq {K:Frag}{H H':Hp}{a:Addr}{xs:List V}(e:ai H H')(h:cb K H a xs):cb K H' a xs:=by
  rcases h with (h | ⟨o,h⟩) | h
  · exact .inl (.inl (e _ _ h))
  · exact .inl (.inr ⟨o,e _ _ h⟩)
  · exact .inr h
end L2
namespace L2
open PySem PySem.Spec PyProof.Rows
noncomputable def o9 (X:Cx)(scope:Scope)(N':List Str)(cl:List (Str×Addr))(fp:List Addr)(C:Addr)(s:GU)(H:Hp):Cx:=
  { X with N:=N',s₀:=s,H₀:=H,env:=compEnvC scope cl C X.env,outer:=X.stack,stack:=X.stack,ex:=fp,fn:=λ_=>false,pn:=[],xe:=λ_ _=>False }
noncomputable def gd (sc0:Scope)(N0:List Str)(scope:Scope)(N':List Str)(fr:List (Option Nat)):Bool:=
  decide (scope.kind=.function) && scope.names.all (λy=>decide (y.2≠.cell)) && scope.names.all (λy=>decide (y.2=.local->scope.names.lookup y.1=some .local)) &&
  scope.names.all (λy=>decide (y.2=.free->(sc0.names.lookup y.1=some .cell\/sc0.names.lookup y.1=some .free))) && decide (fr.length=N'.length) &&
  (List.range N'.length).all (λi=>match fr[i]?,N'[i]? with
    | some (some j),some x=>decide (N0[j]?=some x) && decide (scope.names.lookup x=some .free) && decide (sc0.names.lookup x=some .cell\/sc0.names.lookup x=some .free)
    | _,_=>true)
structure iO (sc0:Scope)(N0:List Str)(scope:Scope)(N':List Str)(fr:List (Option Nat)):Prop where
  kind:scope.kind=.function
  xE:∀y∈scope.names,y.2≠.cell
  names:∀y∈scope.names,y.2=.local->scope.names.lookup y.1=some .local
  frees:∀y∈scope.names,y.2=.free->(sc0.names.lookup y.1=some .cell\/sc0.names.lookup y.1=some .free)
  len:fr.length=N'.length
  fix:∀(i j:Nat) (x:Str),fr[i]?=some (some j)->N'[i]?=some x->N0[j]?=some x/\scope.names.lookup x=some .free/\(sc0.names.lookup x=some .cell\/sc0.names.lookup x=some .free)
theorem mE {sc0:Scope}{N0:List Str}{scope:Scope}{N':List Str}{fr:List (Option Nat)}(h:gd sc0 N0 scope N' fr=true):iO sc0 N0 scope N' fr:=by
  unfold gd at h;rw[Bool.and_eq_true,Bool.and_eq_true,Bool.and_eq_true,Bool.and_eq_true,Bool.and_eq_true] at h;obtain ⟨⟨⟨⟨⟨h1,h2⟩,h3⟩,h4⟩,h5⟩,h6⟩:=h;refine ⟨of_decide_eq_true h1,λy hy=>of_decide_eq_true (List.all_eq_true.mp h2 y hy),λy hy=>of_decide_eq_true (List.all_eq_true.mp h3 y hy),λy hy=>of_decide_eq_true (List.all_eq_true.mp h4 y hy),of_decide_eq_true h5,λi j x e1 e2=>?_⟩;have hi:i<N'.length:=(Hb.mp e2).1;have q:=List.all_eq_true.mp h6 i (mem_range.mpr hi);rw[e1,e2] at q;dsimp only at q;rw[Bool.and_eq_true,Bool.and_eq_true] at q;exact ⟨of_decide_eq_true q.1.1,of_decide_eq_true q.1.2,of_decide_eq_true q.2⟩
noncomputable def pd (env:Env):List (Str×NameKind)->List (Str×Addr)->List (Str×Addr)
  | [],cs=>cs
  | (n,k)::r,cs=>if k=.free then pd env r ((n,(env.cells.lookup n).getD 0)::cs) else pd env r cs
theorem mem_of_lookup {α:Type}:∀{l:List (Str×α)} {x:Str} {v:α},l.lookup x=some v->(x,v)∈l
  | [],_,_,h=>by simp at h
  | (y,w)::r,x,v,h=>by
    cases hx:x == y with
    | true =>
      simp only[lookup_cons,hx] at h;cases h;rw[beq_iff_eq.mp hx];exact mem_cons_self
    | false =>
      simp only[lookup_cons,hx] at h;exact Hv _ (mem_of_lookup h)
theorem nK {env:Env}:∀{l:List (Str×NameKind)} {cs:List (Str×Addr)} {p:Str×Addr},p∈pd env l cs->p∈cs\/(∃y∈l,y.2=.free/\p=(y.1,(env.cells.lookup y.1).getD 0))
  | [],_,_,h=>.inl h
  | (n,k)::r,cs,p,h=>by
    unfold pd at h;by_cases hk:k=.free
    · rw[if_pos hk] at h;rcases nK h with q | ⟨y,hy,e1,e2⟩
      · rcases Hn.mp q with q | q
        · exact .inr ⟨(n,k),mem_cons_self,hk,q⟩
        · exact .inl q
      · exact .inr ⟨y,Hv _ hy,e1,e2⟩
    · rw[if_neg hk] at h;rcases nK h with q | ⟨y,hy,e1,e2⟩
      · exact .inl q
      · exact .inr ⟨y,Hv _ hy,e1,e2⟩
theorem kr {env:Env}:∀{l:List (Str×NameKind)} {cs:List (Str×Addr)} {p:Str×Addr},p∈cs->p∈pd env l cs
  | [],_,_,h=>h
  | (n,k)::r,cs,p,h=>by
    unfold pd;by_cases hk:k=.free
    · rw[if_pos hk];exact kr (Hv _ h)
    · rw[if_neg hk];exact kr h
theorem jN {env:Env}:∀{l:List (Str×NameKind)} {cs:List (Str×Addr)} {x:Str},(x,NameKind.free)∈l->(x,(env.cells.lookup x).getD 0)∈pd env l cs
  | [],_,_,h=>nomatch h
  | (n,k)::r,cs,x,h=>by
    unfold pd;rcases Hn.mp h with q | q
    · cases q;rw[if_pos rfl];exact kr mem_cons_self
    · by_cases hk:k=.free
      · rw[if_pos hk];exact jN q
      · rw[if_neg hk];exact jN q
theorem eI {α:Type}:∀{l:List (Str×α)} {x:Str} {v:α},(x,v)∈l->∃w,l.lookup x=some w
  | [],_,_,h=>nomatch h
  | (y,w)::r,x,v,h=>by
    cases hx:x == y with
    | true=>exact ⟨w,by simp[lookup_cons,hx]⟩
    | false =>
      rcases Hn.mp h with q | q
      · cases q;simp at hx
      · obtain ⟨w',e⟩:=eI q;exact ⟨w',by simp[lookup_cons,hx,e]⟩
theorem gM {env:Env}:∀(l:List (Str×NameKind)) (cs:List (Str×Addr)),(∀y∈l,y.2=.free->∃c,env.cells.lookup y.1=some c) ->
    (forIn l cs λ(x:Str×NameKind) (r:List (Str×Addr))=>(if (x.2 == NameKind.free)=true then do let a <-cellOf env x.1;pure (ForInStep.yield ((x.1,a)::r)) else pure (ForInStep.yield r):Sem (ForInStep (List (Str×Addr)))))=pure (pd env l cs)
  | [],cs,_=>rfl
  | (n,k)::r,cs,h=>by
    rw[List.forIn_cons];by_cases hk:k=.free
    · subst hk;obtain ⟨c,e⟩:=h (n,.free) mem_cons_self rfl;have hc:cellOf env n=pure c:=by unfold cellOf;rw[e]
      have ih:=gM r ((n,c)::cs) λy hy=>h y (Hv _ hy);simp only[beq_self_eq_true,if_true,hc];unfold pd;rw[if_pos rfl,e];exact ih
    · have hb : (k == NameKind.free) = false := by simpa using hk
      have ih:=gM r cs λy hy=>h y (Hv _ hy);simp only[hb,Hl,if_false];unfold pd;rw[if_neg hk];exact ih
theorem ku {scope:Scope}{env:Env}(h:∀y∈scope.names,y.2=.free->∃c,env.cells.lookup y.1=some c):closureFor scope env=pure (pd env scope.names []):=by
  unfold closureFor;have:=gM scope.names [] h;first
    | (rw[this];rfl)
    | (refine Eq.trans ?_ this;rfl)
    | (simp only[this];rfl)
theorem gc {env:Env}{l:List (Str×NameKind)}(h:∀y∈l,y.2=.free->∃c,env.cells.lookup y.1=some c){x:Str}{c:Addr}(e:(pd env l []).lookup x=some c):env.cells.lookup x=some c:=by
  rcases nK (mem_of_lookup e) with q | ⟨y,hy,e1,e2⟩
  · exact nomatch q
  · obtain ⟨c',ec⟩:=h y hy e1;have e3:x=y.1:=congrArg Prod.fst e2;have e4:c=(env.cells.lookup y.1).getD 0:=congrArg Prod.snd e2;rw[ec] at e4;rw[e3,ec,e4];rfl
theorem oS {scope:Scope}{env:Env}{x:Str}:scope.names.lookup x=some .free->(relabel scope env).names.lookup x=some .cell\/(relabel scope env).names.lookup x=some .free:=by
  show scope.names.lookup x=some .free->(scope.names.map _).lookup x=_\/(scope.names.map _).lookup x=_;induction scope.names with
  | nil=>intro h;simp at h
  | cons p r ih =>
    intro h;obtain ⟨n,k⟩:=p;rw[map_cons];cases hx:x == n with
    | true =>
      simp only[lookup_cons,hx] at h;cases h;dsimp only;split
      · exact .inl (by simp[lookup_cons,hx])
      · exact .inr (by simp[lookup_cons,hx])
    | false =>
      simp only[lookup_cons,hx] at h;dsimp only;split<;>(simp only[lookup_cons,hx];exact ih h)
theorem oR {scope:Scope}{env:Env}{x:Str}(nc:∀y∈scope.names,y.2≠.cell):((relabel scope env).names.lookup x=some .cell\/(relabel scope env).names.lookup x=some .free)->scope.names.lookup x=some .free:=by
  show ((scope.names.map _).lookup x=_\/(scope.names.map _).lookup x=_)->_;revert nc;induction scope.names with
  | nil=>intro _ h;simp at h
  | cons p r ih =>
    intro nc h;obtain ⟨n,k⟩:=p;rw[map_cons] at h;have ih':=ih (λy hy=>nc y (Hv _ hy));cases hx:x == n with
    | true =>
      simp only[lookup_cons,hx];dsimp only at h;by_cases hc:(k == NameKind.free && env.scope.kind == .function && env.kindOf n == some .cell)=true
      · simp only[Bool.and_eq_true] at hc;have:k=.free:=by simpa using hc.1.1
        rw[this]
      · rw[if_neg hc] at h;simp only[lookup_cons,hx] at h;rcases h with h | h
        · cases h;exact absurd rfl (nc (n,.cell) mem_cons_self)
        · exact h
    | false =>
      simp only[lookup_cons,hx];dsimp only at h;refine ih' ?_;by_cases hc:(k == NameKind.free && env.scope.kind == .function && env.kindOf n == some .cell)=true
      · rw[if_pos hc] at h;simpa only[lookup_cons,hx] using h
      · rw[if_neg hc] at h;simpa only[lookup_cons,hx] using h
theorem Un.but {fs ex:List Addr}{H H':Hp}{h h1 h2:Heap}{C:Addr}(u:Un fs ex H H' h h1)(sb:Heap.SameBut C h1 h2)(hC:h.objs.size<=C):Un fs ex H H' h h2:=by
  have ne:∀b o,h.get? b=some o->b≠C:=λb o e=>Hm (Ho (Hg e) hC);refine ⟨λb o e n hb hx=>(sb.2 b (ne b o e)).trans (u.keep b o e n hb hx),λb o e n hb hx=>?_,u.free,λb o e hx=>?_,u.oZ,u.lS,u.lK⟩
  · obtain ⟨sl,q⟩:=u.slot b o e n hb hx;exact ⟨sl,(sb.2 b (ne b o e)).trans q⟩
  · obtain ⟨o',q⟩:=u.there b o e hx;exact ⟨o',(sb.2 b (ne b o e)).trans q⟩
theorem gA.but {P:Hj}{w:Hs}{H:Hp}{h1 h2:Heap}{C:Addr}(x:gA P w H h1)(hC:H C=none)(sb:Heap.SameBut C h1 h2):gA P w H h2:=λb ob e=>by
  refine (x b ob e).d8 (λc w' hc q=>(sb.2 c ?_).trans q) (λ_ q=>q) λ_ _ q=>q;rintro rfl;rcases hc with rfl | hc
  · rw[hC] at e;cases e
  · rw[hC] at hc;cases hc
noncomputable def jG (fr:List (Option Nat))(σ:St):St:=fr.map λo=>match o with | none=>none | some j=>(σ[j]?).getD none
theorem wW {fr:List (Option Nat)}{σ:St}{i:Nat}{v:V}(e:(jG fr σ)[i]?=some (some v)):∃j,fr[i]?=some (some j)/\σ[j]?=some (some v):=by
  unfold jG at e;rw[Hw] at e;cases q:fr[i]? with
  | none=>rw[q] at e;cases e
  | some o =>
    rw[q] at e;cases o with
    | none=>cases e
    | some j =>
      refine ⟨j,rfl,?_⟩;have e':(σ[j]?).getD none=some v:=Option.some.inj e;cases r:σ[j]? with
      | none=>rw[r] at e';cases e'
      | some y=>rw[r] at e';rw[<-e'];rfl
section
variable {X:Cx} {pins:List (Addr×Obj)} {σ:St} {H:Hp} {s:GU}
theorem A5 {scope:Scope}{N':List Str}{fr:List (Option Nat)}{fp:List Addr}(I:Inv X pins σ H s)(S:iO X.env.scope X.N scope N' fr)(hf:∀b∈fp,hE X pins H b)(ho:∀b∈fp,∃o,s.heap.get? b=some o) :
    (o9 X scope N' (pd X.env scope.names []) fp s.heap.objs.size s H).Ok:=by
  have has:∀y∈scope.names,y.2=.free->∃c,X.env.cells.lookup y.1=some c:=λy hy hk=>I.ok.has y.1 (S.frees y hy hk);refine ⟨I.ok.mod,S.kind,I.ok.glob,I.ok.blt,GW _,λx y c e1 e2=>I.ok.inj x y c (gc has e1) (gc has e2),λx hx=>?_,λx c hx=>(nomatch hx),I.ok.hd,I.ok.frames,.inl rfl,λb hb=>⟨?_,λx c e=>(hf b hb).2.2.2.2.1 x c (gc has e)⟩,I.bs,Nat.le_trans I.ok.An I.sz,λb o e hb=>?_,λb hb hz=>?_,I.stack,I.uB⟩
  · have q:=oR (env:=X.env) S.xE (x:=x) hx;exact eI (jN (mem_of_lookup q))
  · obtain ⟨o,e⟩:=ho b hb;exact Hm (Hg e)
  · rcases (hf b hb).2.2.2.1 with z | z
    · exact I.ok.xF b o e z
    · exact absurd (Ho (Hg e) (Nat.le_trans I.ok.An z)) (Nat.lt_irrefl _)
  · rcases Hn.mp (I.su b hz) with z | z
    · exact (hf b hb).2.1 z
    · exact (hf b hb).2.2.1 z
theorem uH {scope:Scope}{N':List Str}{fr:List (Option Nat)}{fp:List Addr}{h₁:Heap}{m₁:Str->Option GR}{tk:Nat}(I:Inv X pins σ H s)(S:iO X.env.scope X.N scope N' fr)(hf:∀b∈fp,hE X pins H b)(ho:∀b∈fp,∃o,s.heap.get? b=some o)
    (hn:h₁.Ns s.heap.objs.size m₁) (hk:∀b o,s.heap.get? b=some o->h₁.get? b=some o) :
    Inv (o9 X scope N' (pd X.env scope.names []) fp s.heap.objs.size s H) [] (jG fr σ) H { s with heap:=h₁,toks:=tk }:=by
  have has:∀y∈scope.names,y.2=.free->∃c,X.env.cells.lookup y.1=some c:=λy hy hk=>I.ok.has y.1 (S.frees y hy hk);have cellK:∀c v,s.heap.IsCell c v->h₁.IsCell c v:=by rintro c v ⟨o,e,d⟩;exact ⟨o,hk c o e,d⟩
  refine ⟨A5 I S hf ho,rfl,I.bare,Un.kept hk,⟨m₁,hn,λi x v e1 e2 e3=>?_⟩,λx c e=>?_,I.bf.fresh (GW _),λx c e=>I.gH x c (gc has e),λp hp=>(nomatch hp),I.bf.kept hk,?_⟩
  · obtain ⟨j,q1,q2⟩:=wW e2;obtain ⟨z1,z2,z3⟩:=S.fix i j x q1 e1;obtain ⟨m,hm,hl⟩:=I.loc;obtain ⟨u,ru,lk⟩:=hl j x v z1 q2 (.inr z3);refine ⟨u,ru,.inr ⟨oS (env:=X.env) z2,?_⟩⟩;rcases lk with ⟨k,_⟩ | ⟨k,c,e,z⟩
    · have k':X.env.scope.names.lookup x=some .local:=k;rcases z3 with z3 | z3<;>(rw[z3] at k';cases k')
    · obtain ⟨c',ec⟩:=eI (jN (env:=X.env) (cs:=[]) (mem_of_lookup z2));have:=gc has ec;rw[e] at this;cases this;exact ⟨c,ec,cellK c _ z⟩
  · obtain ⟨v,z⟩:=I.cell x c (gc has e);exact ⟨v,cellK c v z⟩
  · show (jG fr σ).length=N'.length;unfold jG;rw[Hh];exact S.len
end
noncomputable def qZ (X:Cx)(ifs:List Expr)(t:TT):Prop:=
  ∀(pins:List (Addr×Obj)) (s:GU) (σ:St) (H:Hp) (Q:Bool->Hp->Prop),Inv X pins σ H s->t σ H Q ->
    wpAny (model X.prog X.w) X.A (forIn ifs true λc r=>if r=true then do let ok <-isTrue c X.env (eval c X.env);pure (ForInStep.yield ok) else pure (ForInStep.yield r)) (TP X pins σ Q) X.xe s
noncomputable def Eu:TT:=λ_ H Q=>Q true H
theorem xS {X:Cx}:qZ X [] Eu:=λ_ _ _ H _ I h=>wpAny_tests_nil ⟨H,I,h⟩
theorem xT {X:Cx}{c:Expr}{t:TT}(h:PT X c t):qZ X [c] t:=λpins s σ H Q I q=>wpAny_tests_one (h pins s σ H Q I q)
section
variable {prog:Hj} {w:Hs} {A:Hr} {R:Result->GU->Prop} {s:GU}
theorem pB {elt target iter:Expr}{ifs:List Expr}{scope:Scope}{pos:Pos}{it acc:GR}{env:Env}(I:Nat->GU->Prop)
    (turn:∀n s,I n s->wpAny (model prog w) A (pyNext it) (λr s₁=>match r with
      | none=>R (.ok .next) s₁
      | some v=>wpAny (model prog w) A (letOwnedTupleGo target it v) (λ_ s₁'=>wpAny (model prog w) A (assign target env v) (λ_ s₂ =>
          wpAny (model prog w) A (forIn ifs true λc r=>if r=true then do let ok <-isTrue c env (eval c env);pure (ForInStep.yield ok) else pure (ForInStep.yield r)) (λok s₃ =>
            if ok=true then wpAny (model prog w) A (eval elt env) (λx s₄ =>
              wpAny (model prog w) A (call (.builtin "list.append") [acc,x]) (λ_ s₅=>∃m,m<n/\I m s₅) (λ_ _=>False) s₄) (λ_ _=>False) s₃
            else ∃m,m<n/\I m s₃) (λ_ _=>False) s₂) (λ_ _=>False) s₁') (λ_ _=>False) s₁) (λ_ _=>False) s)
    (n:Nat) (h:I n s) :
    codeAny (model prog w) A (.compLoop (.ListComp elt [⟨target,iter,ifs,0⟩] scope pos) 0 it acc env) R s:=by
  refine codeAny_loop rfl I (λn s hI=>?_) n h;show wpAny _ A ((compTurn (.ListComp elt [⟨target,iter,ifs,0⟩] scope pos) 0 it acc env).onRaise (λx=>do noteFrame x env;theTreesLotGoes x)) _ _ s;refine wpAny_noted ?_;rw[compTurn_list];refine wpAny_mono (E:=λ_ _=>False) ?_ (λ_ _ q=>q) (λ_ _ f=>f.elim);refine GS (wpAny_standAt (GS (wpAny_mono (turn n s hI) (λr s₁ h₁=>?_) λ_ _ h'=>h')));cases r with
  | none=>exact GX h₁
  | some v =>
    refine GS (wpAny_mono h₁ (λ_ s₁' h₁'=>?_) λ_ _ h'=>h');refine GS (wpAny_mono h₁' (λ_ s₂ h₂=>GS (wpAny_mono h₂ (λok s₃ h₃=>?_) λ_ _ h'=>h')) λ_ _ h'=>h');cases ok with
    | false=>exact GX ⟨rfl,h₃⟩
    | true =>
      exact GS (GS (wpAny_mono h₃ (λx s₄ h₄=>GS (wpAny_mono h₄ (λ_ s₅ h₅=>GX (GX ⟨rfl,h₅⟩)) λ_ _ h'=>h')) λ_ _ h'=>h'))
end
noncomputable def EX (J:It)(D:Addr)(g:TG)(tc:TT)(te:TE)(Q:Hp->Prop)(σ0:St)(H0:Hp):Prop:=
  ∃W:Nat->Nat->List V->St->Hp->Prop,(∃m,W 0 m [] σ0 H0)/\∀i m ys σ H,W i m ys σ H ->
    ((J.stop i H/\Q H)\/(J.go i H/\∃N:List V->St->Hp->Prop,(∀ys' σ' H',N ys' σ' H'->∃m',m'<m/\W (i+1) m' ys' σ' H')/\∀x H',J.vQ i H x H'->g x σ H' λσ2 H2=>tc σ2 H2 λb H3 =>
      if b=true then te σ2 H3 λv H4=>H4 D=some (.lst ys)/\ys.length<sizeLine/\N (ys++[v]) σ2 (upd H4 D (.lst (ys++[v])))
      else N ys σ2 H3))
noncomputable def FQ (wi:TI)(fr:List (Option Nat))(g:TG)(tc:TT)(te:TE):TE:=λσ H Q=>wi σ H λJ H1=>∀D,H1 D=none->EX J D g tc te (Q (.ref D)) (jG fr σ) (upd H1 D (.lst []))
theorem vY {X:Cx}{tg iter elt:Expr}{ifs:List Expr}{scope:Scope}{pos:Pos}{g:TG}{tc:TT}{te:TE}{fp:List Addr}{it D:Addr}{tn:Nat->Heap->Prop}{J:It}{Q:Hp->Prop}{σ0:St}{H0:Hp}{s:GU}{R:Result->GU->Prop}
    (hxe:X.xe=λ_ _=>False) (hc:X.calm=true) (hpn:X.pn = []) (hex:X.ex=fp) (hg:PG X tg g) (ht:qZ X ifs tc) (he:PE X elt te) (T:Turn X.prog X.w X.K tg J fp it tn)
    (hf:∀b∈fp,b≠X.env.locals/\b∉X.fs/\∀x c,X.env.cells.lookup x=some c->c≠b) (hW:EX J D g tc te Q σ0 H0) (B:Inv X [] σ0 H0 s) (st:tn 0 s.heap) (fr:∀b∈fp,H0 b=none)
    (fin:∀σ H s',Inv X [] σ H s'->Q H->R (.ok .next) s') :
    codeAny (model X.prog X.w) X.A (.compLoop (.ListComp elt [⟨tg,iter,ifs,0⟩] scope pos) 0 (.ref it) (.ref D) X.env) R s:=by
  obtain ⟨W,⟨m0,w0⟩,turn⟩:=hW;have stat:∀{H':Hp},(∀b∈fp,H' b=none)->∀b∈fp,hE X [] H' b:=λ{H'} hn b hb =>
    ⟨hn b hb,(hf b hb).1,(hf b hb).2.1,.inl (by rw[hex];exact hb),(hf b hb).2.2,λp hp=>by rw[hpn] at hp;exact nomatch hp⟩
  refine pB (λn s'=>∃i ys σ' H',Inv X [] σ' H' s'/\tn i s'.heap/\(∀b∈fp,H' b=none)/\W i n ys σ' H') ?_ m0 ⟨0,[],σ0,H0,B,st,fr,w0⟩;rintro n s3 ⟨i,ys,σ3,H3,I3,st3,fr3,w3⟩;rcases turn i n ys σ3 H3 w3 with ⟨stop,qn⟩ | ⟨go,N,hN,step⟩
  · refine bt (T.done X rfl rfl rfl hc i [] s3 σ3 H3 _ I3 (stat fr3) st3 stop) ?_;rintro r s4 ⟨hr,I4⟩;subst hr;exact fin σ3 H3 s4 I4 qn
  · refine bt (T.item X rfl rfl rfl hc i [] s3 σ3 H3 _ I3 (stat fr3) st3 go) ?_;rintro r s4 ⟨u,hr,h4⟩;subst hr;refine bt h4 ?_;rintro _ s5 ⟨x,H5,I5,r5,y5,st5,fr5⟩;have I5':=I5.pinned (stat fr5) (T.obj _ _ st5);have q1:=hg _ s5 σ3 H5 x u _ I5' r5 (step x H5 y5);rw[hxe] at q1;refine bt q1 ?_;rintro _ s6 ⟨σ6,H6,I6,q6⟩;have q2:=ht _ s6 σ6 H6 _ I6 q6;rw[hxe] at q2;refine bt q2 ?_;rintro ok s7 ⟨H7,I7,q7⟩;have again:∀{ys':List V} {σ8:St} {H8:Hp} {s8:GU},Inv X ([]++lq fp s5.heap) σ8 H8 s8->N ys' σ8 H8->∃m,m<n/\∃i ys σ' H',Inv X [] σ' H' s8/\tn i s8.heap/\(∀b∈fp,H' b=none)/\W i m ys σ' H':=λ{ys' σ8 H8 s8} I8 n8=>by
      obtain ⟨m',hm,w8⟩:=hN ys' σ8 H8 n8;refine ⟨m',hm,i+1,ys',σ8,H8,I8.iK,T.keep _ _ _ st5 λb hb o e=>(I8.pin (b,o) (mem_append_right _ (mem_append_right _ (fh hb e)))).1,λb hb=>?_,w8⟩;obtain ⟨o,e,d⟩:=T.obj _ _ st5 b hb;exact (I8.pin (b,o) (mem_append_right _ (mem_append_right _ (fh hb e)))).2.1
    cases ok with
    | false=>exact again I7 q7
    | true =>
      have q3:=he _ s7 σ6 H7 _ I7 q7;rw[hxe] at q3;show wpAny _ _ (eval elt X.env) _ _ s7;refine bt q3 ?_;rintro xv s8 ⟨v,H8,I8,r8,hD8,hz8,n8⟩;have q4:=m7 (X:=X) _ s8 σ6 H8 (.ref D) [v] (.ref D) [xv] (λ_ H9=>N (ys++[v]) σ6 H9) I8 rfl (.cons r8 .nil) ⟨D,ys,v,rfl,rfl,hD8,hz8,n8⟩;rw[hxe] at q4;refine bt q4 ?_;rintro _ s9 ⟨_,H9,I9,_,n9⟩;exact again I9 n9
section
variable {X:Cx} {tg iter elt:Expr} {ifs:List Expr} {scope:Scope} {pos:Pos} {wi:TI} {g:TG} {tc:TT} {te:TE}
theorem sO {pins:List (Addr×Obj)}{σ:St}{H2:Hp}{s2:GU}{it:Addr}{fp:List Addr}{tn:Nat->Heap->Prop}{J:It}{Q:Addr->Hp->Prop}{N':List Str}{fr:List (Option Nat)}{RR:GR->Addr->Result->GU->Prop}
    (hc:X.calm=true) (S:iO X.env.scope X.N scope N' fr)
    (hg:∀cl fp C s H,PG (o9 X scope N' cl fp C s H) tg g) (ht:∀cl fp C s H,qZ (o9 X scope N' cl fp C s H) ifs tc) (he:∀cl fp C s H,PE (o9 X scope N' cl fp C s H) elt te)
    (I2:Inv X pins σ H2 s2) (T:Turn X.prog X.w X.K tg J fp it tn) (st2:tn 0 s2.heap) (f2:∀b∈fp,hE X pins H2 b)
    (h:∀D,H2 D=none->EX J D g tc te (Q D) (jG fr σ) (upd H2 D (.lst [])))
    (fin:∀D C s' m' H',s2.heap.objs.size<=C->C≠D->H' C=none->s'.heap.Ns C m'->(∀h',Heap.SameBut C s'.heap h'->Inv X pins σ H' { s' with heap:=h' })->Q D H'->RR (.ref D) C (.ok .next) s') {E:GR->GU->Prop} :
    wpAny (model X.prog X.w) X.A (newList []) (λacc s₃=>wpAny (model X.prog X.w) X.A (newFunctionEnv scope X.env.globals (pd X.env scope.names []) [] X.env.qual none .none (some X.env)) (λcenv s₄ =>
      codeAny (model X.prog X.w) X.A (.compStart (.ListComp elt [⟨tg,iter,ifs,0⟩] scope pos) 0 (.ref it) acc { cenv with scope:=relabel scope X.env }) (RR acc cenv.locals) s₄) E s₃) E s2:=by
  refine wpAny_newObj_type (wpAny_newFunctionEnv S.xE (by intro y hy;simp at hy) (λh₁ hns₁ hsb₁=>?_) S.kind);dsimp only at hns₁ hsb₁ ⊢;have hD:H2 s2.heap.objs.size=none:=I2.bf.fresh (GW _);have I3:Inv X pins σ (upd H2 s2.heap.objs.size (.lst [])) { s2 with heap:=s2.heap.push { cls:=.type "list",dict:=none,data:=.seq ([]:List GR).toArray },toks:=s2.toks }:=I2.BI (its:=[]) .nil (Nat.zero_le _);generalize hH2:s2.heap.push { cls:=.type "list",dict:=none,data:=.seq ([]:List GR).toArray }=HH at hns₁ hsb₁ I3 ⊢;have hC:HH.objs.size=s2.heap.objs.size+1:=by rw[<-hH2,Heap.size_push]
  have old:∀b o,HH.get? b=some o->h₁.get? b=some o:=λb o e=>hsb₁.extBut b o (Hm (Hg e)) (GZ _ e);have old2:∀b o,s2.heap.get? b=some o->HH.get? b=some o:=λb o e=>hH2 ▸ GZ _ e;have ofp:∀b∈fp,∃o,s2.heap.get? b=some o:=λb hb=>by
    obtain ⟨o,e,_⟩:=T.obj _ _ st2 b hb;exact ⟨o,e⟩
  have neD:∀b∈fp,b≠s2.heap.objs.size:=λb hb=>by
    obtain ⟨o,e⟩:=ofp b hb;exact Hm (Hg e)
  have f3:∀b∈fp,hE X pins (upd H2 s2.heap.objs.size (.lst [])) b:=λb hb=>⟨by rw[aw (neD b hb)];exact (f2 b hb).1,(f2 b hb).2⟩
  have ofp3:∀b∈fp,∃o,HH.get? b=some o:=λb hb=>by
    obtain ⟨o,e⟩:=ofp b hb;exact ⟨o,old2 b o e⟩
  have B:=uH (h₁:=h₁) (tk:=s2.toks+([]:List (Str×GR)).length) I3 S f3 ofp3 hns₁ old;have st1:tn 0 h₁:=T.keep _ _ _ st2 λb hb o e=>old b o (old2 b o e);have loop:codeAny (model X.prog X.w) X.A (.compLoop (.ListComp elt [⟨tg,iter,ifs,0⟩] scope pos) 0 (.ref it) (.ref s2.heap.objs.size) (compEnvC scope (pd X.env scope.names []) HH.objs.size X.env))
      (RR (.ref s2.heap.objs.size) HH.objs.size) { s2 with heap:=h₁,toks:=s2.toks+([]:List (Str×GR)).length }:=by
    refine vY (X:=o9 X scope N' (pd X.env scope.names []) fp HH.objs.size { s2 with heap:=HH,toks:=s2.toks } (upd H2 s2.heap.objs.size (.lst []))) (fp:=fp) rfl hc rfl rfl (hg _ _ _ _ _) (ht _ _ _ _ _) (he _ _ _ _ _) T
      (λb hb=>⟨(B.ok.EE b hb).1,B.ok.wQ b hb,(B.ok.EE b hb).2⟩) (h _ hD) B st1 (λb hb=>(f3 b hb).1) λσ4 H4 s4 I4 q4=>?_
    obtain ⟨m4,hn4,_⟩:=I4.loc;refine fin _ HH.objs.size s4 m4 H4 (by rw[hC];exact Nat.le_succ _) (by rw[hC];exact Nat.succ_ne_self _) I4.free hn4 (λh' sb=>?_) q4;have u4:Un (vO X.stack) fp (upd H2 s2.heap.objs.size (.lst [])) H4 HH s4.heap:=I4.base;exact I3.C5 (s':={ s4 with heap:=h' }) I4.os (u4.but sb (GW _)) (I4.bf.but I4.free sb) I4.bare λb hb=>⟨(f2 b hb).2.2.2.1,(f2 b hb).2.1,(f2 b hb).2.2.2.2.1,(f2 b hb).2.2.2.2.2⟩
  exact codeAny_compStart_list loop (T.self _ 0 _ _ _ st1 loop)
theorem DZ (N':List Str)(fr:List (Option Nat))(hc:X.calm=true)(hi:PI X tg iter wi)
    (hg:∀cl fp C s H,PG (o9 X scope N' cl fp C s H) tg g) (ht:∀cl fp C s H,qZ (o9 X scope N' cl fp C s H) ifs tc) (he:∀cl fp C s H,PE (o9 X scope N' cl fp C s H) elt te)
    {sc0:Scope} {N0:List Str} (hsc:autoParam (X.env.scope=sc0) aZa._auto_1) (hN:autoParam (X.N=N0) aZa._auto_1) (bf:autoParam (gd sc0 N0 scope N' fr=true) aZe._auto_1) (hs:autoParam (∀x,foldedSetIterable iter X.env x=pure x) aZc._auto_1) :
    PE X (.ListComp elt [⟨tg,iter,ifs,0⟩] scope pos) (FQ wi fr g tc te):=by
  intro pins s σ H Q I h;have S:iO X.env.scope X.N scope N' fr:=by rw[hsc,hN];exact mE bf
  have has:∀y∈scope.names,y.2=.free->∃c,X.env.cells.lookup y.1=some c:=λy hy hk=>I.ok.has y.1 (S.frees y hy hk);rw[eval_ListComp];refine wpAny_comprehension_free (use:=none) rfl hs (ku has) S.kind S.names (bt (hi pins s σ H _ I h) λv s1 h1=>bt h1 λitv s2 h2=>?_);obtain ⟨it,fp,tn,J,H2,rfl,I2,T,st2,f2,w2⟩:=h2;refine sO (Q:=λD=>Q (.ref D)) (RR:=λacc C=>compPost (model X.prog X.w) X.A X.xe none (EP X pins σ Q) acc C) hc S hg ht he I2 T st2 f2 w2 λD C s' m' H' h1 h2 h3 h4 h5 q=>?_;exact ⟨m',h4,λh' sb=>⟨.ref D,H',h5 h' sb,rfl,q⟩⟩
noncomputable def Cw (i:Nat)(t:TE):TS:=λD σ H=>t σ H λv H1=>D.nx (σ.set i (some v)) H1
theorem xV {i:Nat}{y:Str}{py spos:Pos}(hNd:X.N.Nodup)(hy:X.N[i]?=some y)(hly:Loc X.env.scope y)(N':List Str)(fr:List (Option Nat))(hc:X.calm=true)(hi:PI X tg iter wi)
    (hg:∀cl fp C s H,PG (o9 X scope N' cl fp C s H) tg g) (ht:∀cl fp C s H,qZ (o9 X scope N' cl fp C s H) ifs tc) (he:∀cl fp C s H,PE (o9 X scope N' cl fp C s H) elt te)
    {sc0:Scope} {N0:List Str} (hsw:autoParam (swapsWith (.ListComp elt [⟨tg,iter,ifs,0⟩] scope pos) (some (.Name y py)) spos.line X.env=pure true) aZa._auto_1)
    (hsc:autoParam (X.env.scope=sc0) aZa._auto_1) (hN:autoParam (X.N=N0) aZa._auto_1) (bf:autoParam (gd sc0 N0 scope N' fr=true) aZe._auto_1) (hs:autoParam (∀x,foldedSetIterable iter X.env x=pure x) aZc._auto_1)
    (hf:autoParam (X.fn y=true\/X.env.scope.names.lookup y=some .local) aZg._auto_1) :
    PS X (.Assign [.Name y py] (.ListComp elt [⟨tg,iter,ifs,0⟩] scope pos) spos) (Cw i (FQ wi fr g tc te)):=by
  intro pins s σ H D I h;have S:iO X.env.scope X.N scope N' fr:=by rw[hsc,hN];exact mE bf
  have has:∀y∈scope.names,y.2=.free->∃c,X.env.cells.lookup y.1=some c:=λy hy hk=>I.ok.has y.1 (S.frees y hy hk);rw[exec_Assign_Name_used _ _ _ _ hsw];refine GS (wpAny_standAt (GS ?_));show wpAny _ X.A (do let _ <-comprehension (.ListComp elt [⟨tg,iter,ifs,0⟩] scope pos) scope X.env _ (newList []) false (eval iter X.env) (some (assign (.Name y py) X.env))) _ _ s;refine GS (wpAny_mono (wpAny_comprehension_free (use:=some (assign (.Name y py) X.env)) (Q:=λ_ s'=>SP X pins D .next s') rfl hs (ku has) S.kind S.names
    (bt (hi pins s σ H _ I h) λv s1 h1=>bt h1 λitv s2 h2=>?_)) (λ_ s' hq=>GX (GX hq)) λ_ _ e=>e)
  obtain ⟨it,fp,tn,J,H2,rfl,I2,T,st2,f2,w2⟩:=h2;refine sO (Q:=λB H1=>D.nx (σ.set i (some (.ref B))) H1) (RR:=λacc C=>compPost (model X.prog X.w) X.A X.xe (some (assign (.Name y py) X.env)) (λ_ s'=>SP X pins D .next s') acc C) hc S hg ht he I2 T st2 f2 w2 λB C s' m' H' h1 h2 h3 h4 h5 q=>?_;have I5:Inv X pins σ H' { s' with heap:=s'.heap }:=h5 s'.heap (.refl ..);show wpAny _ X.A (assign (.Name y py) X.env (.ref B)) _ _ s';refine wpAny_assign_Name (nv (v:=.ref B) I5 hNd hy hly rfl ?_ hf);rintro s6 I6 ⟨a,sb,ha⟩;have nL:C≠X.env.locals:=Nat.ne_of_gt (Ho I2.lt h1);have nC:∀x c,X.env.cells.lookup x=some c->c≠C:=λx c e=>by
    obtain ⟨v,o,ho,_⟩:=I2.cell x c e;exact Hm (Ho (Hg ho) h1)
  have nP:∀p∈X.pn++pins,p.1≠C:=λp hp=>by
    have e:=(I2.pin p hp).1;exact Hm (Ho (Hg e) h1)
  have na:a≠C:=by
    rcases ha with e | e
    · rw[e];exact nL.symm
    · exact nC _ _ e
  refine ⟨m',h4.sameBut sb (Ne.symm na),λh' sb'=>⟨σ.set i (some (.ref B)),H',?_,q⟩⟩;exact I6.turned (t':=s6.toks) (λb o hb e=>(sb'.2 b hb).trans e) h3 nL (.inr (Nat.le_trans I2.sz h1)) nC nP
end
end L2
namespace L2
open PySem PySem.Spec PyProof.Rows
section
variable {X:Cx}
noncomputable def FI (K:Frag):List V->Hp->VK->Prop:=λxs H Q=>∃(p:Addr) (ns:List Int),xs = [.ref p]/\cb K H p (ns.map V.int)/\Q (.int ns.sum) H
theorem uN (hc:X.calm=true):dP X (.builtin "sum") (FI X.K):=by
  intro pins s σ H xs us Q I r h;obtain ⟨p,ns,rfl,hp,q⟩:=h;obtain ⟨u,rfl,ru⟩:=vals1 r;cases ru;obtain ⟨its,rv,pl,hz⟩:=I.list hp;have hi:IntsAre its ns:=intsAre_of rv;obtain ⟨zs,e⟩:=hi.allInts.items;refine sum_intListG (I.ok.hd hc) (xs:=zs) (e ▸ pl.isList) λh' tk t' hk=>⟨.int ns.sum,H,I.kept hk,⟨t',?_⟩,q⟩
  have e2:=congrArg Array.toList e;have e3:numsOf (intItems zs).toList=ns:=by rw[<-e];exact hi.numsOf
  rw[nums_intItems] at e3;rw[preSum_eq,take_of_length_le (by simp),e3]
noncomputable def FE (K:Frag):List V->Hp->VK->Prop:=λxs H Q=>∃x n,xs = [x]/\CS K x H n/\Q (.int n) H
theorem uI:dP X (.builtin "len") (FE X.K):=v5
theorem e6 {n:Nat}(h:n<=1000):n<=sizeLine:=Nat.le_of_lt (vC h)
noncomputable def cJ {α:Type}(xs:List α)(lo hi st:Option Int):List α:=(sliceRange (sliceBounds lo hi st xs.length).1 (sliceBounds lo hi st xs.length).2.1 (sliceBounds lo hi st xs.length).2.2).filterMap (λj=>xs[j]?)
theorem gz {xs:List V}{its:List GR}(r:Vals xs its):∀js:List Nat,Vals (js.filterMap λj=>xs[j]?) (js.filterMap λj=>its[j]?)
  | []=>.nil
  | j::js=>by
    rw[filterMap_cons,filterMap_cons];cases e:xs[j]? with
    | none=>rw[r.none_of e];exact gz r js
    | some x =>
      obtain ⟨u,e1,e2⟩:=r.get e;rw[e1];exact .cons e2 (gz r js)
theorem vH {α β:Type}(f:α->β)(xs:List α)(lo hi st:Option Int):cJ (xs.map f) lo hi st=(cJ xs lo hi st).map f:=by
  unfold cJ;rw[Hh];generalize sliceRange _ _ _=js;induction js with
  | nil=>rfl
  | cons j js ih =>
    rw[filterMap_cons,filterMap_cons,Hw];cases xs[j]? with
    | none=>simpa using ih
    | some x=>simpa using ih
theorem vG {xs:List V}{its:List GR}(r:Vals xs its)(lo hi st:Option Int):(cJ xs lo hi st).length<=xs.length:=by
  have h:=slicePick_size_le its.toArray lo hi st;have e:Vals (cJ xs lo hi st) (slicePick its.toArray lo hi st).toList:=by
    unfold cJ slicePick;rw[show its.toArray.size=xs.length from r.length.symm];have:=gz r (sliceRange (sliceBounds lo hi st xs.length).1 (sliceBounds lo hi st xs.length).2.1 (sliceBounds lo hi st xs.length).2.2);simpa using this
  have e1:=e.length;have e2:=r.length;rw[e1,Hd];have h3:its.toArray.size=its.length:=Hk;lia
noncomputable def FX (K:Frag)(te:TE)(tl th ts:TO):TE:=λσ H Q=>te σ H λx H1=>tl σ H1 λl H2=>th σ H2 λu H3=>ts σ H3 λst H4 =>
  ∃a xs,x=.ref a/\cb K H4 a xs/\st≠some 0/\∀p,H4 p=none->Q (.ref p) (upd H4 p (.lst (cJ xs l u st)))
theorem vn {e:Expr}{te:TE}{lo hi:Option Expr}{st:Expr}{tl th ts:TO}{p2 pos:Pos}(he:PE X e te)(hl:PO X lo tl)(hu:PO X hi th)(hs:PO X (some st) ts):PE X (.Subscript e (.Slice lo hi (some st) p2) pos) (FX X.K te tl th ts):=by
  intro pins s σ H Q I h;refine Subscript_ (bt (he pins s σ H _ I h) ?_);rintro v s1 ⟨x,H1,I1,r1,q1⟩;refine wpAny_Slice (bt (hl pins s1 σ H1 _ I1 q1) λvl s2 ⟨l,H2,I2,pl,q2⟩=>bt (hu pins s2 σ H2 _ I2 q2) λvu s3 ⟨u,H3,I3,pu,q3⟩=>bt (hs pins s3 σ H3 _ I3 q3) ?_);rintro vs s4 ⟨sv,H4,I4,ps,q4⟩;obtain ⟨a,xs,rfl,hx,h0,q⟩:=q4;cases r1;have I5:Inv X pins σ H4 { s4 with heap:=s4.heap.push { cls:=.type "slice",data:=.fields #[vl,vu,vs] } }:=I4.kept (t':=s4.toks) λb ob q=>GZ _ q;obtain ⟨its,r,ht,hz⟩:=I5.list hx;have hlen:=r.length;have hg:wpAny (model X.prog X.w) X.A (getItem (.ref a) (.ref s4.heap.objs.size)) (EP X pins σ Q) X.xe { s4 with heap:=s4.heap.push { cls:=.type "slice",data:=.fields #[vl,vu,vs] } }:=by
    refine wpAny_getItem_list_slice ht.isList (Heap.IsSliceOf.new ..) pl pu ps h0 ?_ (by rw[Hk]<;>lia);refine ⟨.ref _,_,I5.laid (t':=s4.toks) (o:=.lst (cJ xs l u sv)) (λb ob q=>GZ _ q) (GW _) ?_,rfl,q _ (I5.bf.fresh (GW _))⟩;refine ⟨Nat.le_trans (vG r l u sv) hz,(slicePick its.toArray l u sv).toList,0,?_,?_⟩
    · unfold cJ slicePick;rw[show its.toArray.size=xs.length from r.length.symm];have:=gz r (sliceRange (sliceBounds l u sv xs.length).1 (sliceBounds l u sv xs.length).2.1 (sliceBounds l u sv xs.length).2.2);simpa using this
    · rw[Array.toArray_toList];exact Hq _ rfl
  show wpAny (model X.prog X.w) X.A (subscriptTail e (.Slice lo hi (some st) p2) (.ref a) (.ref s4.heap.objs.size)) (EP X pins σ Q) X.xe { s4 with heap:=s4.heap.push { cls:=.type "slice",data:=.fields #[vl,vu,vs] } };exact tail_any (ops:=[.ref a,.ref s4.heap.objs.size]) ht.isList.typeIs slot_list_getitem.lookup hg (by with_unfolding_all rfl)
inductive CH (K:Frag)(H:Hp):Nat->V->V->Prop where
  | sc {n:Nat} {x:V} (f:Dp x=true):CH K H n x x
  | rf {n:Nat} {a:Addr}:CH K H n (.ref a) (.ref a)
  | tup {n:Nat} {a b:Addr} {xs ys:List V} (h1:fA K H a xs) (h2:fA K H b ys) (hl:xs.length=ys.length) (h:∀(i:Nat) (x y:V),xs[i]?=some x->ys[i]?=some y->CH K H n x y):CH K H (n+1) (.ref a) (.ref b)
  | lst {n:Nat} {a b:Addr} {xs ys:List V} (h1:cb K H a xs) (h2:cb K H b ys) (hl:xs.length=ys.length) (h:∀(i:Nat) (x y:V),xs[i]?=some x->ys[i]?=some y->CH K H n x y):CH K H (n+1) (.ref a) (.ref b)
end
end L2
namespace WS
noncomputable abbrev S3:=Int×Int×Int
noncomputable def mx (i j:Int):Int:=if j>i then j else i
noncomputable def A1 (b:S3)(L:Int):Int:=b.2.2*mx 0 (b.2.1 - mx b.1 L)
noncomputable def above (bs:List S3)(L:Int):Int:=(bs.map λb=>A1 b L).sum
noncomputable def Fe (hs:List S3):List S3:=hs.map λx=>(x.2.1,x.1,x.2.2)
noncomputable def C6 (g:Int)(cs:List S3):List S3:=cs.map λx=>(x.1+g,x.2.1+g,x.2.2)
noncomputable def Az (g:Int)(hs cs:List S3)(L:Int):Int:=above (C6 g cs) L - above (Fe hs) L
structure Aj (x:S3):Prop where
  lo:0<=x.2.1
  lt:x.2.1<x.1
  hi:x.1<=200
  r0:1<=x.2.2
  r1:x.2.2<=1000000000
structure j5 (x:S3):Prop where
  lo:0<=x.1
  lt:x.1<x.2.1
  hi:x.2.1<=200
  r0:1<=x.2.2
  r1:x.2.2<=1000000000
end WS
namespace L2
open PySem PySem.Spec PyProof.Rows
structure Fn (P:Hj)(w:Hs)(K:Frag)(mg:Str->Option GR)(base:Heap)(x:Str)(k:Nat)(ps:List Str)(sp:Sp):Prop where
  ex:∃f fd,cw P w K mg base g7 k f fd ps sp/\mg x=some (.ref f)/\keepIn K (.ref f)=true/\Binds K fd ps []
theorem AE {X:Cx}{x:Str}{k:Nat}{ps:List Str}{sp:Sp}{p pos:Pos}{e:Expr}{es:List Expr}{t:TA}(F:Fn X.prog X.w X.K X.mg X.base x k ps sp)(hr:bQ k X.A)(hg:Gl X x)(ha:PA X (e::es) t)
    (hdb:autoParam ((x == ("__debug__" : Str))=false) aZb._auto_1) (he:autoParam (starEach (e::es) X.env=(false,eval e X.env)::starEach es X.env) aZa._auto_1) (hpl:autoParam ((backTo pos (starEach es X.env)).any (·.1)=false) aZa._auto_1) :
    PE X (.Call (.Name x p) (e::es) [] pos) (AM sp [] E0 t):=by
  obtain ⟨f,fd,G,hm,hk,hb⟩:=F.ex;exact zI G hr hg hm hk hb .nil DV ha hdb he hpl
theorem fB {P:Hj}{w:Hs}{K:Frag}{mg:Str->Option GR}{base:Heap}{x qual:Str}{st:Stmt}{f:Addr}{fd:FuncData}{k:Nat}{ps:List Str}{sp:Sp}(F:mh K x qual st f fd)(hm:mg x=some (.ref f))(hb:Binds K fd ps [])(ok:cw P w K mg base g7 k f fd ps sp) :
    Fn P w K mg base x k ps sp:=⟨f,fd,ok,hm,F.kp,hb⟩
theorem d4 {H:Hp}{a:Addr}{o:HO}(h:H a=none):ai H (upd H a o):=λb u e=>by
  rw[aw (aH e h)];exact e
theorem ai.upd {H H':Hp}{a:Addr}{o:HO}(s:ai H H')(h:H a=none):ai H (upd H' a o):=λb u e=>by
  rw[aw (aH e h)];exact s b u e
end L2
namespace WS
open PySem L2
theorem gQ {α β:Type}{F:α->β->Prop}:∀{l:List α} {r:List β} {i:Nat} {a:α},Paired F l r->l[i]?=some a->∃b,r[i]?=some b/\F a b
  | _,_,_,_,.nil,e=>by simp at e
  | _,_,0,_,.cons h _,e=>by simp at e;subst e;exact ⟨_,rfl,h⟩
  | _,_,i+1,a,.cons _ t,e=>by
    obtain ⟨b,h1,h2⟩:=gQ (i:=i) (a:=a) t (by simpa using e);exact ⟨b,by simpa using h1,h2⟩
theorem take_snoc {α:Type}{l:List α}{i:Nat}{x:α}(e:l[i]?=some x):l.take (i+1)=l.take i++[x]:=by
  rw[List.take_add_one,e];rfl
end WS
namespace L2
open PySem PySem.Spec PyProof.Rows
section
variable {X:Cx}
end
end L2
namespace L2
open PySem PySem.Spec PyProof.Rows
section
variable {X:Cx} {pins:List (Addr×Obj)} {σ:St} {H:Hp} {s:GU} {h':Heap}
theorem Inv.Ew {t':Nat}{wr:List Addr}{T:Addr}{us:List GR}{vs:List V}(I:Inv X pins σ H s)(hf:∀b∈wr,hE X pins H b)(k:∀b o,b∉wr->s.heap.get? b=some o->h'.get? b=some o)(hT:s.heap.objs.size<=T)(ht:h'.IsTuple T us.toArray)(r:Vals vs us)(hz:vs.length<=sizeLine) :
    Inv X pins σ (upd H T (.tup vs)) { s with heap:=h',toks:=t' }:=by
  have hn:H T=none:=I.bf.fresh hT;have nit:∀b u,H b=some u->b∉wr:=λb u e z=>by
    have:=(hf b z).1;rw[this] at e;cases e
  refine I.step (g':=s.gens) (d':=s.drawn) (ch:=wr) (λb hb=>⟨(hf b hb).2.2.2.1,(hf b hb).2.1,(hf b hb).2.2.2.2.1,(hf b hb).2.2.2.2.2⟩) (λb o _ _ hc e _=>k b o hc e) (λb o _ _ hc e _=>⟨o.slots,k b o hc e⟩)
    (λb o hc e n=>?_) (λb o hc e=>⟨o,k b o hc e⟩) (λb xs e=>?_) (λb o u e=>?_) (λb ps e=>⟨#[],?_⟩) (λm hm=>?_) (λb u e=>?_) I.bare
  · rw[aw (Hm (Ho (Hg e) hT))];exact n
  · rw[aw (aH e hn)];exact e
  · rw[aw (aH e hn)];exact e
  · rw[aw (aH e hn)];simpa using e
  · obtain ⟨o,es,ep,ho,r⟩:=hm;exact ⟨o,es,ep,k _ o (λz=>(hf _ z).2.1 rfl) ho,r⟩
  · by_cases hb:b=T
    · subst hb;rw[ay] at e;cases e;exact ⟨hz,us,r,ht⟩
    · rw[aw hb] at e;refine (I.bf b u e).d8 (λc v hc q=>k c v ?_ q) (λc q=>by rw[aw (aH q hn)];exact q) λc xs q=>by rw[aw (aH q hn)];exact q
      rcases hc with z | z
      · rw[z];exact nit b u e
      · exact nit c _ z
theorem Inv.Af {t':Nat}{wr:List Addr}(I:Inv X pins σ H s)(hf:∀b∈wr,hE X pins H b)(k:∀b o,b∉wr->s.heap.get? b=some o->h'.get? b=some o):Inv X pins σ H { s with heap:=h',toks:=t' }:=by
  have nit:∀b u,H b=some u->b∉wr:=λb u e z=>by
    have:=(hf b z).1;rw[this] at e;cases e
  refine I.step (g':=s.gens) (d':=s.drawn) (ch:=wr) (λb hb=>⟨(hf b hb).2.2.2.1,(hf b hb).2.1,(hf b hb).2.2.2.2.1,(hf b hb).2.2.2.2.2⟩) (λb o _ _ hc e _=>k b o hc e) (λb o _ _ hc e _=>⟨o.slots,k b o hc e⟩)
    (λb o hc e n=>n) (λb o hc e=>⟨o,k b o hc e⟩) (λb xs e=>e) (λb o u e=>e) (λb ps e=>⟨#[],by rw[e];simp⟩) (λm hm=>?_) (λb u e=>?_) I.bare
  · obtain ⟨o,es,ep,ho,r⟩:=hm;exact ⟨o,es,ep,k _ o (λz=>(hf _ z).2.1 rfl) ho,r⟩
  · refine (I.bf b u e).d8 (λc v hc q=>k c v ?_ q) (λ_ q=>q) λ_ _ q=>q;rcases hc with z | z
    · rw[z];exact nit b u e
    · exact nit c _ z
end
noncomputable def Ey (Src:Hp->List (List V)->Prop):It:=
  ⟨λi H=>∃rows row,Src H rows/\rows[i]?=some row,λi H x H'=>∀rows,Src H rows->∃row p,rows[i]?=some row/\H p=none/\x=.ref p/\H'=upd H p (.tup row),λi H=>∃rows,Src H rows/\i=rows.length⟩
theorem CD {P:Hj}{w:Hs}{K:Frag}{elts:List Expr}{kx:Nat}{pos:Pos}{e:Addr}{fp wr fpw:List Addr}{Src:Hp->List (List V)->Prop}{core:Nat->Heap->Prop}
    (me:e∈fp) (hwr:∀b∈wr,b∈fp) (src1:∀H r r',Src H r->Src H r'->r=r')
    (obj:∀i h,core i h->∀b∈fp,∃o,h.get? b=some o/\∀v,o.data≠.cell v)
    (keep:∀i h h',core i h->(∀b∈fp,∀o,h.get? b=some o->h'.get? b=some o)->core i h')
    (self:∀(A:Hr) (i:Nat) (s:GU) (Q:GR->GU->Prop) (E:GR->GU->Prop),core i s.heap->Q (.ref e) s->wpAny (model P w) A (pyIter (.ref e)) Q E s)
    (W:∀(X:Cx),X.prog=P->X.w=w->X.K=K->X.calm=true->∀(i:Nat) (pins:List (Addr×Obj)) (s:GU) (σ:St) (H:Hp),Inv X pins σ H s->(∀b∈fp,hE X pins H b)->core i s.heap->∀rows,Src H rows ->
      ∃(n:Nat) (Pt:Nat->Array GR->Prop) (St':Nat->Heap->Prop) (Mid:Nat->Addr->Heap->Prop),WalksT P w X.A e fpw wr n Pt St' Mid/\n=rows.length/\St' i s.heap/\(∀j vals,Pt j vals->∃row us,rows[j]?=some row/\vals=us.toArray/\Vals row us/\row.length<=sizeLine)/\∀j h,St' j h->core j h) :
    Turn P w K (.Tuple elts kx pos) (Ey Src) fp e core where
  mem:=me
  obj:=obj
  keep:=keep
  self:=self
  item:=by
    intro X hP hw hK hc i pins s σ H E I hf st hg;obtain ⟨rows,row,hs,hr⟩:=hg;obtain ⟨n,Pt,St',Mid,V,hn,st',hp,back⟩:=W X hP hw hK hc i pins s σ H I hf st rows hs;have hi:i<n:=by rw[hn];exact (Hb.mp hr).1
    refine V.item i s _ E hi st' λT vals h' tk pt hT ht mid kk=>?_;obtain ⟨row',us,hr',rfl,rv,hz⟩:=hp i vals pt;refine ⟨.ref T,rfl,?_⟩;refine V.go elts kx pos i T { s with heap:=h',toks:=tk } _ E mid λh2 st2 k2=>?_;have nT:=V.apart i T h' mid;have ht2:h2.IsTuple T us.toArray:=ht.at λo q=>k2 T o nT q;have I2:Inv X pins σ (upd H T (.tup row')) { s with heap:=h2,toks:=tk }:=I.Ew (λb hb=>hf b (hwr b hb)) (λb o hb q=>k2 b o hb (kk b o hb q)) hT ht2 rv hz;refine ⟨.ref T,_,I2,rfl,λrows2 hs2=>?_,back _ _ st2,λb hb=>?_⟩
    · rw[src1 _ _ _ hs2 hs];exact ⟨row',T,hr',I.bf.fresh hT,rfl,rfl⟩
    · have hbT:b≠T:=by
        rintro rfl;obtain ⟨o,ho,_⟩:=obj _ _ st b hb;exact absurd (Ho (Hg ho) hT) (Nat.lt_irrefl _)
      rw[aw hbT];exact (hf b hb).1
  done:=by
    intro X hP hw hK hc i pins s σ H E I hf st hg;obtain ⟨rows,hs,hr⟩:=hg;obtain ⟨n,Pt,St',Mid,V,hn,st',hp,back⟩:=W X hP hw hK hc i pins s σ H I hf st rows hs;rw[hr,<-hn] at st';exact V.done s _ E st' λh' tk kk=>⟨rfl,I.Af (λb hb=>hf b (hwr b hb)) kk⟩
section
variable {X:Cx}
theorem sM {zs:Array (Int×Tok)}{k:Nat}{v:GR}(h:(intItems zs)[k]?=some v):(∃t,v=.int (numAt zs k) t)/\numAt zs k∈zs.toList.map (·.1):=by
  refine ⟨intItems_at h,?_⟩;simp only[intItems,Array.getElem?_map,Option.map_eq_some_iff] at h;obtain ⟨p,hp,rfl⟩:=h;rw[numAt_eq];have hp':zs.toList[k]?=some p:=by rw[<-hp];simp
  rw[getD_eq_getElem?_getD,Hw,hp'];exact mem_map.mpr ⟨p,Hi hp',rfl⟩
theorem kX {zs:Array (Int×Tok)}{n:Int}(h:n∈zs.toList.map (·.1)):∃j,j<=zs.size - 1/\numAt zs j=n:=by
  obtain ⟨j,hj⟩:=List.getElem?_of_mem h;have hl:j<zs.size:=by have:=(Hb.mp hj).1;simpa using this
  exact ⟨j,by lia,by rw[numAt_eq,getD_eq_getElem?_getD,hj];rfl⟩
noncomputable def eQ (xs:List V):List (List V):=(List.range xs.length).map λi=>[V.int (i:Nat),(xs[i]?).getD .non]
theorem ij {xs:List V}{i:Nat}{x:V}(h:xs[i]?=some x):(eQ xs)[i]?=some [.int (i:Nat),x]:=by
  unfold eQ;rw[Hw,List.getElem?_range (Hb.mp h).1,Option.map_some,h];rfl
theorem ik (xs:List V):(eQ xs).length=xs.length:=by unfold eQ;simp
noncomputable def uA (a:Addr)(H:Hp)(rows:List (List V)):Prop:=∃xs,H a=some (.lst xs)/\rows=eQ xs
theorem vK {P:Hj}{w:Hs}{K:Frag}{elts:List Expr}{kx:Nat}{pos:Pos}(a e it:Addr)(hei:e≠it) :
    Turn P w K (.Tuple elts kx pos) (Ey (uA a)) [e,it] e (λi h=>(∃old,IsEnum h e it i old)/\h.IsListIter it a i):=by
  refine CD (fpw:=[e,it,a]) (wr:=[e,it]) (by simp) (λb hb=>hb) (λH r r' ⟨xs,h1,h2⟩ ⟨ys,h3,h4⟩=>?_) (λi h ⟨⟨old,he⟩,hit⟩ b hb=>?_) (by rintro i h h' ⟨⟨old,he⟩,hit⟩ k;exact ⟨⟨old,k e (by simp) _ he⟩,hit.at λo q=>k it (by simp) o q⟩) (by rintro A i s Q E ⟨⟨old,he⟩,hit⟩ q;exact wpAny_pyIter_enum he q) ?_
  · rw[h1] at h3;cases h3;rw[h2,h4]
  · rcases Hn.mp hb with rfl | hb
    · exact ⟨_,he,λv z=>by have z':Data.fields _=Data.cell v:=z;cases z'⟩
    · have : b = it := by simpa using hb
      subst this;obtain ⟨o,ho,_,hd⟩:=hit;exact ⟨o,ho,λv z=>by rw[hd] at z;cases z⟩
  · intro X hP hw hK hc i pins s σ H I hf st rows ⟨xs,hx,hr⟩;subst hP hw hK;obtain ⟨z,its,n,rv,hl⟩:=I.bf a _ hx;have hlist:s.heap.IsList a its.toArray:=⟨_,hl,rfl,n,rfl⟩
    have nae:a≠e:=λq=>by have:=(hf e (by simp)).1;rw[<-q,hx] at this;cases this
    have nai:a≠it:=λq=>by have:=(hf it (by simp)).1;rw[<-q,hx] at this;cases this
    refine ⟨its.toArray.size,_,_,_,WalksT.enumerate (I.ok.hd hc) e it a hei nae nai its.toArray,by rw[hr,ik,Hk,rv.length],⟨st.1,st.2,hlist⟩,?_,λj h ⟨h1,h2,_⟩=>⟨h1,h2⟩⟩;rintro j vals ⟨t,x,h1,h2⟩;have h1':its[j]?=some x:=by simpa using h1
    have hj:j<xs.length:=by rw[rv.length];exact (Hb.mp h1').1
    obtain ⟨u,g1,g2⟩:=rv.get (GV hj);rw[h1'] at g1;cases g1;exact ⟨[.int (j:Nat),xs[j]],[.int j t,x],by rw[hr];exact ij (GV hj),h2,.cons ⟨t,rfl⟩ (.cons g2 .nil),e6 (Nat.le_of_ble_eq_true rfl)⟩
noncomputable def Dt (ta:TA):TI:=λσ H R=>ta σ H λvs H1=>∃a xs,vs = [.ref a]/\H1 a=some (.lst xs)/\R (Ey (uA a)) H1
theorem zL {elts:List Expr}{kx:Nat}{tpos:Pos}{l:Expr}{ta:TA}{p pos:Pos}(hg:Gl X "enumerate")(hm:X.mg "enumerate" = none)(ha:PA X [l] ta)(hs:autoParam (starEach [l] X.env = [(false,eval l X.env)]) aZa._auto_1):PI X (.Tuple elts kx tpos) (.Call (.Name "enumerate" p) [l] [] pos) (Dt ta):=by
  intro pins s σ H R I h;refine Call_ (fg I hg hm boot_enumerate (PyProof.Rows.callWith_type1 (bt (ha pos pins s σ H _ I h) ?_) hs rfl));rintro us s1 ⟨vs,H1,I1,r1,q1⟩;obtain ⟨a,xs,rfl,hx,q⟩:=q1;obtain ⟨u,rfl,ru⟩:=vals1 r1;cases ru;obtain ⟨z,its,n,rv,hl⟩:=I1.bf a _ hx;refine call_enumerate_list (items:=its.toArray) ⟨_,hl,rfl,n,rfl⟩ λh' he hit hsz hk=>?_;refine wpAny_pyIter_enum he ?_;have I2:Inv X pins σ H1 { s1 with heap:=h' }:=I1.kept (t':=s1.toks) hk;refine ⟨s1.heap.objs.size+1,[s1.heap.objs.size+1,s1.heap.objs.size],_,_,H1,rfl,I2,vK a _ _ (Nat.succ_ne_self _),⟨⟨_,he⟩,hit⟩,λb hb=>?_,q⟩;rcases Hn.mp hb with rfl | hb
  · exact I1.wV (Nat.le_succ _) (I1.bf.fresh (Nat.le_succ _))
  · have e : b = s1.heap.objs.size := by simpa using hb
    subst e;exact I1.wV (GW _) (I1.bf.fresh (GW _))
section
variable {prog:Hj} {w:Hs} {A:Hr} {E:GR->GU->Prop} {s:GU}
theorem mO {it t:Addr}{items:Array GR}(hne:t≠it):∀(n i:Nat) (s:GU) (Q:List GR->GU->Prop),s.heap.IsListIter it t i->s.heap.IsList t items->i+n<=items.size ->
    (∀h',h'.IsListIter it t (i+n)->Heap.SameBut it s.heap h'->Q ((items.toList.drop i).take n) { s with heap:=h' })->wpAny (model prog w) A (draw (.ref it) n) Q E s
  | 0,i,s,Q,hit,_,_,hQ=>by
    show wpAny _ _ (pure []) Q E s;exact GX (by simpa using hQ s.heap hit (Heap.SameBut.refl ..))
  | n+1,i,s,Q,hit,ht,hle,hQ=>by
    have hlt:i<items.size:=by lia
    show wpAny _ _ (pyNext (.ref it) >>= _) Q E s;refine GS (wpAny_pyNext_list_item hit ht (x:=items[i]) (by simp[hlt]) λh₁ hit₁ hs₁=>?_);refine GS (wpAny_holding (mO hne n (i+1) _ _ hit₁ (ht.extBut hs₁.extBut hne) (by lia) λh₂ hit₂ hs₂=>GX ?_));have hd:items.toList.drop i=items[i]::items.toList.drop (i+1):=by simp[drop_eq_getElem_cons,hlt]
    have:=hQ h₂ (by rw[show i+(n+1)=i+1+n by lia];exact hit₂) (hs₁.trans hs₂);rw[hd,List.take_succ_cons] at this;exact this
theorem jq {t:Addr}{items:Array GR}{Q:List GR->GU->Prop}(hh:A.handled=none)(ht:s.heap.IsList t items)
    (hQ:∀h',Heap.ExtBut s.heap.objs.size s.heap h'->Q items.toList { s with heap:=h' }):wpAny (model prog w) A (unpackItems (.ref t) items.size none) Q E s:=by
  have hlt:t≠s.heap.objs.size:=by obtain ⟨o,ho,_⟩:=ht;exact Hm (Hg ho)
  unfold unpackItems;refine GS ?_;unfold notIterableAtAll;refine GS (wpAny_specialOf ht.typeIs slot_list_iter.lookup ?_);refine GX ?_;simp only[Hl,if_false];refine GS (wpAny_holding (wpAny_pyIter_list ht ?_));refine GS (wpAny_holding (mO hlt items.size 0 _ _ ⟨_,Hq _ rfl,rfl,rfl⟩ (ht.at λo e=>GZ _ e) (by lia) λh₁ hit₁ hs₁=>?_));have hall:List.take items.size (List.drop 0 items.toList)=items.toList:=by
    rw[List.drop_zero];exact take_of_length_le (by simp)
  rw[hall];rw[if_neg (by simp)];have ht₁:h₁.IsList t items:=(ht.at λo e=>GZ _ e).extBut hs₁.extBut hlt;refine GS (wpAny_holding (wpAny_pyNext_list_end hh hit₁ ht₁ (by simp) λh₂ he₂=>?_));simp only[Option.isSome_none,Hl,if_false];refine GX (hQ h₂ λb o hb e=>he₂ b o hb (hs₁.extBut b o hb (GZ _ e)))
theorem hO {env:Env}{elts:List Expr}{x1}{pos:Pos}{t:Addr}{items:Array GR}{Q:Unit->GU->Prop}(hh:A.handled=none)(ht:s.heap.IsList t items)
    (hn:(assignEach elts env).length=items.size) (hstar:(assignEach elts env).findIdx? (·.1)=none)
    (h:∀h',Heap.ExtBut s.heap.objs.size s.heap h'->wpAny (model prog w) A (assignInOrder ((assignEach elts env).map (·.2)) items.toList) Q E { s with heap:=h' }) :
    wpAny (model prog w) A (assign (.Tuple elts x1 pos) env (.ref t)) Q E s:=by
  rw[assign_Tuple];refine GS (wpAny_standAt ?_);unfold unpack;rw[hn,hstar];exact GS (wpAny_holding (jq hh ht h))
end
noncomputable def Dr (K:Frag)(n:Nat)(t:Al):TG:=λv σ H Q=>∃a xs,v=.ref a/\(fA K H a xs\/cb K H a xs)/\xs.length=n/\t xs σ H Q
theorem ll {es:List Expr}{k:Nat}{t:Al}{n:Nat}{pos:Pos}(hc:X.calm=true)(h:Ez X es t)
    (hn:autoParam ((assignEach es X.env).length=n) aZa._auto_1) (hst:autoParam ((assignEach es X.env).findIdx? (·.1)=none) aZa._auto_1):PG X (.Tuple es k pos) (Dr X.K n t):=by
  intro pins s σ H v u Q I r hw;obtain ⟨a,xs,e1,hq,hl,hw⟩:=hw;subst e1;cases r;rcases hq with hq | hq
  · obtain ⟨its,rv,ht,hz⟩:=I.tuple hq;refine assign_Tuple_tuple (I.ok.hd hc) ht (by simp[hn,<-hl,rv.length]) hst λh' hx=>?_;have I1:Inv X pins σ H { s with heap:=h' }:=I.kept (t':=s.toks) λb o e=>hx b o (Hm (Hg e)) e;exact h pins _ σ H xs _ Q I1 (by simpa using rv) hw
  · obtain ⟨its,rv,ht,hz⟩:=I.list hq;refine hO (I.ok.hd hc) ht.isList (by simp[hn,<-hl,rv.length]) hst λh' hx=>?_;have I1:Inv X pins σ H { s with heap:=h' }:=I.kept (t':=s.toks) λb o e=>hx b o (Hm (Hg e)) e;exact h pins _ σ H xs _ Q I1 (by simpa using rv) hw
end
end L2
namespace DL
open PySem L2
inductive D where
  | non | bl (b:Bool) | int (i:Int) | str (x:Str) | tup (xs:List D) | lst (xs:List D) | scr (ns:List Int)
  | dct (kvs:List ((Int×Int)×Int))
noncomputable def encD (kvs:List ((Int×Int)×Int)):List (List Key×V):=kvs.map λp=>([Sum.inl p.1.1,Sum.inl p.1.2],V.int p.2)
inductive Rep (K:Frag)(G:Hp):V->D->Prop where
  | non:Rep K G .non .non
  | bl (b:Bool):Rep K G (.bl b) (.bl b)
  | int (i:Int):Rep K G (.int i) (.int i)
  | str (x:Str):Rep K G (.str x) (.str x)
  | tup {a:Addr} {vs:List V} {ds:List D} (h:G a=some (.tup vs)) (l:vs.length=ds.length) (r:∀(i:Nat) (v:V) (d:D),vs[i]?=some v->ds[i]?=some d->Rep K G v d):Rep K G (.ref a) (.tup ds)
  | scr {a:Addr} {ns:List Int} (h:cb K G a (ns.map V.int)):Rep K G (.ref a) (.scr ns)
  | dct {a:Addr} {kvs:List ((Int×Int)×Int)} (h:Rd G a (.dT (encD kvs))):Rep K G (.ref a) (.dct kvs)
  | lst {a:Addr} {vs:List V} {ds:List D} (h:G a=some (.lst vs)) (l:vs.length=ds.length) (r:∀(i:Nat) (v:V) (d:D),vs[i]?=some v->ds[i]?=some d->Rep K G v d):Rep K G (.ref a) (.lst ds)
noncomputable abbrev aE (K:Frag)(G:Hp):List V->List D->Prop:=Paired (Rep K G)
theorem aq {α β:Type}{F:α->β->Prop}:∀{l:List α} {r:List β},l.length=r.length->(∀(i:Nat) (a:α) (b:β),l[i]?=some a->r[i]?=some b->F a b)->Paired F l r
  | [],[],_,_=>.nil
  | a::l,b::r,e,h=>.cons (h 0 a b rfl rfl) (aq (by simpa using e) λi x y h1 h2=>h (i+1) x y (by simpa using h1) (by simpa using h2))
theorem dH {α β:Type}{F:α->β->Prop}:∀{l:List α} {r:List β},Paired F l r->∀(i:Nat) (a:α) (b:β),l[i]?=some a->r[i]?=some b->F a b
  | _,_,.nil,_,_,_,h,_=>by simp at h
  | _,_,.cons h _,0,_,_,h1,h2=>by simp at h1 h2;subst h1;subst h2;exact h
  | _,_,.cons _ t,i+1,a,b,h1,h2=>dH t i a b (by simpa using h1) (by simpa using h2)
theorem aB {α β:Type}{F:α->β->Prop}:∀{l:List α} {r:List β} {i:Nat} {b:β},Paired F l r->r[i]?=some b->∃a,l[i]?=some a/\F a b
  | _,_,_,_,.nil,e=>by simp at e
  | _,_,0,_,.cons h _,e=>by simp at e;subst e;exact ⟨_,rfl,h⟩
  | _,_,i+1,b,.cons _ t,e=>by
    obtain ⟨a,h1,h2⟩:=aB (i:=i) (b:=b) t (by simpa using e);exact ⟨a,by simpa using h1,h2⟩
section
variable {K:Frag} {G G' H H':Hp} {v:V} {d:D} {ds:List D} {vs:List V}
theorem Rep.sy {a:Addr}(h:G a=some (.tup vs))(r:aE K G vs ds):Rep K G (.ref a) (.tup ds):=.tup h (Paired.length r) (dH r)
theorem Rep.zy {a:Addr}(h:G a=some (.lst vs))(r:aE K G vs ds):Rep K G (.ref a) (.lst ds):=.lst h (Paired.length r) (dH r)
theorem Rep.bL (h:Rep K G v (.tup ds)):∃a vs,v=.ref a/\fA K G a vs/\aE K G vs ds:=by
  cases h with | tup h l r=>exact ⟨_,_,rfl,.inl (.inl h),aq l r⟩
theorem Rep.sA (h:Rep K G v (.tup ds)):∃a vs,v=.ref a/\G a=some (.tup vs)/\aE K G vs ds:=by
  cases h with | tup h l r=>exact ⟨_,_,rfl,h,aq l r⟩
theorem Rep.lst_inv (h:Rep K G v (.lst ds)):∃a vs,v=.ref a/\G a=some (.lst vs)/\aE K G vs ds:=by
  cases h with | lst h l r=>exact ⟨_,_,rfl,h,aq l r⟩
theorem Rep.int_inv {i:Int}(h:Rep K G v (.int i)):v=.int i:=by cases h;rfl
theorem Rep.vX {b:Bool}(h:Rep K G v (.bl b)):v=.bl b:=by cases h;rfl
theorem ft {a:Addr}{u:HO}(e:ai G G')(h:Rd G a u):Rd G' a u:=h.elim (λz=>.inl (e _ _ z)) λ⟨o,z⟩=>.inr ⟨o,e _ _ z⟩
theorem ah {a:Addr}{xs:List V}(e:ai G G')(h:fA K G a xs):fA K G' a xs:=by
  rcases h with (h | ⟨o,h⟩) | h
  · exact .inl (.inl (e _ _ h))
  · exact .inl (.inr ⟨o,e _ _ h⟩)
  · exact .inr h
theorem Rep.mono (s:ai G G')(h:Rep K G v d):Rep K G' v d:=by
  induction h with
  | non=>exact .non
  | bl b=>exact .bl b
  | int i=>exact .int i
  | str x=>exact .str x
  | tup h l r ih=>exact .tup (s _ _ h) l ih
  | lst h l r ih=>exact .lst (s _ _ h) l ih
  | scr h=>exact .scr (s.seq h)
  | dct h=>exact .dct (ft s h)
theorem aE.mono (s:ai G G')(h:aE K G vs ds):aE K G' vs ds:=Paired.imp' (λ_ _=>Rep.mono s) h
noncomputable def D.sc:D->Bool
  | .tup _=>false
  | .lst _=>false
  | .scr _=>false
  | .dct _=>false
  | _=>true
theorem Rep.sc (h:Rep K G v d)(e:d.sc=true):Rep K G' v d:=by
  cases h with
  | non=>exact .non
  | bl b=>exact .bl b
  | int i=>exact .int i
  | str x=>exact .str x
  | tup h l r=>cases e
  | lst h l r=>cases e
  | scr h=>cases e
  | dct h=>cases e
end
inductive B where
  | p (d:D) | o (d:D) | n (t:Bool) (ds:List D)
noncomputable def B.val:B->D
  | .p d=>d
  | .o d=>d
  | .n true ds=>.tup ds
  | .n false ds=>.lst ds
noncomputable abbrev ar:=List (Option B)
noncomputable def bp:ar->Nat->Option B
  | [],_=>none
  | b::_,0=>b
  | _::r,n+1=>bp r n
noncomputable def dput:ar->Nat->B->ar
  | [],_,_=>[]
  | _::r,0,b=>some b::r
  | c::r,n+1,b=>c::dput r n b
noncomputable def Br:Option B->Option B
  | none=>none
  | some b=>some (.p b.val)
noncomputable def cx:ar->ar
  | []=>[]
  | c::r=>Br c::cx r
theorem dR (b:B):∀(ρ:ar) (i:Nat),(dput ρ i b).length=ρ.length
  | [],_=>rfl
  | _::_,0=>rfl
  | _::r,n+1=>by show (dput r n b).length+1=r.length+1;rw[dR b r n]
theorem tW:∀(ρ:ar),(cx ρ).length=ρ.length
  | []=>rfl
  | _::r=>by show (cx r).length+1=_;rw[tW r];rfl
theorem aK {b:B}:∀{ρ:ar} {i j:Nat} {c:B},bp (dput ρ i b) j=some c->(i=j/\j<ρ.length/\c=b)\/(i≠j/\bp ρ j=some c)
  | [],_,_,_,h=>by cases h
  | _::_,0,0,_,h=>.inl ⟨rfl,Nat.succ_pos _,(Option.some.inj h).symm⟩
  | _::_,0,j+1,_,h=>.inr ⟨Nat.succ_ne_zero j |>.symm,h⟩
  | _::_,i+1,0,_,h=>.inr ⟨Nat.succ_ne_zero i,h⟩
  | _::r,i+1,j+1,_,h=>by
    rcases aK (ρ:=r) (i:=i) (j:=j) h with ⟨h1,h2,h3⟩ | ⟨h1,h2⟩
    · exact .inl ⟨by rw[h1],Nat.succ_lt_succ h2,h3⟩
    · exact .inr ⟨λe=>h1 (Nat.succ.inj e),h2⟩
theorem kB:∀{ρ:ar} {i:Nat} {c:B},bp (cx ρ) i=some c->∃b,bp ρ i=some b/\c=.p b.val
  | [],_,_,h=>by cases h
  | none::_,0,_,h=>by cases h
  | some b::_,0,_,h=>⟨b,rfl,(Option.some.inj h).symm⟩
  | _::r,i+1,_,h=>kB (ρ:=r) h
theorem tN:∀{ρ:ar} {i:Nat} {c:B},bp ρ i=some c->i<ρ.length
  | [],_,_,h=>by cases h
  | _::_,0,_,_=>Nat.succ_pos _
  | _::r,i+1,_,h=>Nat.succ_lt_succ (tN (ρ:=r) h)
noncomputable def bM (K:Frag)(G H:Hp)(a:Addr)(d:D):Prop:=G a=none/\match d with
  | .lst ds=>∃vs,H a=some (.lst vs)/\aE K G vs ds
  | .dct kvs=>H a=some (.dT (encD kvs))
  | _=>False
noncomputable def AQ (H:Hp)(a:Addr):Prop:=∃o,H a=some o/\∀xs,o≠.tup xs
theorem AQ.there {H:Hp}{a:Addr}(h:AQ H a):H a≠none:=by obtain ⟨o,e,_⟩:=h;rw[e];simp
structure Wd (H0 G0 H G:Hp):Prop where
  hh:ai H0 H
  gg:ai G0 G
  gh:ai G H
  old:∀a,AQ H0 a->G a=G0 a
theorem Wd.refl {H G:Hp}(s:ai G H):Wd H G H G:=⟨ai.refl _,ai.refl _,s,λ_ _=>rfl⟩
theorem Wd.trans {H0 G0 H1 G1 H2 G2:Hp}(a:Wd H0 G0 H1 G1)(b:Wd H1 G1 H2 G2):Wd H0 G0 H2 G2:=
  ⟨a.hh.trans b.hh,a.gg.trans b.gg,b.gh,λx h=>by
    have h1:AQ H1 x:=by obtain ⟨o,e,n⟩:=h;exact ⟨o,a.hh _ _ e,n⟩
    rw[b.old x h1,a.old x h]⟩
theorem Wd.new {H0 G0 H G:Hp}{p:Addr}{o:HO}(w:Wd H0 G0 H G)(h:H p=none):Wd H0 G0 (upd H p o) (upd G p o):=
  ⟨w.hh.upd (w.hh.free h),w.gg.upd (w.gg.free (w.gh.free h)),λb u e=>by
    by_cases z:b=p
    · subst z;rw[ay] at e ⊢;exact e
    · rw[aw z] at e ⊢;exact w.gh b u e,λa ha=>by
    have z:a≠p:=λe=>ha.there (e ▸ w.hh.free h);rw[aw z,w.old a ha]⟩
theorem Wd.own {H0 G0 H G:Hp}{p:Addr}{o:HO}(w:Wd H0 G0 H G)(h0:H0 p=none)(h:G p=none):Wd H0 G0 (upd H p o) G:=
  ⟨w.hh.upd h0,w.gg,w.gh.upd h,w.old⟩
theorem Wd.give {H0 G0 H G:Hp}{p:Addr}{o:HO}(w:Wd H0 G0 H G)(h0:H0 p=none\/∃xs,o=.tup xs)(h:G p=none)(e:H p=some o):Wd H0 G0 H (upd G p o):=
  ⟨w.hh,w.gg.upd (w.gg.free h),λb u k=>by
    by_cases z:b=p
    · subst z;rw[ay] at k;rw[e,k]
    · rw[aw z] at k;exact w.gh b u k,λa ha=>by
    have z:a≠p:=λz=>by
      subst z;obtain ⟨u,e1,n⟩:=ha;rcases h0 with h0 | ⟨xs,h0⟩
      · rw[h0] at e1;cases e1
      · have:=w.hh _ _ e1;rw[e] at this;cases this;exact n xs h0
    rw[aw z,w.old a ha]⟩
theorem bM.rep {K:Frag}{G H G2:Hp}{a:Addr}{d:D}(h:bM K G H a d)(s:ai G G2)(e:∀o,H a=some o->G2 a=some o):Rep K G2 (.ref a) d:=by
  obtain ⟨g,k⟩:=h;cases d with
  | lst ds =>
    obtain ⟨vs,e',r⟩:=k;exact Rep.zy (e _ e') (aE.mono s r)
  | dct kvs=>exact .dct (.inl (e _ k))
  | non=>exact k.elim
  | bl _=>exact k.elim
  | int _=>exact k.elim
  | str _=>exact k.elim
  | tup _=>exact k.elim
  | scr _=>exact k.elim
noncomputable def eD (K:Frag)(H G' H':Hp)(v:V):B->Prop
  | .p d=>Rep K G' v d
  | .o d=>∃a,v=.ref a/\H a=none/\bM K G' H' a d
  | .n true ds=>∃a as,v=.ref a/\G' a=some (.tup (as.map V.ref))/\as.Nodup/\Paired (λx d=>H x=none/\bM K G' H' x d) as ds
  | .n false ds=>∃a as,v=.ref a/\H a=none/\G' a=none/\H' a=some (.lst (as.map V.ref))/\a∉as/\as.Nodup/\Paired (λx d=>H x=none/\bM K G' H' x d) as ds
theorem eD.ahead {K:Frag}{H0 H G' H':Hp}{v:V}{b:B}(s:ai H0 H)(h:eD K H G' H' v b):eD K H0 G' H' v b:=by
  cases b with
  | p d=>exact h
  | o d=>obtain ⟨a,e,n,o⟩:=h;exact ⟨a,e,s.free n,o⟩
  | n t ds =>
    cases t with
    | false =>
      obtain ⟨a,as,e,n,g,q,na,nd,pr⟩:=h;exact ⟨a,as,e,s.free n,g,q,na,nd,Paired.imp' (λ_ _ z=>⟨s.free z.1,z.2⟩) pr⟩
    | true =>
      obtain ⟨a,as,e,q,nd,pr⟩:=h;exact ⟨a,as,e,q,nd,Paired.imp' (λ_ _ z=>⟨s.free z.1,z.2⟩) pr⟩
theorem Wd.all {H G H' G':Hp}(w:Wd H G H' G'):∃G2,Wd H G H' G2/\ai G' G2/\∀a,H a=none->G' a=none->G2 a=H' a:=by
  classical
  have sG:ai G' (λa=>if H a=none/\G' a=none then H' a else G' a):=λa o h=>by
    show (if _ then H' a else G' a)=_;rw[if_neg λq=>by rw[q.2] at h;cases h];exact h
  refine ⟨λa=>if H a=none/\G' a=none then H' a else G' a,⟨w.hh,w.gg.trans sG,λa o h=>?_,λa h=>?_⟩,sG,λa h1 h2=>if_pos ⟨h1,h2⟩⟩
  · have h':(if H a=none/\G' a=none then H' a else G' a)=some o:=h;split at h'
    · exact h'
    · exact w.gh _ _ h'
  · show (if H a=none/\G' a=none then H' a else G' a)=_;rw[if_neg λq=>h.there q.1];exact w.old a h
theorem eD.give {K:Frag}{H G H' G':Hp}{v:V}{b:B}(w:Wd H G H' G')(h:eD K H G' H' v b):∃G2,Wd H G H' G2/\Rep K G2 v b.val:=by
  cases b with
  | p d=>exact ⟨G',w,h⟩
  | n t ds =>
    cases t with
    | false =>
      obtain ⟨a,as,rfl,n,g,q,na,nd,pr⟩:=h;obtain ⟨G2,w2,s2,k2⟩:=w.all;refine ⟨G2,w2,Rep.zy (by rw[k2 _ n g];exact q) ?_⟩;clear q nd na;induction pr with
      | nil=>exact .nil
      | cons f _ ih=>exact .cons (f.2.rep s2 λo z=>by rw[k2 _ f.1 f.2.1];exact z) ih
    | true =>
      obtain ⟨a,as,rfl,q,nd,pr⟩:=h;obtain ⟨G2,w2,s2,k2⟩:=w.all;refine ⟨G2,w2,Rep.sy (s2 _ _ q) ?_⟩;clear q nd;induction pr with
      | nil=>exact .nil
      | cons f _ ih=>exact .cons (f.2.rep s2 λo z=>by rw[k2 _ f.1 f.2.1];exact z) ih
  | o d =>
    obtain ⟨a,rfl,n,k⟩:=h;obtain ⟨G2,w2,s2,k2⟩:=w.all;exact ⟨G2,w2,k.rep s2 λo z=>by rw[k2 _ n k.1];exact z⟩
noncomputable abbrev DT:=ar->(B->Prop)->Prop
noncomputable abbrev fD:=ar->(Bool->Prop)->Prop
noncomputable abbrev dj:=ar->(List D->Prop)->Prop
noncomputable def cK (K:Frag)(G:Hp)(σ:St)(ρ:ar):Prop:=∀i d,bp ρ i=some (.p d)->∃v,σ[i]?=some (some v)/\Rep K G v d
theorem cK.mono {K:Frag}{G G':Hp}{σ:St}{ρ:ar}(s:ai G G')(h:cK K G σ ρ):cK K G' σ ρ:=λi d e=>by
  obtain ⟨v,h1,h2⟩:=h i d e;exact ⟨v,h1,h2.mono s⟩
noncomputable def cE (K:Frag)(t:DT):TE:=λσ H Q=>∃(G:Hp) (ρ:ar) (P:B->Prop),ai G H/\cK K G σ ρ/\t ρ P/\∀b v H' G',P b->Wd H G H' G'->eD K H G' H' v b->Q v H'
noncomputable def cT (K:Frag)(t:fD):TT:=λσ H Q=>∃(G:Hp) (ρ:ar) (P:Bool->Prop),ai G H/\cK K G σ ρ/\t ρ P/\∀b H' G',P b->Wd H G H' G'->Q b H'
noncomputable def cA (K:Frag)(n:Nat)(t:dj):TA:=λσ H Q=>∃(G:Hp) (ρ:ar) (P:List D->Prop),ai G H/\cK K G σ ρ/\t ρ P/\∀ds vs H' G',P ds->ds.length=n->Wd H G H' G'->aE K G' vs ds->Q vs H'
structure DE (X:Cx)(e:Expr)(t:DT):Prop where
  pe:PE X e (cE X.K t)
structure o7 (X:Cx)(e:Expr)(t:fD):Prop where
  pt:PT X e (cT X.K t)
structure DW (X:Cx)(e:Expr)(t:fD):Prop where
  pw:PW X e (cT X.K t)
structure DA (X:Cx)(es:List Expr)(t:dj):Prop where
  pa:PA X es (cA X.K es.length t)
theorem PE.imp {X:Cx}{e:Expr}{t t':TE}(h:PE X e t)(i:∀σ H Q,t' σ H Q->t σ H Q):PE X e t':=λpins s σ H Q I q=>h pins s σ H Q I (i σ H Q q)
theorem PT.imp {X:Cx}{e:Expr}{t t':TT}(h:PT X e t)(i:∀σ H Q,t' σ H Q->t σ H Q):PT X e t':=λpins s σ H Q I q=>h pins s σ H Q I (i σ H Q q)
theorem PW.imp {X:Cx}{e:Expr}{t t':TT}(h:PW X e t)(i:∀σ H Q,t' σ H Q->t σ H Q):PW X e t':=λwh pins s σ H Q I q=>h wh pins s σ H Q I (i σ H Q q)
theorem PA.imp {X:Cx}{es:List Expr}{t t':TA}(h:PA X es t)(i:∀σ H Q,t' σ H Q->t σ H Q):PA X es t':=λpos pins s σ H Q I q=>h pos pins s σ H Q I (i σ H Q q)
theorem PS.imp {X:Cx}{st:Stmt}{t t':TS}(h:PS X st t)(i:∀D σ H,t' D σ H->t D σ H):PS X st t':=λpins s σ H D I q=>h pins s σ H D I (i D σ H q)
theorem mj.imp {X:Cx}{st:List Stmt}{t t':TS}(h:mj X st t)(i:∀D σ H,t' D σ H->t D σ H):mj X st t':=λpins s σ H D I q=>h pins s σ H D I (i D σ H q)
theorem DE.of {X:Cx}{e:Expr}{t:TE}{t':DT}(h:PE X e t)(i:∀σ H Q,cE X.K t' σ H Q->t σ H Q):DE X e t':=⟨PE.imp h i⟩
theorem o7.of {X:Cx}{e:Expr}{t:TT}{t':fD}(h:PT X e t)(i:∀σ H Q,cT X.K t' σ H Q->t σ H Q):o7 X e t':=⟨PT.imp h i⟩
theorem DW.of {X:Cx}{e:Expr}{t:TT}{t':fD}(h:PW X e t)(i:∀σ H Q,cT X.K t' σ H Q->t σ H Q):DW X e t':=⟨PW.imp h i⟩
theorem DA.of {X:Cx}{es:List Expr}{t:TA}{t':dj}(h:PA X es t)(i:∀σ H Q,cA X.K es.length t' σ H Q->t σ H Q):DA X es t':=⟨PA.imp h i⟩
section
variable {X:Cx} {a b e:Expr} {ta tb te:DT} {pos:Pos}
noncomputable def eE (i:Nat):DT:=λρ Q=>match bp ρ i with
  | some (.p d)=>Q (.p d)
  | _=>False
theorem dv (i:Nat){x:Str}(hN:autoParam (X.N[i]?=some x) aZa._auto_1)(hv:autoParam (vU X.env.scope x) aZf._auto_1)(hd:autoParam ((x == ("__debug__" : Str))=false) aZb._auto_1)
    (hcd:autoParam ((x == ("__classdict__" : Str))=false) aZb._auto_1):DE X (.Name x pos) (eE i):=
  DE.of (fR hN hv hd hcd)<|by
    rintro σ H Q ⟨G,ρ,P,s,r,h,k⟩;unfold eE at h;split at h
    · rename_i d e;obtain ⟨v,h1,h2⟩:=r _ _ e;exact ⟨v,h1,k _ v H G h (Wd.refl s) h2⟩
    · exact h.elim
noncomputable def dC (d:D):DT:=λ_ Q=>Q (.p d)
noncomputable def AO (K:Frag)(v:V)(d:D):Prop:=∀G,Rep K G v d
theorem Bm {v:V}{d:D}(h:PE X e (tC v))(r:AO X.K v d):DE X e (dC d):=
  DE.of h (by rintro σ H Q ⟨G,ρ,P,s,_,h,k⟩;exact k _ v H G h (Wd.refl s) (r G))
theorem ab {i:Int}{j}:DE X (.Constant (.int i) j pos) (dC (.int i)):=Bm B7 λ_=>.int i
theorem mL {b:Bool}{j}:DE X (.Constant (.bool b) j pos) (dC (.bl b)):=Bm DX λ_=>.bl b
theorem gO {j}:DE X (.Constant .none j pos) (dC .non):=Bm B9 λ_=>.non
theorem mU {K:Frag}{H G H1 G1:Hp}{P:B->Prop}{Q:VK}(k:∀b v H' G',P b->Wd H G H' G'->eD K H G' H' v b->Q v H')(w:Wd H G H1 G1):∀b v H' G',P b->Wd H1 G1 H' G'->eD K H1 G' H' v b->Q v H':=
  λb v H' G' p w' r=>k b v H' G' p (w.trans w') (r.ahead w.hh)
noncomputable abbrev D2:=D->D->(B->Prop)->Prop
noncomputable def mi (X:Cx)(f:GR->GR->Sem GR)(r:D2):Prop:=∃rv:R2,gE X f rv /\
  ∀(H G:Hp) (x y:V) (dx dy:D) (P:B->Prop) (Q:VK),ai G H->Rep X.K G x dx->Rep X.K G y dy->r dx dy P->(∀b v H' G',P b->Wd H G H' G'->eD X.K H G' H' v b->Q v H')->rv x y H Q
noncomputable def mK (r:D2)(ta tb:DT):DT:=λρ Q=>ta ρ λx=>tb ρ λy=>r x.val y.val Q
theorem kj {K:Frag}{ta tb:DT}{r:D2}{rv:R2}(hr:∀(H G:Hp) (x y:V) (dx dy:D) (P:B->Prop) (Q:VK),ai G H->Rep K G x dx->Rep K G y dy->r dx dy P->(∀b v H' G',P b->Wd H G H' G'->eD K H G' H' v b->Q v H')->rv x y H Q)
    (σ:St) (H:Hp) (Q:VK):cE K (mK r ta tb) σ H Q->CN rv (cE K ta) (cE K tb) σ H Q:=by
  rintro ⟨G,ρ,P,s,re,h,k⟩;refine ⟨G,ρ,_,s,re,h,λb v H1 G1 p1 w1 r1=>?_⟩;obtain ⟨G1',w1',r1'⟩:=r1.give w1;refine ⟨G1',ρ,_,w1'.gh,re.mono w1'.gg,p1,λb2 v2 H2 G2 p2 w2 r2=>?_⟩;obtain ⟨G2',w2',r2'⟩:=r2.give w2;exact hr H2 G2' v v2 b.val b2.val P Q w2'.gh (r1'.mono w2'.gg) r2' p2 (mU k (w1'.trans w2'))
theorem au {op:Operator}{r:D2}(ho:mi X (binaryOp op) r)(ha:DE X a ta)(hb:DE X b tb):DE X (.BinOp a op b pos) (mK r ta tb):=by
  obtain ⟨rv,h1,h2⟩:=ho;exact DE.of (xK h1 ha.pe hb.pe) (kj h2)
theorem iV {op:CmpOp}{r:D2}(ho:mi X (compareOp op) r)(ha:DE X a ta)(hb:DE X b tb)(hm:behindInMarks op b=false):DE X (.Compare a [op] [b] pos) (mK r ta tb):=by
  obtain ⟨rv,h1,h2⟩:=ho;exact DE.of (zJ h1 ha.pe hb.pe hm) (kj h2)
noncomputable def dI (g:Int->Int->D):D2:=λx y Q=>match x,y with
  | .int i,.int j=>Q (.p (g i j))
  | _,_=>False
noncomputable def Bc (C:Int->Int->Prop)(g:Int->Int->D):D2:=λx y Q=>match x,y with
  | .int i,.int j=>C i j/\Q (.p (g i j))
  | _,_=>False
theorem qB {f:GR->GR->Sem GR}{g:Int->Int->D}{gv:Int->Int->V}(h:gE X f (zU gv))(hg:∀i j,AO X.K (gv i j) (g i j)):mi X f (dI g):=by
  refine ⟨_,h,λH G x y dx dy P Q s rx ry hr k=>?_⟩;unfold dI at hr;split at hr
  · cases rx;cases ry;exact ⟨_,_,rfl,rfl,k _ _ H G hr (Wd.refl s) (hg _ _ _)⟩
  · exact hr.elim
theorem rZ {f:GR->GR->Sem GR}{C:Int->Int->Prop}{g:Int->Int->D}{gv:Int->Int->V}(h:gE X f (rI C gv))(hg:∀i j,AO X.K (gv i j) (g i j)):mi X f (Bc C g):=by
  refine ⟨_,h,λH G x y dx dy P Q s rx ry hr k=>?_⟩;unfold Bc at hr;split at hr
  · cases rx;cases ry;exact ⟨_,_,rfl,rfl,hr.1,k _ _ H G hr.2 (Wd.refl s) (hg _ _ _)⟩
  · exact hr.elim
theorem BN:mi X (binaryOp .Sub) (dI λi j=>.int (i - j)):=qB B5 λ_ _ _=>.int _
theorem cF:mi X (binaryOp .FloorDiv) (Bc CO λi j=>.int (i / j)):=rZ zG λ_ _ _=>.int _
theorem bz:mi X (binaryOp .Mod) (Bc (λ_ j=>0<j) λi j=>.int (i % j)):=rZ BV λ_ _ _=>.int _
theorem BL:mi X (binaryOp .Pow) (Bc CP λi j=>.int (i ^ j.toNat)):=rZ BY λ_ _ _=>.int _
theorem ue:mi X (compareOp .Lt) (dI λi j=>.bl (decide (i<j))):=qB DQ λ_ _ _=>.bl _
theorem DG:mi X (compareOp .LtE) (dI λi j=>.bl (decide (i<=j))):=qB DP λ_ _ _=>.bl _
theorem xH:mi X (compareOp .Gt) (dI λi j=>.bl (decide (j<i))):=qB DN λ_ _ _=>.bl _
theorem xG:mi X (compareOp .GtE) (dI λi j=>.bl (decide (j<=i))):=qB DM λ_ _ _=>.bl _
noncomputable def wd:D2:=λx y Q=>match x,y with
  | .int i,.int j=>Q (.p (.bl (decide (i=j))))
  | .str i,.str j=>Q (.p (.bl (decide (i=j))))
  | .bl i,.bl j=>Q (.p (.bl (decide (i=j))))
  | _,_=>False
noncomputable def wo:D2:=λx y Q=>match x,y with
  | .int i,.int j=>Q (.p (.bl (!decide (i=j))))
  | .str i,.str j=>Q (.p (.bl (!decide (i=j))))
  | .bl i,.bl j=>Q (.p (.bl (!decide (i=j))))
  | _,_=>False
theorem uR {α:Type}[DecidableEq α]{f:α->V}(hf:∀a b,f a=f b->a=b)(i j:α):decide (f i=f j)=decide (i=j):=by
  by_cases h:i=j
  · rw[h,decide_eq_true rfl,decide_eq_true rfl]
  · rw[decide_eq_false h,decide_eq_false λe=>h (hf _ _ e)]
theorem fQ:mi X (compareOp .Eq) wd:=by
  refine ⟨_,DK,λH G x y dx dy P Q s rx ry hr k=>?_⟩;unfold wd at hr;split at hr
  · cases rx;cases ry;exact ⟨rfl,by rw[uR (λ_ _ e=>V.int.inj e)];exact k _ _ H G hr (Wd.refl s) (.bl _)⟩
  · cases rx;cases ry;exact ⟨rfl,by rw[uR (λ_ _ e=>V.str.inj e)];exact k _ _ H G hr (Wd.refl s) (.bl _)⟩
  · cases rx;cases ry;exact ⟨rfl,by rw[uR (λ_ _ e=>V.bl.inj e)];exact k _ _ H G hr (Wd.refl s) (.bl _)⟩
  · exact hr.elim
theorem qw:mi X (compareOp .NotEq) wo:=by
  refine ⟨_,DU,λH G x y dx dy P Q s rx ry hr k=>?_⟩;unfold wo at hr;split at hr
  · cases rx;cases ry;exact ⟨rfl,by rw[uR (λ_ _ e=>V.int.inj e)];exact k _ _ H G hr (Wd.refl s) (.bl _)⟩
  · cases rx;cases ry;exact ⟨rfl,by rw[uR (λ_ _ e=>V.str.inj e)];exact k _ _ H G hr (Wd.refl s) (.bl _)⟩
  · cases rx;cases ry;exact ⟨rfl,by rw[uR (λ_ _ e=>V.bl.inj e)];exact k _ _ H G hr (Wd.refl s) (.bl _)⟩
  · exact hr.elim
noncomputable def yL:D2:=λx y Q=>match y with
  | .non=>Q (.p (.bl (match x with | .non=>true | _=>false)))
  | _=>False
theorem rW:mi X (compareOp .Is) yL:=by
  refine ⟨_,BU,λH G x y dx dy P Q s rx ry hr k=>?_⟩;unfold yL at hr;split at hr
  · cases ry;refine ⟨rfl,k _ _ H G hr (Wd.refl s) ?_⟩;cases rx<;>exact .bl _
  · exact hr.elim
noncomputable def Bl (r:D->(B->Prop)->Prop)(ta:DT):DT:=λρ Q=>ta ρ λx=>r x.val Q
noncomputable def pS:D->(B->Prop)->Prop:=λx Q=>match x with
  | .int i=>Q (.p (.int (-i)))
  | _=>False
theorem eF (ha:DE X a ta):DE X (.UnaryOp .USub a pos) (Bl pS ta):=
  DE.of (D3 CG ha.pe)<|by
    rintro σ H Q ⟨G,ρ,P,s,re,h,k⟩;refine ⟨G,ρ,_,s,re,h,λb v H1 G1 p1 w1 r1=>?_⟩;obtain ⟨G1',w1',r1'⟩:=r1.give w1;unfold pS at p1;split at p1
    · rename_i i e;rw[e] at r1';cases r1';exact ⟨_,rfl,k _ _ H1 G1' p1 w1' (.int _)⟩
    · exact p1.elim
noncomputable def wx (ta:DT):DT:=λρ Q=>ta ρ λx=>match x.val with
  | .bl c=>Q (.p (.bl (!c)))
  | _=>False
theorem hZ {K:Frag}{H G H' G':Hp}{v:V}{b:B}{c:Bool}(w:Wd H G H' G')(r:eD K H G' H' v b)(e:b.val=.bl c):v=.bl c:=by
  obtain ⟨G1,_,r1⟩:=r.give w;rw[e] at r1;exact r1.vX
theorem Bn (ha:DE X a ta):DE X (.UnaryOp .Not a pos) (wx ta):=
  DE.of (Ca ha.pe)<|by
    rintro σ H Q ⟨G,ρ,P,s,re,h,k⟩;refine ⟨G,ρ,_,s,re,h,λb v H1 G1 p1 w1 r1=>?_⟩;split at p1
    · rename_i c e;exact ⟨c,hZ w1 r1 e,k _ _ H1 G1 p1 w1 (.bl _)⟩
    · exact p1.elim
noncomputable def wa (ta tb:DT):DT:=λρ Q=>ta ρ λx=>match x.val with
  | .bl c=>(c=true->tb ρ Q)/\(c=false->Q (.p (.bl false)))
  | _=>False
noncomputable def Bh (ta tb:DT):DT:=λρ Q=>ta ρ λx=>match x.val with
  | .bl c=>(c=true->Q (.p (.bl true)))/\(c=false->tb ρ Q)
  | _=>False
theorem nY {op}{t:DT}(h:DE X a t):DE X (.BoolOp op [a] pos) t:=⟨Cb h.pe⟩
theorem rq {rest:List Expr}(ha:DE X a ta)(hb:DE X (.BoolOp .And (b::rest) pos) tb):DE X (.BoolOp .And (a::b::rest) pos) (wa ta tb):=
  DE.of (B6 ha.pe hb.pe)<|by
    rintro σ H Q ⟨G,ρ,P,s,re,h,k⟩;refine ⟨G,ρ,_,s,re,h,λb v H1 G1 p1 w1 r1=>?_⟩;split at p1
    · rename_i c e;refine ⟨c,hZ w1 r1 e,?_⟩;cases c with
      | true=>exact rN ⟨G1,ρ,P,w1.gh,re.mono w1.gg,p1.1 rfl,mU k w1⟩
      | false=>exact qc (k _ _ H1 G1 (p1.2 rfl) w1 (.bl _))
    · exact p1.elim
theorem Df {rest:List Expr}(ha:DE X a ta)(hb:DE X (.BoolOp .Or (b::rest) pos) tb):DE X (.BoolOp .Or (a::b::rest) pos) (Bh ta tb):=
  DE.of (D1 ha.pe hb.pe)<|by
    rintro σ H Q ⟨G,ρ,P,s,re,h,k⟩;refine ⟨G,ρ,_,s,re,h,λb v H1 G1 p1 w1 r1=>?_⟩;split at p1
    · rename_i c e;refine ⟨c,hZ w1 r1 e,?_⟩;cases c with
      | true=>exact rN (k _ _ H1 G1 (p1.1 rfl) w1 (.bl _))
      | false=>exact qc ⟨G1,ρ,P,w1.gh,re.mono w1.gg,p1.2 rfl,mU k w1⟩
    · exact p1.elim
noncomputable def nU (t:DT):fD:=λρ P=>t ρ λx=>match x.val with
  | .bl c=>P c
  | _=>False
theorem aJ {op:CmpOp}{r:D2}(ho:mi X (compareOp op) r)(ha:DE X a ta)(hb:DE X b tb)(hm:behindInMarks op b=false):o7 X (.Compare a [op] [b] pos) (nU (mK r ta tb)):=by
  obtain ⟨rv,h1,h2⟩:=ho;refine o7.of (zQ h1 ha.pe hb.pe hm) ?_;rintro σ H Q ⟨G,ρ,P,s,re,h,k⟩;refine kj h2 σ H _ ⟨G,ρ,_,s,re,h,λb v H1 G1 p1 w1 r1=>?_⟩;split at p1
  · rename_i c e;exact ⟨c,hZ w1 r1 e,k _ H1 G1 p1 w1⟩
  · exact p1.elim
theorem iZ (ha:DE X a ta)(he:autoParam (∀whole,isTrue a X.env whole=(do let v <-whole;standAt a.pos;holding [v] (truthy v))) aZc._auto_1):o7 X a (nU ta):=
  o7.of (Cf ha.pe he)<|by
    rintro σ H Q ⟨G,ρ,P,s,re,h,k⟩;refine ⟨G,ρ,_,s,re,h,λb v H1 G1 p1 w1 r1=>?_⟩;split at p1
    · rename_i c e;exact ⟨c,hZ w1 r1 e,k _ H1 G1 p1 w1⟩
    · exact p1.elim
noncomputable def yM (t:fD):fD:=λρ P=>t ρ λc=>P (!c)
theorem kE {t:fD}(ha:o7 X a t):o7 X (.UnaryOp .Not a pos) (yM t):=
  o7.of (Ce ha.pt) (by rintro σ H Q ⟨G,ρ,P,s,re,h,k⟩;exact ⟨G,ρ,_,s,re,h,λb H1 G1 p1 w1=>k _ H1 G1 p1 w1⟩)
noncomputable def yI (t u:fD):fD:=λρ P=>t ρ λc=>(c=true->u ρ P)/\(c=false->P false)
noncomputable def EC (t u:fD):fD:=λρ P=>t ρ λc=>(c=true->P true)/\(c=false->u ρ P)
theorem xb {K:Frag}{H G H1 G1:Hp}{P:Bool->Prop}{Q:Bool->Hp->Prop}(k:∀b H' G',P b->Wd H G H' G'->Q b H')(w:Wd H G H1 G1):∀b H' G',P b->Wd H1 G1 H' G'->Q b H':=
  λb H' G' p w'=>k b H' G' p (w.trans w')
theorem A6 {K:Frag}{t u:fD}(σ:St)(H:Hp)(Q:Bool->Hp->Prop):cT K (yI t u) σ H Q->Ek (cT K t) (cT K u) σ H Q:=by
  rintro ⟨G,ρ,P,s,re,h,k⟩;refine ⟨G,ρ,_,s,re,h,λc H1 G1 p1 w1=>?_⟩;cases c with
  | true=>exact rN ⟨G1,ρ,P,w1.gh,re.mono w1.gg,p1.1 rfl,xb (K:=K) k w1⟩
  | false=>exact qc (k _ H1 G1 (p1.2 rfl) w1)
theorem C3 {K:Frag}{t u:fD}(σ:St)(H:Hp)(Q:Bool->Hp->Prop):cT K (EC t u) σ H Q->Gv (cT K t) (cT K u) σ H Q:=by
  rintro ⟨G,ρ,P,s,re,h,k⟩;refine ⟨G,ρ,_,s,re,h,λc H1 G1 p1 w1=>?_⟩;cases c with
  | true=>exact rN (k _ H1 G1 (p1.1 rfl) w1)
  | false=>exact qc ⟨G1,ρ,P,w1.gh,re.mono w1.gg,p1.2 rfl,xb (K:=K) k w1⟩
end
end DL
namespace DL
open PySem L2
section
variable {X:Cx} {a b c e:Expr} {ta tb tc te:DT} {pos:Pos} {es:List Expr}
noncomputable def wc (r r':D2)(ta tb tc:DT):DT:=λρ Q=>ta ρ λx=>tb ρ λy=>r x.val y.val λz=>match z.val with
  | .bl c=>(c=true->tc ρ λw=>r' y.val w.val Q)/\(c=false->Q (.p (.bl false)))
  | _=>False
theorem om {t:fD}(ha:o7 X a t):DW X (.BoolOp .And [a] pos) t:=⟨zR ha.pt⟩
theorem kF {t:fD}(ha:o7 X a t):DW X (.BoolOp .Or [a] pos) t:=⟨Cj ha.pt⟩
theorem og {t u:fD}{rest:List Expr}(ha:o7 X a t)(hb:DW X (.BoolOp .And (b::rest) pos) u):DW X (.BoolOp .And (a::b::rest) pos) (yI t u):=DW.of (Cg ha.pt hb.pw) A6
theorem mQ {t u:fD}{rest:List Expr}(ha:o7 X a t)(hb:DW X (.BoolOp .Or (b::rest) pos) u):DW X (.BoolOp .Or (a::b::rest) pos) (EC t u):=DW.of (D6 ha.pt hb.pw) C3
theorem DW.dt {t:fD}(h:DW X e t):o7 X e t:=⟨PW.pt h.pw⟩
noncomputable def uP:dj:=λ_ P=>P []
noncomputable def jt (te:DT)(t:dj):dj:=λρ P=>te ρ λb=>t ρ λds=>P (b.val::ds)
theorem ag:DA X [] uP:=DA.of jf λσ H Q ⟨G,ρ,P,s,re,h,k⟩=>k [] [] H G h rfl (Wd.refl s) .nil
theorem aa {t:dj}(ha:DE X e te)(hr:DA X es t)(hs:autoParam (starEach (e::es) X.env=(false,eval e X.env)::starEach es X.env) aZa._auto_1):DA X (e::es) (jt te t):=
  DA.of (eh ha.pe hr.pa hs)<|by
    rintro σ H Q ⟨G,ρ,P,s,re,h,k⟩;refine ⟨G,ρ,_,s,re,h,λb v H1 G1 p1 w1 r1=>?_⟩;obtain ⟨G1',w1',r1'⟩:=r1.give w1;refine ⟨G1',ρ,_,w1'.gh,re.mono w1'.gg,p1,λds vs H2 G2 p2 l2 w2 r2=>?_⟩;exact k _ _ H2 G2 p2 (by show ds.length+1=es.length+1;rw[l2]) (w1'.trans w2) (.cons (r1'.mono w2.gg) r2)
noncomputable def wA (t:dj):DT:=λρ Q=>t ρ λds=>Q (.p (.tup ds))
noncomputable def Bf (t:dj):DT:=λρ Q=>t ρ λds=>Q (.o (.lst ds))
theorem cG {K:Frag}{H G H1 G1:Hp}{vs:List V}{ds:List D}{p:Addr}(w:Wd H G H1 G1)(hp:H1 p=none)(r:aE K G1 vs ds):Wd H G (upd H1 p (.lst vs)) G1/\eD K H G1 (upd H1 p (.lst vs)) (.ref p) (.o (.lst ds)):=
  ⟨w.own (w.hh.free hp) (w.gh.free hp),p,rfl,w.hh.free hp,w.gh.free hp,vs,ay,r⟩
theorem iJ {K:Frag}{H G H1 G1:Hp}{vs:List V}{ds:List D}{p:Addr}(w:Wd H G H1 G1)(hp:H1 p=none)(r:aE K G1 vs ds):Wd H G (upd H1 p (.tup vs)) (upd G1 p (.tup vs))/\eD K H (upd G1 p (.tup vs)) (upd H1 p (.tup vs)) (.ref p) (.p (.tup ds)):=
  ⟨w.new hp,Rep.sy ay (aE.mono (d4 (w.gh.free hp)) r)⟩
theorem bO {t:dj}{x1}(h:DA X es t)(hn:autoParam (es.length<=1000) aZh._auto_1):DE X (.Tuple es x1 pos) (wA t):=
  DE.of (xO h.pa)<|by
    rintro σ H Q ⟨G,ρ,P,s,re,h,k⟩;refine ⟨G,ρ,_,s,re,h,λds vs H1 G1 p1 l1 w1 r1=>⟨e6 (by rw[Paired.length r1,l1];exact hn),λp hp=>?_⟩⟩;obtain ⟨w2,r2⟩:=iJ w1 hp r1;exact k _ _ _ _ p1 w2 r2
theorem gN {t:dj}(h:DA X es t)(hn:autoParam (es.length<=1000) aZh._auto_1):DE X (.List es pos) (Bf t):=
  DE.of (B8 h.pa)<|by
    rintro σ H Q ⟨G,ρ,P,s,re,h,k⟩;refine ⟨G,ρ,_,s,re,h,λds vs H1 G1 p1 l1 w1 r1=>⟨e6 (by rw[Paired.length r1,l1];exact hn),λp hp=>?_⟩⟩;obtain ⟨w2,r2⟩:=cG w1 hp r1;exact k _ _ _ _ p1 w2 r2
noncomputable abbrev DR:=List D->(B->Prop)->Prop
noncomputable def gu (K:Frag)(R:DR):Sp:=λvs H Q _=>∃(ds:List D) (G:Hp) (P:B->Prop),ai G H/\aE K G vs ds/\R ds P/\∀b v H' G',P b->Wd H G H' G'->eD K H G' H' v b->Q v H'
noncomputable abbrev Gz (P:Hj)(w:Hs)(K:Frag)(mg:Str->Option GR)(base:Heap)(x:Str)(k:Nat)(ps:List Str)(R:DR):Prop:=Fn P w K mg base x k ps (gu K R)
noncomputable def pH (R:DR)(t:dj):DT:=λρ Q=>t ρ λds=>R ds Q
theorem bN {x:Str}{k:Nat}{ps:List Str}{R:DR}{p:Pos}{t:dj}(F:Gz X.prog X.w X.K X.mg X.base x k ps R)(hr:bQ k X.A)(hg:Gl X x)(ha:DA X (e::es) t)
    (hdb:autoParam ((x == ("__debug__" : Str))=false) aZb._auto_1) (he:autoParam (starEach (e::es) X.env=(false,eval e X.env)::starEach es X.env) aZa._auto_1) (hpl:autoParam ((backTo pos (starEach es X.env)).any (·.1)=false) aZa._auto_1) :
    DE X (.Call (.Name x p) (e::es) [] pos) (pH R t):=
  DE.of (AE F hr hg ha.pa hdb he hpl)<|by
    rintro σ H Q ⟨G,ρ,P,s,re,h,k⟩;refine ⟨G,ρ,_,s,re,h,λds vs H1 G1 p1 l1 w1 r1=>?_⟩;show gu X.K R (vs++[]) H1 Q E0;rw[append_nil];exact ⟨ds,G1,P,w1.gh,r1,p1,mU k w1⟩
noncomputable def CallD (X:Cx)(f:GR)(r:DR):Prop:=∃rv,dP X f rv/\∀(H G:Hp) (vs:List V) (ds:List D) (P:B->Prop) (Q:VK),ai G H->aE X.K G vs ds->r ds P->(∀b v H' G',P b->Wd H G H' G'->eD X.K H G' H' v b->Q v H')->rv vs H Q
noncomputable def C8 (r:DR)(t:dj):DT:=λρ Q=>t ρ λds=>r ds Q
theorem Ao {K:Frag}{n:Nat}{t:dj}{r:DR}{rv:List V->Hp->VK->Prop}(hr:∀(H G:Hp) (vs:List V) (ds:List D) (P:B->Prop) (Q:VK),ai G H->aE K G vs ds->r ds P->(∀b v H' G',P b->Wd H G H' G'->eD K H G' H' v b->Q v H')->rv vs H Q)
    (σ:St) (H:Hp) (Q:VK):cE K (C8 r t) σ H Q->ER rv (cA K n t) σ H Q:=by
  rintro ⟨G,ρ,P,s,re,h,k⟩;exact ⟨G,ρ,_,s,re,h,λds vs H1 G1 p1 l1 w1 r1=>hr H1 G1 vs ds P Q w1.gh r1 p1 (mU k w1)⟩
theorem aI {id:String}{x:Str}{p:Pos}{t:dj}{r:DR}(hc:CallD X (.builtin id) r)(hg:Gl X x)(hm:X.mg x=none)(hv:bootBuiltins x=some (.builtin id))(ha:DA X (e::es) t)(hn:autoParam (x≠"__name__") aZb._auto_1)(hdb:autoParam ((x == ("__debug__" : Str))=false) aZb._auto_1)
    (he:autoParam (starEach (e::es) X.env=(false,eval e X.env)::starEach es X.env) aZa._auto_1) (hpl:autoParam ((backTo pos (starEach es X.env)).any (·.1)=false) aZa._auto_1):DE X (.Call (.Name x p) (e::es) [] pos) (C8 r t):=by
  obtain ⟨rv,h1,h2⟩:=hc;exact DE.of (qC h1 hg hm hv ha.pa hn hdb he hpl) (Ao h2)
theorem iU {T:String}{x:Str}{p:Pos}{t:dj}{r:DR}(hc:CallD X (.type T) r)(hg:Gl X x)(hm:X.mg x=none)(hv:bootBuiltins x=some (.type T))(ha:DA X (e::es) t)(hn:autoParam (x≠"__name__") aZb._auto_1)(hdb:autoParam ((x == ("__debug__" : Str))=false) aZb._auto_1)
    (he:autoParam (starEach (e::es) X.env=(false,eval e X.env)::starEach es X.env) aZa._auto_1) (hpl:autoParam ((backTo pos (starEach es X.env)).any (·.1)=false) aZa._auto_1):DE X (.Call (.Name x p) (e::es) [] pos) (C8 r t):=by
  obtain ⟨rv,h1,h2⟩:=hc;exact DE.of (m9 h1 hg hm hv ha.pa hn hdb he hpl) (Ao h2)
theorem du {K:Frag}{G:Hp}{vs:List V}{d:D}(h:aE K G vs [d]):∃v,vs = [v]/\Rep K G v d:=by
  cases h with | cons h t=>cases t;exact ⟨_,rfl,h⟩
theorem AJ {K:Frag}{G:Hp}{vs:List V}{d d':D}(h:aE K G vs [d,d']):∃v v',vs = [v,v']/\Rep K G v d/\Rep K G v' d':=by
  cases h with | cons h t=>obtain ⟨v',rfl,h'⟩:=du t;exact ⟨_,_,rfl,h,h'⟩
theorem dJ {K:Frag}{G:Hp}:∀{ns:List Int} {vs:List V},aE K G vs (ns.map D.int)->vs=ns.map V.int
  | [],_,h=>by cases h;rfl
  | n::ns,_,h=>by cases h with | cons h t=>rw[h.int_inv,dJ t];rfl
theorem dG {K:Frag}{G:Hp}:∀(ns:List Int),aE K G (ns.map V.int) (ns.map D.int)
  | []=>.nil
  | n::ns=>.cons (.int n) (dG ns)
noncomputable def wm:DR:=λds P=>match ds with
  | [.lst xs]=>P (.p (.int xs.length))
  | [.tup xs]=>P (.p (.int xs.length))
  | [.scr ns]=>P (.p (.int ns.length))
  | [.str x]=>x.length<=sizeLine/\P (.p (.int x.length))
  | _=>False
theorem iR:CallD X (.builtin "len") wm:=by
  refine ⟨_,uI,λH G vs ds P Q s r h k=>?_⟩;unfold wm at h;split at h
  · obtain ⟨v,rfl,rv⟩:=du r;obtain ⟨a,us,rfl,e,rr⟩:=rv.lst_inv;exact ⟨_,us.length,rfl,.inl ⟨us,cb.of (s _ _ e),rfl⟩,by rw[Paired.length rr];exact k _ _ H G h (Wd.refl s) (.int _)⟩
  · obtain ⟨v,rfl,rv⟩:=du r;obtain ⟨a,us,rfl,e,rr⟩:=rv.bL;exact ⟨_,us.length,rfl,.inr ⟨us,ah s e,rfl⟩,by rw[Paired.length rr];exact k _ _ H G h (Wd.refl s) (.int _)⟩
  · rename_i ns;obtain ⟨v,rfl,rv⟩:=du r;cases rv with
    | scr e=>exact ⟨_,ns.length,rfl,.inl ⟨_,s.seq e,by simp⟩,k _ _ H G h (Wd.refl s) (.int _)⟩
  · rename_i x;obtain ⟨v,rfl,rv⟩:=du r;cases rv;exact ⟨_,x.length,rfl,⟨h.1,rfl⟩,k _ _ H G h.2 (Wd.refl s) (.int _)⟩
  · exact h.elim
noncomputable def Bk:DR:=λds P=>match ds with
  | [.lst xs]=>∃ns:List Int,xs=ns.map D.int/\P (.p (.int ns.sum))
  | _=>False
theorem rn (hc:X.calm=true):CallD X (.builtin "sum") Bk:=by
  refine ⟨_,uN hc,λH G vs ds P Q s r h k=>?_⟩;unfold Bk at h;split at h
  · obtain ⟨ns,rfl,h⟩:=h;obtain ⟨v,rfl,rv⟩:=du r;obtain ⟨a,us,rfl,e,rr⟩:=rv.lst_inv;rw[dJ rr] at e;exact ⟨a,ns,rfl,cb.of (s _ _ e),k _ _ H G h (Wd.refl s) (.int _)⟩
  · exact h.elim
noncomputable def CK (g:Int->Int->Int):DR:=λds P=>match ds with
  | [.int i,.int j]=>P (.p (.int (g i j)))
  | _=>False
theorem Ap {f:GR}{g:Int->Int->Int}(h:dP X f (λxs H Q=>∃i j,xs = [.int i,.int j]/\Q (.int (g i j)) H)):CallD X f (CK g):=by
  refine ⟨_,h,λH G vs ds P Q s r h k=>?_⟩;unfold CK at h;split at h
  · obtain ⟨v,v',rfl,r1,r2⟩:=AJ r;cases r1;cases r2;exact ⟨_,_,rfl,k _ _ H G h (Wd.refl s) (.int _)⟩
  · exact h.elim
theorem sP (hc:X.calm=true):CallD X (.builtin "max") (CK λi j=>if j>i then j else i):=Ap (uJ hc)
theorem h8 (hc:X.calm=true):CallD X (.builtin "min") (CK λi j=>if j<i then j else i):=Ap (uL hc)
noncomputable def C9:DR:=λds P=>match ds with
  | [.int i]=>P (.p (.int i))
  | [.bl c]=>P (.p (.int (if c then 1 else 0)))
  | _=>False
noncomputable def pI:DR:=λds P=>match ds with
  | [.lst xs]=>P (.o (.lst xs))
  | [.tup xs]=>P (.o (.lst xs))
  | [.scr ns]=>P (.o (.lst (ns.map D.int)))
  | _=>False
theorem nJ:CallD X (.type "list") pI:=by
  refine ⟨_,nI,λH G vs ds P Q s r h k=>?_⟩;unfold pI at h;split at h
  · obtain ⟨v,rfl,rv⟩:=du r;obtain ⟨a,us,rfl,e,rr⟩:=rv.lst_inv;refine ⟨a,us,rfl,.inl (cb.of (s _ _ e)),λl hl=>?_⟩;obtain ⟨w2,r2⟩:=cG (Wd.refl s) hl rr;exact k _ _ _ _ h w2 r2
  · obtain ⟨v,rfl,rv⟩:=du r;obtain ⟨a,us,rfl,e,rr⟩:=rv.bL;refine ⟨a,us,rfl,.inr (ah s e),λl hl=>?_⟩;obtain ⟨w2,r2⟩:=cG (Wd.refl s) hl rr;exact k _ _ _ _ h w2 r2
  · rename_i ns;obtain ⟨v,rfl,rv⟩:=du r;cases rv with
    | scr e =>
      refine ⟨_,_,rfl,.inl (s.seq e),λl hl=>?_⟩;obtain ⟨w2,r2⟩:=cG (Wd.refl s) hl (dG (K:=X.K) ns);exact k _ _ _ _ h w2 r2
  · exact h.elim
noncomputable def GN:D->String
  | .non=>"NoneType"
  | .bl _=>"bool"
  | .int _=>"int"
  | .str _=>"str"
  | .tup _=>"tuple"
  | .lst _=>"list"
  | .scr _=>"list"
  | .dct _=>"dict"
noncomputable def EH (T:String)(d:D):Bool:=match T with
  | "int"=>(match d with | .int _=>true | .bl _=>true | _=>false)
  | "bool"=>(match d with | .bl _=>true | _=>false)
  | "str"=>(match d with | .str _=>true | _=>false)
  | "tuple"=>(match d with | .tup _=>true | _=>false)
  | "list"=>(match d with | .lst _=>true | .scr _=>true | _=>false)
  | _=>false
noncomputable def wk:D2:=λx y Q=>match x,y with
  | .lst xs,.int i=>∃d,fE xs i=some d/\Q (.p d)
  | .tup xs,.int i=>∃d,fE xs i=some d/\Q (.p d)
  | .scr ns,.int i=>∃n,fE ns i=some n/\Q (.p (.int n))
  | .str z,.int i=>∃c,z.length<=sizeLine/\fE z.cps.toList i=some c/\Q (.p (.str ⟨#[c]⟩))
  | _,_=>False
theorem sL {K:Frag}{G:Hp}{vs:List V}{ds:List D}{i:Int}{d:D}(r:aE K G vs ds)(h:fE ds i=some d):∃v,fE vs i=some v/\Rep K G v d:=by
  unfold fE at *;rw[Paired.length r];cases e:zd ds.length i with
  | none=>rw[e] at h;cases h
  | some j =>
    rw[e] at h;exact aB r h
theorem yC {α β:Type}(f:α->β){xs:List α}{i:Int}{x:α}(h:fE xs i=some x):fE (xs.map f) i=some (f x):=by
  unfold fE at *;rw[Hh];cases e:zd xs.length i with
  | none=>rw[e] at h;cases h
  | some j =>
    rw[e] at h;have h':xs[j]?=some x:=h;show (xs.map f)[j]?=_;rw[Hw,h'];rfl
theorem aO (ha:DE X a ta)(hb:DE X b tb)(hs:autoParam (sF b) aZi._auto_1):DE X (.Subscript a b pos) (mK wk ta tb):=
  DE.of (DY Bx ha.pe hb.pe hs) (kj λH G x y dx dy P Q s rx ry h k=>by
    unfold wk at h;split at h
    · cases ry;obtain ⟨d,h1,h2⟩:=h;obtain ⟨a,us,rfl,e,rr⟩:=rx.lst_inv;obtain ⟨v,h3,h4⟩:=sL rr h1;exact .inl ⟨a,us,_,v,rfl,rfl,cb.of (s _ _ e),h3,k _ _ H G h2 (Wd.refl s) h4⟩
    · cases ry;obtain ⟨d,h1,h2⟩:=h;obtain ⟨a,us,rfl,e,rr⟩:=rx.bL;obtain ⟨v,h3,h4⟩:=sL rr h1;exact .inr (.inl ⟨a,us,_,v,rfl,rfl,ah s e,h3,k _ _ H G h2 (Wd.refl s) h4⟩)
    · cases ry;obtain ⟨n,h1,h2⟩:=h;cases rx with
      | scr e=>exact .inl ⟨_,_,_,.int n,rfl,rfl,s.seq e,yC _ h1,k _ _ H G h2 (Wd.refl s) (.int _)⟩
    · cases rx;cases ry;obtain ⟨c,h0,h1,h2⟩:=h;exact .inr (.inr ⟨_,_,c,rfl,rfl,h0,h1,k _ _ H G h2 (Wd.refl s) (.str _)⟩)
    · exact h.elim)
noncomputable abbrev vR:=ar->(Option Int->Prop)->Prop
noncomputable def cO (K:Frag)(t:vR):TO:=λσ H Q=>∃(G:Hp) (ρ:ar) (P:Option Int->Prop),ai G H/\cK K G σ ρ/\t ρ P/\∀o H' G',P o->Wd H G H' G'->Q o H'
structure DO (X:Cx)(e:Option Expr)(t:vR):Prop where
  po:PO X e (cO X.K t)
noncomputable def jO:vR:=λ_ P=>P none
noncomputable def tE (t:DT):vR:=λρ P=>t ρ λb=>match b.val with
  | .int i=>P (some i)
  | _=>False
theorem cZ {K:Frag}{H G H' G':Hp}{v:V}{b:B}{c:Int}(w:Wd H G H' G')(r:eD K H G' H' v b)(e:b.val=.int c):v=.int c:=by
  obtain ⟨G1,_,r1⟩:=r.give w;rw[e] at r1;exact r1.int_inv
theorem PO.imp {e:Option Expr}{t t':TO}(h:PO X e t)(i:∀σ H Q,t' σ H Q->t σ H Q):PO X e t':=λpins s σ H Q I q=>h pins s σ H Q I (i σ H Q q)
theorem DO.of {e:Option Expr}{t:TO}{t':vR}(h:PO X e t)(i:∀σ H Q,cO X.K t' σ H Q->t σ H Q):DO X e t':=⟨PO.imp h i⟩
theorem ig:DO X none jO:=DO.of zM λσ H Q ⟨G,ρ,P,s,re,h,k⟩=>k _ H G h (Wd.refl s)
theorem bS (he:DE X e te):DO X (some e) (tE te):=DO.of (zN he.pe)<|by
  rintro σ H Q ⟨G,ρ,P,s,re,h,k⟩;refine ⟨G,ρ,_,s,re,h,λb v H1 G1 p1 w1 r1=>?_⟩;split at p1
  · rename_i i e;exact ⟨i,cZ w1 r1 e,k _ H1 G1 p1 w1⟩
  · exact p1.elim
noncomputable def fF {α:Type}(xs:List α)(lo hi:Option Int):List α:=(xs.drop (HT.cm xs.length 0 lo)).take (HT.cm xs.length xs.length hi - HT.cm xs.length 0 lo)
theorem jw {α β:Type}{F:α->β->Prop}:∀{l:List α} {r:List β} (n:Nat),Paired F l r->Paired F (l.drop n) (r.drop n)
  | _,_,0,h=>h
  | _,_,n+1,.nil=>by rw[List.drop_nil,List.drop_nil];exact .nil
  | _,_,n+1,.cons _ t=>jw n t
theorem jy {α β:Type}{F:α->β->Prop}:∀{l:List α} {r:List β} (n:Nat),Paired F l r->Paired F (l.take n) (r.take n)
  | _,_,0,h=>by rw[List.take_zero,List.take_zero];exact .nil
  | _,_,n+1,.nil=>by rw[List.take_nil,List.take_nil];exact .nil
  | _,_,n+1,.cons h t=>.cons h (jy n t)
theorem qI {K:Frag}{G:Hp}{vs:List V}{ds:List D}(r:aE K G vs ds)(lo hi:Option Int):aE K G (lR vs lo hi) (fF ds lo hi):=by
  unfold lR fF;rw[Paired.length r];exact jy _ (jw _ r)
noncomputable def E5 (te:DT)(tl th:vR):DT:=λρ Q=>te ρ λb=>tl ρ λlo=>th ρ λhi=>match b.val with
  | .lst xs=>Q (.o (.lst (fF xs lo hi)))
  | .scr ns=>Q (.o (.lst ((fF ns lo hi).map D.int)))
  | .tup xs=>¬(HT.cm xs.length 0 lo=0/\HT.cm xs.length xs.length hi=xs.length)/\Q (.p (.tup (fF xs lo hi)))
  | _=>False
theorem v8 {α:Type}(f:α->V)(xs:List α)(lo hi:Option Int):lR (xs.map f) lo hi=(fF xs lo hi).map f:=by
  unfold lR fF;rw[Hh,map_take,map_drop]
theorem eO {lo hi:Option Expr}{tl th:vR}{p2:Pos}(he:DE X e te)(hl:DO X lo tl)(hu:DO X hi th):DE X (.Subscript e (.Slice lo hi none p2) pos) (E5 te tl th):=
  DE.of (xM (zZ.or Cr) he.pe hl.po hu.po)<|by
    rintro σ H Q ⟨G,ρ,P,s,re,h,k⟩;refine ⟨G,ρ,_,s,re,h,λb v H1 G1 p1 w1 r1=>?_⟩;obtain ⟨G1',w1',r1'⟩:=r1.give w1;refine ⟨G1',ρ,_,w1'.gh,re.mono w1'.gg,p1,λl H2 G2 p2 w2=>?_⟩;have w12:=w1'.trans w2;refine ⟨G2,ρ,_,w2.gh,re.mono w12.gg,p2,λu H3 G3 p3 w3=>?_⟩;have w13:=w12.trans w3;have r3:=r1'.mono (w2.trans w3).gg;split at p3
    · rename_i xs e;rw[e] at r3;obtain ⟨a,us,rfl,e,rr⟩:=r3.lst_inv;refine .inl ⟨a,us,rfl,cb.of (w3.gh _ _ e),λp hp=>?_⟩;obtain ⟨w4,r4⟩:=cG w13 hp (qI rr l u);exact k _ _ _ _ p3 w4 r4
    · rename_i ns e;rw[e] at r3;cases r3 with
      | scr e =>
        refine .inl ⟨_,_,rfl,w3.gh.seq e,λp hp=>?_⟩;rw[v8];obtain ⟨w4,r4⟩:=cG w13 hp (dG (K:=X.K) (fF ns l u));exact k _ _ _ _ p3 w4 r4
    · rename_i xs e;rw[e] at r3;obtain ⟨a,us,rfl,e,rr⟩:=r3.bL;refine .inr ⟨a,us,rfl,ah w3.gh e,by rw[Paired.length rr];exact p3.1,λp hp=>?_⟩;obtain ⟨w4,r4⟩:=iJ w13 hp (qI rr l u);exact k _ _ _ _ p3.2 w4 r4
    · exact p3.elim
theorem ji {K:Frag}{G:Hp}{vs:List V}{ds:List D}(r:aE K G vs ds):∀js:List Nat,aE K G (js.filterMap λj=>vs[j]?) (js.filterMap λj=>ds[j]?)
  | []=>.nil
  | j::js=>by
    rw[filterMap_cons,filterMap_cons];cases e:ds[j]? with
    | none =>
      have:vs[j]?=none:=by
        rw[List.getElem?_eq_none_iff] at e ⊢;rw[Paired.length r];exact e
      rw[this];exact ji r js
    | some d =>
      obtain ⟨v,h1,h2⟩:=aB r e;rw[h1];exact .cons h2 (ji r js)
theorem vt {K:Frag}{G:Hp}{vs:List V}{ds:List D}(r:aE K G vs ds)(lo hi st:Option Int):aE K G (cJ vs lo hi st) (cJ ds lo hi st):=by
  unfold cJ;rw[Paired.length r];exact ji r _
noncomputable def De (te:DT)(tl th ts:vR):DT:=λρ Q=>te ρ λb=>tl ρ λlo=>th ρ λhi=>ts ρ λst=>st≠some 0/\match b.val with
  | .lst xs=>Q (.o (.lst (cJ xs lo hi st)))
  | .scr ns=>Q (.o (.lst ((cJ ns lo hi st).map D.int)))
  | _=>False
theorem mM {lo hi:Option Expr}{st:Expr}{tl th ts:vR}{p2:Pos}(he:DE X e te)(hl:DO X lo tl)(hu:DO X hi th)(hs:DO X (some st) ts):DE X (.Subscript e (.Slice lo hi (some st) p2) pos) (De te tl th ts):=
  DE.of (vn he.pe hl.po hu.po hs.po)<|by
    rintro σ H Q ⟨G,ρ,P,s,re,h,k⟩;refine ⟨G,ρ,_,s,re,h,λb v H1 G1 p1 w1 r1=>?_⟩;obtain ⟨G1',w1',r1'⟩:=r1.give w1;refine ⟨G1',ρ,_,w1'.gh,re.mono w1'.gg,p1,λl H2 G2 p2 w2=>?_⟩;have w12:=w1'.trans w2;refine ⟨G2,ρ,_,w2.gh,re.mono w12.gg,p2,λu H3 G3 p3 w3=>?_⟩;have w13:=w12.trans w3;refine ⟨G3,ρ,_,w3.gh,re.mono w13.gg,p3,λst H4 G4 p4 w4=>?_⟩;have w14:=w13.trans w4;have r3:=r1'.mono ((w2.trans w3).trans w4).gg;obtain ⟨h0,p4⟩:=p4;split at p4
    · rename_i xs e;rw[e] at r3;obtain ⟨a,us,rfl,e,rr⟩:=r3.lst_inv;refine ⟨a,us,rfl,cb.of (w4.gh _ _ e),h0,λp hp=>?_⟩;obtain ⟨w5,r5⟩:=cG w14 hp (vt rr l u st);exact k _ _ _ _ p4 w5 r5
    · rename_i ns e;rw[e] at r3;cases r3 with
      | scr e =>
        refine ⟨_,_,rfl,w4.gh.seq e,h0,λp hp=>?_⟩;rw[vH];obtain ⟨w5,r5⟩:=cG w14 hp (dG (K:=X.K) (cJ ns l u st));exact k _ _ _ _ p4 w5 r5
    · exact p4.elim
noncomputable def uO:D2:=λx y Q=>match x,y with
  | .int i,.int j=>Q (.p (.int (i+j)))
  | .lst xs,.lst ys=>xs.length+ys.length<=sizeLine/\Q (.o (.lst (xs++ys)))
  | .str x,.str y=>x.length+y.length<=sizeLine/\Q (.p (.str (x++y)))
  | .tup xs,.tup ys=>xs≠[]/\ys≠[]/\xs.length+ys.length<=sizeLine/\Q (.p (.tup (xs++ys)))
  | _,_=>False
theorem bF {α β:Type}{F:α->β->Prop}:∀{l l':List α} {r r':List β},Paired F l r->Paired F l' r'->Paired F (l++l') (r++r')
  | _,_,_,_,.nil,h=>h
  | _,_,_,_,.cons h t,h'=>.cons h (bF t h')
theorem aQ:mi X (binaryOp .Add) uO:=by
  refine ⟨_,BQ.or (BR.or (rY.or oK)),λH G x y dx dy P Q s rx ry h k=>?_⟩;unfold uO at h;split at h
  · cases rx;cases ry;exact .inl ⟨_,_,rfl,rfl,k _ _ H G h (Wd.refl s) (.int _)⟩
  · obtain ⟨a,us,rfl,e,rr⟩:=rx.lst_inv;obtain ⟨a',us',rfl,e',rr'⟩:=ry.lst_inv;refine .inr (.inl ⟨a,a',us,us',rfl,rfl,s _ _ e,s _ _ e',by rw[Paired.length rr,Paired.length rr'];exact h.1,λp hp=>?_⟩);obtain ⟨w2,r2⟩:=cG (Wd.refl s) hp (bF rr rr');exact k _ _ _ _ h.2 w2 r2
  · cases rx;cases ry;exact .inr (.inr (.inl ⟨_,_,rfl,rfl,h.1,k _ _ H G h.2 (Wd.refl s) (.str _)⟩))
  · obtain ⟨h1,h2,h3,h4⟩:=h;obtain ⟨a,us,rfl,e,rr⟩:=rx.bL;obtain ⟨a',us',rfl,e',rr'⟩:=ry.bL;refine .inr (.inr (.inr ⟨a,a',us,us',rfl,rfl,ah s e,ah s e',λz=>?_,by rw[Paired.length rr,Paired.length rr'];exact h3,λz=>?_,λ_ p hp=>?_⟩))
    · subst z;cases rr;exact h1 rfl
    · subst z;cases rr';exact (h2 rfl).elim
    · obtain ⟨w2,r2⟩:=iJ (Wd.refl s) hp (bF rr rr');exact k _ _ _ _ h4 w2 r2
  · exact h.elim
noncomputable def Bg:D2:=λx y Q=>match x,y with
  | .int i,.int j=>qY i j/\Q (.p (.int (i*j)))
  | .lst xs,.int k=>(-(2 ^ 63)<=k/\k<2 ^ 63)/\xs.length*k.toNat<=sizeLine/\Q (.o (.lst (List.replicate k.toNat xs).flatten))
  | _,_=>False
theorem qJ {K:Frag}{G:Hp}{vs:List V}{ds:List D}(r:aE K G vs ds):∀n:Nat,aE K G (List.replicate n vs).flatten (List.replicate n ds).flatten
  | 0=>.nil
  | n+1=>by
    rw[List.replicate_succ,List.replicate_succ,List.flatten_cons,List.flatten_cons];exact bF r (qJ r n)
theorem eV:mi X (binaryOp .Mult) Bg:=by
  refine ⟨_,BW.or BZ,λH G x y dx dy P Q s rx ry h k=>?_⟩;unfold Bg at h;split at h
  · cases rx;cases ry;exact .inl ⟨_,_,rfl,rfl,h.1,k _ _ H G h.2 (Wd.refl s) (.int _)⟩
  · cases ry;obtain ⟨a,us,rfl,e,rr⟩:=rx.lst_inv;obtain ⟨⟨h1,h2⟩,h3,h4⟩:=h;refine .inr ⟨a,_,us,rfl,rfl,s _ _ e,h1,h2,by rw[Paired.length rr];exact h3,λp hp=>?_⟩;obtain ⟨w2,r2⟩:=cG (Wd.refl s) hp (qJ rr _);exact k _ _ _ _ h4 w2 r2
  · exact h.elim
end
end DL
namespace DL
open PySem L2
mutual
noncomputable def bh:D->D->Bool
  | .non,.non=>true
  | .bl a,.bl b=>a == b
  | .bl a,.int b=>(if a then 1 else 0) == b
  | .int a,.bl b=>a == (if b then 1 else 0)
  | .int a,.int b=>a == b
  | .str a,.str b=>a == b
  | .tup xs,.tup ys=>gR xs ys
  | .lst xs,.lst ys=>gR xs ys
  | _,_=>false
noncomputable def gR:List D->List D->Bool
  | [],[]=>true
  | x::xs,y::ys=>bh x y && gR xs ys
  | _,_=>false
end
mutual
noncomputable def dep:D->Nat
  | .tup xs=>e9 xs+1
  | .lst xs=>e9 xs+1
  | _=>0
noncomputable def e9:List D->Nat
  | []=>0
  | x::xs=>max (dep x) (e9 xs)
end
mutual
noncomputable def bE:D->Bool
  | .tup xs=>fP xs
  | .lst xs=>fP xs
  | .scr _=>false
  | .dct _=>false
  | _=>true
noncomputable def fP:List D->Bool
  | []=>true
  | x::xs=>bE x && fP xs
end
theorem iB (xs:List D):bE (.tup xs)=fP xs:=by rw[bE]
theorem iA (xs:List D):bE (.lst xs)=fP xs:=by rw[bE]
theorem iz (i:Int):bE (.int i)=true:=by unfold bE;rfl
theorem dg:fP []=true:=by rw[fP]
theorem cN (x:D)(xs:List D):fP (x::xs)=(bE x && fP xs):=by rw[fP]
theorem jT (xs:List D):dep (.tup xs)=e9 xs+1:=by rw[dep]
theorem jS (xs:List D):dep (.lst xs)=e9 xs+1:=by rw[dep]
theorem jR (i:Int):dep (.int i)=0:=by unfold dep;rfl
theorem eP:e9 []=0:=by rw[e9]
theorem dF (x:D)(xs:List D):e9 (x::xs)=max (dep x) (e9 xs):=by rw[e9]
theorem fJ:∀{xs:List D} {i:Nat} {x:D},xs[i]?=some x->dep x<=e9 xs
  | [],_,_,h=>by simp at h
  | y::xs,0,x,h=>by simp at h;subst h;unfold e9;exact Nat.le_max_left _ _
  | y::xs,i+1,x,h=>by
    have:=fJ (xs:=xs) (i:=i) (x:=x) (by simpa using h);unfold e9;exact Nat.le_trans this (Nat.le_max_right _ _)
theorem bx:∀{xs:List D} {i:Nat} {x:D},fP xs=true->xs[i]?=some x->bE x=true
  | [],_,_,_,h=>by simp at h
  | y::xs,0,x,n,h=>by simp at h;subst h;unfold fP at n;exact (Bool.and_eq_true _ _ ▸ n).1
  | y::xs,i+1,x,n,h=>by
    unfold fP at n;exact bx (xs:=xs) (i:=i) (x:=x) (Bool.and_eq_true _ _ ▸ n).2 (by simpa using h)
theorem all_succ (n:Nat)(f:Nat->Bool):(List.range (n+1)).all f=(f 0 && (List.range n).all λi=>f (i+1)):=by
  rw[List.range_succ_eq_map,List.all_cons,List.all_map];rfl
theorem qD:∀(xs ys:List D),gR xs ys=((List.range (min xs.length ys.length)).all (λi=>match xs[i]?,ys[i]? with | some x,some y=>bh x y | _,_=>true) && xs.length == ys.length)
  | [],[]=>by unfold gR;rfl
  | [],y::ys=>by unfold gR;simp
  | x::xs,[]=>by unfold gR;simp
  | x::xs,y::ys=>by
    unfold gR;rw[qD xs ys];have:min (x::xs).length (y::ys).length=min xs.length ys.length+1:=by simp only[length_cons];lia
    rw[this,all_succ];simp only[List.getElem?_cons_zero,List.getElem?_cons_succ,length_cons,Bool.and_assoc];congr 2;simp
noncomputable def gG (xs ys:List D)(i:Nat):Bool:=match xs[i]?,ys[i]? with | some x,some y=>bh x y | _,_=>true
section
variable {X:Cx} {pins:List (Addr×Obj)} {σ:St} {H G:Hp} {s:GU}
theorem items_eqAt {A:Hr}{us us':List GR}{vs vs':List V}{ds ds':List D}(r1:Vals vs us)(r2:Vals vs' us')(k1:aE X.K G vs ds)(k2:aE X.K G vs' ds')
    (ih:∀(i:Nat) (d d':D) (x y:V) (u v:GR),ds[i]?=some d->ds'[i]?=some d'->Rep X.K G x d->Rep X.K G y d'->RelV x u->RelV y v->SeqAt.EqAt A s u v (bh d d')) :
    ∀j (h1:j<us.toArray.size) (h2:j<us'.toArray.size),SeqAt.EqAt A s us.toArray[j] us'.toArray[j] (gG ds ds' j):=λj q1 q2=>by
  have q1':j<us.length:=by simpa using q1
  have q2':j<us'.length:=by simpa using q2
  have l1:=r1.length;have l2:=r2.length;have e1:vs[j]?=some vs[j]:=GV (by lia);have e2:vs'[j]?=some vs'[j]:=GV (by lia);obtain ⟨u1,g1,s1⟩:=r1.get e1;obtain ⟨u2,g2,s2⟩:=r2.get e2;obtain ⟨d1,f1,t1⟩:=WS.gQ k1 e1;obtain ⟨d2,f2,t2⟩:=WS.gQ k2 e2;have z1:us.toArray[j]=u1:=by rw[GV q1'] at g1;simpa using Option.some.inj g1
  have z2:us'.toArray[j]=u2:=by rw[GV q2'] at g2;simpa using Option.some.inj g2
  rw[z1,z2];unfold gG;rw[f1,f2];exact ih j d1 d2 _ _ _ _ f1 f2 t1 t2 s1 s2
theorem iD (xs ys:List D):gR xs ys=((List.range (min xs.length ys.length)).all (gG xs ys) && xs.length == ys.length):=qD xs ys
theorem qE {xs ys:List D}(h:xs.length=ys.length):gR xs ys=(List.range xs.length).all (gG xs ys):=by
  rw[iD,h];simp
theorem lj {xs ys:List D}(h:xs.length≠ys.length):gR xs ys=false:=by
  rw[iD];have:(xs.length == ys.length)=false:=by simpa using h
  rw[this,Bool.and_false]
theorem sz {vs:List V}{us:List GR}{ds:List D}(r:Vals vs us)(k:aE X.K G vs ds):us.toArray.size=ds.length:=by
  rw[Hk,<-r.length,Paired.length k]
mutual
theorem eZ:∀d:D,bE d=true->bh d d=true
  | .non,_=>by unfold bh;rfl
  | .bl a,_=>by unfold bh;simp
  | .int a,_=>by unfold bh;simp
  | .str a,_=>by unfold bh;simp
  | .tup xs,h=>by unfold bh;unfold bE at h;exact dS xs h
  | .lst xs,h=>by unfold bh;unfold bE at h;exact dS xs h
  | .scr _,h=>by unfold bE at h;cases h
  | .dct _,h=>by unfold bE at h;cases h
theorem dS:∀ds:List D,fP ds=true->gR ds ds=true
  | [],_=>by unfold gR;rfl
  | d::ds,h=>by
    unfold fP at h;have h':=Bool.and_eq_true _ _ ▸ h;unfold gR;rw[eZ d h'.1,dS ds h'.2];rfl
end
theorem uu (I:Inv X pins σ H s)(sG:ai G H){x:V}{d:D}(h:Rep X.K G x d):bE d=true->∀{d':D},Rep X.K G x d'->bE d'=true->d=d':=by
  induction h with
  | non=>intro _ d' h _;cases h;rfl
  | bl b=>intro _ d' h _;cases h;rfl
  | int i=>intro _ d' h _;cases h;rfl
  | str z=>intro _ d' h _;cases h;rfl
  | scr _=>intro n;unfold bE at n;cases n
  | dct _=>intro n;unfold bE at n;cases n
  | @tup a vs ds h l r ih =>
    intro n d' h' n';unfold bE at n;cases h' with
    | scr _=>unfold bE at n';cases n'
    | dct _=>unfold bE at n';cases n'
    | lst h2 l2 r2 =>
      obtain ⟨_,_,t1,_⟩:=I.tuple (ah sG (.inl (.inl h)));obtain ⟨_,_,t2,_⟩:=I.list (cb.of (sG _ _ h2));exact absurd rfl (SeqAt.ne_of_list_tuple t2.isList t1)
    | @tup _ _ ds2 h2 l2 r2 =>
      unfold bE at n';have e:=I.nA (ah sG (.inl (.inl h))) (ah sG (.inl (.inl h2)));subst e;congr 1;refine List.ext_getElem? λi=>?_;by_cases hi:i<vs.length
      · rw [GV (show i < _ by lia), GV (show i < _ by lia)];have e1:=GV (l:=ds) (show i<_ by lia);have e2:=GV (l:=ds2) (show i<_ by lia);exact congrArg some (ih i _ _ (GV hi) e1 (bx n e1) (r2 i _ _ (GV hi) e2) (bx n' e2))
      · rw[List.getElem?_eq_none (by lia),List.getElem?_eq_none (by lia)]
  | @lst a vs ds h l r ih =>
    intro n d' h' n';unfold bE at n;cases h' with
    | scr _=>unfold bE at n';cases n'
    | dct _=>unfold bE at n';cases n'
    | tup h2 l2 r2 =>
      obtain ⟨_,_,t1,_⟩:=I.tuple (ah sG (.inl (.inl h2)));obtain ⟨_,_,t2,_⟩:=I.list (cb.of (sG _ _ h));exact absurd rfl (SeqAt.ne_of_list_tuple t2.isList t1)
    | @lst _ _ ds2 h2 l2 r2 =>
      unfold bE at n';rw[h] at h2;cases h2;congr 1;refine List.ext_getElem? λi=>?_;by_cases hi:i<vs.length
      · rw [GV (show i < _ by lia), GV (show i < _ by lia)];have e1:=GV (l:=ds) (show i<_ by lia);have e2:=GV (l:=ds2) (show i<_ by lia);exact congrArg some (ih i _ _ (GV hi) e1 (bx n e1) (r2 i _ _ (GV hi) e2) (bx n' e2))
      · rw[List.getElem?_eq_none (by lia),List.getElem?_eq_none (by lia)]
theorem wO (I:Inv X pins σ H s)(sG:ai G H):∀(n:Nat) (dx dy:D),dep dx<=n->bE dx=true->bE dy=true->∀{x y:V} {u v:GR} {A:Hr},Rep X.K G x dx->Rep X.K G y dy->RelV x u->RelV y v->A.units+n<cLine->SeqAt.EqAt A s u v (bh dx dy):=by
  intro n;induction n with
  | zero =>
    intro dx dy hd n1 n2 x y u v A rx ry ru rv hu;have hu0:A.units<cLine:=hu;cases rx with
    | scr _=>unfold bE at n1;cases n1
    | dct _=>unfold bE at n1;cases n1
    | tup h l r=>unfold dep at hd;lia
    | lst h l r=>unfold dep at hd;lia
    | non =>
      cases ru;cases ry with
      | scr _=>unfold bE at n2;cases n2
      | dct _=>unfold bE at n2;cases n2
      | non=>cases rv;unfold bh;exact SeqAt.EqAt.same _
      | bl b=>cases rv;unfold bh;exact SeqAt.EqAt.none_bool b
      | int i=>obtain ⟨t,rfl⟩:=rv;unfold bh;exact SeqAt.EqAt.none_int i t
      | str z=>obtain ⟨t,rfl⟩:=rv;unfold bh;exact SeqAt.EqAt.none_str z t
      | tup h l r=>cases rv;obtain ⟨is,r1,t1,z1⟩:=I.tuple (ah sG (.inl (.inl h)));unfold bh;exact SeqAt.EqAt.none_tuple t1 hu0
      | lst h l r=>cases rv;obtain ⟨is,r1,t1,z1⟩:=I.list (cb.of (sG _ _ h));unfold bh;exact SeqAt.EqAt.none_list t1.isList hu0
    | bl a =>
      cases ru;cases ry with
      | scr _=>unfold bE at n2;cases n2
      | dct _=>unfold bE at n2;cases n2
      | non=>cases rv;unfold bh;exact SeqAt.EqAt.bool_none a
      | bl b=>cases rv;unfold bh;exact SeqAt.EqAt.bool_bool a b
      | int i=>obtain ⟨t,rfl⟩:=rv;unfold bh;exact SeqAt.EqAt.bool_int a i t
      | str z=>obtain ⟨t,rfl⟩:=rv;unfold bh;exact SeqAt.EqAt.bool_str a z t
      | tup h l r=>cases rv;obtain ⟨is,r1,t1,z1⟩:=I.tuple (ah sG (.inl (.inl h)));unfold bh;exact SeqAt.EqAt.bool_tuple a t1 hu0
      | lst h l r=>cases rv;obtain ⟨is,r1,t1,z1⟩:=I.list (cb.of (sG _ _ h));unfold bh;exact SeqAt.EqAt.bool_list a t1.isList hu0
    | int a =>
      obtain ⟨tt,rfl⟩:=ru;cases ry with
      | scr _=>unfold bE at n2;cases n2
      | dct _=>unfold bE at n2;cases n2
      | non=>cases rv;unfold bh;exact SeqAt.EqAt.int_none a tt
      | bl b=>cases rv;unfold bh;exact SeqAt.EqAt.int_bool a tt b
      | int i=>obtain ⟨t,rfl⟩:=rv;unfold bh;exact SeqAt.EqAt.int_int a tt i t
      | str z=>obtain ⟨t,rfl⟩:=rv;unfold bh;exact SeqAt.EqAt.int_str a tt z t
      | tup h l r=>cases rv;obtain ⟨is,r1,t1,z1⟩:=I.tuple (ah sG (.inl (.inl h)));unfold bh;exact SeqAt.EqAt.int_tuple a tt t1 hu0
      | lst h l r=>cases rv;obtain ⟨is,r1,t1,z1⟩:=I.list (cb.of (sG _ _ h));unfold bh;exact SeqAt.EqAt.int_list a tt t1.isList hu0
    | str a =>
      obtain ⟨tt,rfl⟩:=ru;cases ry with
      | scr _=>unfold bE at n2;cases n2
      | dct _=>unfold bE at n2;cases n2
      | non=>cases rv;unfold bh;exact SeqAt.EqAt.str_none a tt
      | bl b=>cases rv;unfold bh;exact SeqAt.EqAt.str_bool a tt b
      | int i=>obtain ⟨t,rfl⟩:=rv;unfold bh;exact SeqAt.EqAt.str_int a tt i t
      | str z=>obtain ⟨t,rfl⟩:=rv;unfold bh;exact SeqAt.EqAt.str_str a tt z t
      | tup h l r=>cases rv;obtain ⟨is,r1,t1,z1⟩:=I.tuple (ah sG (.inl (.inl h)));unfold bh;exact SeqAt.EqAt.str_tuple a tt t1 hu0
      | lst h l r=>cases rv;obtain ⟨is,r1,t1,z1⟩:=I.list (cb.of (sG _ _ h));unfold bh;exact SeqAt.EqAt.str_list a tt t1.isList hu0
  | succ n ihn =>
    intro dx dy hd n1 n2 x y u v A rx ry ru rv hu;have hu0:A.units<cLine:=by lia
    by_cases hs:dep dx=0
    · exact ihn dx dy (by lia) n1 n2 rx ry ru rv (by lia)
    cases rx with
    | scr _=>unfold bE at n1;cases n1
    | dct _=>unfold bE at n1;cases n1
    | non=>unfold dep at hs;exact absurd rfl hs
    | bl _=>unfold dep at hs;exact absurd rfl hs
    | int _=>unfold dep at hs;exact absurd rfl hs
    | str _=>unfold dep at hs;exact absurd rfl hs
    | @tup a vs ds h l r =>
      cases ru;obtain ⟨is,r1,t1,z1⟩:=I.tuple (ah sG (.inl (.inl h)));cases ry with
      | scr _=>unfold bE at n2;cases n2
      | dct _=>unfold bE at n2;cases n2
      | non=>cases rv;unfold bh;exact SeqAt.EqAt.tuple_none t1 hu0
      | bl b=>cases rv;unfold bh;exact SeqAt.EqAt.tuple_bool b t1 hu0
      | int i=>obtain ⟨t,rfl⟩:=rv;unfold bh;exact SeqAt.EqAt.tuple_int i t t1 hu0
      | str z=>obtain ⟨t,rfl⟩:=rv;unfold bh;exact SeqAt.EqAt.tuple_str z t t1 hu0
      | lst h2 l2 rr2=>cases rv;obtain ⟨is2,r2,t2,z2⟩:=I.list (cb.of (sG _ _ h2));unfold bh;exact SeqAt.EqAt.tuple_list t1 t2.isList hu0
      | @tup a' vs' ds' h2 l2 rr2 =>
        cases rv;obtain ⟨is2,r2,t2,z2⟩:=I.tuple (ah sG (.inl (.inl h2)));unfold bh;unfold dep at hd;unfold bE at n1 n2;have key:=SeqAt.RcAt.tuples (A:=A) (s:=s) (e:=gG ds ds') t1 t2 hu0 (items_eqAt (X:=X) (G:=G) r1 r2 (aq l r) (aq l2 rr2) λi d d' x y u v e1 e2 k1 k2 w1 w2 =>
          ihn d d' (by have:=fJ e1;lia) (bx n1 e1) (bx n2 e2) k1 k2 w1 w2 (by show A.units+1+n<cLine;lia))
        rw[sz r1 (aq l r),sz r2 (aq l2 rr2),<-iD] at key;by_cases hab:a=a'
        · subst hab;have e:ds=ds':=by
            have:=uu I sG (.tup h l r) (by unfold bE;exact n1) (.tup h2 l2 rr2) (by unfold bE;exact n2);injection this
          subst e;rw[dS ds n1];exact SeqAt.EqAt.same _
        · exact SeqAt.EqAt.of_refs hab key
    | @lst a vs ds h l r =>
      cases ru;obtain ⟨is,r1,t1,z1⟩:=I.list (cb.of (sG _ _ h));cases ry with
      | scr _=>unfold bE at n2;cases n2
      | dct _=>unfold bE at n2;cases n2
      | non=>cases rv;unfold bh;exact SeqAt.EqAt.list_none t1.isList hu0
      | bl b=>cases rv;unfold bh;exact SeqAt.EqAt.list_bool b t1.isList hu0
      | int i=>obtain ⟨t,rfl⟩:=rv;unfold bh;exact SeqAt.EqAt.list_int i t t1.isList hu0
      | str z=>obtain ⟨t,rfl⟩:=rv;unfold bh;exact SeqAt.EqAt.list_str z t t1.isList hu0
      | tup h2 l2 rr2=>cases rv;obtain ⟨is2,r2,t2,z2⟩:=I.tuple (ah sG (.inl (.inl h2)));unfold bh;exact SeqAt.EqAt.list_tuple t1.isList t2 hu0
      | @lst a' vs' ds' h2 l2 rr2 =>
        cases rv;obtain ⟨is2,r2,t2,z2⟩:=I.list (cb.of (sG _ _ h2));unfold bh;unfold dep at hd;unfold bE at n1 n2;by_cases hab:a=a'
        · subst hab;have e:ds=ds':=by
            have:=uu I sG (.lst h l r) (by unfold bE;exact n1) (.lst h2 l2 rr2) (by unfold bE;exact n2);injection this
          subst e;rw[dS ds n1];exact SeqAt.EqAt.same _
        · refine SeqAt.EqAt.of_refs hab ?_;by_cases hlen:ds.length=ds'.length
          · have key:=SeqAt.RcAt.lists (A:=A) (s:=s) (e:=gG ds ds') t1.isList t2.isList (by rw[sz r1 (aq l r),sz r2 (aq l2 rr2)];exact hlen) hu0 (items_eqAt (X:=X) (G:=G) r1 r2 (aq l r) (aq l2 rr2) λi d d' x y u v e1 e2 k1 k2 w1 w2 =>
              ihn d d' (by have:=fJ e1;lia) (bx n1 e1) (bx n2 e2) k1 k2 w1 w2 (by show A.units+1+n<cLine;lia))
            rw[sz r1 (aq l r),<-qE hlen] at key;exact key
          · rw[lj hlen];exact SeqAt.RcAt.lists_lengths t1.isList t2.isList (by rw[sz r1 (aq l r),sz r2 (aq l2 rr2)];simpa using hlen) hu0
theorem yb (I:Inv X pins σ H s)(sG:ai G H){dx dy:D}{x y:V}{u v:GR}{A:Hr}(n1:bE dx=true)(n2:bE dy=true)(rx:Rep X.K G x dx)(ry:Rep X.K G y dy)(ru:RelV x u)(rv:RelV y v)(hu:A.units+dep dx<cLine) :
    SeqAt.RcAt A s u v (bh dx dy)/\SeqAt.RcNeAt A s u v (!(bh dx dy)):=by
  have hu0:A.units<cLine:=by lia
  cases rx with
  | scr _=>unfold bE at n1;cases n1
  | dct _=>unfold bE at n1;cases n1
  | non =>
    cases ru;cases ry with
    | scr _=>unfold bE at n2;cases n2
    | dct _=>unfold bE at n2;cases n2
    | non=>cases rv;unfold bh;exact ⟨SeqAt.RcAt.none_none,SeqAt.RcNeAt.none_none⟩
    | bl b=>cases rv;unfold bh;exact ⟨SeqAt.RcAt.none_bool b,SeqAt.RcNeAt.none_bool b⟩
    | int i=>obtain ⟨t,rfl⟩:=rv;unfold bh;exact ⟨SeqAt.RcAt.none_int i t,SeqAt.RcNeAt.none_int i t⟩
    | str z=>obtain ⟨t,rfl⟩:=rv;unfold bh;exact ⟨SeqAt.RcAt.none_str z t,SeqAt.RcNeAt.none_str z t⟩
    | tup h l r=>cases rv;obtain ⟨is,r1,t1,z1⟩:=I.tuple (ah sG (.inl (.inl h)));unfold bh;exact ⟨SeqAt.RcAt.none_tuple t1 hu0,SeqAt.RcNeAt.none_tuple t1 hu0⟩
    | lst h l r=>cases rv;obtain ⟨is,r1,t1,z1⟩:=I.list (cb.of (sG _ _ h));unfold bh;exact ⟨SeqAt.RcAt.none_list t1.isList hu0,SeqAt.RcNeAt.none_list t1.isList hu0⟩
  | bl a =>
    cases ru;cases ry with
    | scr _=>unfold bE at n2;cases n2
    | dct _=>unfold bE at n2;cases n2
    | non=>cases rv;unfold bh;exact ⟨SeqAt.RcAt.bool_none a,SeqAt.RcNeAt.bool_none a⟩
    | bl b=>cases rv;unfold bh;exact ⟨SeqAt.RcAt.bool_bool a b,SeqAt.RcNeAt.bool_bool a b⟩
    | int i=>obtain ⟨t,rfl⟩:=rv;unfold bh;exact ⟨SeqAt.RcAt.bool_int a i t,SeqAt.RcNeAt.bool_int a i t⟩
    | str z=>obtain ⟨t,rfl⟩:=rv;unfold bh;exact ⟨SeqAt.RcAt.bool_str a z t,SeqAt.RcNeAt.bool_str a z t⟩
    | tup h l r=>cases rv;obtain ⟨is,r1,t1,z1⟩:=I.tuple (ah sG (.inl (.inl h)));unfold bh;exact ⟨SeqAt.RcAt.bool_tuple a t1 hu0,SeqAt.RcNeAt.bool_tuple a t1 hu0⟩
    | lst h l r=>cases rv;obtain ⟨is,r1,t1,z1⟩:=I.list (cb.of (sG _ _ h));unfold bh;exact ⟨SeqAt.RcAt.bool_list a t1.isList hu0,SeqAt.RcNeAt.bool_list a t1.isList hu0⟩
  | int a =>
    obtain ⟨tt,rfl⟩:=ru;cases ry with
    | scr _=>unfold bE at n2;cases n2
    | dct _=>unfold bE at n2;cases n2
    | non=>cases rv;unfold bh;exact ⟨SeqAt.RcAt.int_none a tt,SeqAt.RcNeAt.int_none a tt⟩
    | bl b=>cases rv;unfold bh;exact ⟨SeqAt.RcAt.int_bool a tt b,SeqAt.RcNeAt.int_bool a tt b⟩
    | int i=>obtain ⟨t,rfl⟩:=rv;unfold bh;exact ⟨SeqAt.RcAt.int_int a tt i t,SeqAt.RcNeAt.int_int a tt i t⟩
    | str z=>obtain ⟨t,rfl⟩:=rv;unfold bh;exact ⟨SeqAt.RcAt.int_str a tt z t,SeqAt.RcNeAt.int_str a tt z t⟩
    | tup h l r=>cases rv;obtain ⟨is,r1,t1,z1⟩:=I.tuple (ah sG (.inl (.inl h)));unfold bh;exact ⟨SeqAt.RcAt.int_tuple a tt t1 hu0,SeqAt.RcNeAt.int_tuple a tt t1 hu0⟩
    | lst h l r=>cases rv;obtain ⟨is,r1,t1,z1⟩:=I.list (cb.of (sG _ _ h));unfold bh;exact ⟨SeqAt.RcAt.int_list a tt t1.isList hu0,SeqAt.RcNeAt.int_list a tt t1.isList hu0⟩
  | str a =>
    obtain ⟨tt,rfl⟩:=ru;cases ry with
    | scr _=>unfold bE at n2;cases n2
    | dct _=>unfold bE at n2;cases n2
    | non=>cases rv;unfold bh;exact ⟨SeqAt.RcAt.str_none a tt,SeqAt.RcNeAt.str_none a tt⟩
    | bl b=>cases rv;unfold bh;exact ⟨SeqAt.RcAt.str_bool a tt b,SeqAt.RcNeAt.str_bool a tt b⟩
    | int i=>obtain ⟨t,rfl⟩:=rv;unfold bh;exact ⟨SeqAt.RcAt.str_int a tt i t,SeqAt.RcNeAt.str_int a tt i t⟩
    | str z=>obtain ⟨t,rfl⟩:=rv;unfold bh;exact ⟨SeqAt.RcAt.str_str a tt z t,SeqAt.RcNeAt.str_str a tt z t⟩
    | tup h l r=>cases rv;obtain ⟨is,r1,t1,z1⟩:=I.tuple (ah sG (.inl (.inl h)));unfold bh;exact ⟨SeqAt.RcAt.str_tuple a tt t1 hu0,SeqAt.RcNeAt.str_tuple a tt t1 hu0⟩
    | lst h l r=>cases rv;obtain ⟨is,r1,t1,z1⟩:=I.list (cb.of (sG _ _ h));unfold bh;exact ⟨SeqAt.RcAt.str_list a tt t1.isList hu0,SeqAt.RcNeAt.str_list a tt t1.isList hu0⟩
  | @tup a vs ds h l r =>
    cases ru;obtain ⟨is,r1,t1,z1⟩:=I.tuple (ah sG (.inl (.inl h)));cases ry with
    | scr _=>unfold bE at n2;cases n2
    | dct _=>unfold bE at n2;cases n2
    | non=>cases rv;unfold bh;exact ⟨SeqAt.RcAt.tuple_none t1 hu0,SeqAt.RcNeAt.tuple_none t1 hu0⟩
    | bl b=>cases rv;unfold bh;exact ⟨SeqAt.RcAt.tuple_bool b t1 hu0,SeqAt.RcNeAt.tuple_bool b t1 hu0⟩
    | int i=>obtain ⟨t,rfl⟩:=rv;unfold bh;exact ⟨SeqAt.RcAt.tuple_int i t t1 hu0,SeqAt.RcNeAt.tuple_int i t t1 hu0⟩
    | str z=>obtain ⟨t,rfl⟩:=rv;unfold bh;exact ⟨SeqAt.RcAt.tuple_str z t t1 hu0,SeqAt.RcNeAt.tuple_str z t t1 hu0⟩
    | lst h2 l2 rr2=>cases rv;obtain ⟨is2,r2,t2,z2⟩:=I.list (cb.of (sG _ _ h2));unfold bh;exact ⟨SeqAt.RcAt.tuple_list t1 t2.isList hu0,SeqAt.RcNeAt.tuple_list t1 t2.isList hu0⟩
    | @tup a' vs' ds' h2 l2 rr2 =>
      cases rv;obtain ⟨is2,r2,t2,z2⟩:=I.tuple (ah sG (.inl (.inl h2)));unfold bh;unfold dep at hu;unfold bE at n1 n2;have it:=items_eqAt (A:=A.in1) (s:=s) (X:=X) (G:=G) r1 r2 (aq l r) (aq l2 rr2) λi d d' x y u v e1 e2 k1 k2 w1 w2 =>
        wO I sG (e9 ds) d d' (fJ e1) (bx n1 e1) (bx n2 e2) k1 k2 w1 w2 (by show A.units+1+e9 ds<cLine;lia)
      have key:=SeqAt.RcAt.tuples (A:=A) (s:=s) (e:=gG ds ds') t1 t2 hu0 it;have key':=SeqAt.RcNeAt.tuples (A:=A) (s:=s) (e:=gG ds ds') t1 t2 hu0 it;rw[sz r1 (aq l r),sz r2 (aq l2 rr2),<-iD] at key key';exact ⟨key,key'⟩
  | @lst a vs ds h l r =>
    cases ru;obtain ⟨is,r1,t1,z1⟩:=I.list (cb.of (sG _ _ h));cases ry with
    | scr _=>unfold bE at n2;cases n2
    | dct _=>unfold bE at n2;cases n2
    | non=>cases rv;unfold bh;exact ⟨SeqAt.RcAt.list_none t1.isList hu0,SeqAt.RcNeAt.list_none t1.isList hu0⟩
    | bl b=>cases rv;unfold bh;exact ⟨SeqAt.RcAt.list_bool b t1.isList hu0,SeqAt.RcNeAt.list_bool b t1.isList hu0⟩
    | int i=>obtain ⟨t,rfl⟩:=rv;unfold bh;exact ⟨SeqAt.RcAt.list_int i t t1.isList hu0,SeqAt.RcNeAt.list_int i t t1.isList hu0⟩
    | str z=>obtain ⟨t,rfl⟩:=rv;unfold bh;exact ⟨SeqAt.RcAt.list_str z t t1.isList hu0,SeqAt.RcNeAt.list_str z t t1.isList hu0⟩
    | tup h2 l2 rr2=>cases rv;obtain ⟨is2,r2,t2,z2⟩:=I.tuple (ah sG (.inl (.inl h2)));unfold bh;exact ⟨SeqAt.RcAt.list_tuple t1.isList t2 hu0,SeqAt.RcNeAt.list_tuple t1.isList t2 hu0⟩
    | @lst a' vs' ds' h2 l2 rr2 =>
      cases rv;obtain ⟨is2,r2,t2,z2⟩:=I.list (cb.of (sG _ _ h2));unfold bh;unfold dep at hu;unfold bE at n1 n2;by_cases hlen:ds.length=ds'.length
      · have it:=items_eqAt (A:=A.in1) (s:=s) (X:=X) (G:=G) r1 r2 (aq l r) (aq l2 rr2) λi d d' x y u v e1 e2 k1 k2 w1 w2 =>
          wO I sG (e9 ds) d d' (fJ e1) (bx n1 e1) (bx n2 e2) k1 k2 w1 w2 (by show A.units+1+e9 ds<cLine;lia)
        have e0:is.toArray.size=is2.toArray.size:=by rw[sz r1 (aq l r),sz r2 (aq l2 rr2)];exact hlen
        have key:=SeqAt.RcAt.lists (A:=A) (s:=s) (e:=gG ds ds') t1.isList t2.isList e0 hu0 it;have key':=SeqAt.RcNeAt.lists (A:=A) (s:=s) (e:=gG ds ds') t1.isList t2.isList e0 hu0 it;rw[sz r1 (aq l r),<-qE hlen] at key key';exact ⟨key,key'⟩
      · rw[lj hlen];have e0:(is.toArray.size != is2.toArray.size)=true:=by rw[sz r1 (aq l r),sz r2 (aq l2 rr2)];simpa using hlen
        exact ⟨SeqAt.RcAt.lists_lengths t1.isList t2.isList e0 hu0,SeqAt.RcNeAt.lists_lengths t1.isList t2.isList e0 hu0⟩
noncomputable def D8 (K:Frag)(u:Nat)(neg:Bool):R2:=λx y H Q=>∃G dx dy,ai G H/\Rep K G x dx/\Rep K G y dy/\bE dx=true/\bE dy=true/\u+dep dx<cLine/\Q (.bl (if neg then !(bh dx dy) else bh dx dy)) H
theorem BS:gE X (compareOp .Eq) (D8 X.K X.A.units false):=by
  intro pins s σ H x y v u Q I rx ry h;obtain ⟨G,dx,dy,sG,r1,r2,n1,n2,hu,q⟩:=h;exact (yb I sG n1 n2 r1 r2 rx ry hu).1 _ _ _ _ ⟨.bl _,H,I,rfl,q⟩
theorem BX:gE X (compareOp .NotEq) (D8 X.K X.A.units true):=by
  intro pins s σ H x y v u Q I rx ry h;obtain ⟨G,dx,dy,sG,r1,r2,n1,n2,hu,q⟩:=h;exact (yb I sG n1 n2 r1 r2 rx ry hu).2 _ _ _ _ ⟨.bl _,H,I,rfl,q⟩
noncomputable def EB:D2:=λx y Q=>(bE x=true/\bE y=true/\dep x<=60)/\Q (.p (.bl (bh x y)))
noncomputable def Dd:D2:=λx y Q=>(bE x=true/\bE y=true/\dep x<=60)/\Q (.p (.bl (!(bh x y))))
theorem rV {k:Nat}(hr:bQ k X.A):mi X (compareOp .Eq) EB:=
  ⟨_,BS,by rintro H G x y dx dy P Q s rx ry ⟨⟨h1,h2,h3⟩,h4⟩ c;exact ⟨G,dx,dy,s,rx,ry,h1,h2,by have:=hr.units;lia,c _ _ H G h4 (Wd.refl s) (.bl _)⟩⟩
theorem rX {k:Nat}(hr:bQ k X.A):mi X (compareOp .NotEq) Dd:=
  ⟨_,BX,by rintro H G x y dx dy P Q s rx ry ⟨⟨h1,h2,h3⟩,h4⟩ c;exact ⟨G,dx,dy,s,rx,ry,h1,h2,by have:=hr.units;lia,c _ _ H G h4 (Wd.refl s) (.bl _)⟩⟩
end
end DL
namespace DL
open PySem L2
section
variable {X:Cx} {a b c e:Expr} {ta tb tc te:DT} {pos:Pos} {es:List Expr}
theorem zh {K:Frag}{T:String}(h:T = "int" \/ T = "bool" \/ T = "str" \/ T = "tuple" \/ T = "list")(d:D):kitOne K (.type (GN d)) (.type T)=some (EH T d):=by
  rcases h with rfl | rfl | rfl | rfl | rfl<;>cases d<;>rfl
theorem nH:dP X (.builtin "isinstance") (λxs H Q=>∃G x d T,xs = [x,.ty T]/\ai G H/\Rep X.K G x d/\(T = "int" \/ T = "bool" \/ T = "str" \/ T = "tuple" \/ T = "list")/\Q (.bl (EH T d)) H):=by
  intro pins s σ H xs us Q I r h;obtain ⟨G,x,d,T,rfl,sG,rx,hT,q⟩:=h;obtain ⟨u,w',rfl,ru,rw'⟩:=vals2 r;cases (show w'=Value.type T from rw');have e:=zh (K:=X.K) hT d;have fin:∀tk,EP X pins σ Q (.bool (EH T d)) { s with toks:=tk }:=λtk=>⟨.bl _,H,I.tok tk,rfl,q⟩
  cases rx with
  | non=>exact gi I ru .non e fin
  | bl b=>exact gi I ru (.bl b) e fin
  | int i=>exact gi I ru (.int i) e fin
  | str z=>exact gi I ru (.str z) e fin
  | @tup a vs ds h l r =>
    cases ru;obtain ⟨is,r1,⟨o,h1,h2,_⟩,z1⟩:=I.tuple (ah sG (.inl (.inl h)));exact kia_one kitx_tuple I.lU ⟨o,h1,h2⟩ e (λz=>nomatch z) fin
  | @lst a vs ds h l r =>
    cases ru;obtain ⟨is,r1,t1,z1⟩:=I.list (cb.of (sG _ _ h));obtain ⟨o,h1,h2,_⟩:=t1.isList;exact kia_one kitx_list I.lU ⟨o,h1,h2⟩ e (λz=>nomatch z) fin
  | @dct a kvs h =>
    cases ru;obtain ⟨_,_,_,_,o,_,_,h1,h2,_⟩:=Rd.ok (ft sG h) I.bf;exact kia_one kitx_dict I.lU ⟨o,h1,h2.1⟩ e (λz=>nomatch z) fin
  | @scr a ns h =>
    cases ru;obtain ⟨is,r1,t1,z1⟩:=I.list (sG.seq h);obtain ⟨o,h1,h2,_⟩:=t1.isList;exact kia_one kitx_list I.lU ⟨o,h1,h2⟩ e (λz=>nomatch z) fin
noncomputable def Be (T:String)(te:DT):DT:=λρ Q=>te ρ λb=>Q (.p (.bl (EH T b.val)))
theorem nX {T:String}{p:Pos}{e2:Expr}(hT:T = "int" \/ T = "bool" \/ T = "str" \/ T = "tuple" \/ T = "list")(hg:Gl X "isinstance")(hm:X.mg "isinstance" = none)(he:DE X e te)(h2:PE X e2 (tC (.ty T)))
    (hs:autoParam (starEach (e::[e2]) X.env=(false,eval e X.env)::starEach [e2] X.env) aZa._auto_1) (hs2:autoParam (starEach (e2::[]) X.env=(false,eval e2 X.env)::starEach [] X.env) aZa._auto_1) (hpl:autoParam ((backTo pos (starEach [e2] X.env)).any (·.1)=false) aZa._auto_1):DE X (.Call (.Name "isinstance" p) [e,e2] [] pos) (Be T te):=
  DE.of (qC nH hg hm boot_isinstance (eh he.pe (eh h2 jf hs2) hs) (he:=hs) (hpl:=hpl))<|by
    rintro σ H Q ⟨G,ρ,P,s,re,h,k⟩;refine ⟨G,ρ,_,s,re,h,λb v H1 G1 p1 w1 r1=>?_⟩;obtain ⟨G1',w1',r1'⟩:=r1.give w1;exact ⟨G1',v,b.val,T,rfl,w1'.gh,r1',hT,k _ _ H1 G1' p1 w1' (.bl _)⟩
end
inductive Tg where
  | n (i:Nat) | t (is:List Nat)
noncomputable def gP:List Nat->Al
  | []=>Dq
  | i::is=>Av (tX i) (gP is)
noncomputable def Tg.v (K:Frag):Tg->TG
  | .n i=>tX i
  | .t is=>Dr K is.length (gP is)
noncomputable def putN:List Nat->List D->ar->(ar->Prop)->Prop
  | [],[],ρ,P=>P ρ
  | i::is,d::ds,ρ,P=>putN is ds (dput ρ i (.p d)) P
  | _,_,_,_=>False
noncomputable def Tg.d:Tg->D->ar->(ar->Prop)->Prop
  | .n i,d,ρ,P=>P (dput ρ i (.p d))
  | .t is,.tup ds,ρ,P=>putN is ds ρ P
  | .t is,.lst ds,ρ,P=>putN is ds ρ P
  | .t _,_,_,_=>False
noncomputable def Tg.is:Tg->List Nat
  | .n i=>[i]
  | .t is=>is
noncomputable def nE (K:Frag)(H0 G H:Hp)(w:Addr->Nat)(i:Nat)(a:Addr)(t:Bool)(dss:List D):Prop:=∃as:List Addr,as.Nodup/\Paired (λx ds=>H0 x=none/\w x=i/\bM K G H x ds) as dss/\match t with
  | true=>G a=some (.tup (as.map V.ref))
  | false=>H0 a=none/\w a=i/\G a=none/\a∉as/\H a=some (.lst (as.map V.ref))
structure lQ (K:Frag)(H0 G H:Hp)(w:Addr->Nat)(σ:St)(ρ:ar):Prop where
  len:σ.length=ρ.length
  p:∀i d,bp ρ i=some (.p d)->∃v,σ[i]?=some (some v)/\Rep K G v d
  o:∀i d,bp ρ i=some (.o d)->∃a,σ[i]?=some (some (.ref a))/\H0 a=none/\w a=i/\bM K G H a d
  n:∀i t dss,bp ρ i=some (.n t dss)->∃a,σ[i]?=some (some (.ref a))/\nE K H0 G H w i a t dss
noncomputable def aD (K:Frag)(H0 G H:Hp)(σ:St)(ρ:ar):Prop:=∃w,lQ K H0 G H w σ ρ
section
variable {K:Frag} {H0 G H:Hp} {σ:St} {ρ:ar}
theorem aD.p (h:aD K H0 G H σ ρ):∀i d,bp ρ i=some (.p d)->∃v,σ[i]?=some (some v)/\Rep K G v d:=by obtain ⟨w,h⟩:=h;exact h.p
theorem aD.o (h:aD K H0 G H σ ρ):∀i d,bp ρ i=some (.o d)->∃a,σ[i]?=some (some (.ref a))/\H0 a=none/\bM K G H a d:=by
  obtain ⟨w,h⟩:=h;intro i d e;obtain ⟨a,h1,h2,_,h3⟩:=h.o i d e;exact ⟨a,h1,h2,h3⟩
theorem aD.only (l:σ.length=ρ.length)(hp:cK K G σ ρ)(h:∀i b,bp ρ i=some b->∃d,b=.p d):aD K H0 G H σ ρ:=by
  refine ⟨λ_=>0,l,hp,λi d e=>?_,λi t dss e=>?_⟩
  · obtain ⟨_,q⟩:=h i _ e;cases q
  · obtain ⟨_,q⟩:=h i _ e;cases q
end
theorem bM.d8 {K:Frag}{G H G' H':Hp}{a:Addr}{d:D}(h:bM K G H a d)(hg:ai G G')(hn:G' a=none)(hh:∀o,H a=some o->H' a=some o):bM K G' H' a d:=by
  obtain ⟨h1,h2⟩:=h;refine ⟨hn,?_⟩;cases d with
  | lst ds=>obtain ⟨vs,e,r⟩:=h2;exact ⟨vs,hh _ e,aE.mono hg r⟩
  | non=>exact h2
  | bl _=>exact h2
  | int _=>exact h2
  | str _=>exact h2
  | tup _=>exact h2
  | scr _=>exact h2
  | dct kvs=>exact hh _ h2
theorem bM.chg {K:Frag}{G H:Hp}{a:Addr}{d:D}(h:bM K G H a d):AQ H a:=by
  obtain ⟨h1,h2⟩:=h;cases d with
  | lst ds=>obtain ⟨vs,e,r⟩:=h2;exact ⟨_,e,λ_ z=>nomatch z⟩
  | non=>exact h2.elim
  | bl _=>exact h2.elim
  | int _=>exact h2.elim
  | str _=>exact h2.elim
  | tup _=>exact h2.elim
  | scr _=>exact h2.elim
  | dct kvs=>exact ⟨_,h2,λ_ z=>nomatch z⟩
theorem bM.there {K:Frag}{G H:Hp}{a:Addr}{d:D}(h:bM K G H a d):H a≠none:=h.chg.there
theorem eA {α β:Type}{F F':α->β->Prop}{l:List α}{r:List β}(k:∀x d,x∈l->F x d->F' x d)(h:Paired F l r):Paired F' l r:=by
  induction h with
  | nil=>exact .nil
  | cons f _ ih=>exact .cons (k _ _ mem_cons_self f) (ih λx d m=>k x d (Hv _ m))
theorem jx {α β:Type}{F:α->β->Prop}{l:List α}{r:List β}(h:Paired F l r):∀x∈l,∃d,F x d:=by
  induction h with
  | nil=>intro x m;cases m
  | cons f _ ih =>
    intro x m;rcases Hn.mp m with rfl | m
    · exact ⟨_,f⟩
    · exact ih x m
theorem nE.d8 {K:Frag}{H0 G H G' H':Hp}{w w':Addr->Nat}{i:Nat}{a:Addr}{t:Bool}{dss:List D}(h:nE K H0 G H w i a t dss)(hg:ai G G')(hn:∀x,H0 x=.none->w x=i->G x=.none->AQ H x->G' x=.none/\w' x=i/\∀o,H x=some o->H' x=some o):nE K H0 G' H' w' i a t dss:=by
  obtain ⟨as,nd,pr,e⟩:=h;have pr':=eA (F':=λx ds=>H0 x=none/\w' x=i/\bM K G' H' x ds) ( by
    rintro x d m ⟨h1,h2,h3⟩;obtain ⟨k1,k2,k3⟩:=hn x h1 h2 h3.1 h3.chg;exact ⟨h1,k2,h3.d8 hg k1 k3⟩) pr
  refine ⟨as,nd,pr',?_⟩
  · cases t with
    | true=>exact hg _ _ e
    | false =>
      obtain ⟨e1,e2,e3,e4,e5⟩:=e;obtain ⟨k1,k2,k3⟩:=hn a e1 e2 e3 ⟨_,e5,λ_ z=>nomatch z⟩;exact ⟨e1,k2,k1,e4,k3 _ e5⟩
theorem lQ.on {K:Frag}{H0 G H G' H':Hp}{o:Addr->Nat}{σ:St}{ρ:ar}(h:lQ K H0 G H o σ ρ)(w:Wd H G H' G'):lQ K H0 G' H' o σ ρ:=
  ⟨h.len,λi d e=>by obtain ⟨v,h1,h2⟩:=h.p i d e;exact ⟨v,h1,h2.mono w.gg⟩,λi d e=>by
    obtain ⟨a,h1,h2,h2',h3⟩:=h.o i d e;exact ⟨a,h1,h2,h2',h3.d8 w.gg (by rw[w.old a h3.chg];exact h3.1) λo q=>w.hh _ _ q⟩,λi t dss e=>by
    obtain ⟨a,h1,h2⟩:=h.n i t dss e;exact ⟨a,h1,h2.d8 w.gg λx k1 k2 k3 k4=>⟨by rw[w.old x k4];exact k3,k2,λo q=>w.hh _ _ q⟩⟩⟩
theorem aD.on {K:Frag}{H0 G H G' H':Hp}{σ:St}{ρ:ar}(h:aD K H0 G H σ ρ)(w:Wd H G H' G'):aD K H0 G' H' σ ρ:=by
  obtain ⟨o,h⟩:=h;exact ⟨o,h.on w⟩
theorem aT {σ:St}{i j:Nat}{v:V}(h:i≠j):(σ.set i (some v))[j]?=σ[j]?:=by rw[List.getElem?_set_ne h]
theorem iH {σ:St}{i:Nat}{v:V}(h:i<σ.length):(σ.set i (some v))[i]?=some (some v):=by rw[List.getElem?_set_self h]
theorem aD.sj {K:Frag}{H0 G H:Hp}{σ:St}{ρ:ar}{v:V}{d:D}(h:aD K H0 G H σ ρ)(i:Nat)(r:Rep K G v d):aD K H0 G H (σ.set i (some v)) (dput ρ i (.p d)):=by
  obtain ⟨o,h⟩:=h;refine ⟨o,by rw[length_set,dR];exact h.len,λj d' e=>?_,λj d' e=>?_,λj t dss e=>?_⟩
  · rcases aK e with ⟨rfl,hl,e⟩ | ⟨hne,e⟩
    · cases e;exact ⟨v,iH (by rw[h.len];exact hl),r⟩
    · obtain ⟨w,h1,h2⟩:=h.p j d' e;exact ⟨w,by rw[aT hne];exact h1,h2⟩
  · rcases aK e with ⟨rfl,hl,e⟩ | ⟨hne,e⟩
    · cases e
    · obtain ⟨a,h1,h2⟩:=h.o j d' e;exact ⟨a,by rw[aT hne];exact h1,h2⟩
  · rcases aK e with ⟨rfl,hl,e⟩ | ⟨hne,e⟩
    · cases e
    · obtain ⟨a,h1,h2⟩:=h.n j t dss e;exact ⟨a,by rw[aT hne];exact h1,h2⟩
theorem lQ.A2 {K:Frag}{H0 G H:Hp}{o:Addr->Nat}{σ:St}{ρ:ar}(h:lQ K H0 G H o σ ρ){o':Addr->Nat}(q:∀x,H x≠.none->o' x=o x):lQ K H0 G H o' σ ρ:=
  ⟨h.len,h.p,λj d e=>by
    obtain ⟨a,h1,h2,h3,h4⟩:=h.o j d e;exact ⟨a,h1,h2,by rw[q a h4.there];exact h3,h4⟩,λj t dss e=>by
    obtain ⟨a,h1,h2⟩:=h.n j t dss e;exact ⟨a,h1,h2.d8 (ai.refl _) λx k1 k2 k3 k4=>⟨k3,by rw[q x k4.there];exact k2,λo q=>q⟩⟩⟩
theorem aD.FA {K:Frag}{H0 G H G' H':Hp}{σ:St}{ρ:ar}{a:Addr}{d:D}(h:aD K H0 G H σ ρ)(w:Wd H G H' G')(i:Nat)(h0:H0 a=none)(hn:H a=none)(r:bM K G' H' a d):aD K H0 G' H' (σ.set i (some (.ref a))) (dput ρ i (.o d)):=by
  obtain ⟨o,h⟩:=h;have h2:=(h.A2 (o':=λx=>if x=a then i else o x) λx q=>if_neg λe:x=a=>q (e ▸ hn)).on w;refine ⟨λx=>if x=a then i else o x,by rw[length_set,dR];exact h.len,λj d' e=>?_,λj d' e=>?_,λj t dss e=>?_⟩
  · rcases aK e with ⟨rfl,hl,e⟩ | ⟨hne,e⟩
    · cases e
    · obtain ⟨w,h1,h2⟩:=h2.p j d' e;exact ⟨w,by rw[aT hne];exact h1,h2⟩
  · rcases aK e with ⟨rfl,hl,e⟩ | ⟨hne,e⟩
    · cases e;exact ⟨a,iH (by rw[h.len];exact hl),h0,if_pos rfl,r⟩
    · obtain ⟨b,h1,h2⟩:=h2.o j d' e;exact ⟨b,by rw[aT hne];exact h1,h2⟩
  · rcases aK e with ⟨rfl,hl,e⟩ | ⟨hne,e⟩
    · cases e
    · obtain ⟨b,h1,h2⟩:=h2.n j t dss e;exact ⟨b,by rw[aT hne];exact h1,h2⟩
theorem aD.D5 {K:Frag}{H0 G H G' H':Hp}{σ:St}{ρ:ar}{a:Addr}{as:List Addr}{ds:List D}(h:aD K H0 G H σ ρ)(w:Wd H G H' G')(hh:ai H0 H)(i:Nat)(q:G' a=some (.tup (as.map V.ref)))(nd:as.Nodup)(pr:Paired (λx d=>H x=none/\bM K G' H' x d) as ds):aD K H0 G' H' (σ.set i (some (.ref a))) (dput ρ i (.n true ds)):=by
  obtain ⟨o,h⟩:=h;have h2:=(h.A2 (o':=λx=>if x∈as then i else o x) λx z=>if_neg λm=>by
    obtain ⟨_,k,_⟩:=jx pr x m;exact z k).on w
  refine ⟨λx=>if x∈as then i else o x,by rw[length_set,dR];exact h.len,λj d' e=>?_,λj d' e=>?_,λj t dss e=>?_⟩
  · rcases aK e with ⟨rfl,hl,e⟩ | ⟨hne,e⟩
    · cases e
    · obtain ⟨w,h1,h2⟩:=h2.p j d' e;exact ⟨w,by rw[aT hne];exact h1,h2⟩
  · rcases aK e with ⟨rfl,hl,e⟩ | ⟨hne,e⟩
    · cases e
    · obtain ⟨b,h1,h2⟩:=h2.o j d' e;exact ⟨b,by rw[aT hne];exact h1,h2⟩
  · rcases aK e with ⟨rfl,hl,e⟩ | ⟨hne,e⟩
    · cases e;exact ⟨a,iH (by rw[h.len];exact hl),as,nd,eA (λx d m z=>⟨hh.free z.1,if_pos m,z.2⟩) pr,q⟩
    · obtain ⟨b,h1,h2⟩:=h2.n j t dss e;exact ⟨b,by rw[aT hne];exact h1,h2⟩
theorem aD.D4 {K:Frag}{H0 G H G' H':Hp}{σ:St}{ρ:ar}{a:Addr}{as:List Addr}{ds:List D}(h:aD K H0 G H σ ρ)(w:Wd H G H' G')(hh:ai H0 H)(i:Nat)(hn:H a=none)(ga:G' a=none)(q:H' a=some (.lst (as.map V.ref)))(na:a∉as)(nd:as.Nodup)(pr:Paired (λx d=>H x=none/\bM K G' H' x d) as ds):aD K H0 G' H' (σ.set i (some (.ref a))) (dput ρ i (.n false ds)):=by
  obtain ⟨o,h⟩:=h;have h2:=(h.A2 (o':=λx=>if x=a\/x∈as then i else o x) λx z=>if_neg λm=>by
    rcases m with rfl | m
    · exact z hn
    · obtain ⟨_,k,_⟩:=jx pr x m;exact z k).on w
  refine ⟨λx=>if x=a\/x∈as then i else o x,by rw[length_set,dR];exact h.len,λj d' e=>?_,λj d' e=>?_,λj t dss e=>?_⟩
  · rcases aK e with ⟨rfl,hl,e⟩ | ⟨hne,e⟩
    · cases e
    · obtain ⟨w,h1,h2⟩:=h2.p j d' e;exact ⟨w,by rw[aT hne];exact h1,h2⟩
  · rcases aK e with ⟨rfl,hl,e⟩ | ⟨hne,e⟩
    · cases e
    · obtain ⟨b,h1,h2⟩:=h2.o j d' e;exact ⟨b,by rw[aT hne];exact h1,h2⟩
  · rcases aK e with ⟨rfl,hl,e⟩ | ⟨hne,e⟩
    · cases e;exact ⟨a,iH (by rw[h.len];exact hl),as,nd,eA (λx d m z=>⟨hh.free z.1,if_pos (.inr m),z.2⟩) pr,hh.free hn,if_pos (.inl rfl),ga,na,q⟩
    · obtain ⟨b,h1,h2⟩:=h2.n j t dss e;exact ⟨b,by rw[aT hne];exact h1,h2⟩
theorem oP {K:Frag}{H0 G H:Hp}:∀{is:List Nat} {ds:List D} {vs:List V} {σ:St} {ρ:ar} {P:ar->Prop} {Q:St->Hp->Prop},aD K H0 G H σ ρ->aE K G vs ds->putN is ds ρ P->(∀σ' ρ',aD K H0 G H σ' ρ'->P ρ'->Q σ' H)->gP is vs σ H Q
  | [],[],_,σ,ρ,P,Q,h,r,p,k=>by cases r;exact ⟨rfl,k _ _ h p⟩
  | i::is,d::ds,_,σ,ρ,P,Q,h,r,p,k=>by
    cases r with
    | cons r rr=>exact ⟨_,_,rfl,oP (h.sj i r) rr p k⟩
  | [],_::_,_,_,_,_,_,_,_,p,_=>p.elim
  | _::_,[],_,_,_,_,_,_,_,p,_=>p.elim
theorem lz:∀{is:List Nat} {ds:List D} {ρ:ar} {P:ar->Prop},putN is ds ρ P->is.length=ds.length
  | [],[],_,_,_=>rfl
  | _::is,_::ds,ρ,P,p=>by rw[length_cons,length_cons,lz (is:=is) p]
  | [],_::_,_,_,p=>p.elim
  | _::_,[],_,_,p=>p.elim
theorem Tg.ok {K:Frag}{H0 G H:Hp}{g:Tg}{d:D}{v:V}{σ:St}{ρ:ar}{P:ar->Prop}{Q:St->Hp->Prop}(s:ai G H)(h:aD K H0 G H σ ρ)(r:Rep K G v d)(p:g.d d ρ P)(k:∀σ' ρ',aD K H0 G H σ' ρ'->P ρ'->Q σ' H):g.v K v σ H Q:=by
  cases g with
  | n i=>exact k _ _ (h.sj i r) p
  | t is =>
    cases d with
    | tup ds =>
      obtain ⟨a,vs,rfl,e,rr⟩:=r.bL;exact ⟨a,vs,rfl,.inl (ah s e),by rw[Paired.length rr];exact (lz p).symm,oP h rr p k⟩
    | lst ds =>
      obtain ⟨a,vs,rfl,e,rr⟩:=r.lst_inv;exact ⟨a,vs,rfl,.inr (cb.of (s _ _ e)),by rw[Paired.length rr];exact (lz p).symm,oP h rr p k⟩
    | non=>exact p.elim
    | bl _=>exact p.elim
    | int _=>exact p.elim
    | str _=>exact p.elim
    | scr _=>exact p.elim
    | dct _=>exact p.elim
structure AV (K:Frag)(G0:Hp)(J:It)(xs:List D):Prop where
  go:∀i d H G,xs[i]?=some d->ai G0 G->ai G H->J.go i H
  vQ:∀i d H G x H',xs[i]?=some d->ai G0 G->ai G H->J.vQ i H x H'->∃G',Wd H G H' G'/\Rep K G' x d
  stop:∀i H G,i=xs.length->ai G0 G->ai G H->J.stop i H
noncomputable def cI (K:Frag)(t:dj):TI:=λσ H R=>∃(G:Hp) (ρ:ar) (P:List D->Prop),ai G H/\cK K G σ ρ/\t ρ P/\∀xs J H' G',P xs->Wd H G H' G'->AV K G' J xs->R J H'
structure DI (X:Cx)(tg e:Expr)(t:dj):Prop where
  pi:PI X tg e (cI X.K t)
theorem PI.imp {X:Cx}{tg e:Expr}{t t':TI}(h:PI X tg e t)(i:∀σ H Q,t' σ H Q->t σ H Q):PI X tg e t':=λpins s σ H Q I q=>h pins s σ H Q I (i σ H Q q)
theorem DI.of {X:Cx}{tg e:Expr}{t:TI}{t':dj}(h:PI X tg e t)(i:∀σ H Q,cI X.K t' σ H Q->t σ H Q):DI X tg e t':=⟨PI.imp h i⟩
section
variable {X:Cx} {tg e:Expr} {te:DT} {pos:Pos}
theorem qb {K:Frag}{G:Hp}{a:Addr}{vs:List V}{ds:List D}(h:cb K G a vs)(r:aE K G vs ds):AV K G (EU K a) ds where
  go:=λi d H G' e s1 s2=>by
    obtain ⟨v,h1,h2⟩:=aB r e;exact ⟨vs,v,(s1.trans s2).seq h,h1⟩
  vQ:= by
    rintro i d H G' x H' e s1 s2 ⟨eH,y⟩;obtain ⟨v,h1,h2⟩:=aB r e;have:=y vs ((s1.trans s2).seq h);rw[h1] at this;cases this;subst eH;exact ⟨G',Wd.refl s2,h2.mono s1⟩
  stop:=λi H G' hi s1 s2=>⟨vs,(s1.trans s2).seq h,by rw[Paired.length r,hi];exact GW _⟩
theorem zc {K:Frag}{G:Hp}{a:Addr}{vs:List V}{ds:List D}(h:fA K G a vs)(r:aE K G vs ds):AV K G (EV K a) ds where
  go:=λi d H G' e s1 s2=>by
    obtain ⟨v,h1,h2⟩:=aB r e;exact ⟨vs,v,ah (s1.trans s2) h,h1⟩
  vQ:= by
    rintro i d H G' x H' e s1 s2 ⟨eH,y⟩;obtain ⟨v,h1,h2⟩:=aB r e;have:=y vs (ah (s1.trans s2) h);rw[h1] at this;cases this;subst eH;exact ⟨G',Wd.refl s2,h2.mono s1⟩
  stop:=λi H G' hi s1 s2=>⟨vs,ah (s1.trans s2) h,by rw[Paired.length r,hi];exact GW _⟩
noncomputable def wH (te:DT):dj:=λρ P=>te ρ λb=>match b.val with
  | .lst xs=>P xs
  | .scr ns=>P (ns.map D.int)
  | _=>False
theorem cC (he:DE X e te):DI X tg e (wH te):=DI.of (uh he.pe)<|by
  rintro σ H R ⟨G,ρ,P,s,re,h,k⟩;refine ⟨G,ρ,_,s,re,h,λb v H1 G1 p1 w1 r1=>?_⟩;obtain ⟨G1',w1',r1'⟩:=r1.give w1;split at p1
  · rename_i xs e;rw[e] at r1';obtain ⟨a,us,rfl,e,rr⟩:=r1'.lst_inv;exact ⟨a,rfl,⟨us,cb.of (w1'.gh _ _ e)⟩,k _ _ H1 G1' p1 w1' (qb (cb.of e) rr)⟩
  · rename_i ns e;rw[e] at r1';cases r1' with
    | scr e=>exact ⟨_,rfl,⟨_,w1'.gh.seq e⟩,k _ _ H1 G1' p1 w1' (qb e (dG ns))⟩
  · exact p1.elim
noncomputable def wI (te:DT):dj:=λρ P=>te ρ λb=>match b.val with
  | .tup xs=>P xs
  | _=>False
theorem Bo (he:DE X e te):DI X tg e (wI te):=DI.of (Cc he.pe)<|by
  rintro σ H R ⟨G,ρ,P,s,re,h,k⟩;refine ⟨G,ρ,_,s,re,h,λb v H1 G1 p1 w1 r1=>?_⟩;obtain ⟨G1',w1',r1'⟩:=r1.give w1;split at p1
  · rename_i xs e;rw[e] at r1';obtain ⟨a,us,rfl,e,rr⟩:=r1'.bL;exact ⟨a,rfl,⟨us,ah w1'.gh e⟩,k _ _ H1 G1' p1 w1' (zc e rr)⟩
  · exact p1.elim
noncomputable def gZ (lo:Int)(n:Nat):List D:=(List.range n).map λi=>D.int (lo+(i:Nat))
theorem cW {lo:Int}{n i:Nat}{d:D}(h:(gZ lo n)[i]?=some d):i<n/\d=.int (lo+(i:Nat)):=by
  unfold gZ at h;rw[Hw] at h;by_cases hi:i<n
  · rw[List.getElem?_range hi] at h;exact ⟨hi,(Option.some.inj h).symm⟩
  · rw [List.getElem?_eq_none (by simpa using hi)] at h;cases h
theorem d7 (lo:Int)(n:Nat):(gZ lo n).length=n:=by unfold gZ;simp
theorem t5 {K:Frag}{G:Hp}{lo:Int}{n:Nat}:AV K G (CQ lo n) (gZ lo n) where
  go:=λi d H G' e s1 s2=>(cW e).1
  vQ:= by
    rintro i d H G' x H' e s1 s2 ⟨eH,y⟩;obtain ⟨h1,rfl⟩:=cW e;subst eH;subst y;exact ⟨G',Wd.refl s2,.int _⟩
  stop:=λi H G' hi s1 s2=>by rw[d7] at hi;rw[hi];exact GW n
noncomputable def rA (t:dj):dj:=λρ P=>t ρ λds=>match ds with
  | [.int j]=>(-(2 ^ 62)<=j/\j<2 ^ 62)/\P (gZ 0 j.toNat)
  | _=>False
noncomputable def rB (t:dj):dj:=λρ P=>t ρ λds=>match ds with
  | [.int i,.int j]=>(-(2 ^ 62)<=i/\i<2 ^ 62/\-(2 ^ 62)<=j/\j<2 ^ 62)/\P (gZ i (j - i).toNat)
  | _=>False
end
noncomputable def qW (fr:List (Option Nat))(ρ:ar):ar:=fr.map λo=>match o with
  | none=>none
  | some j=>bp ρ j
theorem n4:∀(ρ:ar) (i:Nat),bp ρ i=(ρ[i]?).getD none
  | [],_=>by simp[bp]
  | _::_,0=>by simp[bp]
  | _::r,i+1=>by simp[bp,n4 r i]
theorem tV {fr:List (Option Nat)}{ρ:ar}{i:Nat}{b:B}(h:bp (qW fr ρ) i=some b):∃j,fr[i]?=some (some j)/\bp ρ j=some b:=by
  rw[n4] at h;unfold qW at h;rw[Hw] at h;cases e:fr[i]? with
  | none=>rw[e] at h;cases h
  | some o =>
    rw[e] at h;cases o with
    | none=>cases h
    | some j=>exact ⟨j,rfl,h⟩
theorem y3 {fr:List (Option Nat)}{σ:St}{i j:Nat}{v:V}(h1:fr[i]?=some (some j))(h2:σ[j]?=some (some v)):(jG fr σ)[i]?=some (some v):=by
  unfold jG;rw[Hw,h1];show some ((σ[j]?).getD none)=_;rw[h2];rfl
noncomputable def dr (ρ:ar):ar:=ρ.map λo=>match o with
  | some (.p d)=>some (.p d)
  | _=>none
theorem je {ρ:ar}{i:Nat}{b:B}(h:bp (dr ρ) i=some b):∃d,b=.p d/\bp ρ i=some (.p d):=by
  rw[n4] at h ⊢;unfold dr at h;rw[Hw] at h;cases e:ρ[i]? with
  | none=>rw[e] at h;cases h
  | some o =>
    rw[e] at h;cases o with
    | none=>cases h
    | some b' =>
      cases b' with
      | p d=>exact ⟨d,(Option.some.inj h).symm,rfl⟩
      | o d=>cases h
      | n _ _=>cases h
noncomputable def BG (xs:List D)(g:Tg)(tc:fD)(te:DT)(ρ:ar)(Q:B->Prop):Prop:=xs.length<=sizeLine/\∃F:D->Option D->Prop,
  (∀x∈xs,g.d x ρ λρ'=>tc ρ' λc=>(c=true->te ρ' λb=>F x (some b.val))/\(c=false->F x none))/\∀os,Paired F xs os->Q (.o (.lst (os.filterMap id)))
noncomputable def Dc (ti:dj)(fr:List (Option Nat))(g:Tg)(tc:fD)(te:DT):DT:=λρ Q=>ti ρ λxs=>BG xs g tc te (dr (qW fr ρ)) Q
noncomputable def h9:fD:=λ_ P=>P true
theorem eW {α β:Type}{F:α->β->Prop}{xs:List α}{os:List β}{i:Nat}{x:α}{o:β}(h:Paired F (xs.take i) os)(e:xs[i]?=some x)(f:F x o):Paired F (xs.take (i+1)) (os++[o]):=by
  rw[WS.take_snoc e];exact Paired.snoc h f
noncomputable def CB (fr:List (Option Nat))(g:Tg):Bool:=g.is.all λi=>match fr[i]? with
  | some none=>true
  | _=>false
theorem ni {K:Frag}{G H:Hp}{ρ0:ar}:∀{is:List Nat} {vs:List V} {σ:St} {Q:St->Hp->Prop},(∀i∈is,bp ρ0 i=none)->cK K G σ ρ0->σ.length=ρ0.length->gP is vs σ H Q->gP is vs σ H λσ' H'=>Q σ' H'/\H'=H/\cK K G σ' ρ0/\σ'.length=ρ0.length
  | [],_,σ,Q,_,h,l,⟨e,q⟩=>⟨e,q,rfl,h,l⟩
  | i::is,_,σ,Q,hn,h,l,⟨v,r,e,q⟩=>by
    refine ⟨v,r,e,ni (is:=is) (λj hj=>hn j (Hv _ hj)) (λj d hd=>?_) (by rw[length_set];exact l) q⟩;have hne:i≠j:=by
      rintro rfl;rw[hn i mem_cons_self] at hd;cases hd
    obtain ⟨w,h1,h2⟩:=h j d hd;exact ⟨w,by rw[aT hne];exact h1,h2⟩
theorem Ad {K:Frag}{G H:Hp}{ρ0:ar}{g:Tg}{v:V}{σ:St}{Q:St->Hp->Prop}(hn:∀i∈g.is,bp ρ0 i=none)(h:cK K G σ ρ0)(l:σ.length=ρ0.length)(q:g.v K v σ H Q):g.v K v σ H λσ' H'=>Q σ' H'/\H'=H/\cK K G σ' ρ0/\σ'.length=ρ0.length:=by
  cases g with
  | n i =>
    refine ⟨q,rfl,λj d hd=>?_,by rw[length_set];exact l⟩;have hne:i≠j:=by
      rintro rfl;rw[hn i (mem_singleton.mpr rfl)] at hd;cases hd
    obtain ⟨w,h1,h2⟩:=h j d hd;exact ⟨w,by rw[aT hne];exact h1,h2⟩
  | t is =>
    obtain ⟨a,xs,e,h1,h2,q⟩:=q;exact ⟨a,xs,e,h1,h2,ni hn h l q⟩
structure yt (X:Cx)(ifs:List Expr)(t:fD):Prop where
  pf:qZ X ifs (cT X.K t)
theorem kC {X:Cx}:yt X [] h9:=⟨by rintro pins s σ H Q I ⟨G,ρ,P,sg,re,h,k⟩;exact xS pins s σ H Q I (k true H G h (Wd.refl sg))⟩
theorem fK {X:Cx}{c:Expr}{t:fD}(h:o7 X c t):yt X [c] t:=⟨xT h.pt⟩
theorem t7 {K:Frag}{ti:dj}{fr:List (Option Nat)}{g:Tg}{tc:fD}{te:DT}(ht:CB fr g=true)(σ:St)(H:Hp)(Q:VK):cE K (Dc ti fr g tc te) σ H Q->FQ (cI K ti) fr (g.v K) (cT K tc) (cE K te) σ H Q:=by
  rintro ⟨G,ρ,P,s,re,h,k⟩;refine ⟨G,ρ,_,s,re,h,λxs J H1 G1 p1 w1 it D hD=>?_⟩;obtain ⟨hz,F,hF,hP⟩:=p1;have hn:∀i∈g.is,bp (dr (qW fr ρ)) i=none:=λi hi=>by
    cases e:bp (dr (qW fr ρ)) i with
    | none=>rfl
    | some b =>
      obtain ⟨d,rfl,e'⟩:=je e;obtain ⟨j,h1,_⟩:=tV e';have:=List.all_eq_true.mp ht i hi;rw[h1] at this;cases this
  have len0:(dr (qW fr ρ)).length=fr.length:=by unfold dr qW;simp
  have fn0:(jG fr σ).length=fr.length:=by unfold jG;simp
  have rep0:cK K G1 (jG fr σ) (dr (qW fr ρ)):=λi d e=>by
    obtain ⟨d',e1,e2⟩:=je e;cases e1;obtain ⟨j,h1,h2⟩:=tV e2;obtain ⟨v,h3,h4⟩:=re j d h2;exact ⟨v,y3 h1 h3,h4.mono w1.gg⟩
  have gD:G1 D=none:=w1.gh.free hD;refine ⟨λi m ys σ' H'=>m=xs.length - i/\i<=xs.length/\∃G' os,Wd H1 G1 H' G'/\G' D=none/\H' D=some (.lst ys)/\ys.length<=i/\Paired F (xs.take i) os/\aE K G' ys (os.filterMap id)/\cK K G' σ' (dr (qW fr ρ))/\σ'.length=(dr (qW fr ρ)).length,⟨xs.length,by simp,Nat.zero_le _,G1,[],(Wd.refl w1.gh).own hD gD,gD,ay,GW _,by rw[List.take_zero];exact .nil,.nil,rep0,by rw[fn0,len0]⟩,?_⟩;rintro i m ys σ' H' ⟨rfl,hi,G',os,w',gD',hD',hy,hos,hr,re',ln'⟩;by_cases hlt:i<xs.length
  · have hx:xs[i]?=some xs[i]:=GV hlt;refine .inr ⟨it.go i _ H' G' hx w'.gg w'.gh,λys' σ2 H2=>∃G2 os',Wd H1 G1 H2 G2/\G2 D=none/\H2 D=some (.lst ys')/\ys'.length<=i+1/\Paired F (xs.take (i+1)) os'/\aE K G2 ys' (os'.filterMap id)/\cK K G2 σ2 (dr (qW fr ρ))/\σ2.length=(dr (qW fr ρ)).length,by rintro ys' σ2 H2 ⟨G2,os',z⟩;exact ⟨xs.length - (i+1),by lia,rfl,hlt,G2,os',z⟩,λx H2 y=>?_⟩;obtain ⟨G2,w2,r2⟩:=it.vQ i _ H' G' x H2 hx w'.gg w'.gh y;have e2:aD K H2 G2 H2 σ' (dr (qW fr ρ)):=aD.only ln' (re'.mono w2.gg) λj b e=>by
        obtain ⟨d',e1,_⟩:=je e;exact ⟨d',e1⟩
    have re2:cK K G2 σ' (dr (qW fr ρ)):=e2.p;have w12:=w'.trans w2;have hD2:H2 D=some (.lst ys):=w2.hh _ _ hD';have gD2:G2 D=none:=by rw[w2.old D ⟨_,hD',λ_ z=>nomatch z⟩];exact gD'
    refine (?_:g.v K x σ' H2 _);refine tgv_mono (Ad hn re2 ln' (Tg.ok w2.gh e2 r2 (hF _ (List.getElem_mem hlt)) (Q:=λσ3 H3=>H3=H2/\∃ρ3,aD K H2 G2 H2 σ3 ρ3/\tc ρ3 λc=>(c=true->te ρ3 λb=>F xs[i] (some b.val))/\(c=false->F xs[i] none)) λσ3 ρ3 e3 p3=>⟨rfl,ρ3,e3,p3⟩)) ?_;rintro σ3 H3 ⟨⟨rfl,ρ3,e3,p3⟩,_,re3,ln3⟩;refine ⟨G2,ρ3,_,w2.gh,e3.p,p3,λc H4 G4 p4 w4=>?_⟩;have hD4:H4 D=some (.lst ys):=w4.hh _ _ hD2;have gD4:G4 D=none:=by rw[w4.old D ⟨_,hD2,λ_ z=>nomatch z⟩];exact gD2
    cases c with
    | true =>
      refine rN ⟨G4,ρ3,_,w4.gh,cK.mono w4.gg e3.p,p4.1 rfl,λb v H5 G5 p5 w5 r5=>?_⟩;obtain ⟨G5',w5',r5'⟩:=r5.give w5;have hD5:H5 D=some (.lst ys):=w5.hh _ _ hD4;have gD5:G5' D=none:=by rw[w5'.old D ⟨_,hD4,λ_ z=>nomatch z⟩];exact gD4
      have w15:=(w12.trans w4).trans w5';refine ⟨hD5,by have:sizeLine=16777216:=sizeLine_eq;lia,G5',os++[some b.val],w15.own hD gD5,gD5,ay,by rw[Hu,List.length_singleton];lia,eW hos hx p5,?_,cK.mono (w4.trans w5').gg re3,ln3⟩;rw[List.filterMap_append];exact bF (aE.mono ((w2.trans w4).trans w5').gg hr) (.cons r5' .nil)
    | false =>
      refine qc ⟨G4,os++[none],w12.trans w4,gD4,hD4,by lia,eW hos hx (p4.2 rfl),?_,cK.mono w4.gg re3,ln3⟩;rw[List.filterMap_append,show List.filterMap id [(none:Option DL.D)] = [] from rfl,append_nil];exact aE.mono (w2.trans w4).gg hr
  · have e : i = xs.length := by lia
    subst e;refine .inl ⟨it.stop _ H' G' rfl w'.gg w'.gh,?_⟩;rw[List.take_length] at hos;exact k _ _ H' G' (hP os hos) (w1.trans w') ⟨D,rfl,w1.hh.free hD,gD',ys,hD',hr⟩
where
  tgv_mono {K:Frag} {g:Tg} {v:V} {σ:St} {H:Hp} {Q Q':St->Hp->Prop} (h:g.v K v σ H Q) (i:∀σ' H',Q σ' H'->Q' σ' H'):g.v K v σ H Q':=by
    cases g with
    | n j=>exact i _ _ h
    | t is =>
      obtain ⟨a,xs,e,h1,h2,q⟩:=h;exact ⟨a,xs,e,h1,h2,names_mono q i⟩
  names_mono {Q Q':St->Hp->Prop}:∀{is:List Nat} {vs:List V} {σ:St} {H:Hp},gP is vs σ H Q->(∀σ' H',Q σ' H'->Q' σ' H')->gP is vs σ H Q'
    | [],_,_,_,⟨e,q⟩,i=>⟨e,i _ _ q⟩
    | _::is,_,_,_,⟨v,r,e,q⟩,i=>⟨v,r,e,names_mono (is:=is) q i⟩
section
variable {X:Cx} {tg iter elt:Expr} {ifs:List Expr} {scope:Scope} {pos:Pos} {ti:dj} {g:Tg} {tc:fD} {te:DT}
theorem ky (N':List Str)(fr:List (Option Nat))(hc:X.calm=true)(hi:DI X tg iter ti)
    (hg:∀cl fp C s H,PG (o9 X scope N' cl fp C s H) tg (g.v X.K)) (ht:∀cl fp C s H,yt (o9 X scope N' cl fp C s H) ifs tc) (he:∀cl fp C s H,DE (o9 X scope N' cl fp C s H) elt te)
    {sc0:Scope} {N0:List Str} (htg:autoParam (CB fr g=true) aZb._auto_1) (hsc:autoParam (X.env.scope=sc0) aZa._auto_1) (hN:autoParam (X.N=N0) aZa._auto_1) (bf:autoParam (gd sc0 N0 scope N' fr=true) aZe._auto_1) (hs:autoParam (∀x,foldedSetIterable iter X.env x=pure x) aZc._auto_1) :
    DE X (.ListComp elt [⟨tg,iter,ifs,0⟩] scope pos) (Dc ti fr g tc te):=
  DE.of (DZ (tc:=cT X.K tc) (te:=cE X.K te) N' fr hc hi.pi hg (λcl fp C s H=>(ht cl fp C s H).pf) (λcl fp C s H=>(he cl fp C s H).pe) hsc hN bf hs) (t7 htg)
end
end DL
namespace DL
open PySem L2
structure g8 where
  nx:ar->Prop
  rt:B->Prop
  bk:ar->Prop:=λ_=>False
  ct:ar->Prop:=λ_=>False
noncomputable abbrev fz:=g8->ar->Prop
structure nD (K:Frag)(H0 G0:Hp)(E:g8)(Dn:Ends):Prop where
  nx:∀σ H G ρ,Wd H0 G0 H G->aD K H0 G H σ ρ->E.nx ρ->Dn.nx σ H
  bk:∀σ H G ρ,Wd H0 G0 H G->aD K H0 G H σ ρ->E.bk ρ->Dn.bk σ H
  ct:∀σ H G ρ,Wd H0 G0 H G->aD K H0 G H σ ρ->E.ct ρ->Dn.ct σ H
  rt:∀b v H G,Wd H0 G0 H G->eD K H0 G H v b->E.rt b->Dn.rt v H
noncomputable def cS (K:Frag)(H0 G0:Hp)(t:fz):TS:=λDn σ H=>∃(E:g8) (G:Hp) (ρ:ar),nD K H0 G0 E Dn/\Wd H0 G0 H G/\aD K H0 G H σ ρ/\t E ρ
structure DS (X:Cx)(st:Stmt)(t:fz):Prop where
  ps:∀H0 G0,PS X st (cS X.K H0 G0 t)
structure o6 (X:Cx)(st:List Stmt)(t:fz):Prop where
  zP:∀H0 G0,mj X st (cS X.K H0 G0 t)
section
variable {K:Frag} {H0 G0 G H H':Hp} {σ:St} {ρ:ar}
theorem aD.freeze (e:aD K H0 G H σ ρ)(w:Wd H0 G0 H G):∃G1,Wd H0 G0 H G1/\ai G G1/\aD K H0 G1 H σ (cx ρ):=by
  classical
  obtain ⟨o,e⟩:=e;have to:∀a,H0 a=none->G a=none->(if H0 a=none/\G a=none then H a else G a)=H a:=λa h1 h2=>if_pos ⟨h1,h2⟩;have sG:ai G (λa=>if H0 a=none/\G a=none then H a else G a):=λa o h=>by
    show (if _ then H a else G a)=_;rw[if_neg λq=>by rw[q.2] at h;cases h];exact h
  refine ⟨λa=>if H0 a=none/\G a=none then H a else G a,⟨w.hh,w.gg.trans sG,λa o h=>?_,λa h=>?_⟩,sG,?_⟩
  · have h':(if H0 a=none/\G a=none then H a else G a)=some o:=h;split at h'
    · exact h'
    · exact w.gh _ _ h'
  · show (if H0 a=none/\G a=none then H a else G a)=_;rw[if_neg λq=>h.there q.1];exact w.old a h
  · have own:∀a d,H0 a=none->bM K G H a d->Rep K (λa=>if H0 a=none/\G a=none then H a else G a) (.ref a) d:=λa d h0 h=>h.rep sG λo z=>by
      show (if H0 a=none/\G a=none then H a else G a)=_;rw[to a h0 h.1];exact z
    refine aD.only (by rw[tW];exact e.len) (λi d h=>?_) λi b h=>?_
    · obtain ⟨b,h1,h2⟩:=kB h;cases h2;cases b with
      | p d =>
        obtain ⟨v,h3,h4⟩:=e.p i d h1;exact ⟨v,h3,h4.mono sG⟩
      | o d =>
        obtain ⟨a,h3,h4,h4',h5⟩:=e.o i d h1;exact ⟨.ref a,h3,own a d h4 h5⟩
      | n t dss =>
        obtain ⟨a,h3,as,nd,pr,q⟩:=e.n i t dss h1;have rs:aE K (λa=>if H0 a=none/\G a=none then H a else G a) (as.map V.ref) dss:=by
          clear q h1 h nd;induction pr with
          | nil=>exact .nil
          | cons f _ ih=>exact .cons (own _ _ f.1 f.2.2) ih
        refine ⟨.ref a,h3,?_⟩;cases t with
        | true=>exact Rep.sy (sG _ _ q) rs
        | false =>
          refine Rep.zy ?_ rs;show (if H0 a=none/\G a=none then H a else G a)=_;rw[to a q.1 q.2.2.1];exact q.2.2.2.2
    · obtain ⟨b',h1,h2⟩:=kB h;exact ⟨_,h2⟩
theorem lQ.back {o:Addr->Nat}(e:lQ K H0 G H o σ ρ)(hh:ai H H'):lQ K H0 G H' o σ ρ:=
  ⟨e.len,e.p,λi d h=>by
    obtain ⟨a,h1,h2,h2',h3⟩:=e.o i d h;exact ⟨a,h1,h2,h2',h3.d8 (ai.refl _) h3.1 λo q=>hh _ _ q⟩,λi t dss h=>by
    obtain ⟨a,h1,h2⟩:=e.n i t dss h;exact ⟨a,h1,h2.d8 (ai.refl _) λx k1 k2 k3 k4=>⟨k3,k2,λo q=>hh _ _ q⟩⟩⟩
theorem aD.back (e:aD K H0 G H σ ρ)(hh:ai H H'):aD K H0 G H' σ ρ:=by
  obtain ⟨o,e⟩:=e;exact ⟨o,e.back hh⟩
theorem Wd.back {G1 G1':Hp}(w:Wd H0 G0 H G)(w1:Wd H G1 H' G1'):Wd H0 G0 H' G:=⟨w.hh.trans w1.hh,w.gg,w.gh.trans w1.hh,w.old⟩
end
section
variable {X:Cx} {st:Stmt} {rest:List Stmt} {t u:fz} {a b c e:Expr} {ta tb te:DT} {pos:Pos}
noncomputable def wu:fz:=λE ρ=>E.nx ρ
noncomputable def Bj (t u:fz):fz:=λE ρ=>t { E with nx:=u E } ρ
theorem bg:o6 X [] wu:=o6.mk λH0 G0=>mj.imp uk λDn σ H ⟨E,G,ρ,eo,w,en,h⟩=>eo.nx σ H G ρ w en h
theorem ae (h1:DS X st t)(h2:o6 X rest u):o6 X (st::rest) (Bj t u):=o6.mk λH0 G0=>mj.imp (xX (h1.ps H0 G0) (h2.zP H0 G0)) λDn σ H ⟨E,G,ρ,eo,w,en,h⟩ =>
  ⟨{ E with nx:=u E },G,ρ,⟨λσ' H' G' ρ' w' en' h'=>⟨E,G',ρ',eo,w',en',h'⟩,eo.bk,eo.ct,eo.rt⟩,w,en,h⟩
theorem aj (h1:DS X st t):o6 X [st] t:=o6.mk λH0 G0=>um (h1.ps H0 G0)
noncomputable def Bi (te:DT):fz:=λE ρ=>te (cx ρ) E.rt
theorem aY (he:DE X e te):DS X (.Return (some e) pos) (Bi te):=DS.mk λH0 G0=>PS.imp (xU he.pe)<|by
  rintro Dn σ H ⟨E,G,ρ,eo,w,en,h⟩;obtain ⟨G1,w1,sg,e1⟩:=en.freeze w;exact ⟨G1,cx ρ,_,w1.gh,e1.p,h,λb v H' G' p' w' r'=>eo.rt b v H' G' (w1.trans w') (r'.ahead w.hh) p'⟩
noncomputable def tF (i:Nat):fz:=λE ρ=>match bp ρ i with
  | some (.o d)=>E.rt (.o d)
  | _=>False
theorem yW (i:Nat){x:Str}{px:Pos}(hN:autoParam (X.N[i]?=some x) aZa._auto_1)(hv:autoParam (vU X.env.scope x) aZf._auto_1)(hd:autoParam ((x == ("__debug__" : Str))=false) aZb._auto_1)
    (hcd:autoParam ((x == ("__classdict__" : Str))=false) aZb._auto_1):DS X (.Return (some (.Name x px)) pos) (tF i):=DS.mk λH0 G0=>PS.imp (xU (fR hN hv hd hcd))<|by
  rintro Dn σ H ⟨E,G,ρ,eo,w,en,h⟩;unfold tF at h;split at h
  · rename_i d e;obtain ⟨a,h1,h2,h3⟩:=en.o i d e;exact ⟨.ref a,h1,eo.rt (.o d) _ H G w ⟨a,rfl,h2,h3⟩ h⟩
  · exact h.elim
noncomputable def Bd (tc:fD)(t u:fz):fz:=λE ρ=>tc (cx ρ) λc=>(c=true->t E ρ)/\(c=false->u E ρ)
theorem cD {x y:List Stmt}{tc:fD}(hc:o7 X c tc)(ha:o6 X x t)(hb:o6 X y u):DS X (.If c x y pos) (Bd tc t u):=DS.mk λH0 G0=>PS.imp (AF hc.pt (ha.zP H0 G0) (hb.zP H0 G0))<|by
  rintro Dn σ H ⟨E,G,ρ,eo,w,en,h⟩;obtain ⟨G1,w1,sg,e1⟩:=en.freeze w;refine ⟨G1,cx ρ,_,w1.gh,e1.p,h,λc H' G' p' w'=>?_⟩;cases c with
  | true=>exact rN ⟨E,G,ρ,eo,w.back w',en.back w'.hh,p'.1 rfl⟩
  | false=>exact qc ⟨E,G,ρ,eo,w.back w',en.back w'.hh,p'.2 rfl⟩
noncomputable def yN (i:Nat)(te:DT):fz:=λE ρ=>te ρ λb=>E.nx (dput ρ i b)
noncomputable def tG (i:Nat)(te:DT):fz:=λE ρ=>te (cx ρ) λb=>b.val.sc=true/\E.nx (dput ρ i (.p b.val))
theorem lG {K:Frag}{H0 G0 H G H' G':Hp}{σ:St}{ρ:ar}{E:g8}{Dn:Ends}(i:Nat)(eo:nD K H0 G0 E Dn)(w:Wd H0 G0 H G)(en:aD K H0 G H σ ρ){b:B}{v:V}(p:E.nx (dput ρ i b))(w':Wd H G H' G')(r:eD K H G' H' v b):Dn.nx (σ.set i (some v)) H':=by
  cases b with
  | p d=>exact eo.nx _ H' G' _ (w.trans w') ((en.on w').sj i r) p
  | o d =>
    obtain ⟨a,rfl,hn,o⟩:=r;exact eo.nx _ H' G' _ (w.trans w') (en.FA w' i (w.hh.free hn) hn o) p
  | n t ds =>
    cases t with
    | false =>
      obtain ⟨a,as,rfl,n,g,q,na,nd,pr⟩:=r;exact eo.nx _ H' G' _ (w.trans w') (en.D4 w' w.hh i n g q na nd pr) p
    | true =>
      obtain ⟨a,as,rfl,q,nd,pr⟩:=r;exact eo.nx _ H' G' _ (w.trans w') (en.D5 w' w.hh i q nd pr) p
theorem wM {K:Frag}{H0 G0:Hp}{i:Nat}(Dn:Ends)(σ:St)(H:Hp):cS K H0 G0 (yN i te) Dn σ H->cE K te σ H λv H1=>Dn.nx (σ.set i (some v)) H1:=by
  rintro ⟨E,G,ρ,eo,w,en,h⟩;exact ⟨G,ρ,_,w.gh,en.p,h,λb v H' G' p' w' r'=>lG i eo w en p' w' r'⟩
theorem uT {K:Frag}{H0 G0:Hp}{i:Nat}(Dn:Ends)(σ:St)(H:Hp):cS K H0 G0 (tG i te) Dn σ H->cE K te σ H λv H1=>Dn.nx (σ.set i (some v)) H1:=by
  rintro ⟨E,G,ρ,eo,w,en,h⟩;obtain ⟨G1,w1,sg,e1⟩:=en.freeze w;refine ⟨G1,cx ρ,_,w1.gh,e1.p,h,λb v H' G' p' w' r'=>?_⟩;obtain ⟨G2,w2,r2⟩:=r'.give w';exact eo.nx _ H' G _ (w.back w') ((en.back w'.hh).sj i (r2.sc p'.1)) p'.2
noncomputable def tH (i:Nat)(te:DT):fz:=λE ρ=>te ρ λb=>E.nx (dput ρ i (.p b.val))
noncomputable def nR (i:Nat)(te:DT):fz:=λE ρ=>te (cx ρ) λb=>E.nx (dput (cx ρ) i (.p b.val))
theorem uU {K:Frag}{H0 G0:Hp}{i:Nat}(Dn:Ends)(σ:St)(H:Hp):cS K H0 G0 (tH i te) Dn σ H->cE K te σ H λv H1=>Dn.nx (σ.set i (some v)) H1:=by
  rintro ⟨E,G,ρ,eo,w,en,h⟩;refine ⟨G,ρ,_,w.gh,en.p,h,λb v H' G' p' w' r'=>?_⟩;obtain ⟨G2,w2,r2⟩:=r'.give w';exact lG i eo w en (b:=.p b.val) p' w2 r2
theorem rE {K:Frag}{H0 G0:Hp}{i:Nat}(Dn:Ends)(σ:St)(H:Hp):cS K H0 G0 (nR i te) Dn σ H->cE K te σ H λv H1=>Dn.nx (σ.set i (some v)) H1:=by
  rintro ⟨E,G,ρ,eo,w,en,h⟩;obtain ⟨G1,w1,sg,e1⟩:=en.freeze w;refine ⟨G1,cx ρ,_,w1.gh,e1.p,h,λb v H' G' p' w' r'=>?_⟩;obtain ⟨G2,w2,r2⟩:=r'.give w';exact lG i eo w1 e1 (b:=.p b.val) p' w2 r2
section
variable {i:Nat} {x:Str} {px:Pos}
theorem iW (hN:X.N.Nodup)(hi:X.N[i]?=some x)(hx:Loc X.env.scope x)(he:DE X e te)(hs:autoParam (swapsWith e (some (.Name x px)) pos.line X.env=pure false) aZa._auto_1)(hf:autoParam (X.fn x=true\/X.env.scope.names.lookup x=some .local) aZd._auto_1) :
    DS X (.Assign [.Name x px] e pos) (yN i te):=DS.mk λH0 G0=>PS.imp (oN hN hi hx he.pe hs hf) wM
theorem aC (hN:X.N.Nodup)(hi:X.N[i]?=some x)(hx:Loc X.env.scope x)(he:DE X e te)(hs:autoParam (swapsWith e (some (.Name x px)) pos.line X.env=pure false) aZa._auto_1)(hf:autoParam (X.fn x=true\/X.env.scope.names.lookup x=some .local) aZd._auto_1) :
    DS X (.Assign [.Name x px] e pos) (tH i te):=DS.mk λH0 G0=>PS.imp (oN hN hi hx he.pe hs hf) uU
theorem yX (hN:X.N.Nodup)(hi:X.N[i]?=some x)(hx:Loc X.env.scope x)(he:DE X e te)(hs:autoParam (swapsWith e (some (.Name x px)) pos.line X.env=pure false) aZa._auto_1)(hf:autoParam (X.fn x=true\/X.env.scope.names.lookup x=some .local) aZd._auto_1) :
    DS X (.Assign [.Name x px] e pos) (tG i te):=DS.mk λH0 G0=>PS.imp (oN hN hi hx he.pe hs hf) uT
variable {tg iter elt:Expr} {ifs:List Expr} {scope:Scope} {spos:Pos} {ti:dj} {g:Tg} {tc:fD}
theorem rD (hNd:X.N.Nodup)(hy:X.N[i]?=some x)(hly:Loc X.env.scope x)(N':List Str)(fr:List (Option Nat))(hc:X.calm=true)(hi:DI X tg iter ti)
    (hg:∀cl fp C s H,PG (o9 X scope N' cl fp C s H) tg (g.v X.K)) (ht:∀cl fp C s H,yt (o9 X scope N' cl fp C s H) ifs tc) (he:∀cl fp C s H,DE (o9 X scope N' cl fp C s H) elt te)
    {sc0:Scope} {N0:List Str} (htg:autoParam (CB fr g=true) aZb._auto_1) (hsw:autoParam (swapsWith (.ListComp elt [⟨tg,iter,ifs,0⟩] scope pos) (some (.Name x px)) spos.line X.env=pure true) aZa._auto_1)
    (hsc:autoParam (X.env.scope=sc0) aZa._auto_1) (hN:autoParam (X.N=N0) aZa._auto_1) (bf:autoParam (gd sc0 N0 scope N' fr=true) aZe._auto_1) (hs:autoParam (∀x,foldedSetIterable iter X.env x=pure x) aZc._auto_1)
    (hf:autoParam (X.fn x=true\/X.env.scope.names.lookup x=some .local) aZg._auto_1) :
    DS X (.Assign [.Name x px] (.ListComp elt [⟨tg,iter,ifs,0⟩] scope pos) spos) (nR i (Dc ti fr g tc te)):=DS.mk λH0 G0 =>
  PS.imp (xV (tc:=cT X.K tc) (te:=cE X.K te) hNd hy hly N' fr hc hi.pi hg (λcl fp C s H=>(ht cl fp C s H).pf) (λcl fp C s H=>(he cl fp C s H).pe) hsw hsc hN bf hs hf) λDn σ H h=>t7 htg σ H _ (rE Dn σ H h)
noncomputable def yK (i:Nat)(te:DT)(f:Int->Int->Int):fz:=λE ρ=>match bp ρ i with
  | some (.p (.int m))=>te (cx ρ) λb=>match b.val with
    | .int n=>E.nx (dput ρ i (.p (.int (f m n))))
    | _=>False
  | _=>False
theorem wJ {op:Operator}{f:Int->Int->Int}(hN:X.N.Nodup)(hi:X.N[i]?=some x)(hx:Loc X.env.scope x)(he:DE X e te)(ho:CW X op (EG f))(hf:autoParam (X.fn x=true\/X.env.scope.names.lookup x=some .local) aZd._auto_1) :
    DS X (.AugAssign (.Name x px) op e pos) (yK i te f):=DS.mk λH0 G0=>PS.imp (Cd hN hi hx he.pe ho hf)<|by
  rintro Dn σ H ⟨E,G,ρ,eo,w,en,h⟩;unfold yK at h;split at h
  · rename_i m q;obtain ⟨G1,w1,sg,e1⟩:=en.freeze w;obtain ⟨v,h1,h2⟩:=en.p i _ q;cases h2;refine ⟨_,h1,G1,cx ρ,_,w1.gh,e1.p,h,λb v H' G' p' w' r'=>?_⟩;split at p'
    · rename_i n e;exact ⟨m,n,rfl,cZ w' r' e,eo.nx _ H' G _ (w.back w') ((en.back w'.hh).sj i (.int _)) p'⟩
    · exact p'.elim
  · exact h.elim
end
noncomputable def Ba (te:DT)(g:Tg):fz:=λE ρ=>te ρ λb=>g.d b.val ρ E.nx
theorem rC {tg:Expr}{g:Tg}(he:DE X e te)(hg:PG X tg (g.v X.K))(hs:autoParam (swapsWithSole [tg] e pos.line X.env=pure false) aZa._auto_1)(hw:autoParam (swappedStores [tg] e X.env=pure none) aZa._auto_1)
    (h1:autoParam ((assignEach [tg] X.env).map (·.2) = [assign tg X.env]) aZa._auto_1):DS X (.Assign [tg] e pos) (Ba te g):=DS.mk λH0 G0=>PS.imp (sd he.pe hg hs hw h1)<|by
  rintro Dn σ H ⟨E,G,ρ,eo,w,en,h⟩;refine ⟨G,ρ,_,w.gh,en.p,h,λb v H' G' p' w' r'=>?_⟩;obtain ⟨G2,w2,r2⟩:=r'.give w';exact Tg.ok w2.gh (en.on w2) r2 p' λσ' ρ' e' q=>eo.nx σ' H' G2 ρ' (w.trans w2) e' q
theorem aD.Eh {K:Frag}{H0 G H:Hp}{σ:St}{ρ:ar}{i:Nat}{a:Addr}{ds ds':List D}{vs:List V}(e:aD K H0 G H σ ρ)(h1:bp ρ i=some (.o (.lst ds)))(h2:σ[i]?=some (some (.ref a)))(r:aE K G vs ds'):aD K H0 G (upd H a (.lst vs)) σ (dput ρ i (.o (.lst ds'))):=by
  obtain ⟨o,e⟩:=e;have hlt:=tN h1;obtain ⟨a',h3,h4,h4',h5⟩:=e.o i _ h1;rw[h2] at h3;cases h3;refine ⟨o,by rw[dR];exact e.len,λj d q=>?_,λj d q=>?_,λj t dss q=>?_⟩
  · rcases aK q with ⟨rfl,_,q⟩ | ⟨hne,q⟩
    · cases q
    · exact e.p j d q
  · rcases aK q with ⟨rfl,_,q⟩ | ⟨hne,q⟩
    · cases q;exact ⟨a,h2,h4,h4',h5.1,vs,ay,r⟩
    · obtain ⟨b,k1,k2,k2',k3⟩:=e.o j d q;refine ⟨b,k1,k2,k2',k3.d8 (ai.refl _) k3.1 λo z=>?_⟩;have:b≠a:=by
        rintro rfl;exact hne (h4'.symm.trans k2')
      rw[aw this];exact z
  · rcases aK q with ⟨rfl,_,q⟩ | ⟨hne,q⟩
    · cases q
    · obtain ⟨b,k1,k2⟩:=e.n j t dss q;refine ⟨b,k1,k2.d8 (ai.refl _) λx z1 z2 z3 z4=>⟨z3,z2,λo z=>?_⟩⟩;have:x≠a:=by
        rintro rfl;exact hne (h4'.symm.trans z2)
      rw[aw this];exact z
noncomputable def yJ (i:Nat)(te:DT):fz:=λE ρ=>match bp ρ i with
  | some (.o (.lst ds))=>te ρ λb=>ds.length<sizeLine/\E.nx (dput ρ i (.o (.lst (ds++[b.val]))))
  | _=>False
theorem yB {K:Frag}{H0 G0 G H:Hp}{σ:St}{ρ:ar}{i:Nat}{a:Addr}{ds:List D}{vs:List V}{v:V}{d:D}{E:g8}{Dn:Ends}(eo:nD K H0 G0 E Dn)(w:Wd H0 G0 H G)(e:aD K H0 G H σ ρ)(h1:bp ρ i=some (.o (.lst ds)))(h2:σ[i]?=some (some (.ref a)))(h3:H a=some (.lst vs))(r:aE K G vs ds)(rv:Rep K G v d)(hz:ds.length<sizeLine)(p:E.nx (dput ρ i (.o (.lst (ds++[d]))))) :
    uq (.ref a) [v] H λ_ H3=>Dn.nx σ H3:=by
  obtain ⟨a',k1,k2,k3⟩:=e.o i _ h1;rw[h2] at k1;cases k1;exact ⟨a,vs,v,rfl,rfl,h3,by rw[Paired.length r];exact hz,eo.nx σ _ G _ (w.own k2 k3.1) (e.Eh h1 h2 (bF r (.cons rv .nil))) p⟩
section
variable {i:Nat} {x:Str} {px apos cpos spos:Pos}
theorem oe (hN:X.N[i]?=some x)(hv:vU X.env.scope x)(he:DE X e te)(hd:autoParam ((x == ("__debug__" : Str))=false) aZb._auto_1)(hcd:autoParam ((x == ("__classdict__" : Str))=false) aZb._auto_1)
    (hbase:autoParam (attributeBase (.Name x px) "append" X.env (eval (.Name x px) X.env)=eval (.Name x px) X.env) aZa._auto_1)
    (hfew:autoParam (((backTo cpos (starEach (e::[]) X.env)).all (λx=>!x.1) && (backToKw cpos (keywordEach [] X.env)).all (λx=>x.1.isSome)
      && decide ((e::[]).length+([]:List Keyword).length+(if ([]:List Keyword).isEmpty then 0 else 1)<30))=true) aZa._auto_1)
    (hline:autoParam ((apos.endLine == cpos.line)=true) aZa._auto_1) (hs:autoParam (starEach (e::[]) X.env=(false,eval e X.env)::starEach [] X.env) aZa._auto_1) (hplain:autoParam ((backTo cpos (starEach [] X.env)).any (·.1)=false) aZa._auto_1)
    (hsw:autoParam (swapsWith (.Call (.Attribute (.Name x px) "append" apos) [e] [] cpos) none spos.line X.env=pure false) aZa._auto_1) :
    DS X (.Expr (.Call (.Attribute (.Name x px) "append" apos) [e] [] cpos) spos) (yJ i te):=DS.mk λH0 G0 =>
  PS.imp (uj (AD PySem.F.plainAttrs_list PySem.F.slot_list_append PySem.F.type_list_append m7 (fR hN hv hd hcd) (eh he.pe jf hs) hbase hfew hline hs hplain) hsw)<|by
    rintro Dn σ H ⟨E,G,ρ,eo,w,en,h⟩;unfold yJ at h;split at h
    · rename_i ds q;obtain ⟨a,h1,h2,h3,vs,h4,h5⟩:=en.o i _ q;refine ⟨_,h1,.inl ⟨rfl,_,cb.of h4⟩,G,ρ,_,w.gh,en.p,h,λb v H' G' p' w' r'=>?_⟩;obtain ⟨G2,w2,r2⟩:=r'.give w';exact yB eo (w.trans w2) (en.on w2) q h1 (w2.hh _ _ h4) (aE.mono w2.gg h5) r2 p'.1 p'.2
    · exact h.elim
end
noncomputable def yZ (g:Tg)(tb:fz)(E:g8)(xs:List D)(ρ:ar):Prop:=∃I:Nat->ar->Prop,I 0 ρ /\
  (∀i d ρ,xs[i]?=some d->I i ρ->g.d d ρ λρ'=>tb { E with nx:=I (i+1),ct:=I (i+1),bk:=E.nx } ρ')/\∀ρ,I xs.length ρ->E.nx ρ
noncomputable def Bb (ti:dj)(g:Tg)(tb:fz):fz:=λE ρ=>ti ρ λxs=>yZ g tb E xs ρ
theorem Wd.base {H0 G0 H9 G9 H G:Hp}(w9:Wd H0 G0 H9 G9)(w:Wd H0 G9 H G):Wd H0 G0 H G:=⟨w.hh,w9.gg.trans w.gg,w.gh,λa h=>by rw[w.old a h,w9.old a h]⟩
noncomputable def cX (K:Frag)(t:fz):TS:=λDn σ H=>∃H0 G0,cS K H0 G0 t Dn σ H
theorem o6.x {sts:List Stmt}(h:o6 X sts t):mj X sts (cX X.K t):=λpins s σ H D I ⟨H0,G0,q⟩=>h.zP H0 G0 pins s σ H D I q
theorem pY {K:Frag}{H0 G0 G H:Hp}{σ:St}{ρ:ar}{g:Tg}{tb:fz}{J:It}{xs:List D}{E:g8}{Dn:Ends}(eo:nD K H0 G0 E Dn)(w:Wd H0 G0 H G)(en:aD K H0 G H σ ρ)(it:AV K G J xs)(h:yZ g tb E xs ρ) :
    ∃W:Nat->Nat->St->Hp->Prop,(∃m,W 0 m σ H)/\∀i m σ H,W i m σ H ->
      (J.stop i H/\Dn.nx σ H)\/(J.go i H/\∃N:St->Hp->Prop,(∀σ' H',N σ' H'->∃m',m'<m/\W (i+1) m' σ' H')/\∀x H',J.vQ i H x H'->g.v K x σ H' λσ2 H2=>cX K tb { Dn with nx:=N,ct:=N,bk:=Dn.nx } σ2 H2):=by
  obtain ⟨I,i0,is,ie⟩:=h;have w0:Wd H0 G H G:=⟨w.hh,ai.refl _,w.gh,λ_ _=>rfl⟩
  refine ⟨λi m σ H=>m=xs.length - i/\i<=xs.length/\∃G' ρ',Wd H0 G H G'/\aD K H0 G' H σ ρ'/\I i ρ',⟨xs.length,by simp,Nat.zero_le _,G,ρ,w0,en,i0⟩,?_⟩;rintro i m σ H ⟨rfl,hi,G',ρ',w',en',p⟩;by_cases hlt:i<xs.length
  · have hx:xs[i]?=some xs[i]:=GV hlt;refine .inr ⟨it.go i _ H G' hx w'.gg w'.gh,λσ2 H2=>∃G2 ρ2,Wd H0 G H2 G2/\aD K H0 G2 H2 σ2 ρ2/\I (i+1) ρ2,by rintro σ2 H2 ⟨G2,ρ2,z⟩;exact ⟨xs.length - (i+1),by lia,rfl,hlt,G2,ρ2,z⟩,λx H2 y=>?_⟩;obtain ⟨G2,w2,r2⟩:=it.vQ i _ H G' x H2 hx w'.gg w'.gh y;refine Tg.ok w2.gh (en'.on w2) r2 (is i _ ρ' hx p) λσ3 ρ3 e3 p3=>?_;exact ⟨H0,G,{ E with nx:=I (i+1),ct:=I (i+1),bk:=E.nx },G2,ρ3,⟨λσ4 H4 G4 ρ4 w4 e4 p4=>⟨G4,ρ4,w4,e4,p4⟩,λσ4 H4 G4 ρ4 w4 e4 p4=>eo.nx σ4 H4 G4 ρ4 (w.base w4) e4 p4,λσ4 H4 G4 ρ4 w4 e4 p4=>⟨G4,ρ4,w4,e4,p4⟩,λb v H4 G4 w4 r4 p4=>eo.rt b v H4 G4 (w.base w4) r4 p4⟩,w'.trans w2,e3,p3⟩
  · have e : i = xs.length := by lia
    subst e;exact .inl ⟨it.stop _ H G' rfl w'.gg w'.gh,eo.nx σ H G' ρ' (w.base w') en' (ie ρ' p)⟩
section
variable {tg iter:Expr} {body:List Stmt} {ti:dj} {g:Tg} {tb:fz}
theorem kD (hp:PassesOwn (model X.prog X.w) X.A X.env X.xe)(hc:X.calm=true)(hi:DI X tg iter ti)(hg:PG X tg (g.v X.K))(hb:o6 X body tb)(hs:autoParam (∀x,foldedSetIterable iter X.env x=pure x) aZc._auto_1):DS X (.For tg iter body [] pos) (Bb ti g tb):=DS.mk λH0 G0 =>
  PS.imp (se hp hc hi.pi hg hb.x hs) (by rintro Dn σ H ⟨E,G,ρ,eo,w,en,h⟩;exact ⟨G,ρ,_,w.gh,en.p,h,λxs J H' G' p' w' it=>pY eo (w.trans w') (en.on w') it p'⟩)
noncomputable def Gj (K:Frag)(t:dj):TI:=λσ H R=>∃(G:Hp) (ρ:ar) (P:List D->Prop),ai G H/\cK K G σ ρ/\t ρ P/\∀xs J H' G',P xs->Wd H G H' G'->(∀G,AV K G J xs)->R J H'
structure AR (X:Cx)(tg e:Expr)(t:dj):Prop where
  pi:PI X tg e (Gj X.K t)
theorem AR.of {e:Expr}{t:TI}{t':dj}(h:PI X tg e t)(i:∀σ H Q,Gj X.K t' σ H Q->t σ H Q):AR X tg e t':=⟨PI.imp h i⟩
theorem pT {a:Expr}{t:dj}{p:Pos}(hg:Gl X "range")(hm:X.mg "range" = none)(ha:DA X [a] t)(hs:autoParam (starEach [a] X.env = [(false,eval a X.env)]) aZa._auto_1):AR X tg (.Call (.Name "range" p) [a] [] pos) (rA t):=
  AR.of (vo hg hm ha.pa hs)<|by
    rintro σ H R ⟨G,ρ,P,s,re,h,k⟩;refine ⟨G,ρ,_,s,re,h,λds vs H1 G1 p1 l1 w1 r1=>?_⟩;split at p1
    · obtain ⟨v,rfl,rv⟩:=du r1;cases rv;exact ⟨_,rfl,p1.1.1,p1.1.2,k _ _ H1 G1 p1.2 w1 λ_=>t5⟩
    · exact p1.elim
theorem pU {a b:Expr}{t:dj}{p:Pos}(hg:Gl X "range")(hm:X.mg "range" = none)(ha:DA X [a,b] t)(hs:autoParam (starEach [a,b] X.env = [(false,eval a X.env),(false,eval b X.env)]) aZa._auto_1)(hs2:autoParam (starEach [b] X.env = [(false,eval b X.env)]) aZa._auto_1) :
    AR X tg (.Call (.Name "range" p) [a,b] [] pos) (rB t):=
  AR.of (vp hg hm ha.pa hs hs2)<|by
    rintro σ H R ⟨G,ρ,P,s,re,h,k⟩;refine ⟨G,ρ,_,s,re,h,λds vs H1 G1 p1 l1 w1 r1=>?_⟩;split at p1
    · obtain ⟨v,v',rfl,rv,rv'⟩:=AJ r1;cases rv;cases rv';exact ⟨_,_,rfl,p1.1,k _ _ H1 G1 p1.2 w1 λ_=>t5⟩
    · exact p1.elim
noncomputable def we (ti:dj)(g:Tg)(tb:fz):fz:=λE ρ=>ti (cx ρ) λxs=>yZ g tb E xs ρ
theorem jU (hp:PassesOwn (model X.prog X.w) X.A X.env X.xe)(hc:X.calm=true)(hi:AR X tg iter ti)(hg:PG X tg (g.v X.K))(hb:o6 X body tb)(hs:autoParam (∀x,foldedSetIterable iter X.env x=pure x) aZc._auto_1):DS X (.For tg iter body [] pos) (we ti g tb):=DS.mk λH0 G0 =>
  PS.imp (se hp hc hi.pi hg hb.x hs)<|by
    rintro Dn σ H ⟨E,G,ρ,eo,w,en,h⟩;obtain ⟨G1,w1,sg,e1⟩:=en.freeze w;exact ⟨G1,cx ρ,_,w1.gh,e1.p,h,λxs J H' G' p' w' it=>pY eo (w.back w') (en.back w'.hh) (it G) p'⟩
noncomputable def wC (tc:fD)(tb:fz):fz:=λE ρ=>∃(I:ar->Prop) (μ:ar->Nat),I ρ/\∀ρ,I ρ->tc (cx ρ) λc=>(c=true->tb { E with nx:=λρ'=>I ρ'/\μ ρ'<μ ρ,ct:=λρ'=>I ρ'/\μ ρ'<μ ρ,bk:=E.nx } ρ)/\(c=false->E.nx ρ)
theorem wL {tc:fD}(hp:PassesOwn (model X.prog X.w) X.A X.env X.xe)(hc:o7 X c tc)(hb:o6 X body tb):DS X (.While c body [] pos) (wC tc tb):=DS.mk λH0 G0 =>
  PS.imp (xW hp hc.pt (hb.zP H0 G0))<|by
    rintro Dn σ H ⟨E,G,ρ,eo,w,en,I,μ,i0,h⟩;refine ⟨λm σ H=>∃G ρ,m=μ ρ/\Wd H0 G0 H G/\aD X.K H0 G H σ ρ/\I ρ,⟨_,G,ρ,rfl,w,en,i0⟩,?_⟩;rintro m σ H ⟨G,ρ,rfl,w,en,i0⟩;obtain ⟨G1,w1,sg,e1⟩:=en.freeze w;refine ⟨G1,cx ρ,_,w1.gh,e1.p,h ρ i0,λc H' G' p' w'=>?_⟩;cases c with
    | true =>
      refine rN ⟨λσ' H'=>∃G' ρ',Wd H0 G0 H' G'/\aD X.K H0 G' H' σ' ρ'/\I ρ'/\μ ρ'<μ ρ,by rintro σ' H' ⟨G',ρ',w',e',i',l⟩;exact ⟨_,l,G',ρ',rfl,w',e',i'⟩,_,G,ρ,?_,w.back w',en.back w'.hh,p'.1 rfl⟩;exact ⟨λσ4 H4 G4 ρ4 w4 e4 p4=>⟨G4,ρ4,w4,e4,p4⟩,λσ4 H4 G4 ρ4 w4 e4 p4=>eo.nx σ4 H4 G4 ρ4 w4 e4 p4,λσ4 H4 G4 ρ4 w4 e4 p4=>⟨G4,ρ4,w4,e4,p4⟩,eo.rt⟩
    | false=>exact qc (eo.nx σ H' G ρ (w.back w') (en.back w'.hh) (p'.2 rfl))
end
end
noncomputable def bY:Nat->List D->ar
  | 0,ds=>ds.map λd=>some (.p d)
  | n+1,[]=>none::bY n []
  | n+1,d::ds=>some (.p d)::bY n ds
theorem dN {K:Frag}{G:Hp}:∀(n:Nat) {vs:List V} {ds:List D},aE K G vs ds->cK K G (vs.map some++List.replicate (n - vs.length) none) (bY n ds)/\(vs.map some++List.replicate (n - vs.length) (none:Option V)).length=(bY n ds).length/\∀i d,bp (bY n ds) i≠some (.o d)
  | 0,_,_,.nil=>⟨λi d h=>(nomatch (show (none:Option B)=some (.p d) from h)),rfl,λi d h=>(nomatch (show (none:Option B)=some (.o d) from h))⟩
  | 0,_,_,.cons (a:=v) (b:=d) (l₁:=vs) (l₂:=ds) r rr=>by
    obtain ⟨h1,h2,h3⟩:=dN (K:=K) (G:=G) 0 rr;have e0:bY 0 (d::ds)=some (.p d)::bY 0 ds:=rfl;have e1:(v::vs).map some++List.replicate (0 - (v::vs).length) (none:Option V)=some v::(vs.map some++List.replicate (0 - vs.length) none):=by simp
    rw[e0,e1];refine ⟨λi d' h=>?_,by rw[length_cons,length_cons,h2],λi d' h=>?_⟩
    · cases i with
      | zero=>cases h;exact ⟨v,rfl,r⟩
      | succ i=>exact h1 i d' h
    · cases i with
      | zero=>cases h
      | succ i=>exact h3 i d' h
  | n+1,_,_,.nil=>by
    obtain ⟨h1,h2,h3⟩:=dN (K:=K) (G:=G) n (vs:=[]) (ds:=[]) .nil;have e1:([]:List V).map some++List.replicate (n+1 - ([]:List V).length) (none:Option V)=none::(([]:List V).map some++List.replicate (n - ([]:List V).length) none):=by simp[List.replicate_succ]
    rw[e1];refine ⟨λi d' h=>?_,by show _=(none::bY n []).length;rw[length_cons,length_cons,h2],λi d' h=>?_⟩
    · cases i with
      | zero=>cases h
      | succ i=>exact h1 i d' h
    · cases i with
      | zero=>cases h
      | succ i=>exact h3 i d' h
  | n+1,_,_,.cons (a:=v) (b:=d) (l₁:=vs) (l₂:=ds) r rr=>by
    obtain ⟨h1,h2,h3⟩:=dN (K:=K) (G:=G) n rr;have e1:(v::vs).map some++List.replicate (n+1 - (v::vs).length) (none:Option V)=some v::(vs.map some++List.replicate (n - vs.length) none):=by simp
    rw[e1];refine ⟨λi d' h=>?_,by show _=(some (B.p d)::bY n ds).length;rw[length_cons,length_cons,h2],λi d' h=>?_⟩
    · cases i with
      | zero=>cases h;exact ⟨v,rfl,r⟩
      | succ i=>exact h1 i d' h
    · cases i with
      | zero=>cases h
      | succ i=>exact h3 i d' h
theorem e7:∀(n:Nat) (ds:List D) (i:Nat) (b:B),bp (bY n ds) i=some b->∃d,b=.p d
  | 0,[],_,_,h=>by cases h
  | 0,d::ds,0,_,h=>by cases h;exact ⟨_,rfl⟩
  | 0,d::ds,i+1,b,h=>e7 0 ds i b h
  | n+1,[],0,_,h=>by cases h
  | n+1,[],i+1,b,h=>e7 n [] i b h
  | n+1,d::ds,0,_,h=>by cases h;exact ⟨_,rfl⟩
  | n+1,d::ds,i+1,b,h=>e7 n ds i b h
section
variable {P:Hj} {w:Hs} {K:Frag} {mg:Str->Option GR} {base:Heap}
theorem yr {x qual:Str}{st:Stmt}{f:Addr}{fd:FuncData}{N ps:List Str}{k:Nat}{R:DR}(F:mh K x qual st f fd)(S:aX N ps (af st))(len:∀ds Q,R ds Q->ds.length=ps.length)
    (hbody:∀(cdv:GR) (A:Hr) (outer:List Env) (s:GU) (H:Hp) (E:XK),bQ k (A.deeper (PyProof.Rows.envOfC qual (af st) s.heap.objs.size f cdv)) ->
      ∃t,o6 (nN g7 P w K mg base N qual (af st) f cdv A outer s H E).AB (aF st) t/\∀ds Q,R ds Q->t { nx:=λ_=>Q (.p .non),rt:=Q } (bY N.length ds)):cw P w K mg base g7 (k+1) f fd ps (gu K R):=by
  refine F.ok S (by rintro vs H Q E ⟨ds,G,P,s,r,h,_⟩;rw[Paired.length r];exact len ds P h) ?_;rintro cdv A outer s H vs Q E hr ⟨ds,G,P,sg,r,h,k⟩;obtain ⟨t,h1,h2⟩:=hbody cdv A outer s H E hr;obtain ⟨e1,e2,e3⟩:=dN (K:=K) N.length r;refine ⟨_,h1.zP H G,_,G,_,?_,Wd.refl sg,aD.only e2 e1 (e7 _ _),h2 ds P h⟩;exact ⟨λσ H' G' ρ w' _ p=>k _ _ H' G' p w' (show Rep K G' V.non D.non from .non),λσ H' G' ρ w' _ p=>p.elim,λσ H' G' ρ w' _ p=>p.elim,λb v H' G' w' r' p=>k b v H' G' p w' r'⟩
end
end DL
namespace DL
open PySem L2
section
variable {X:Cx} {tg e:Expr} {te:DT} {pos:Pos} {es:List Expr}
noncomputable def Gk:DR:=λds P=>match ds with
  | [.lst xs]=>∃ns:List Int,xs=ns.map D.int/\ns≠[]/\∀m,m∈ns->(∀n∈ns,n<=m)->P (.p (.int m))
  | _=>False
theorem Dx {K:Frag}{G:Hp}{Src:Hp->List (List V)->Prop}{rows:List (List V)}{xs:List D}(hs:∀H,ai G H->Src H rows)(r:Paired (λrow d=>∃ds,d=D.tup ds/\aE K G row ds) rows xs):AV K G (Ey Src) xs where
  go:=λi d H G' e s1 s2=>by
    obtain ⟨row,h1,h2⟩:=aB r e;exact ⟨rows,row,hs H (s1.trans s2),h1⟩
  vQ:=λi d H G' x H' e s1 s2 y=>by
    obtain ⟨row,h1,ds,rfl,h2⟩:=aB r e;obtain ⟨row',p,h3,h4,rfl,rfl⟩:=y rows (hs H (s1.trans s2));rw[h1] at h3;cases h3;exact ⟨_,(Wd.refl s2).new h4,Rep.sy ay (aE.mono (d4 (s2.free h4)) (aE.mono s1 h2))⟩
  stop:=λi H G' hi s1 s2=>⟨rows,hs H (s1.trans s2),by rw[Paired.length r,hi]⟩
noncomputable def bX:Nat->List D->List D
  | _,[]=>[]
  | k,x::xs=>.tup [.int (k:Nat),x]::bX (k+1) xs
theorem fc:∀(k:Nat) (xs:List D),(bX k xs).length=xs.length
  | _,[]=>rfl
  | k,x::xs=>by show (bX (k+1) xs).length+1=_;rw[fc];rfl
theorem fb:∀{k:Nat} {xs:List D} {i:Nat} {d:D},(bX k xs)[i]?=some d->∃x,xs[i]?=some x/\d=.tup [.int ((k+i:Nat):Int),x]
  | _,[],_,_,h=>by simp[bX] at h
  | k,x::xs,0,d,h=>⟨x,rfl,by simpa [bX] using h.symm⟩
  | k,x::xs,i+1,d,h=>by
    have h':(bX (k+1) xs)[i]?=some d:=by simpa [bX] using h
    obtain ⟨y,h1,h2⟩:=fb h';exact ⟨y,by simpa using h1,by rw[h2];congr 3;lia⟩
noncomputable def eG (t:dj):dj:=λρ P=>t ρ λds=>match ds with
  | [.lst xs]=>P (bX 0 xs)
  | _=>False
theorem vx {K:Frag}{G:Hp}{vs:List V}{ds:List D}(r:aE K G vs ds):Paired (λrow d=>∃ds,d=D.tup ds/\aE K G row ds) (eQ vs) (bX 0 ds):=by
  refine aq (by rw[ik,fc,Paired.length r]) λi row d h1 h2=>?_;obtain ⟨x,h3,rfl⟩:=fb h2;obtain ⟨v,h4,h5⟩:=aB r h3;rw[ij h4] at h1;cases h1;exact ⟨_,rfl,.cons (by rw[Nat.zero_add];exact .int _) (.cons h5 .nil)⟩
theorem n6 {elts:List Expr}{kx:Nat}{tpos:Pos}{l:Expr}{t:dj}{p:Pos}(hg:Gl X "enumerate")(hm:X.mg "enumerate" = none)(ha:DA X [l] t)(hs:autoParam (starEach [l] X.env = [(false,eval l X.env)]) aZa._auto_1):DI X (.Tuple elts kx tpos) (.Call (.Name "enumerate" p) [l] [] pos) (eG t):=
  DI.of (zL hg hm ha.pa hs)<|by
    rintro σ H R ⟨G,ρ,P,s,re,h,k⟩;refine ⟨G,ρ,_,s,re,h,λds vs H1 G1 p1 l1 w1 r1=>?_⟩;split at p1
    · obtain ⟨v,rfl,rv⟩:=du r1;obtain ⟨a,us,rfl,e,rr⟩:=rv.lst_inv;exact ⟨a,us,rfl,w1.gh _ _ e,k _ _ H1 G1 p1 w1 (Dx (λH s=>⟨us,s _ _ e,rfl⟩) (vx rr))⟩
    · exact p1.elim
noncomputable def Ga (xs ys:List D):List D:=(xs.zip ys).map λp=>.tup [p.1,p.2]
noncomputable def tO (t:dj):dj:=λρ P=>t ρ λds=>match ds with
  | [.lst xs,.lst ys]=>P (Ga xs ys)
  | _=>False
noncomputable def ic (t:dj):dj:=λρ P=>t ρ λds=>match ds with
  | [.lst xs]=>P xs.reverse
  | _=>False
end
end DL
namespace DL
open PySem L2
noncomputable def Ei (K:Frag):Sp:=λvs H Q _=>∃(a:Addr) (ns:List Int),vs = [.ref a]/\cb K H a (ns.map V.int)/\ns.length<=63/\∀H',Q (.bl true) H'
noncomputable def ya:DR:=λds P=>∃ns:List Int,ds = [.scr ns]/\ns.length<=63/\P (.p (.bl true))
theorem jh {P P':ar->Prop}(i:∀ρ,P ρ->P' ρ):∀{is:List Nat} {ds:List D} {ρ:ar},putN is ds ρ P->putN is ds ρ P'
  | [],[],ρ,h=>i ρ h
  | _::is,_::ds,_,h=>jh i (is:=is) (ds:=ds) h
  | [],_::_,_,h=>h.elim
  | _::_,[],_,h=>h.elim
theorem yl {g:Tg}{d:D}{ρ:ar}{P P':ar->Prop}(h:g.d d ρ P)(i:∀ρ,P ρ->P' ρ):g.d d ρ P':=by
  cases g with
  | n j=>exact i _ h
  | t is =>
    cases d with
    | tup ds=>exact jh i h
    | non=>exact h
    | bl _=>exact h
    | int _=>exact h
    | str _=>exact h
    | lst ds=>exact jh i h
    | scr _=>exact h
    | dct _=>exact h
theorem kZ {α β:Type}{f:α->β}:∀{xs:List α} {os:List β},Paired (λx o=>o=f x) xs os->os=xs.map f
  | _,_,.nil=>rfl
  | _,_,.cons h t=>by rw[h,kZ t];rfl
theorem ip {α β:Type}(f:α->Option β):∀xs:List α,(xs.map f).filterMap id=xs.filterMap f
  | []=>rfl
  | x::xs=>by
    rw[map_cons,filterMap_cons,filterMap_cons,ip f xs];rfl
theorem filterMap_some {α β:Type}(f:α->β):∀xs:List α,xs.filterMap (λx=>some (f x))=xs.map f
  | []=>rfl
  | x::xs=>by rw[filterMap_cons,filterMap_some f xs];rfl
theorem rP {xs:List D}{g:Tg}{tc:fD}{te:DT}{ρ:ar}{Q:B->Prop}(f:D->Option D)(hz:xs.length<=1000000)(h:∀x∈xs,g.d x ρ λρ'=>tc ρ' λc=>(c=true->te ρ' λb=>some b.val=f x)/\(c=false->none=f x))(q:Q (.o (.lst (xs.filterMap f)))) :
    BG xs g tc te ρ Q:=by
  refine ⟨by have:sizeLine=16777216:=sizeLine_eq;lia,λx o=>o=f x,h,λos ho=>?_⟩;rw[kZ ho,ip];exact q
theorem BH {xs:List D}{g:Tg}{te:DT}{ρ:ar}{Q:B->Prop}(f:D->D)(hz:xs.length<=1000000)(h:∀x∈xs,g.d x ρ λρ'=>te ρ' λb=>some b.val=some (f x))(q:Q (.o (.lst (xs.map f)))) :
    BG xs g h9 te ρ Q:=
  rP (λx=>some (f x)) hz (λx hx=>yl (h x hx) λρ' z=>⟨λ_=>z,λe=>nomatch e⟩) (by rw[filterMap_some];exact q)
theorem dB {g:Tg}{tb:fz}{E:g8}{xs:List D}{ρ:ar}(I:Nat->ar->Prop)(h0:I 0 ρ)(hs:∀i x ρ,xs[i]?=some x->I i ρ->g.d x ρ λρ'=>tb { E with nx:=I (i+1),ct:=I (i+1),bk:=E.nx } ρ')(hd:∀ρ,I xs.length ρ->E.nx ρ):yZ g tb E xs ρ:=⟨I,h0,hs,hd⟩
theorem bI {α β:Type}(p:α->Prop)[DecidablePred p](f:α->β):∀xs:List α,xs.filterMap (λx=>if p x then some (f x) else none)=(xs.filter λx=>decide (p x)).map f
  | []=>rfl
  | x::xs=>by
    rw[filterMap_cons,filter_cons,bI p f xs];by_cases h:p x
    · rw[if_pos h,if_pos (decide_eq_true h)];rfl
    · rw[if_neg h,if_neg (by simpa using h)]
theorem yO {ns:List Int}{P:B->Prop}(h:P (.p (.int ns.sum))):Bk [.lst (ns.map D.int)] P:=⟨ns,rfl,h⟩
end DL
namespace DL
open PySem L2
theorem A8 {α:Type}(l:List α)(k:Nat):fF l none (some ((k:Nat):Int))=l.take k:=by
  unfold fF;rw[HT.qL,HT.uv,List.drop_zero,Nat.sub_zero,<-List.take_take,List.take_length]
theorem pC {α:Type}(l:List α)(k:Nat):fF l (some ((k:Nat):Int)) none=l.drop k:=by
  unfold fF;rw[HT.qL,HT.uv];by_cases h:k<=l.length
  · rw[Nat.min_eq_left h];exact take_of_length_le (by rw[length_drop];exact GW _)
  · rw[Nat.min_eq_right (by lia),List.drop_eq_nil_of_le (GW _),List.drop_eq_nil_of_le (by lia),List.take_nil]
theorem zm {α:Type}{xs:List α}{e:α->D}{g:Tg}{te:DT}{ρ:ar}{Q:B->Prop}(F:D->D)(f:α->D)(hF:∀x∈xs,F (e x)=f x)(hz:xs.length<=1000000)(h:∀x∈xs,g.d (e x) ρ λρ'=>te ρ' λb=>some b.val=some (f x))(q:Q (.o (.lst (xs.map f)))) :
    BG (xs.map e) g h9 te ρ Q:=by
  refine BH F (by rw[Hh];exact hz) (λd hd=>?_) ?_
  · obtain ⟨x,hx,rfl⟩:=mem_map.mp hd;rw[hF x hx];exact h x hx
  · rw[map_map,show xs.map (F∘e)=xs.map f from map_congr_left hF];exact q
theorem eS {α β:Type}{f g:α->Option β}:∀{xs:List α},(∀x∈xs,f x=g x)->xs.filterMap f=xs.filterMap g
  | [],_=>rfl
  | x::xs,h=>by rw[filterMap_cons,filterMap_cons,h x mem_cons_self,eS λy hy=>h y (Hv _ hy)]
theorem zk {α:Type}{xs:List α}{e:α->D}{g:Tg}{tc:fD}{te:DT}{ρ:ar}{Q:B->Prop}(F:D->Option D)(f:α->Option D)(hF:∀x∈xs,F (e x)=f x)(hz:xs.length<=1000000)(h:∀x∈xs,g.d (e x) ρ λρ'=>tc ρ' λc=>(c=true->te ρ' λb=>some b.val=f x)/\(c=false->none=f x))(q:Q (.o (.lst (xs.filterMap f)))) :
    BG (xs.map e) g tc te ρ Q:=by
  refine rP F (by rw[Hh];exact hz) (λd hd=>?_) ?_
  · obtain ⟨x,hx,rfl⟩:=mem_map.mp hd;rw[hF x hx];exact h x hx
  · rw[List.filterMap_map,show xs.filterMap (F∘e)=xs.filterMap f from eS hF];exact q
theorem sZ (xs:List D)(i:Int)(Q:B->Prop):wk (.lst xs) (.int i) Q = ∃d,fE xs i=some d/\Q (.p d):=rfl
theorem tu (xs:List D)(i:Int)(Q:B->Prop):wk (.tup xs) (.int i) Q = ∃d,fE xs i=some d/\Q (.p d):=rfl
theorem tj (ns:List Int)(i:Int)(Q:B->Prop):wk (.scr ns) (.int i) Q = ∃n,fE ns i=some n/\Q (.p (.int n)):=rfl
theorem pD (i j:Int)(Q:B->Prop):uO (.int i) (.int j) Q=Q (.p (.int (i+j))):=rfl
theorem pE (xs ys:List D)(Q:B->Prop):uO (.lst xs) (.lst ys) Q=(xs.length+ys.length<=sizeLine/\Q (.o (.lst (xs++ys)))):=rfl
theorem pF (x y:Str)(Q:B->Prop):uO (.str x) (.str y) Q=(x.length+y.length<=sizeLine/\Q (.p (.str (x++y)))):=rfl
theorem pG (xs ys:List D)(Q:B->Prop):uO (.tup xs) (.tup ys) Q=(xs≠[]/\ys≠[]/\xs.length+ys.length<=sizeLine/\Q (.p (.tup (xs++ys)))):=rfl
theorem pP (i j:Int)(Q:B->Prop):Bg (.int i) (.int j) Q=(qY i j/\Q (.p (.int (i*j)))):=rfl
theorem pJ (i j:Int)(Q:B->Prop):wd (.int i) (.int j) Q=Q (.p (.bl (decide (i=j)))):=rfl
theorem pK (i j:Str)(Q:B->Prop):wd (.str i) (.str j) Q=Q (.p (.bl (decide (i=j)))):=rfl
theorem sV (i j:Bool)(Q:B->Prop):wd (.bl i) (.bl j) Q=Q (.p (.bl (decide (i=j)))):=rfl
theorem pQ (i j:Int)(Q:B->Prop):wo (.int i) (.int j) Q=Q (.p (.bl (!decide (i=j)))):=rfl
theorem pR (i j:Str)(Q:B->Prop):wo (.str i) (.str j) Q=Q (.p (.bl (!decide (i=j)))):=rfl
theorem tD (i j:Bool)(Q:B->Prop):wo (.bl i) (.bl j) Q=Q (.p (.bl (!decide (i=j)))):=rfl
theorem pM (xs:List D)(P:B->Prop):wm [.lst xs] P=P (.p (.int xs.length)):=rfl
theorem pO (xs:List D)(P:B->Prop):wm [.tup xs] P=P (.p (.int xs.length)):=rfl
theorem pN (xs:List Int)(P:B->Prop):wm [.scr xs] P=P (.p (.int xs.length)):=rfl
noncomputable def Fi (d:D)(P:List D->Prop):Prop:=match d with
  | .lst xs=>P xs
  | .scr ns=>P (ns.map D.int)
  | _=>False
theorem mN (te:DT)(ρ:ar)(P:List D->Prop):wH te ρ P=te ρ λb=>Fi b.val P:=rfl
theorem tZ (xs:List D)(P:List D->Prop):Fi (.lst xs) P=P xs:=rfl
theorem t4 (xs:List Int)(P:List D->Prop):Fi (.scr xs) P=P (xs.map D.int):=rfl
noncomputable def EN (d:D)(lo hi:Option Int)(Q:B->Prop):Prop:=match d with
  | .lst xs=>Q (.o (.lst (fF xs lo hi)))
  | .scr ns=>Q (.o (.lst ((fF ns lo hi).map D.int)))
  | .tup xs=>¬(HT.cm xs.length 0 lo=0/\HT.cm xs.length xs.length hi=xs.length)/\Q (.p (.tup (fF xs lo hi)))
  | _=>False
theorem wz (te:DT)(tl th:vR)(ρ:ar)(Q:B->Prop):E5 te tl th ρ Q=te ρ λb=>tl ρ λlo=>th ρ λhi=>EN b.val lo hi Q:=rfl
theorem ux (xs:List D)(lo hi:Option Int)(Q:B->Prop):EN (.lst xs) lo hi Q=Q (.o (.lst (fF xs lo hi))):=rfl
theorem uy (xs:List Int)(lo hi:Option Int)(Q:B->Prop):EN (.scr xs) lo hi Q=Q (.o (.lst ((fF xs lo hi).map D.int))):=rfl
theorem uz (xs:List D)(lo hi:Option Int)(Q:B->Prop):EN (.tup xs) lo hi Q=(¬(HT.cm xs.length 0 lo=0/\HT.cm xs.length xs.length hi=xs.length)/\Q (.p (.tup (fF xs lo hi)))):=rfl
noncomputable def Cq (d:D)(lo hi st:Option Int)(Q:B->Prop):Prop:=match d with
  | .lst xs=>Q (.o (.lst (cJ xs lo hi st)))
  | .scr ns=>Q (.o (.lst ((cJ ns lo hi st).map D.int)))
  | _=>False
theorem tI (te:DT)(tl th ts:vR)(ρ:ar)(Q:B->Prop):De te tl th ts ρ Q=te ρ λb=>tl ρ λlo=>th ρ λhi=>ts ρ λst=>st≠some 0/\Cq b.val lo hi st Q:=rfl
theorem qO (xs:List D)(lo hi st:Option Int)(Q:B->Prop):Cq (.lst xs) lo hi st Q=Q (.o (.lst (cJ xs lo hi st))):=rfl
theorem qP (xs:List Int)(lo hi st:Option Int)(Q:B->Prop):Cq (.scr xs) lo hi st Q=Q (.o (.lst ((cJ xs lo hi st).map D.int))):=rfl
theorem mH (xs:List D)(P:B->Prop):pI [.lst xs] P=P (.o (.lst xs)):=rfl
theorem mJ (xs:List D)(P:B->Prop):pI [.tup xs] P=P (.o (.lst xs)):=rfl
theorem mI (xs:List Int)(P:B->Prop):pI [.scr xs] P=P (.o (.lst (xs.map D.int))):=rfl
theorem Fj {α:Type}(a:α)(l:List α):fE (a::l) (0:Int)=some a:=by unfold fE zd;simp
theorem Fl {α:Type}(a b:α)(l:List α):fE (a::b::l) (1:Int)=some b:=by
  have:fE (a::b::l) (((1:Nat)):Int)=some b:=hV rfl;exact this
theorem Fm {α:Type}(a b c:α)(l:List α):fE (a::b::c::l) (2:Int)=some c:=by
  have:fE (a::b::c::l) (((2:Nat)):Int)=some c:=hV rfl;exact this
theorem Fo {α:Type}(a b c d:α)(l:List α):fE (a::b::c::d::l) (3:Int)=some d:=by
  have:fE (a::b::c::d::l) (((3:Nat)):Int)=some d:=hV rfl;exact this
theorem Fp {α:Type}(a b c d e:α)(l:List α):fE (a::b::c::d::e::l) (4:Int)=some e:=by
  have:fE (a::b::c::d::e::l) (((4:Nat)):Int)=some e:=hV rfl;exact this
theorem Dl {α:Type}(a:α)(p:α->Prop):(∃d,some a=some d/\p d)=p a:=propext ⟨by rintro ⟨d,e,h⟩;cases e;exact h,λh=>⟨a,rfl,h⟩⟩
theorem rj {α:Type}{xs:List α}{e:α->D}{k:Nat}{x:α}(h:xs[k]?=some x):fE (xs.map e) ((k:Nat):Int)=some (e x):=by
  refine hV ?_;rw[Hw,h];rfl
end DL
namespace PySem
open Sem (wp)
section
variable {prog:Hj} {w:Hs} {A:Hr} {E:GR->GU->Prop} {s:GU}
noncomputable abbrev AU (h:Heap)(z TI TO:Addr)(f0:GR)(b:Bool):Prop:=
  h.get? z=some { cls:=.type "zip",dict:=none,data:=.fields #[f0,.bool b,.bool false,.ref TI,.ref TO],slots:=#[] }
structure Gg (h:Heap)(z TI TO i1 i2 l1 l2:Addr)(xs ys:Array GR)(i:Nat):Prop where
  ti:IsPair h TI (.ref i1) (.ref i2)
  a1:h.IsListIter i1 l1 i
  a2:h.IsListIter i2 l2 i
  b1:h.IsList l1 xs
  b2:h.IsList l2 ys
  f:(IsZip h z TI TO .none/\∃a b,IsPair h TO a b)\/∃(T:Addr) (b:Bool) (x y:GR),AU h z TI TO (rawInt T) b/\IsPair h T x y/\T≠z/\T≠TO/\T≠i1/\T≠i2
structure Gf (h:Heap)(xs ys:Array GR)(lo:Nat)(acc:Array GR):Prop where
  at':∀(j:Nat) (v:GR),acc[j]?=some v->∃(T:Addr) (x y:GR),v=Value.ref T/\xs[j]?=some x/\ys[j]?=some y/\IsPair h T x y/\lo<=T
  one:∀(i j:Nat) (v:GR),acc[i]?=some v->acc[j]?=some v->i=j
end
end PySem
namespace L2
open PySem PySem.Spec PyProof.Rows
section
variable {X:Cx} {pins:List (Addr×Obj)} {σ:List (Option V)} {H H':Hp} {s:GU} {h':Heap}
end
end L2
namespace WS
end WS
namespace WS
noncomputable def EM (xs:List Int)(L:Nat):Int:=(xs.drop L).sum
structure Drawn (g:Int)(hs cs:List S3)(gv wt:List Int):Prop where
  lg:gv.length=251
  lw:wt.length=251
  ng:∀x∈gv,0<=x
  nw:∀x∈wt,0<=x
  GD:∀L:Nat,L<=251->Az g hs cs (L:Nat)<=EM wt L - EM gv L
  all:EM wt 0 - EM gv 0=Az g hs cs 0
end WS
namespace L2
open PySem PySem.Spec PyProof.Rows PyProof
section
variable {X:Cx}
end
end L2
namespace PySem
open PyProof.Rows
section
variable {prog:Hj} {w:Hs} {A:Hr} {E:GR->GU->Prop} {s:GU}
end
end PySem
namespace PySem
open PyProof.Rows
section
variable {prog:Hj} {w:Hs} {A:Hr} {R:Result->GU->Prop} {I:Addr} {fp wr:List Addr} {n:Nat} {P:Nat->GR->Prop} {St:Nat->Heap->Prop}
end
section
variable {prog:Hj} {w:Hs} {A:Hr} {E:GR->GU->Prop} {s:GU}
end
end PySem
namespace L2
open PySem PySem.Spec PyProof.Rows
section
variable {X:Cx} {l e:Expr} {p pos p2 pos2 kpos cpos:Pos} {j:Nat} {d:Int} {ta:TA}
end
end L2
namespace DL
open PySem L2
section
variable {X:Cx} {l e:Expr} {p pos p2 pos2 kpos cpos:Pos} {j:Nat} {d:Int} {t:dj}
end
end DL
namespace DL
open PySem L2
section
variable {X:Cx} {c:Expr} {r:List Stmt} {pos ipos px:Pos} {tg:Expr}
noncomputable def wg (i m:Nat)(tc:fD):fz:=λE ρ=>∃ds,bp ρ i=some (.o (.lst ds))/\(∀(ρ':ar) d,(ρ'=ρ\/∃d',ρ'=dput ρ m (.p d'))->d∈ds->tc (cx (dput ρ' m (.p d))) λb=>b=false)/\m≠i/\∀ρ',(ρ'=ρ\/∃d',ρ'=dput ρ m (.p d'))->E.nx ρ'
theorem pV:∀(ρ:ar) (m:Nat) (a b:B),dput (dput ρ m a) m b=dput ρ m b
  | [],_,_,_=>rfl
  | _::_,0,_,_=>rfl
  | x::ρ,m+1,a,b=>congrArg (x::·) (pV ρ m a b)
theorem yV {i m:Nat}{x:Str}{tc:fD}{tr:fz}(hp:PassesOwn (model X.prog X.w) X.A X.env X.xe)(hc:X.calm=true)(hN:X.N[i]?=some x)(hv:vU X.env.scope x)(hg:PG X tg ((Tg.n m).v X.K))(ht:o7 X c tc)(hr:o6 X r tr)
    (hd:autoParam ((x == ("__debug__" : Str))=false) aZb._auto_1) (hcd:autoParam ((x == ("__classdict__" : Str))=false) aZb._auto_1) (hs:autoParam (∀y,foldedSetIterable (.Name x px) X.env y=pure y) aZc._auto_1):DS X (.For tg (.Name x px) [.If c r [] ipos] [] pos) (wg i m tc):=DS.mk λH0 G0=>by
  refine PS.imp (se hp hc (uh (fR hN hv hd hcd)) hg (um (AF ht.pt (hr.zP H0 G0) uk)) hs) ?_;rintro Dn σ H ⟨E,G,ρ,eo,w,en,ds,ei,hcd,hm,hx⟩;obtain ⟨a,sa,ha,oa⟩:=en.o i _ ei;obtain ⟨ga,vs,ea,rr⟩:=oa;have hlen:vs.length=ds.length:=Paired.length rr;refine ⟨.ref a,sa,a,rfl,⟨vs,cb.of ea⟩,λj k σ' H'=>k=vs.length - j/\j<=vs.length/\Wd H G H' G/\∃ρ',(ρ'=ρ\/∃d',ρ'=dput ρ m (.p d'))/\aD X.K H0 G H' σ' ρ',⟨vs.length,by simp,Nat.zero_le _,Wd.refl w.gh,ρ,.inl rfl,en⟩,?_⟩;rintro j k σ' H' ⟨rfl,hj,w',ρ',hρ,en'⟩;have ea':=w'.hh _ _ ea;have wb:Wd H0 G0 H' G:=w.back w';by_cases hlt:j<vs.length
  · have hx':=GV hlt;refine .inr ⟨⟨vs,_,cb.of ea',hx'⟩,λσ2 H2=>Wd H G H2 G/\∃ρ',(ρ'=ρ\/∃d',ρ'=dput ρ m (.p d'))/\aD X.K H0 G H2 σ2 ρ',λσ2 H2 z=>⟨vs.length - (j+1),by lia,rfl,hlt,z⟩,?_⟩;intro v H2 hy;obtain ⟨e2,hv2⟩:=hy;rw[e2];have ev:=hv2 vs (cb.of ea');obtain ⟨d,ed,rd⟩ : ∃d,ds[j]?=some d/\Rep X.K G v d:=⟨ds[j]'(by lia),GV (by lia),dH rr j v _ ev (GV (by lia))⟩
    have e3:aD X.K H0 G H' (σ'.set m (some v)) (dput ρ' m (.p d)):=en'.sj m rd;obtain ⟨G1,w1,sg,f1⟩:=e3.freeze wb;refine ⟨G1,cx (dput ρ' m (.p d)),λb=>b=false,w1.gh,f1.p,hcd ρ' d hρ (Hi ed),λb H3 G3 p3 w3=>?_⟩;subst p3;refine qc ⟨⟨w'.hh.trans w3.hh,w'.gg,w'.gh.trans w3.hh,λ_ _=>rfl⟩,dput ρ' m (.p d),.inr ?_,e3.back w3.hh⟩;rcases hρ with rfl | ⟨d',rfl⟩
    · exact ⟨d,rfl⟩
    · exact ⟨d,pV ..⟩
  · have e : j = vs.length := by lia
    subst e;exact .inl ⟨⟨vs,cb.of ea',GW _⟩,eo.nx σ' H' G ρ' wb en' (hx ρ' hρ)⟩
end
end DL
namespace DL
open PySem L2
section
variable {X:Cx} {e0 e1:Expr} {t0 t1 te:DT} {i:Nat} {x:Str} {pos px:Pos}
end
section
variable {X:Cx} {e k m:Expr} {tk tm te:DT} {i:Nat} {x:Str} {pos px sp tpos:Pos}
end
theorem zX {K:Frag}{G G':Hp}{vs:List V}{ds:List D}(h:aE K G vs ds)(k:ds.all D.sc=true):aE K G' vs ds:=by
  induction h with
  | nil=>exact .nil
  | cons f _ ih =>
    rw[List.all_cons,Bool.and_eq_true] at k;exact .cons (f.sc k.1) (ih k.2)
section
variable {X:Cx} {e k:Expr} {tk te:DT} {i:Nat} {x:Str} {pos px tpos:Pos}
end
end DL
namespace DL
open PySem L2
section
variable {X:Cx} {e:Expr} {te:DT} {i:Nat} {x:Str} {px apos cpos spos:Pos}
end
end DL
namespace L2
open PySem PySem.Spec PyProof.Rows
section
variable {κ:Type} [DecidableEq κ]
noncomputable def g6 (kvs:List (κ×V))(k:κ):Option V:=(kvs.find? λkv=>decide (kv.1=k)).map (·.2)
noncomputable def putK (kvs:List (κ×V))(k:κ)(v:V):List (κ×V):=
  if (kvs.any λkv=>decide (kv.1=k))=true then kvs.map (λkv=>if kv.1=k then (kv.1,v) else kv) else kvs++[(k,v)]
theorem lO {p:κ×V}{r:List (κ×V)}{k:κ}(e:p.1=k):g6 (p::r) k=some p.2:=by simp[g6,List.find?_cons,e]
theorem lN {p:κ×V}{r:List (κ×V)}{k:κ}(e:¬p.1=k):g6 (p::r) k=g6 r k:=by simp[g6,List.find?_cons,e]
theorem iM (k:κ):∀kvs:List (κ×V),(kvs.any λkv=>decide (kv.1=k))=(g6 kvs k).isSome
  | []=>rfl
  | p::r=>by
    rw[List.any_cons];by_cases e:p.1=k
    · simp only[lO e,decide_eq_true e,Bool.true_or,Option.isSome_some]
    · rw[lN e,decide_eq_false e,Bool.false_or];exact iM k r
theorem qf (kvs:List (κ×V))(k:κ)(v:V):(putK kvs k v).length<=kvs.length+1:=by
  unfold putK;split
  · rw[Hh];lia
  · rw[Hu,length_cons,List.length_nil];lia
theorem j7.mW {o:Option V}{u:Option GR}(r:j7 o u):o.isSome=u.isSome:=by
  cases o with
  | none=>cases u with
    | none=>rfl
    | some _=>exact (show False from r).elim
  | some _=>cases u with
    | none=>exact (show False from r).elim
    | some _=>rfl
theorem j7.getD {o:Option V}{u:Option GR}{d:V}{d':GR}(r:j7 o u)(rd:RelV d d'):RelV (o.getD d) (u.getD d'):=by
  cases o with
  | none=>cases u with
    | none=>exact rd
    | some _=>exact (show False from r).elim
  | some _=>cases u with
    | none=>exact (show False from r).elim
    | some _=>exact r
end
theorem Dz {P:Hj}{w:Hs}{k:Key}{u:GR}(r:RelV (kV k) u):(bw P w).is k u=true:=by
  cases k with
  | inl i=>obtain ⟨t,e⟩:=(show ∃t,u=Value.int i t from r);subst e;exact qq P w i t
  | inr x=>obtain ⟨t,e⟩:=(show ∃t,u=Value.str x t from r);subst e;exact qr P w x t
theorem i8 {P:Hj}{w:Hs}:∀{ks:List Key} {us:List GR},Vals (ks.map kV) us->ItemsAre (bw P w) ks us
  | [],_,r=>by rw[List.map_nil] at r;cases r;exact .nil
  | k::ks,_,r=>by
    rw[map_cons] at r;cases r with
    | cons h t=>exact .cons (Dz h) (i8 t)
noncomputable abbrev KT (H:Hp):List (List Key×V)->List (List Key×Addr×GR)->Prop:=Paired λp q=>p.1=q.1/\H q.2.1=some (.tup (p.1.map kV))/\RelV p.2 q.2.2
theorem KT.val {H:Hp}{kvs:List (List Key×V)}{xs:List (List Key×Addr×GR)}(r:KT H kvs xs)(k:List Key):j7 (g6 kvs k) ((atKey xs k).map (·.2)):=by
  induction r with
  | nil=>exact True.intro
  | @cons p q ps qs h t ih =>
    obtain ⟨h1,_,h2⟩:=h;by_cases e:p.1=k
    · have e':q.1=k:=h1.symm.trans e;have b:atKey (q::qs) k=some q.2:=by simp[atKey,List.find?_cons,e']
      rw[lO e,b];exact h2
    · have e':¬q.1=k:=λz=>e (h1.trans z);have b:atKey (q::qs) k=atKey qs k:=by simp[atKey,List.find?_cons,e']
      rw[lN e,b];exact ih
theorem KT.Ed {H:Hp}{kvs:List (List Key×V)}{xs:List (List Key×Addr×GR)}(r:KT H kvs xs)(k:List Key){y:V}{u:GR}(ry:RelV y u) :
    KT H (kvs.map λkv=>if kv.1=k then (kv.1,y) else kv) (xs.map (putAt k u)):=by
  induction r with
  | nil=>exact .nil
  | @cons p q ps qs h t ih =>
    rw[map_cons,map_cons];refine .cons ?_ ih;obtain ⟨h1,h2,h3⟩:=h;unfold putAt;by_cases e:p.1=k
    · rw[if_pos e,if_pos (h1.symm.trans e)];exact ⟨h1,h2,ry⟩
    · rw[if_neg e,if_neg (λz=>e (h1.trans z))];exact ⟨h1,h2,h3⟩
theorem KT.put {H:Hp}{kvs:List (List Key×V)}{xs:List (List Key×Addr×GR)}(r:KT H kvs xs)(k:List Key){b:Addr}{y:V}{u:GR}(hb:H b=some (.tup (k.map kV)))(ry:RelV y u) :
    KT H (putK kvs k y) (storedH xs k b u):=by
  have e:(kvs.any λkv=>decide (kv.1=k))=(atKey xs k).isSome:=by
    rw[iM,(r.val k).mW,Option.isSome_map]
  unfold putK storedH;rw[e];by_cases q:(atKey xs k).isSome=true
  · rw[if_pos q,if_pos q];exact r.Ed k ry
  · rw[if_neg q,if_neg q];exact Paired.snoc r ⟨rfl,hb,ry⟩
theorem KT.keeps {H H':Hp}{kvs:List (List Key×V)}{xs:List (List Key×Addr×GR)}(r:KT H kvs xs)(ht:∀b ys,H b=some (.tup ys)->H' b=some (.tup ys)):KT H' kvs xs:=
  Paired.zB r λ_ _ z=>⟨z.1,ht _ _ z.2.1,z.2.2⟩
section
variable {P:Hj} {w:Hs} {H:Hp} {h:Heap} {a:Addr}
theorem AI {u:HO}(ok:gA P w H h)(e:Rd H a u):bC P w H h a u:=e.ok ok
theorem Dg {kvs:List (Key×V)}(ok:gA P w H h)(e:Rd H a (.dK kvs)):kvs.length<=sizeLine/\(a == sysModules)=false/\∃vs,KV kvs vs/\h.DictOf (bw P w) a vs:=
  show bC P w H h a (.dK kvs) from AI ok e
theorem BD {ks:List Key}(ok:gA P w H h)(e:H a=some (.tup (ks.map kV))):(tupleKind (bw P w)).is h ks a:=by
  obtain ⟨_,its,r,o,h1,h2,n,h3⟩:=(show bC P w H h a (.tup (ks.map kV)) from ok a _ e)
  exact ⟨o,its.toArray,n,h1,h2,h3,by simpa using i8 r⟩
theorem mP {kvs:List (List Key×V)}(ok:gA P w H h)(e:Rd H a (.dT kvs)):kvs.length<=sizeLine/\(a == sysModules)=false /\
    ∃xs,KT H kvs xs/\h.DictOfH (tupleKind (bw P w)) a xs:=by
  obtain ⟨z,y,xs,r,o,es,ep,h1,h2,h3,h4,h5⟩:=(show bC P w H h a (.dT kvs) from AI ok e)
  refine ⟨z,y,xs,r,o,es,ep,h1,h2,h3,h4,λx hx=>?_,h5⟩;have all:∀{l:List (List Key×V)} {m:List (List Key×Addr×GR)},KT H l m->∀x∈m,(tupleKind (bw P w)).is h x.1 x.2.1:=by
    intro l m q;induction q with
    | nil=>intro x hx;exact nomatch hx
    | @cons p q ps qs hq t ih =>
      intro x hx;rcases Hn.mp hx with e | hx
      · subst e;exact BD ok (by rw[<-hq.1];exact hq.2.1)
      · exact ih x hx
  exact all r x hx
theorem Di {kvs:List (List Key×V)}(ok:gA P w H h)(e:H a=some (.dT kvs)):kvs.length<=sizeLine/\(a == sysModules)=false /\
    ∃xs,KT H kvs xs/\h.DictOfH (tupleKind (bw P w)) a xs:=mP ok (.inl e)
end
section
variable {X:Cx} {pins:List (Addr×Obj)} {σ:St} {H:Hp} {s:GU} {a:Addr} {y v:V} {u r:GR} {o:Option V} {A:Hr} {E:GR->GU->Prop}
theorem Inv.big (I:Inv X pins σ H s):sysModules<s.heap.objs.size:=by
  have h:mainGlobals<s.heap.objs.size:=(I.mod.glob.keeps I.bk).lt;exact Nat.lt_trans (by decide) h
theorem yP {h':Heap}{t':Nat}{ob:HO}(I:Inv X pins σ H s)(mu:CU (H a))(hs:Heap.SameBut a s.heap h')(he:∃q,h'.get? a=some q)(new:bC X.prog X.w (upd H a ob) h' a ob) :
    Inv X pins σ (upd H a ob) { s with heap:=h',toks:=t' }:=
  I.write (x:=a) (e:=a) mu (.inl rfl) (λb q hb z=>(hs.2 b hb).trans z) he new
end
section
variable {X:Cx} {pins:List (Addr×Obj)} {σ:St} {H:Hp} {s:GU} {a:Addr} {kvs:List (Key×V)} {k:Key} {u:GR} {A:Hr} {E:GR->GU->Prop}
end
noncomputable def AW (i:Expr):Prop:=∀ov iv,subscripted i false ov iv=operate [ov,iv] (getItem ov iv)
theorem Aa {prog:Hj}{w:Hs}{A:Hr}{E:GR->GU->Prop}{s:GU}{env:Env}{value slice:Expr}{pos:Pos}{T id:String}{Q:GR->GU->Prop}
    (hl:typeLookup (.type T) "__getitem__" = pure (some (.builtin id))) (hs:AW slice)
    (h:wpAny (model prog w) A (eval value env) (λo s₁=>wpAny (model prog w) A (eval slice env) (λi s₂=>s₂.TypeIs o T/\wpAny (model prog w) A (getItem o i) Q E s₂) E s₁) E s) :
    wpAny (model prog w) A (eval (.Subscript value slice pos) env) Q E s:=by
  refine Subscript_ (wpAny_mono h (λo s₁ h₁=>wpAny_mono h₁ (λi s₂ h₂=>?_) λ_ _ x=>x) λ_ _ x=>x);obtain ⟨hT,h₂⟩:=h₂;unfold subscriptTail;refine GS ?_;rw[getitemInPython_of_ne hT.not_modules];refine GS (wpAny_specialOf hT hl ?_);have fin:wpAny (model prog w) A (subscripted slice false o i) (λr s₃=>wpAny (model prog w) A (letTemporaryGo value o r >>= λ_=>pure r) Q E s₃) E s₂:=by
    rw[hs o i];exact wpAny_operating (wpAny_mono h₂ (λr s₃ h₃=>GS (wpAny_letTemporaryGo (GX h₃))) λ_ _ x=>x)
  first
    | exact GX (GS fin)
    | exact GS (GX (GS fin))
    | exact GS fin
section
variable {X:Cx} {o i e value:Expr} {pos pos' tpos:Pos} {td ty tv:TE}
end
theorem wN {P:Hj}{w:Hs}{H:Hp}(h:Heap)(hb:sysModules<h.objs.size):bC P w H (h.push { cls:=.type "dict",data:=.dict #[] }) h.objs.size (.dT []):=
  ⟨Nat.zero_le _,beq_eq_false_iff_ne.mpr (Ne.symm (Hm hb)),[],.nil,_,#[],0,Hq _ rfl,⟨rfl,rfl,rfl⟩,rfl,rfl,List.nodup_nil⟩
noncomputable def Cu:TE:=λ_ H Q=>∀p,H p=none->Q (.ref p) (upd H p (.dT []))
section
variable {X:Cx} {pos:Pos}
theorem xI:PE X (.Dict [] [] pos) Cu:=λpins s σ H Q I h =>
  wpAny_Dict_empty ⟨.ref s.heap.objs.size,_,I.laid (a:=s.heap.objs.size) (o:=.dT []) (t':=s.toks) (λ_ _ q=>GZ _ q) (GW _) (wN s.heap I.big),rfl,h _ (I.bf.fresh (GW _))⟩
end
structure M1 (X:Cx)(o:Expr)(m:Str)(apos:Pos)(e:Expr)(cpos:Pos):Prop where
  base:attributeBase o m X.env (eval o X.env)=eval o X.env
  Gp:((backTo cpos (starEach [e] X.env)).all (λx=>!x.1) && (backToKw cpos (keywordEach [] X.env)).all (λx=>x.1.isSome)
    && decide (([e]:List Expr).length+([]:List Keyword).length+(if ([]:List Keyword).isEmpty then 0 else 1)<30))=true
  line:(apos.endLine == cpos.line)=true
  trees:backTo cpos (starEach [e] X.env) = [(false,eval e X.env)]
structure M2 (X:Cx)(o:Expr)(m:Str)(apos:Pos)(e f:Expr)(cpos:Pos):Prop where
  base:attributeBase o m X.env (eval o X.env)=eval o X.env
  Gp:((backTo cpos (starEach [e,f] X.env)).all (λx=>!x.1) && (backToKw cpos (keywordEach [] X.env)).all (λx=>x.1.isSome)
    && decide (([e,f]:List Expr).length+([]:List Keyword).length+(if ([]:List Keyword).isEmpty then 0 else 1)<30))=true
  line:(apos.endLine == cpos.line)=true
  trees:backTo cpos (starEach [e,f] X.env) = [(false,eval e X.env),(false,eval f X.env)]
noncomputable def Gb (H:Hp)(a:Addr):Prop:=(∃kvs,Rd H a (.dK kvs))\/∃kvs,Rd H a (.dT kvs)
theorem Bw {X:Cx}{pins:List (Addr×Obj)}{σ:St}{H:Hp}{s:GU}{a:Addr}(I:Inv X pins σ H s)(d:Gb H a) :
    s.TypeIs (.ref a) "dict"/\(∀b,Value.ref a=.ref b->∃ob,s.heap.get? b=some ob/\ob.dict=none)/\(a == sysModules)=false:=by
  rcases d with ⟨kvs,e⟩ | ⟨kvs,e⟩
  · obtain ⟨_,hd,vs,_,dd⟩:=Dg I.bf e;refine ⟨dd.typeIs,λb q=>?_,hd⟩;cases q;obtain ⟨ob,_,_,h1,h2,_⟩:=dd;exact ⟨ob,h1,h2.2.1⟩
  · obtain ⟨_,hd,xs,_,dd⟩:=mP I.bf e;refine ⟨dd.typeIs,λb q=>?_,hd⟩;cases q;obtain ⟨ob,_,_,h1,h2,_⟩:=dd;exact ⟨ob,h1,h2.2.1⟩
section
variable {X:Cx} {pins:List (Addr×Obj)} {σ:St} {H:Hp} {s:GU} {a:Addr} {y d:V} {u r:GR} {o:Option V} {A:Hr} {E:GR->GU->Prop}
end
section
variable {X:Cx} {o e f:Expr} {apos cpos:Pos} {td ty tx:TE}
end
section
variable {X:Cx} {pins:List (Addr×Obj)} {σ:St} {H:Hp} {s:GU} {a:Addr} {kvs:List (Key×V)} {A:Hr} {E:GR->GU->Prop}
end
section
variable {X:Cx} {pins:List (Addr×Obj)} {σ:St} {H:Hp} {s:GU} {a:Addr} {y:V} {u:GR} {A:Hr} {E:GR->GU->Prop}
end
section
variable {X:Cx}
end
section
variable {κ:Type} [DecidableEq κ]
end
end L2
namespace L2
open PySem PySem.Spec PyProof.Rows
section
variable {X:Cx} {pins:List (Addr×Obj)} {σ:St} {H:Hp} {s:GU} {a b:Addr}
theorem ox {ks:List Key}(I:Inv X pins σ H s)(h:fA X.K H b (ks.map kV)):(tupleKind (bw X.prog X.w)).is s.heap ks b:=by
  obtain ⟨its,r,⟨o,h1,h2,n,h3⟩,z⟩:=I.tuple h;exact ⟨o,its.toArray,n,h1,h2,h3,by simpa using i8 r⟩
noncomputable def x8 (K:Frag):V->V->Hp->VK->Prop:=λx y H Q=>∃a b kvs ks v,x=.ref a/\y=.ref b/\Rd H a (.dT kvs)/\fA K H b (ks.map kV)/\g6 kvs ks=some v/\Q v H
theorem p0 {A:Hr}{E:GR->GU->Prop}{kvs:List (List Key×V)}{ks:List Key}{v:V}{Q:GR->GU->Prop}(hu:A.units+1<cLine)(I:Inv X pins σ H s)(e:Rd H a (.dT kvs))(hb:fA X.K H b (ks.map kV))(l:g6 kvs ks=some v)
    (h:∀w' s',Inv X pins σ H s'->RelV v w'->Q w' s'):wpAny (model X.prog X.w) A (getItem (.ref a) (.ref b)) Q E s:=by
  obtain ⟨z,hd,xs,rel,dd⟩:=mP I.bf e;obtain ⟨w',hw,rw'⟩:=j7.some_of (v:=v) (o:=(atKey xs ks).map (·.2)) (by rw[<-l];exact rel.val ks);obtain ⟨p,hp,hp2⟩:=Option.map_eq_some_iff.mp hw;exact wpAny_getItem_heap (tupleKind_room_in1 hu) (ox I hb) dd hp (by rw[hp2];exact h w' _ (I.tok _) rw')
theorem get_dict (hu:X.A.units+1<cLine):CV X (x8 X.K):=by
  intro pins s σ H o i ov iv Q I ro ri h;obtain ⟨a,b,kvs,ks,v,rfl,rfl,e,hb,l,q⟩:=h;cases ro;cases ri;exact p0 hu I e hb l λw' s' I' rw'=>⟨v,H,I',rw',q⟩
noncomputable def AH (K:Frag):eN:=λx y v H Q=>∃a b kvs ks,x=.ref a/\y=.ref b/\H a=some (.dT kvs)/\fA K H b (ks.map kV)/\(g6 kvs ks≠none\/H b=some (.tup (ks.map kV)))/\kvs.length<sizeLine/\Q (upd H a (.dT (putK kvs ks v)))
theorem KT.old {H:Hp}{kvs:List (List Key×V)}{xs:List (List Key×Addr×GR)}(r:KT H kvs xs)(k:List Key){b:Addr}{y:V}{u:GR}(hb:g6 kvs k≠none)(ry:RelV y u):KT H (putK kvs k y) (storedH xs k b u):=by
  have e:(kvs.any λkv=>decide (kv.1=k))=(atKey xs k).isSome:=by rw[iM,(r.val k).mW,Option.isSome_map]
  have q:(atKey xs k).isSome=true:=by
    rw[<-e,iM];cases z:g6 kvs k with
    | none=>exact absurd z hb
    | some _=>rfl
  unfold putK storedH;rw[e,if_pos q,if_pos q];exact r.Ed k ry
theorem set_dict (hu:X.A.units+1<cLine):AY X (AH X.K):=by
  intro pins s σ H o i v ov iv u Q I ro ri rv h;obtain ⟨a,b,kvs,ks,rfl,rfl,e,hb,hk,l,q⟩:=h;cases ro;cases ri;obtain ⟨z,hd,xs,rel,dd⟩:=Di I.bf e;have hz:xs.length<=sizeLine:=by rw[<-Paired.length rel];exact z
  have hl:(putK kvs ks v).length<=sizeLine:=by have:=qf kvs ks v;lia
  have rel':KT H (putK kvs ks v) (storedH xs ks b u):=by
    rcases hk with hk | hk
    · exact rel.old ks hk rv
    · exact rel.put ks hk rv
  refine wpAny_setItem_heap (hsz:=hz) (tupleKind_room_in1 hu) (ox I hb) dd λh' dd' hs=>⟨_,?_,q⟩
  obtain ⟨o',es,ep,hq,h2,h3,h4,_,h5⟩:=dd';exact yP I (by rw[e];exact True.intro) hs ⟨o',hq⟩ ⟨hl,hd,_,rel'.keeps λc ys ec=>by rw[aw (xC ec e λz=>nomatch z)];exact ec,o',es,ep,hq,h2,h3,h4,h5⟩
theorem zK {o i:Expr}{pos:Pos}{td ty:TE}(hu:X.A.units+1<cLine)(ho:PE X o td)(hi:PE X i ty)(hs:AW i):PE X (.Subscript o i pos) (CN (x8 X.K) td ty):=by
  intro pins s σ H Q I h;refine Aa PySem.F.slot_dict_getitem.lookup hs (bt (ho pins s σ H _ I h) λu s1 ⟨x,H1,I1,rx,q1⟩=>bt (hi pins s1 σ H1 _ I1 q1) ?_);rintro iv s2 ⟨y,H2,I2,ry,a,b,kvs,ks,v,ex,ey,e,hb,l,q2⟩;subst ex ey;cases rx;cases ry;obtain ⟨_,_,xs,_,ob,_,_,h1,h2,_⟩:=mP I2.bf e;exact ⟨⟨ob,h1,h2.1⟩,p0 hu I2 e hb l λw' s3 I3 rw'=>⟨v,H2,I3,rw',q2⟩⟩
end
end L2
namespace DL
open PySem L2
noncomputable abbrev cy:=List ((Int×Int)×Int)
noncomputable def aN (kvs:cy)(k:Int×Int):Option Int:=(kvs.find? λp=>decide (p.1=k)).map (·.2)
noncomputable def putD (kvs:cy)(k:Int×Int)(v:Int):cy:=if (kvs.any λp=>decide (p.1=k))=true then kvs.map (λp=>if p.1=k then (p.1,v) else p) else kvs++[(k,v)]
noncomputable def k2 (k:Int×Int):List Key:=[Sum.inl k.1,Sum.inl k.2]
theorem kP {a b:Int×Int}:k2 a=k2 b↔a=b:=by
  constructor
  · intro h;unfold k2 at h;injection h with h1 h2
    injection h2 with h2 _
    exact Prod.ext (Sum.inl.inj h1) (Sum.inl.inj h2)
  · rintro rfl;rfl
theorem lM (kvs:cy)(k:Int×Int):g6 (encD kvs) (k2 k)=(aN kvs k).map V.int:=by
  induction kvs with
  | nil=>rfl
  | cons p r ih =>
    have e:encD (p::r)=(k2 p.1,V.int p.2)::encD r:=rfl;rw[e];by_cases h:p.1=k
    · rw[lO (p:=(k2 p.1,V.int p.2)) (kP.mpr h)];simp[aN,List.find?_cons,h]
    · rw[lN (p:=(k2 p.1,V.int p.2)) (λz=>h (kP.mp z)),ih];simp[aN,List.find?_cons,h]
theorem yA (kvs:cy)(k:Int×Int):((encD kvs).any λkv=>decide (kv.1=k2 k))=kvs.any λp=>decide (p.1=k):=by
  induction kvs with
  | nil=>rfl
  | cons p r ih =>
    have e:encD (p::r)=(k2 p.1,V.int p.2)::encD r:=rfl;rw[e,List.any_cons,List.any_cons,ih];congr 1;exact decide_eq_decide.mpr kP
theorem ly (kvs:cy)(k:Int×Int)(v:Int):putK (encD kvs) (k2 k) (.int v)=encD (putD kvs k v):=by
  unfold putK putD;rw[yA];by_cases h:(kvs.any λp=>decide (p.1=k))=true
  · rw[if_pos h,if_pos h];unfold encD;rw[map_map,map_map];refine map_congr_left λp _=>?_;show (if k2 p.1=k2 k then (k2 p.1,V.int v) else (k2 p.1,V.int p.2))=_;show _=(k2 (if p.1=k then (p.1,v) else p).1,V.int (if p.1=k then (p.1,v) else p).2)
    by_cases e:p.1=k
    · rw[if_pos (kP.mpr e),if_pos e]
    · rw[if_neg (λz=>e (kP.mp z)),if_neg e]
  · rw[if_neg h,if_neg h];unfold encD;rw[map_append];rfl
theorem kH (kvs:cy):(encD kvs).length=kvs.length:=by unfold encD;rw[Hh]
theorem oM {K:Frag}{G:Hp}{v:V}{i j:Int}(r:Rep K G v (.tup [.int i,.int j])):∃b,v=.ref b/\fA K G b ((k2 (i,j)).map kV):=by
  obtain ⟨b,vs,rfl,e,rr⟩:=r.bL;refine ⟨b,rfl,?_⟩;cases rr with
  | cons r1 rr=>cases rr with
    | cons r2 rr=>cases rr;cases r1;cases r2;exact e
theorem zH {K:Frag}{G:Hp}{v:V}{i j:Int}(r:Rep K G v (.tup [.int i,.int j])):∃b,v=.ref b/\G b=some (.tup ((k2 (i,j)).map kV)):=by
  obtain ⟨b,vs,rfl,e,rr⟩:=r.sA;refine ⟨b,rfl,?_⟩;cases rr with
  | cons r1 rr=>cases rr with
    | cons r2 rr=>cases rr;cases r1;cases r2;exact e
theorem aD.Cp {K:Frag}{H0 G H:Hp}{σ:St}{ρ:ar}{i:Nat}{a:Addr}{d d':D}{ob:HO}(e:aD K H0 G H σ ρ)(h1:bp ρ i=some (.o d))(h2:σ[i]?=some (some (.ref a)))(r:bM K G (upd H a ob) a d'):aD K H0 G (upd H a ob) σ (dput ρ i (.o d')):=by
  obtain ⟨o,e⟩:=e;obtain ⟨a',h3,h4,h4',h5⟩:=e.o i _ h1;rw[h2] at h3;cases h3;refine ⟨o,by rw[dR];exact e.len,λj d q=>?_,λj d q=>?_,λj t dss q=>?_⟩
  · rcases aK q with ⟨rfl,_,q⟩ | ⟨hne,q⟩
    · cases q
    · exact e.p j d q
  · rcases aK q with ⟨rfl,_,q⟩ | ⟨hne,q⟩
    · cases q;exact ⟨a,h2,h4,h4',r⟩
    · obtain ⟨b,k1,k2,k2',k3⟩:=e.o j d q;refine ⟨b,k1,k2,k2',k3.d8 (ai.refl _) k3.1 λo z=>?_⟩;rw[aw (by rintro rfl;exact hne (h4'.symm.trans k2'))];exact z
  · rcases aK q with ⟨rfl,_,q⟩ | ⟨hne,q⟩
    · cases q
    · obtain ⟨b,k1,k2⟩:=e.n j t dss q;refine ⟨b,k1,k2.d8 (ai.refl _) λx z1 z2 z3 z4=>⟨z3,z2,λo z=>?_⟩⟩;rw[aw (by rintro rfl;exact hne (h4'.symm.trans z2))];exact z
section
variable {X:Cx} {e e1 e2 o k:Expr} {te t1 t2 ta tk:DT} {i:Nat} {x:Str} {pos px lp tpos sp:Pos}
noncomputable def wq:DT:=λ_ Q=>Q (.o (.dct []))
theorem tJ:DE X (.Dict [] [] pos) wq:=
  DE.of xI (by rintro σ H Q ⟨G,ρ,P,s,_,h,k⟩ p hp;exact k _ _ _ G h ((Wd.refl s).own hp (s.free hp)) ⟨p,rfl,hp,s.free hp,ay⟩)
noncomputable def pL:D2:=λx y Q=>match x,y with
  | .dct kvs,.tup [.int i,.int j]=>∃v,aN kvs (i,j)=some v/\Q (.p (.int v))
  | _,_=>False
theorem jP {n:Nat}(hr:bQ n X.A)(ha:DE X o ta)(hk:DE X k tk)(hs:autoParam (AW k) aZi._auto_1):DE X (.Subscript o k pos) (mK pL ta tk):=
  DE.of (zK (mV hr) ha.pe hk.pe hs) (kj λH G x y dx dy P Q s rx ry h kk=>by
    unfold pL at h;split at h
    · obtain ⟨v,h1,h2⟩:=h;obtain ⟨b,rfl,hb⟩:=oM ry;cases rx with
      | dct e=>exact ⟨_,b,_,_,.int v,rfl,rfl,ft s e,ah s hb,by rw[lM,h1];rfl,kk _ _ H G h2 (Wd.refl s) (.int _)⟩
    · exact h.elim)
noncomputable def sU (i:Nat)(t1 t2 te:DT):fz:=λE ρ=>match bp ρ i with
  | some (.o (.dct kvs))=>te (cx ρ) λb=>match b.val with
    | .int v=>t1 (cx ρ) λb1=>match b1.val with
      | .int z=>t2 (cx ρ) λb2=>match b2.val with
        | .int y=>kvs.length<sizeLine/\E.nx (dput ρ i (.o (.dct (putD kvs (z,y) v))))
        | _=>False
      | _=>False
    | _=>False
  | _=>False
theorem yT {n:Nat}{x1}(hr:bQ n X.A)(hN:X.N[i]?=some x)(hv:vU X.env.scope x)(h1:DE X e1 t1)(h2:DE X e2 t2)(he:DE X e te)(hd:autoParam ((x == ("__debug__" : Str))=false) aZb._auto_1)(hcd:autoParam ((x == ("__classdict__" : Str))=false) aZb._auto_1)
    (hs0:autoParam (starEach [e1,e2] X.env=(false,eval e1 X.env)::starEach [e2] X.env) aZa._auto_1) (hs1:autoParam (starEach [e2] X.env=(false,eval e2 X.env)::starEach [] X.env) aZa._auto_1)
    (ha:autoParam (∀v,assign (.Subscript (.Name x px) (.Tuple [e1,e2] x1 lp) tpos) X.env v=(do
      let ov <-holding [v] (eval (.Name x px) X.env)
      let iv <-holding [v,ov] (eval (.Tuple [e1,e2] x1 lp) X.env)
      standAt tpos
      holding [v,ov,iv] (setItem ov iv v)
      release [v,ov,iv] [])) aZc._auto_1)
    (hs:autoParam (swapsWithSole [.Subscript (.Name x px) (.Tuple [e1,e2] x1 lp) tpos] e pos.line X.env=pure false) aZa._auto_1) (hw:autoParam (swappedStores [.Subscript (.Name x px) (.Tuple [e1,e2] x1 lp) tpos] e X.env=pure none) aZa._auto_1)
    (h0:autoParam ((assignEach [.Subscript (.Name x px) (.Tuple [e1,e2] x1 lp) tpos] X.env).map (·.2) = [assign (.Subscript (.Name x px) (.Tuple [e1,e2] x1 lp) tpos) X.env]) aZa._auto_1) :
    DS X (.Assign [.Subscript (.Name x px) (.Tuple [e1,e2] x1 lp) tpos] e pos) (sU i t1 t2 te):=DS.mk λH0 G0 =>
  PS.imp (sd he.pe (xQ (fR hN hv hd hcd) (xO (eh h1.pe (eh h2.pe jf hs1) hs0)) (set_dict (mV hr)) ha) hs hw h0)<|by
    rintro Dn σ H ⟨E,G,ρ,eo,w,en,h⟩;unfold sU at h;split at h
    · rename_i kvs q;obtain ⟨a,ha1,ha2,ha3,ha4⟩:=en.o i _ q;have ha4:H a=some (.dT (encD kvs)):=ha4;obtain ⟨G1,w1,sg,en1⟩:=en.freeze w;refine ⟨G1,cx ρ,_,w1.gh,en1.p,h,λb v H' G' p' w' r'=>?_⟩;split at p'
      · rename_i vv ev;have hvv:=cZ w' r' ev;subst hvv;refine ⟨.ref a,ha1,G',cx ρ,_,w'.gh,cK.mono w'.gg en1.p,p',λb1 v1 H1 G1' p1 w1' r1=>?_⟩;split at p1
        · rename_i z ez;have hz:=cZ w1' r1 ez;subst hz;refine ⟨G1',cx ρ,_,w1'.gh,cK.mono (w'.trans w1').gg en1.p,p1,λb2 v2 H2 G2 p2 w2 r2=>?_⟩;split at p2
          · rename_i y ey;have hy:=cZ w2 r2 ey;subst hy;obtain ⟨hl,p2⟩:=p2;refine ⟨e6 (by show 2<=1000;decide),λp hp=>?_⟩;have s2:ai H H2:=(w'.hh.trans w1'.hh).trans w2.hh;have e2:H2 a=some (.dT (encD kvs)):=s2 _ _ ha4;have pa:a≠p:=by rintro rfl;rw[e2] at hp;cases hp
            have hu:upd H2 p (.tup [.int z,.int y]) a=some (.dT (encD kvs)):=by rw[aw pa];exact e2
            refine ⟨a,p,encD kvs,k2 (z,y),rfl,rfl,hu,.inl (.inl ay),.inr ay,by rw[kH];exact hl,?_⟩;rw[ly];have s3:ai H (upd H2 p (.tup [.int z,.int y])):=s2.trans (d4 hp);have wb:Wd H0 G0 (upd H2 p (.tup [.int z,.int y])) G:=⟨w.hh.trans s3,w.gg,w.gh.trans s3,w.old⟩
            exact eo.nx σ _ G _ (wb.own ha2 ha3) ((en.back s3).Cp q ha1 ⟨ha3,ay⟩) p2
          · exact p2.elim
        · exact p1.elim
      · exact p'.elim
    · exact h.elim
noncomputable def sS (i:Nat)(tk te:DT)(f:Int->Int->Int):fz:=λE ρ=>match bp ρ i with
  | some (.o (.dct kvs))=>tk (cx ρ) λb=>match b.val with
    | .tup [.int z,.int y]=>∃m,aN kvs (z,y)=some m/\te (cx ρ) λb=>match b.val with
      | .int v=>kvs.length<sizeLine/\E.nx (dput ρ i (.o (.dct (putD kvs (z,y) (f m v)))))
      | _=>False
    | _=>False
  | _=>False
theorem yS {op:Operator}{f:Int->Int->Int}(h:PS X (.AugAssign (.Subscript (.Name x px) k tpos) op e pos) (AL (Cz i) (cE X.K tk) (cE X.K te) (x8 X.K) (EG f) (AH X.K))) :
    DS X (.AugAssign (.Subscript (.Name x px) k tpos) op e pos) (sS i tk te f):=DS.mk λH0 G0 =>
  PS.imp h<|by
    rintro Dn σ H ⟨E,G,ρ,eo,w,en,h⟩;unfold sS at h;split at h
    · rename_i kvs q;obtain ⟨a,ha1,ha2,ha3,ha4⟩:=en.o i _ q;have ha4:H a=some (.dT (encD kvs)):=ha4;obtain ⟨G1,w1,sg,en1⟩:=en.freeze w;refine ⟨.ref a,ha1,G1,cx ρ,_,w1.gh,en1.p,h,λb v H' G' p' w' r'=>?_⟩;obtain ⟨G2,w2,r2⟩:=r'.give w';split at p'
      · rename_i z y ez;rw[ez] at r2;obtain ⟨m,hm,p'⟩:=p';obtain ⟨c,rfl,hc⟩:=oM r2;have hv:g6 (encD kvs) (k2 (z,y))=some (.int m):=by rw[lM,hm];rfl
        refine ⟨a,c,encD kvs,k2 (z,y),.int m,rfl,rfl,.inl (w2.hh _ _ ha4),ah w2.gh hc,hv,?_⟩;refine ⟨G2,cx ρ,_,w2.gh,cK.mono w2.gg en1.p,p',λb3 v3 H3 G3 p3 w3 r3=>?_⟩;split at p3
        · rename_i n en3;obtain ⟨hl,p3⟩:=p3;have s3:ai H H3:=w2.hh.trans w3.hh;refine ⟨m,n,rfl,cZ w3 r3 en3,a,c,encD kvs,k2 (z,y),rfl,rfl,s3 _ _ ha4,ah (w2.gh.trans w3.hh) hc,.inl (by rw[hv];simp),by rw[kH];exact hl,?_⟩;rw[ly];have wb:Wd H0 G0 H3 G:=⟨w.hh.trans s3,w.gg,w.gh.trans s3,w.old⟩
          exact eo.nx σ _ G _ (wb.own ha2 ha3) ((en.back s3).Cp q ha1 ⟨ha3,ay⟩) p3
        · exact p3.elim
      · exact p'.elim
    · exact h.elim
end
end DL
namespace DL
open PySem L2
theorem C0 {K:Frag}{H0 G0 G H G1 H' G':Hp}(w:Wd H0 G0 H G)(w1:Wd H0 G0 H G1)(w':Wd H G1 H' G') :
    ∃G3,Wd H0 G0 H' G3/\ai G G3/\(∀c us,fA K G' c us->fA K G3 c us)/\(∀c us,H' c=some (.tup us)->G3 c=some (.tup us))/\∀x,(∀us,H' x≠some (.tup us))->(∀o us,H' x≠some (.cx o us))->G3 x=G x:=by
  classical
  have gh':ai G H':=w.gh.trans w'.hh;let C:Addr->Prop:=λc=>(∃us,H' c=some (.tup us))\/(H0 c=none/\∃o us,H' c=some (.cx o us))
  obtain ⟨G3,yes,no⟩ : ∃G3:Hp,(∀c,C c->G3 c=H' c)/\∀c,¬C c->G3 c=G c:=⟨λc=>if C c then H' c else G c,λc h=>if_pos h,λc h=>if_neg h⟩
  have sg:ai G G3:=λc o e=>by
    by_cases z:C c
    · rw[yes c z];exact gh' _ _ e
    · rw[no c z];exact e
  refine ⟨G3,⟨w.hh.trans w'.hh,w.gg.trans sg,λc o e=>?_,λc hc=>?_⟩,sg,λc us h=>?_,λc us h=>by rw[yes c (.inl ⟨us,h⟩)];exact h,λx h1 h2=>no x ?_⟩
  · by_cases z:C c
    · rw[yes c z] at e;exact e
    · rw[no c z] at e;exact gh' _ _ e
  · rw[no c ?_]
    · exact w.old c hc
    · obtain ⟨o,e,n⟩:=hc;rintro (⟨us,z⟩ | ⟨z,_⟩)
      · have:=(w.hh.trans w'.hh) _ _ e;rw[z] at this;cases this;exact n us rfl
      · rw[z] at e;cases e
  · rcases h with h | h
    · rcases h with h | ⟨o,h⟩
      · have e:=w'.gh _ _ h;exact .inl (.inl (by rw[yes c (.inl ⟨us,e⟩)];exact e))
      · have e:=w'.gh _ _ h;by_cases z:H0 c=none
        · exact .inl (.inr ⟨o,by rw[yes c (.inr ⟨z,o,_,e⟩)];exact e⟩)
        · have cg:AQ H0 c:=by
            cases q:H0 c with
            | none=>exact absurd q z
            | some y =>
              have:=(w.hh.trans w'.hh) _ _ q;rw[e] at this;cases this;exact ⟨_,q,λ_ z=>nomatch z⟩
          have n:¬C c:=by
            rintro (⟨us',k⟩ | ⟨k,_⟩)
            · rw[e] at k;cases k
            · exact z k
          refine .inl (.inr ⟨o,?_⟩);rw[no c n,w.old c cg,<-(w1.trans w').old c cg];exact h
    · exact .inr h
  · rintro (⟨us,z⟩ | ⟨_,o,us,z⟩)
    · exact h1 us z
    · exact h2 o us z
theorem aD.more {K:Frag}{H0 G H G3:Hp}{σ:St}{ρ:ar}(e:aD K H0 G H σ ρ)(sg:ai G G3)(hk:∀x,G x=none->((∃vs,H x=some (.lst vs))\/∃kvs,H x=some (.dT kvs))->G3 x=none):aD K H0 G3 H σ ρ:=by
  obtain ⟨o,e⟩:=e;have own:∀x d,bM K G H x d->bM K G3 H x d:=λx d q=>by
    refine q.d8 sg (hk x q.1 ?_) λo z=>z;obtain ⟨k1,k2⟩:=q;cases d with
    | lst ds=>obtain ⟨vs,k3,_⟩:=k2;exact .inl ⟨vs,k3⟩
    | dct kvs=>exact .inr ⟨_,k2⟩
    | non=>exact k2.elim
    | bl _=>exact k2.elim
    | int _=>exact k2.elim
    | str _=>exact k2.elim
    | tup _=>exact k2.elim
    | scr _=>exact k2.elim
  refine ⟨o,e.len,λi d q=>?_,λi d q=>?_,λi t dss q=>?_⟩
  · obtain ⟨v,h1,h2⟩:=e.p i d q;exact ⟨v,h1,h2.mono sg⟩
  · obtain ⟨b,h1,h2,h3,h4⟩:=e.o i d q;exact ⟨b,h1,h2,h3,own b d h4⟩
  · obtain ⟨b,h1,as,nd,pr,z⟩:=e.n i t dss q;refine ⟨b,h1,as,nd,eA (by rintro x d _ ⟨k1,k2,k3⟩;exact ⟨k1,k2,own x _ k3⟩) pr,?_⟩;cases t with
    | true=>exact sg _ _ z
    | false =>
      obtain ⟨z1,z2,z3,z4,z5⟩:=z;exact ⟨z1,z2,hk b z3 (.inl ⟨_,z5⟩),z4,z5⟩
noncomputable def D.flat:D->Bool
  | .tup es=>es.all D.sc
  | d=>d.sc
theorem Rep.flat {K:Frag}{G' G3:Hp}{v:V}{d:D}(k:∀c us,G' c=some (.tup us)->G3 c=some (.tup us))(r:Rep K G' v d)(f:d.flat=true):Rep K G3 v d:=by
  cases d with
  | tup es =>
    obtain ⟨a,vs,rfl,e,rr⟩:=r.sA;exact Rep.sy (k _ _ e) (zX rr f)
  | non=>exact r.sc f
  | bl _=>exact r.sc f
  | int _=>exact r.sc f
  | str _=>exact r.sc f
  | lst _=>exact r.sc f
  | scr _=>exact r.sc f
  | dct _=>exact r.sc f
theorem aE.flat {K:Frag}{G' G3:Hp}{vs:List V}{ds:List D}(k:∀c us,G' c=some (.tup us)->G3 c=some (.tup us))(r:aE K G' vs ds)(f:ds.all D.flat=true):aE K G3 vs ds:=by
  induction r with
  | nil=>exact .nil
  | cons h _ ih =>
    rw[List.all_cons,Bool.and_eq_true] at f;exact .cons (h.flat k f.1) (ih f.2)
section
variable {X:Cx} {tg iter:Expr} {te:DT} {body:List Stmt} {g:Tg} {tb:fz} {pos:Pos}
end
section
variable {X:Cx} {e k m:Expr} {tk tm te:DT} {i:Nat} {x:Str} {pos px sp tpos:Pos}
end
end DL
namespace DIt
open PySem PySem.W PySem.Calls PyProof.Rows
structure At (h:Heap)(d:Addr)(es:Array DictEntry)(ep:Nat):Prop where
  ex:∃o,h.get? d=some o/\o.ExactDict/\o.data=.dict es ep
theorem At.ty {s:GU}{d es ep}(x:At s.heap d es ep):s.TypeIs (.ref d) "dict":=by
  obtain ⟨o,h1,h2,_⟩:=x.ex;exact ⟨o,h1,h2.1⟩
theorem At.keep {h h':Heap}{d es ep}(x:At h d es ep)(k:∀o,h.get? d=some o->h'.get? d=some o):At h' d es ep:=by
  obtain ⟨o,h1,r⟩:=x.ex;exact ⟨o,k _ h1,r⟩
theorem At.lt {h:Heap}{d es ep}(x:At h d es ep):d<h.objs.size:=by
  obtain ⟨o,h1,_⟩:=x.ex;exact Hg h1
section
variable {prog:Hj} {w:Hs} {A:Hr} {E:GR->GU->Prop} {s:GU} {d it:Addr} {es:Array DictEntry} {ep i:Nat}
theorem start {Q:GR->GU->Prop}(hd:(d == sysModules)=false)(x:At s.heap d es ep)
    (q:Q (.ref s.heap.objs.size) { s with heap:=s.heap.push { cls:=.type "dict_keyiterator",data:=.fields #[.ref d,.int 0 0,.int es.size 0,.int ep 0] } }):wpAny (model prog w) A (pyIter (.ref d)) Q E s:=by
  obtain ⟨o,e1,e2,e3⟩:=x.ex;have ty:=x.ty;refine wpAny_pyIter_slot ty PySem.F.slot_dict_iter (wpAny_call_entry PySem.F.slot_dict_iter ty PySem.F.entry_dict_iter ?_ (PySem.F.args_dict_iter_1 _));unfold Builtin.«dict.__iter__» Builtin.Dict.dictSlotNone;refine GS (GS (wpAny_notOrdered_dict ty (show wpAny _ _ (pure (Value.ref d)) _ _ s from GX ?_)));show wpAny _ _ (Builtin.Dict.showsAll d >>= _) _ _ s;unfold Builtin.Dict.showsAll;rw[if_neg (show ¬(d == sysModules)=true by rw[hd];exact Ht)];refine GS (GX (GS (wpAny_dictEntries e1 e3 (GS (wpAny_dictEpoch e1 e3 ?_)))));refine GS (wpAny_newObj_type (GX ⟨_,rfl,"dict_keyiterator",_,⟨_,Hq _ rfl,rfl⟩,PySem.F.slot_dict_keyiterator_next.lookup,?_⟩));simpa [rawInt] using q
theorem item {Q:Option GR->GU->Prop}(hit:s.heap.IsKeyIter it d i es.size ep)(x:At s.heap d es ep)(hi:i<es.size)
    (hQ:∀h',h'.IsKeyIter it d (i+1) es.size ep->Heap.SameBut it s.heap h'->Q (some es[i].key) { s with heap:=h' }):wpAny (model prog w) A (pyNext (.ref it)) Q E s:=by
  obtain ⟨o,f1,f2,f3⟩:=id hit;obtain ⟨od,e1,e2,e3⟩:=x.ex;unfold pyNext;refine GS (wpAny_attempt (wpAny_callSpecial?_slot (name:=Str.ofString "__next__") hit.typeIs PySem.F.slot_dict_keyiterator_next (wpAny_call_entry PySem.F.slot_dict_keyiterator_next hit.typeIs PySem.F.entry_dict_keyiterator_next ?_ (PySem.F.args_dict_keyiterator_next_1 _))));refine GS (GX (GS (GS ?_)));first | refine GS (wpAny_typeNameOfWhole_keyiter hit.typeIs (GX (GS (wpAny_fieldsOf f1 f3 ?_)))) | refine GS (wpAny_typeNameOf_keyiter hit.typeIs (GX (GS (wpAny_fieldsOf f1 f3 ?_))))
  have own:Builtin.Dict_items.ownsTuple "dict_keyiterator" = false:=by decide
  simp only[own,Hl,if_false];show wpAny _ _ (if (Value.ref d == Value.none)=true then _ else _) _ _ s;rw[if_neg (show ¬(Value.ref d == Value.none)=true from Ht)];refine GS (GX (GS (wpAny_dictEntries e1 e3 ?_)));rw[if_neg (show ¬_ by simp)];refine GS (GX (GS (wpAny_dictEpoch e1 e3 ?_)));rw[if_neg (show ¬_ by simp)];refine GX ?_;simp only[show ¬((i:Int)<0) from by lia,if_false,Int.toNat_natCast,Ha hi];refine GS ?_;first | refine GS (wpAny_typeNameOfWhole_keyiter hit.typeIs (GX (GS (wpAny_isOneOf_keyiter hit.typeIs ?_)))) | refine GS (wpAny_typeNameOf_keyiter hit.typeIs (GX (GS (wpAny_isOneOf_keyiter hit.typeIs ?_))))
  first | refine GS (wpAny_isOneOf_keyiter hit.typeIs ?_) | skip
  show wpAny _ _ (setField (.ref it) 1 (rawInt ((i:Int)+1)) >>= _) _ _ s;refine GS (wpAny_setField f1 f3 (by simp) ?_);have hit':(s.heap.update it (Obj.mapFields (·.setIfInBounds 1 (rawInt ((i:Int)+1))))).IsKeyIter it d (i+1) es.size ep:=
    ⟨_,Heap.get?_update_self _ f1 (Obj.isFreed_of_fields (Obj.data_mapFields f3 _)),(Obj.cls_mapFields ..).trans f2,by rw[Obj.data_mapFields f3];simp[rawInt]⟩
  refine GS (wpAny_holding (GS (wpAny_isOneOf_keyiter (s:={ s with heap:=s.heap.update it (Obj.mapFields (·.setIfInBounds 1 (rawInt ((i:Int)+1)))) }) hit'.typeIs ?_)));show wpAny _ _ (pure es[i].key) _ _ _;exact GX (GX ⟨_,rfl,GX (hQ _ hit' (Heap.SameBut.update ..))⟩)
theorem done {Q:Option GR->GU->Prop}(hh:A.handled=none)(hit:s.heap.IsKeyIter it d es.size es.size ep)(x:At s.heap d es ep)(hQ:∀h',Heap.ExtBut it s.heap h'->Q none { s with heap:=h' }):wpAny (model prog w) A (pyNext (.ref it)) Q E s:=by
  obtain ⟨o,f1,f2,f3⟩:=id hit;obtain ⟨od,e1,e2,e3⟩:=x.ex;unfold pyNext;refine GS (wpAny_attempt (wpAny_callSpecial?_slot (name:=Str.ofString "__next__") hit.typeIs PySem.F.slot_dict_keyiterator_next (wpAny_call_entry PySem.F.slot_dict_keyiterator_next hit.typeIs PySem.F.entry_dict_keyiterator_next ?_ (PySem.F.args_dict_keyiterator_next_1 _))));refine GS (GX (GS (GS ?_)));first | refine GS (wpAny_typeNameOfWhole_keyiter hit.typeIs (GX (GS (wpAny_fieldsOf f1 f3 ?_)))) | refine GS (wpAny_typeNameOf_keyiter hit.typeIs (GX (GS (wpAny_fieldsOf f1 f3 ?_))))
  have own:Builtin.Dict_items.ownsTuple "dict_keyiterator" = false:=by decide
  simp only[own,Hl,if_false];show wpAny _ _ (if (Value.ref d == Value.none)=true then _ else _) _ _ s;rw[if_neg (show ¬(Value.ref d == Value.none)=true from Ht)];refine GS (GX (GS (wpAny_dictEntries e1 e3 ?_)));rw[if_neg (show ¬_ by simp)];refine GS (GX (GS (wpAny_dictEpoch e1 e3 ?_)));rw[if_neg (show ¬_ by simp)];refine GX ?_;simp only[show ¬((es.size:Int)<0) from by lia,if_false,Int.toNat_natCast,Array.getElem?_eq_none (GW es.size)];refine GS ?_;first | refine GS (wpAny_typeNameOfWhole_keyiter hit.typeIs (GX ?_)) | skip
  show wpAny _ _ (setField (.ref it) 0 .none >>= _) _ _ s;refine GS (wpAny_setField f1 f3 (by simp) ?_);show wpAny _ _ (newExc (.type "StopIteration") [] >>= _) _ _ _;refine GS ?_;simp only[newExc,newTuple];refine GS (wpAny_newObj_type (GS (m:=firstArgMember _ _) (wpAny_of_eq (a:=Value.none) (by first | rfl | (simp only[firstArgMember];rfl)) (wpAny_newObj_type ?_ (by size_fits)))) (by size_fits));simp only[raiseNew];refine GS (wpAny_handled ?_);rw[show A.in1.handled=none from hh];refine GS (GX (wpAny_throw ?_));refine GS (wpAny_isInstance (T:="StopIteration") (b:=true) ⟨_,Hq _ rfl,rfl⟩ isSubtype_stop (GX (hQ _ (((Heap.SameBut.update ..).extBut.push _).push _))))
theorem walk (hh:A.handled=none)(I d:Addr)(hne:d≠I)(es:Array DictEntry)(ep:Nat) :
    Walks prog w A I [I,d] [I] es.size (λi v=>∃e,es[i]?=some e/\v=e.key) (λi h=>h.IsKeyIter I d i es.size ep/\At h d es ep) where
  sub:=λb hb=>by simp at hb;simp[hb]
  frame:=λ_ _ _ st hk=>⟨st.1.at λo e=>hk I (by simp) o e,st.2.keep λo e=>hk d (by simp) o e⟩
  item:=λi s Q E hi st hQ=>item st.1 st.2 hi λh' k hs'=>hQ _ h' s.toks ⟨es[i],by simp[hi],rfl⟩ ⟨k,st.2.keep λo e=>hs'.extBut d o hne e⟩ λb o hb e=>hs'.extBut b o (λh=>hb (by simp[h])) e
  done:=λs Q E st hQ=>done hh st.1 st.2 λh' he'=>hQ h' s.toks λb o hb e=>he' b o (λh=>hb (by simp[h])) e
  self:=λ_ _ _ _ st hQ=>wpAny_pyIter_keyiter st.1 hQ
theorem src (lo:(d == sysModules)=false):KdlSrc prog w "dict" d d es.size (λi v=>∃e,es[i]?=some e/\v=e.key) (λh=>At h d es ep) where
  type:=λ_ hm=>hm.ty
  there:=λ_ hm=>⟨hm.lt,hm.lt⟩
  keep:=λ_ _ hm hk=>hm.keep λo e=>hk d (.inl rfl) o e
  notList:=by decide
  notTuple:=by decide
  hint:=λ_ _ _ _ hm hq=>kdl_hint_dict hm.ty hq
  iter:=λ_ _ hh hm=>⟨_,_,(λ_ _ hq=>start lo hm hq),walk hh _ d (Hm hm.lt) es ep,⟨⟨_,Hq _ rfl,rfl,rfl⟩,hm.keep λo e=>GZ _ e⟩⟩
end
end DIt
namespace SoT
open PySem PySem.W PySem.Calls PyProof.Rows
noncomputable def xn (fin:Bool):List Int->List Int->Bool
  | a::r,b::r'=>if a=b then xn fin r r' else decide (a<b)
  | _,_=>fin
noncomputable def Tp (h:Heap)(v:GR)(ns:List Int):Prop:=∃a o xs n,v=.ref a/\h.get? a=some o/\o.cls=.type "tuple"/\o.data=.seq xs n/\IntsAre xs.toList ns
theorem Tp.keep {h h':Heap}{v:GR}{ns:List Int}(k:∀b o,h.get? b=some o->o.cls=.type "tuple"->h'.get? b=some o)(t:Tp h v ns):Tp h' v ns:=by
  obtain ⟨a,o,xs,n,e,h1,h2,r⟩:=t;exact ⟨a,o,xs,n,e,k a o h1 h2,h2,r⟩
section
variable {prog:Hj} {w:Hs} {A:Hr} {E:GR->GU->Prop} {s:GU}
theorem BP {b:Bool}{x y:Int}{t u:Tok}{Q:Bool->GU->Prop}(h:Q (decide (x<y)) s):wpAny (model prog w) A (oneLt' b (.int x t) (.int y u)) Q E s:=by
  cases b with
  | true=>exact oneLt_int h
  | false=>exact kat_one _ _ (PyProof.Rows.lt_int (show Q (decide (x<y)) s from h))
theorem ub {b fin:Bool}{Q:Bool->GU->Prop}:∀{us vs:List GR} {ns ms:List Int} (i:Nat),IntsAre us ns->IntsAre vs ms->Q (xn fin ns ms) s->KatLex prog w A b fin Q (us.zip vs) i s
  | _,_,_,_,_,.nil,.nil,h=>h
  | _,_,_,_,_,.nil,.cons _ _ _,h=>h
  | _,_,_,_,_,.cons _ _ _,.nil,h=>h
  | _,_,_,_,i,.cons x t r,.cons y u r',h=>by
    rw[List.zip_cons_cons];refine kat_cons (wpAny_eqBool_int ?_);have h':Q (if x=y then xn fin _ _ else decide (x<y)) s:=h;by_cases e:x=y
    · rw[if_pos e] at h';rw[show (x == y)=true by simp[e]];exact kat_yes (ub (i+1) r r' h')
    · rw[if_neg e] at h';rw[show (x == y)=false by simp[e]];exact kat_no (BP h')
theorem BC {v u:GR}{ns ms:List Int}{Q:Bool->GU->Prop}(hv:Tp s.heap v ns)(hu:Tp s.heap u ms)(h:Q (xn (decide (ns.length<ms.length)) ns ms) s):wpAny (model prog w) A (keyLt' (tuples' true) v u) Q E s:=by
  obtain ⟨a,o,xs,n,rfl,h1,h2,h3,h4⟩:=hv;obtain ⟨a',o',xs',n',rfl,g1,g2,g3,g4⟩:=hu;have il:∀{us:List GR} {ns:List Int},IntsAre us ns->us.length=ns.length:=λr=>by
    induction r with
    | nil=>rfl
    | cons _ _ _ ih=>simp[ih]
  have e1:xs.size=ns.length:=by rw[<-il h4];simp
  have e2:xs'.size=ms.length:=by rw[<-il g4];simp
  refine kat_lt h1 h3 g1 g3 (ub 0 h4 g4 ?_);rw[e1,e2];exact h
theorem xj {h:Heap}:∀{vs:List GR} {nss:List (List Int)},vs.length=nss.length->(∀(i:Nat) v ns,vs[i]?=some v->nss[i]?=some ns->0<ns.length/\Tp h v ns)->∃fs,KatTups h vs fs/\fs.length=vs.length/\∀f∈fs,∃n t,f=Value.int n t
  | [],[],_,_=>⟨[],KatTups.nil,rfl,λ_ z=>nomatch z⟩
  | v::vs,ns::nss,e,f=>by
    obtain ⟨fs,h1,h2,h3⟩:=xj (vs:=vs) (nss:=nss) (by simpa using e) λi v ns a b=>f (i+1) v ns (by simpa using a) (by simpa using b);obtain ⟨hl,a,o,xs,n,rfl,g1,g2,g3,g4⟩:=f 0 v ns rfl rfl;cases ns with
    | nil=>simp at hl
    | cons x r =>
      cases q:xs.toList with
      | nil=>rw[q] at g4;cases g4
      | cons u us =>
        rw[q] at g4;cases g4 with
        | cons _ t _ =>
          refine ⟨.int x t::fs,KatTups.cons g1 g2 g3 (by rw[<-GY,q];rfl) h1,by simp[h2],λf hf=>?_⟩;rcases Hn.mp hf with rfl | hf
          · exact ⟨x,t,rfl⟩
          · exact h3 f hf
theorem jI {h:Heap}{a:Addr}{vs:List GR}{out:Array GR}{b:Addr}{o:Obj}(hb:b≠a)(e:h.get? b=some o):(sortedHeap h a vs out).get? b=some o:=by
  unfold sortedHeap;refine (Heap.get?_update_other _ _ (Ne.symm hb)).trans (GZ _ (GZ _ ((Heap.get?_update_other _ _ (Ne.symm hb)).trans e)))
end
end SoT
namespace L2
open PySem PySem.Spec PyProof.Rows
section
variable {X:Cx}
theorem kI {P:Hj}{w:Hs}{H:Hp}:∀{ps:List ((Int×Int)×Int)} {xs:List (List Key×Addr×GR)},KT H (DL.encD ps) xs->∃bs:List Addr,Paired (λb p=>H b=some (.tup [.int p.1.1,.int p.1.2])) bs ps/\(xs.map (entryOfKey (tupleKind (bw P w)))).map (·.key)=bs.map Value.ref
  | [],_,r=>by
    have r':KT H [] _:=r;cases r';exact ⟨[],.nil,rfl⟩
  | p::ps,_,r=>by
    have r':KT H ((DL.k2 p.1,V.int p.2)::DL.encD ps) _:=r;cases r' with
    | cons h t =>
      obtain ⟨bs,h1,h2⟩:=kI (P:=P) (w:=w) t;rename_i q qs;refine ⟨q.2.1::bs,.cons h.2.1 h1,?_⟩;rw[map_cons,map_cons,map_cons,h2];rfl
end
end L2
namespace DL
open PySem L2
noncomputable def xk (kvs:cy):List D:=kvs.map λp=>.tup [.int p.1.1,.int p.1.2]
theorem vM {K:Frag}{H G:Hp}{l:Addr}{bs:List Addr}{ps:cy}(s:ai G H)(hl:H l=none)(hb:Paired (λb p=>H b=some (.tup [.int p.1.1,.int p.1.2])) bs ps) :
    ∃G',Wd H G (upd H l (.lst (bs.map V.ref))) G'/\eD K H G' (upd H l (.lst (bs.map V.ref))) (.ref l) (.o (.lst (xk ps))):=by
  obtain ⟨G3,w3,s3,k3,t3,o3⟩:=C0 (K:=K) (Wd.refl s) (Wd.refl s) ((Wd.refl s).own hl (s.free hl) (o:=.lst (bs.map V.ref)));have hl3:G3 l=none:=by
    rw[o3 l (λus z=>by rw[ay] at z;cases z) (λo us z=>by rw[ay] at z;cases z)];exact s.free hl
  refine ⟨G3,w3,l,rfl,hl,hl3,bs.map V.ref,ay,?_⟩;unfold xk;clear w3 s3 k3 o3 hl3;induction hb with
  | nil=>exact .nil
  | @cons b p bs ps h _ ih =>
    refine .cons ?_ (ih ?_)
    · refine Rep.sy (t3 b _ ?_) (.cons (.int _) (.cons (.int _) .nil));rw[aw (by rintro rfl;rw[h] at hl;cases hl)];exact h
    · intro c us z;refine t3 c us ?_;by_cases e:c=l
      · subst e;rw[ay] at z;cases z
      · rw[aw e] at z ⊢;exact z
end DL
namespace L2
open PySem PySem.Spec PyProof.Rows
end L2
namespace DL
open PySem L2
end DL
namespace PySem
section
variable {prog:Hj} {w:Hs} {K:Type} [DecidableEq K] {knd:HeapKind prog w K} {A:Hr} {E:GR->GU->Prop} {s:GU}
end
end PySem
namespace L2
open PySem PySem.Spec PyProof.Rows
section
variable {X:Cx} {pins:List (Addr×Obj)} {σ:St} {H:Hp} {s:GU} {a b:Addr}
noncomputable def Cv (K:Frag)(td ty tx:TE):TE:=λσ H Q=>td σ H λx H1=>∃a,x=.ref a/\Gb H1 a/\ty σ H1 λy H2=>tx σ H2 λz H3=>∃kvs ks b,Rd H3 a (.dT kvs)/\y=.ref b/\fA K H3 b (ks.map kV)/\Q ((g6 kvs ks).getD z) H3
variable {o e f:Expr} {apos cpos:Pos} {td ty tx:TE}
theorem xJ (hu:X.A.units+1<cLine)(ho:PE X o td)(he:PE X e ty)(hf:PE X f tx)(m:M2 X o "get" apos e f cpos):PE X (.Call (.Attribute o "get" apos) [e,f] [] cpos) (Cv X.K td ty tx):=by
  intro pins s σ H Q I h;refine wpAny_Call_method m.base m.Gp m.line PySem.F.plainAttrs_dict PySem.F.slot_dict_get PySem.F.type_dict_get (bt (ho pins s σ H _ I h) ?_);rintro u s1 ⟨x,H1,I1,rx,a,ex,d,q1⟩;subst ex;obtain rfl:u=Value.ref a:=rx;obtain ⟨t1,t2,_⟩:=Bw I1 d;refine ⟨t1,t2,?_⟩;rw[m.trees];refine Calls.callWith_builtin rfl (Calls.evalArgs_plain (Calls.spliced_cons (bt (he pins s1 σ H1 _ I1 q1) λiv s2 ⟨y,H2,I2,ry,q2⟩ =>
    Calls.spliced_cons (bt (hf pins s2 σ H2 _ I2 q2) λfv s3 ⟨z,H3,I3,rz,kvs,ks,b,ea,ey,hb,q3⟩=>Calls.spliced_nil ?_))))
  subst ey;obtain rfl:iv=Value.ref b:=ry;obtain ⟨zz,hd,xs,rel,dd⟩:=mP I3.bf ea;refine call_meetsIn PySem.F.slot_dict_get dd.typeIs PySem.F.entry_dict_get (PySem.F.args_dict_get_3 _ _ _) (meetsH_dict_get_default (tupleKind (bw X.prog X.w)) a b hd fv) ⟨tupleKind_room_in1 hu,ks,xs,ox I3 hb,dd,⟨_,H3,I3.tok _,?_,q3⟩⟩;exact (rel.val ks).getD rz
end
end L2
namespace DL
open PySem L2
section
variable {X:Cx} {e f o k:Expr} {te tf td tk:DT} {i j:Nat} {x y:Str} {pos px py apos cpos lp tpos sp:Pos}
noncomputable def wj (td tk tf:DT):DT:=λρ Q=>td ρ λb=>match b.val with
  | .dct kvs=>tk ρ λb1=>match b1.val with
    | .tup [.int z,.int y]=>tf ρ λb2=>match b2.val with
      | .int d=>Q (.p (.int ((aN kvs (z,y)).getD d)))
      | _=>False
    | _=>False
  | _=>False
theorem nW {n:Nat}(hr:bQ n X.A)(ho:DE X o td)(hk:DE X k tk)(hf:DE X f tf)(m:M2 X o "get" apos k f cpos):DE X (.Call (.Attribute o "get" apos) [k,f] [] cpos) (wj td tk tf):=
  DE.of (xJ (mV hr) ho.pe hk.pe hf.pe m)<|by
    rintro σ H Q ⟨G,ρ,P,s,re,h,kk⟩;refine ⟨G,ρ,_,s,re,h,λb v H1 G1 p1 w1 r1=>?_⟩;obtain ⟨G1,w1,r1⟩:=r1.give w1;split at p1
    · rename_i kvs ev;rw[ev] at r1;cases r1 with
      | dct ea =>
        refine ⟨_,rfl,.inr ⟨_,ft w1.gh ea⟩,G1,ρ,_,w1.gh,cK.mono w1.gg re,p1,λb2 v2 H2 G2 p2 w2 r2=>?_⟩;obtain ⟨G2,w2,r2⟩:=r2.give w2;split at p2
        · rename_i z y ez;rw[ez] at r2;obtain ⟨c,rfl,hc⟩:=oM r2;refine ⟨G2,ρ,_,w2.gh,cK.mono (w1.trans w2).gg re,p2,λb3 v3 H3 G3 p3 w3 r3=>?_⟩;split at p3
          · rename_i d ed;have hd:=cZ w3 r3 ed;subst hd;refine ⟨encD kvs,k2 (z,y),c,ft (w2.hh.trans w3.hh) (ft w1.gh ea),rfl,ah (w2.gh.trans w3.hh) hc,?_⟩;rw[lM];have:((aN kvs (z,y)).map V.int).getD (.int d)=.int ((aN kvs (z,y)).getD d):=by cases aN kvs (z,y)<;>rfl
            rw[this];exact kk _ _ H3 G3 p3 ((w1.trans w2).trans w3) (.int _)
          · exact p3.elim
        · exact p2.elim
    · exact p1.elim
noncomputable def nO (i:Nat)(tk te:DT):fz:=λE ρ=>match bp ρ i with
  | some (.o (.dct kvs))=>te (cx ρ) λb=>match b.val with
    | .int v=>tk (cx ρ) λb1=>match b1.val with
      | .tup [.int z,.int y]=>kvs.length<sizeLine/\E.nx (dput ρ i (.o (.dct (putD kvs (z,y) v))))
      | _=>False
    | _=>False
  | _=>False
theorem wK {n:Nat}(hr:bQ n X.A)(hN:X.N[i]?=some x)(hv:vU X.env.scope x)(hk:DE X k tk)(he:DE X e te)(hd:autoParam ((x == ("__debug__" : Str))=false) aZb._auto_1)(hcd:autoParam ((x == ("__classdict__" : Str))=false) aZb._auto_1)
    (ha:autoParam (∀v,assign (.Subscript (.Name x px) k tpos) X.env v=(do
      let ov <-holding [v] (eval (.Name x px) X.env)
      let iv <-holding [v,ov] (eval k X.env)
      standAt tpos
      holding [v,ov,iv] (setItem ov iv v)
      release [v,ov,iv] [])) aZc._auto_1)
    (hs:autoParam (swapsWithSole [.Subscript (.Name x px) k tpos] e pos.line X.env=pure false) aZa._auto_1) (hw:autoParam (swappedStores [.Subscript (.Name x px) k tpos] e X.env=pure none) aZa._auto_1)
    (h0:autoParam ((assignEach [.Subscript (.Name x px) k tpos] X.env).map (·.2) = [assign (.Subscript (.Name x px) k tpos) X.env]) aZa._auto_1) :
    DS X (.Assign [.Subscript (.Name x px) k tpos] e pos) (nO i tk te):=DS.mk λH0 G0 =>
  PS.imp (sd he.pe (xQ (fR hN hv hd hcd) hk.pe (set_dict (mV hr)) ha) hs hw h0)<|by
    rintro Dn σ H ⟨E,G,ρ,eo,w,en,h⟩;unfold nO at h;split at h
    · rename_i kvs q;obtain ⟨a,ha1,ha2,ha3,ha4⟩:=en.o i _ q;have ha4:H a=some (.dT (encD kvs)):=ha4;obtain ⟨G1,w1,sg,en1⟩:=en.freeze w;refine ⟨G1,cx ρ,_,w1.gh,en1.p,h,λb v H' G' p' w' r'=>?_⟩;split at p'
      · rename_i vv ev;have hvv:=cZ w' r' ev;subst hvv;refine ⟨.ref a,ha1,G',cx ρ,_,w'.gh,cK.mono w'.gg en1.p,p',λb1 v1 H1 G1' p1 w1' r1=>?_⟩;obtain ⟨G2,w2,r2⟩:=r1.give w1';split at p1
        · rename_i z y ez;rw[ez] at r2;obtain ⟨hl,p1⟩:=p1;obtain ⟨c,rfl,hc⟩:=zH r2;have s2:ai H H1:=w'.hh.trans w2.hh;have e2:H1 a=some (.dT (encD kvs)):=s2 _ _ ha4;refine ⟨a,c,encD kvs,k2 (z,y),rfl,rfl,e2,.inl (.inl (w2.gh _ _ hc)),.inr (w2.gh _ _ hc),by rw[kH];exact hl,?_⟩;rw[ly];have wb:Wd H0 G0 H1 G:=⟨w.hh.trans s2,w.gg,w.gh.trans s2,w.old⟩
          exact eo.nx σ _ G _ (wb.own ha2 ha3) ((en.back s2).Cp q ha1 ⟨ha3,ay⟩) p1
        · exact p1.elim
      · exact p'.elim
    · exact h.elim
noncomputable def CT (K:Frag)(mg:Str->Option GR)(x:Str)(i j:Int):Prop:=∃a,mg x=some (.ref a)/\∀H,fA K H a [.int i,.int j]
end
end DL
namespace L2
open PySem PySem.Spec PyProof.Rows
section
variable {prog:Hj} {w:Hs} {A:Hr} {E:GR->GU->Prop} {s:GU}
variable {h₀:Heap} {L:Addr} {m:Str->Option GR} {news:List (Addr×Obj)} {b:Bool}
end
end L2
namespace L2
open PySem PySem.Spec PyProof.Rows PySem.W
noncomputable def TabAt (H:Hp)(P:Addr)(q:Str):Prop:=∃qs t,H P=some (.tbl qs)/\qs[0]?=some (.str q t)
theorem TabAt.un {fs ex:List Addr}{H H':Hp}{h h':Heap}{P:Addr}{q:Str}(u:Un fs ex H H' h h')(x:TabAt H P q):TabAt H' P q:=by
  obtain ⟨qs,t,e,e2⟩:=x;obtain ⟨more,e3⟩:=u.lK P qs e;refine ⟨_,t,e3,?_⟩;have hl:0<qs.size:=by
    rcases Nat.eq_zero_or_pos qs.size with z | z
    · rw[Array.getElem?_eq_none (by lia)] at e2;cases e2
    · exact z
  rw[Array.getElem?_append_left hl];exact e2
theorem jD {a b:Int}{t u:Tok}{c:GR}:∀{l:List GR},TriplesOk l->TriplesOk (l++[.int a t,.int b u,c])
  | [],_=>trivial
  | .int _ _::.int _ _::_::rest,h=>jD (l:=rest) h
theorem mq {p:Pos}{a b:Int}{t u:Tok}{c cv:GR}:∀{l:List GR},TriplesOk l->codeAmong p (l++[.int a t,.int b u,c])=some cv->codeAmong p l=some cv\/cv=c
  | [],_,h=>by
    simp only[List.nil_append,codeAmong] at h;split at h
    · exact .inr (Option.some.inj h).symm
    · cases h
  | .int x _::.int y _::d::rest,ht,h=>by
    simp only[List.cons_append,codeAmong] at h ⊢;split at h
    · rename_i hc;rw[if_pos hc];exact .inl h
    · rename_i hc;rw[if_neg hc];exact mq (l:=rest) ht h
noncomputable def bV (mg:Str->Option GR)(h:Heap):Prop:=∃bm ob,mg "__builtins__" = some (.ref bm)/\bm≠builtinsNs/\h.get? bm=some ob/\ob.cls=.type "module"/\ob.dict=some builtinsNs/\ob.data=.plain
section
variable {X:Cx} {pins:List (Addr×Obj)} {σ:St} {H:Hp} {s:GU} {P c:Addr} {E:GR->GU->Prop} {Q:GR->GU->Prop}
theorem xm {params:Arguments}{body:Expr}{scope:Scope}{pos:Pos}{clos:List (Str×Addr)}(I:Inv X pins σ H s)(hcode:X.env.code=.ref c)(C:CodeHd X.base c P)(B:bV X.mg X.base)
    (hT:TabAt X.H₀ P (X.env.qual++"<lambda>")) (hcl:closureFor scope X.env=pure clos) (hdef:defaultsOf params X.env=([],[]))
    (h:∀f c' ctv pm h' tk H',Inv X pins σ H' { s with heap:=h',toks:=tk }->(H'=H\/(H c'=none/\H'=upd H c' (.own P)))->h'.get? f=some (kla_obj "<lambda>" (X.env.qual++"<lambda>") params body scope clos pm c' ctv)->H' f=none->s.heap.objs.size<=f ->
      h'.CodeRec (.ref c') (X.env.qual++"<lambda>")->Q (.ref f) { s with heap:=h',toks:=tk }) :
    wpAny (model X.prog X.w) X.A (eval (.Lambda params body scope pos) X.env) Q E s:=by
  obtain ⟨qs,t,hP,hq0⟩:=hT.un I.base;obtain ⟨tb,htb,htr,hcs⟩:=I.bf P _ hP;have hg:=I.mod.glob.keeps I.bk;have hgP:mainGlobals≠P:=λz=>by
    obtain ⟨o,es,ep,e,hd,_⟩:=hg;rw[z,htb] at e;cases e;cases hd
  obtain ⟨bm,ob,b1,b2,b3,b4,b5,b6⟩:=B;have b3':=I.bk _ _ b3;have hbP:bm≠P:=λz=>by rw[z,htb] at b3';cases b3';cases b4
  have hbG:bm≠mainGlobals:=λz=>by
    obtain ⟨o,es,ep,e,hd,_⟩:=hg;rw[z,e] at b3';cases b3';rw[hd] at b6;cases b6
  have hB:s.heap.BuiltinsAt X.mg P:=⟨bm,ob,b1,b2,hbG,hbP,b3',b4,b5,b6⟩
  refine kla_eval hdef ?_;cases hf:codeAmong pos tb.toList with
  | none =>
    refine kla_makeFunction hcl I.ok.glob hg hcode (C.keeps I.bk) htb htr hf hgP hB λc' ctv h' tk hx hge hlt hrec htb'=>?_;have hn:H c'=none:=I.bf.fresh hge;have hPc:P≠c':=aH hP hn;have keep:∀b o,b≠P->s.heap.get? b=some o->(h'.push (kla_obj "<lambda>" (X.env.qual++"<lambda>") params body scope clos ((X.mg "__name__").getD .none) c' ctv)).get? b=some o:=λb o hb e=>GZ _ (hx b o hb e);have neP:∀b,H b=none->b≠P:=λb e z=>by rw[z,hP] at e;cases e
    have hrec':=hrec.push (kla_obj "<lambda>" (X.env.qual++"<lambda>") params body scope clos ((X.mg "__name__").getD .none) c' ctv);have htb2:=GZ (kla_obj "<lambda>" (X.env.qual++"<lambda>") params body scope clos ((X.mg "__name__").getD .none) c' ctv) htb';have hown:upd H c' (.own P) P=some (.tbl qs):=by rw[aw hPc];exact hP
    have nc:∀b u,H b=some u->upd H c' (.own P) b=some u:=λb u e=>by rw[aw (aH e hn)];exact e
    have bf:gA X.prog X.w (upd H c' (.own P)) (h'.push (kla_obj "<lambda>" (X.env.qual++"<lambda>") params body scope clos ((X.mg "__name__").getD .none) c' ctv)):=λb u e=>by
      by_cases hb:b=c'
      · subst hb;rw[ay] at e;cases e;obtain ⟨c2,o2,vs2,t2,e2,g2,_⟩:=hrec';cases e2;exact ⟨_,g2⟩
      · rw[aw hb] at e;by_cases hbP':b=P
        · subst hbP';rw[hP] at e;cases e;have el:(tb++#[rawInt pos.line,rawInt pos.col,Value.ref c']).toList=tb.toList++[rawInt pos.line,rawInt pos.col,Value.ref c']:=by simp
          refine ⟨_,htb2,by rw[el];exact jD htr,λp cv z=>?_⟩;rw[el] at z;rcases mq htr z with z | z
          · obtain ⟨d,q,u,r1,r2,r3,r4⟩:=hcs p cv z;refine ⟨d,q,u,r1,r2,nc _ _ r3,?_⟩;obtain ⟨d2,o2,vs2,t2,e2,g2,r5⟩:=r4;cases e2;exact ⟨d,o2,vs2,t2,rfl,keep _ _ (xC r3 hP (by intro z;cases z)) g2,r5⟩
          · exact ⟨c',_,t,z,hq0,ay,hrec'⟩
        · refine (I.bf b u e).d8 (λd v hd g=>keep d v ?_ g) (λd q=>nc _ _ q) λd xs q=>nc _ _ q;rcases hd with rfl | hd
          · exact hbP'
          · exact xC hd hP (by intro z;cases z)
    have hfn:H h'.objs.size=none:=I.bf.fresh (Nat.le_trans hge (Nat.le_of_lt hlt));refine h h'.objs.size c' ctv _ _ tk (upd H c' (.own P)) (I.un (t':=tk) ⟨λb o e n _ _=>keep b o (neP b n) e,λb o e n _ _=>⟨o.slots,keep b o (neP b n) e⟩,λb o e n _=>?_,λb o e _=>?_,λb xs e=>nc _ _ e,λb o u e=>nc _ _ e,λb ps e=>⟨#[],by rw[nc _ _ e];simp⟩⟩ bf) (.inr ⟨hn,rfl⟩)
      (Hq _ rfl) ?_ (Nat.le_trans hge (Nat.le_of_lt hlt)) hrec'
    · rw[aw (Hm (Ho (Hg e) hge))];exact n
    · by_cases hb:b=P
      · subst hb;exact ⟨_,htb2⟩
      · exact ⟨_,keep b o hb e⟩
    · rw[aw (Nat.ne_of_gt hlt)];exact hfn
  | some cv =>
    obtain ⟨c',q,u,rfl,r2,r3,r4⟩:=hcs pos cv hf;rw[hq0] at r2;cases r2;refine kla_makeFunctionHit hcl I.ok.glob hg hcode (C.keeps I.bk) htb htr hf hB λctv h' tk hk hsz=>?_;have keep:∀b o,s.heap.get? b=some o->(h'.push (kla_obj "<lambda>" (X.env.qual++"<lambda>") params body scope clos ((X.mg "__name__").getD .none) c' ctv)).get? b=some o:=λb o e=>GZ _ (hk b o e);exact h h'.objs.size c' ctv _ _ tk H (I.kept keep) (.inl rfl) (Hq _ rfl) (I.bf.fresh hsz) hsz (r4.keeps keep)
end
end L2
namespace L2
open PySem PySem.Spec PyProof.Rows PySem.W
section
variable {X:Cx} {pins:List (Addr×Obj)} {σ:St} {H:Hp} {s:GU} {A:Hr} {E:GR->GU->Prop} {Q:GR->GU->Prop}
end
end L2
namespace L2
open PySem PySem.Spec PyProof.Rows PySem.W
end L2
namespace L2
open PySem PySem.Spec PyProof.Rows PySem.W
section
variable {X:Cx} {pins:List (Addr×Obj)} {σ:St} {H:Hp} {s:GU}
end
section
variable {X:Cx}
end
end L2
namespace L2
open PySem PySem.Spec PyProof.Rows PySem.W
theorem TabAt.same {H H':Hp}{P:Addr}{q:Str}(s:ai H H')(x:TabAt H P q):TabAt H' P q:=by
  obtain ⟨qs,t,e,e2⟩:=x;exact ⟨qs,t,s _ _ e,e2⟩
theorem PE.tab {X:Cx}{e:Expr}{t:TE}{P:Addr}{q:Str}(h:PE X e t)(hT:TabAt X.H₀ P q):PE X e (λσ H Q=>TabAt H P q->t σ H Q):=
  λpins s σ H Q I hw=>h pins s σ H Q I (hw (hT.un I.base))
structure AS (K:Frag)(x qual:Str)(st:Stmt)(f:Addr)(fd:FuncData)(P:Addr):Prop where
  ex:∃(oc:GR) (od:Option Addr) (kV doc pm:GR) (an:Option Addr) (c:Addr) (ct:GR) (osl:Array (Option GR)),
    fd=fnOf x qual (aP st) (aF st) (af st) .none kV doc pm an (.ref c) ct/\K.lookup f=some ⟨oc,od,.func fd,osl⟩/\codeIn K (.ref c) qual=true/\codeHdIn K c P=true
theorem y4 {K:Frag}{x qual:Str}{st:Stmt}{f c P:Addr}{oc:GR}{od an:Option Addr}{osl:Array (Option GR)}{kV doc pm ct:GR}(l:K.lookup f=some ⟨oc,od,.func (fnOf x qual (aP st) (aF st) (af st) .none kV doc pm an (.ref c) ct),osl⟩)
    (h:codeIn K (.ref c) qual=true) (h2:codeHdIn K c P=true):AS K x qual st f (fnOf x qual (aP st) (aF st) (af st) .none kV doc pm an (.ref c) ct) P:=⟨oc,od,kV,doc,pm,an,c,ct,osl,rfl,l,h,h2⟩
end L2
namespace DL
open PySem L2 PyProof.Rows PySem.W
noncomputable def jJ (K:Frag)(P:Addr)(q:Str)(R:DR):Sp:=λvs H Q E=>TabAt H P q/\gu K R vs H Q E
section
variable {X:Cx} {e:Expr} {es:List Expr} {pos:Pos}
theorem nV {x:Str}{k:Nat}{ps:List Str}{R:DR}{p:Pos}{t:dj}{P:Addr}{q:Str}(hT:TabAt X.H₀ P q)(F:Fn X.prog X.w X.K X.mg X.base x k ps (jJ X.K P q R))(hr:bQ k X.A)(hg:Gl X x)(ha:DA X (e::es) t)
    (hdb:autoParam ((x == ("__debug__" : Str))=false) aZb._auto_1) (he:autoParam (starEach (e::es) X.env=(false,eval e X.env)::starEach es X.env) aZa._auto_1) (hpl:autoParam ((backTo pos (starEach es X.env)).any (·.1)=false) aZa._auto_1) :
    DE X (.Call (.Name x p) (e::es) [] pos) (pH R t):=
  DE.of ((AE F hr hg ha.pa hdb he hpl).tab hT)<|by
    rintro σ H Q ⟨G,ρ,PP,s,re,h,k⟩ tb;refine ⟨G,ρ,_,s,re,h,λds vs H1 G1 p1 l1 w1 r1=>?_⟩;show jJ X.K P q R (vs++[]) H1 Q E0;rw[append_nil];exact ⟨tb.same w1.hh,ds,G1,PP,w1.gh,r1,p1,mU k w1⟩
end
section
variable {P:Hj} {w:Hs} {K:Frag} {mg:Str->Option GR} {base:Heap}
theorem DH {x qual:Str}{st:Stmt}{f Pt:Addr}{q:Str}{fd:FuncData}{N ps:List Str}{k:Nat}{R:DR}(F:mh K x qual st f fd)(S:aX N ps (af st))(len:∀ds Q,R ds Q->ds.length=ps.length)
    (hbody:∀(cdv:GR) (A:Hr) (outer:List Env) (s:GU) (H:Hp) (E:XK),bQ k (A.deeper (envOfC qual (af st) s.heap.objs.size f cdv))->TabAt H Pt q ->
      ∃t,o6 (nN g7 P w K mg base N qual (af st) f cdv A outer s H E).AB (aF st) t/\∀ds Q,R ds Q->t { nx:=λ_=>Q (.p .non),rt:=Q } (bY N.length ds)):cw P w K mg base g7 (k+1) f fd ps (jJ K Pt q R):=by
  refine F.ok S (by rintro vs H Q E ⟨_,ds,G,P,s,r,h,_⟩;rw[Paired.length r];exact len ds P h) ?_;rintro cdv A outer s H vs Q E hr ⟨tb,ds,G,P,sg,r,h,k⟩;obtain ⟨t,h1,h2⟩:=hbody cdv A outer s H E hr tb;obtain ⟨e1,e2,e3⟩:=dN (K:=K) N.length r;refine ⟨_,h1.zP H G,_,G,_,?_,Wd.refl sg,aD.only e2 e1 (e7 _ _),h2 ds P h⟩;exact ⟨λσ H' G' ρ w' _ p=>k _ _ H' G' p w' (show Rep K G' V.non D.non from .non),λσ H' G' ρ w' _ p=>p.elim,λσ H' G' ρ w' _ p=>p.elim,λb v H' G' w' r' p=>k b v H' G' p w' r'⟩
theorem Fy {x qual:Str}{st:Stmt}{f Pt:Addr}{q:Str}{fd:FuncData}{N ps:List Str}{k:Nat}{R:DR}(F:AS K x qual st f fd Pt)(S:aX N ps (af st))(len:∀ds Q,R ds Q->ds.length=ps.length)
    (hbody:∀(c:Addr) (A:Hr) (outer:List Env) (s:GU) (H:Hp) (E:XK),bQ k (A.deeper (envOfC qual (af st) s.heap.objs.size f (.ref c)))->TabAt H Pt q->codeHdIn K c Pt=true ->
      ∃t,o6 (nN g7 P w K mg base N qual (af st) f (.ref c) A outer s H E).AB (aF st) t/\∀ds Q,R ds Q->t { nx:=λ_=>Q (.p .non),rt:=Q } (bY N.length ds)):cw P w K mg base g7 (k+1) f fd ps (jJ K Pt q R):=by
  obtain ⟨oc,od,kV,doc,pm,an,c,ct,osl,rfl,lk,hcd,hC⟩:=F.ex;refine Au lk hcd S (by rintro vs H Q E ⟨_,ds,G,P,s,r,h,_⟩;rw[Paired.length r];exact len ds P h) ?_;rintro A outer s H vs Q E hr ⟨tb,ds,G,P,sg,r,h,k⟩;obtain ⟨t,h1,h2⟩:=hbody c A outer s H E hr tb hC;obtain ⟨e1,e2,e3⟩:=dN (K:=K) N.length r;refine ⟨_,(h1.zP H G).AB,_,G,_,?_,Wd.refl sg,aD.only e2 e1 (e7 _ _),h2 ds P h⟩;exact ⟨λσ H' G' ρ w' _ p=>k _ _ H' G' p w' (show Rep K G' V.non D.non from .non),λσ H' G' ρ w' _ p=>p.elim,λσ H' G' ρ w' _ p=>p.elim,λb v H' G' w' r' p=>k b v H' G' p w' r'⟩
end
noncomputable def oW (K:Frag)(P:Addr)(q:Str):Sp:=λvs H Q E=>TabAt H P q/\Ei K vs H Q E
theorem zj {P:Hj}{w:Hs}{K:Frag}{mg:Str->Option GR}{base:Heap}{k:Nat}{f Pt:Addr}{q:Str}{fd:FuncData}{ps:List Str}(h:cw P w K mg base g7 k f fd ps (jJ K Pt q ya)):cw P w K mg base g7 k f fd ps (oW K Pt q):=
  h.imp λvs H Q E ⟨tb,a,ns,e,hs,hl,q⟩=>⟨tb,[.scr ns],H,λb=>b=.p (.bl true),ai.refl _,by rw[e];exact .cons (.scr hs) .nil,⟨ns,rfl,hl,rfl⟩,λb v H' G' hb w r=>by
    subst hb;have:v=.bl true:=Rep.vX r;rw[this];exact q H'⟩
end DL
namespace DL
open PySem PySem.Spec PyProof.Rows L2
noncomputable def gY (K:Frag)(Pt a:Addr)(qn:Str)(o:Obj)(xs:List V):Hp:=λb=>if b=Pt then some (.tbl #[.str qn 0]) else if b=a/\K.lookup a=none then some (.cx o (.lst xs)) else none
theorem oY {K:Frag}{Pt a b:Addr}{qn:Str}{o:Obj}{xs:List V}(h1:b≠Pt)(h2:b≠a):gY K Pt a qn o xs b=none:=by
  unfold gY;rw[if_neg h1,if_neg λz=>h2 z.1]
theorem u7 {P:Hj}{w:Hs}{K:Frag}{mg mb:Str->Option GR}{k:Nat}{fa a Pt c:Addr}{qn:Str}{fd:FuncData}{x:Str}{s₁:GU}{vs:List GR}{ns:List Int}
    (KX:K.In s₁.heap) (hns:s₁.heap.Ns mainGlobals mg) (hb:s₁.heap.Ns builtinsNs mb) (hbb:∀x:Str,x≠"__name__"->mb x=bootBuiltins x) (hlim:s₁.heap.NoLimit) (hg:s₁.gens = #[]) (BM:bV mg s₁.heap)
    (hPt:s₁.heap.get? Pt=some (tabObj #[])) (hK:K.lookup Pt=none) (hC:PySem.W.codeHdIn K c Pt=true)
    (ha:s₁.heap.get? a=some { cls:=.type "list",data:=.seq vs.toArray }) (hi:IntsAre vs ns) (hl:ns.length<=63) (hr:bQ k callerA)
    (F:∀base:Heap,K.In base->base.Ns mainGlobals mg->bV mg base->cw P w K mg base g7 k fa fd [x] (oW K Pt qn)) (hbind:∀(s:GU) (u:GR),BindsTo s fd ⟨[u],[]⟩ [(x,u)]) :
    codeAny (model P w) callerA (.call (.ref fa) ⟨[.ref a],[]⟩) (λr s'=>r=.ok (.ret (.bool true))/\OldK s₁.heap s'.heap/\s'.os=s₁.os/\AllBare s'.gens) s₁:=by
  have rv:=nB hi;have lenV:=hi.length;have haP:a≠Pt:=λz=>by rw[z,hPt] at ha;cases ha
  generalize hH:gY K Pt a qn { cls:=.type "list",data:=.seq vs.toArray } (ns.map V.int)=H;have hHP:H Pt=some (.tbl #[.str qn 0]):=by rw[<-hH];unfold gY;rw[if_pos rfl]
  have hHo:∀b,b≠Pt->b≠a->H b=none:=λb h1 h2=>by rw[<-hH];exact oY h1 h2
  have hHa:H a=none/\(∃o,K.lookup a=some o)\/H a=some (.cx { cls:=.type "list",data:=.seq vs.toArray } (.lst (ns.map V.int)))/\K.lookup a=none:=by
    rw[<-hH];unfold gY;rw[if_neg haP];cases q:K.lookup a with
    | none=>exact .inr ⟨by rw[if_pos ⟨rfl,rfl⟩],rfl⟩
    | some o=>exact .inl ⟨by rw[if_neg (λz=>nomatch z.2)],o,rfl⟩
  have small:ns.length<=sizeLine:=by rw[sizeLine_eq];lia
  have bf:gA P w H s₁.heap:=λb u e=>by
    by_cases h1:b=Pt
    · subst h1;rw[hHP] at e;cases e;exact ⟨#[],hPt,trivial,λpos cv z=>nomatch z⟩
    · by_cases h2:b=a
      · subst h2;rcases hHa with ⟨z,_⟩ | ⟨z,_⟩
        · rw[z] at e;cases e
        · rw[z] at e;cases e;exact ⟨ha,by rw[Hh];exact small,vs,_,rv,ha⟩
      · rw[hHo b h1 h2] at e;cases e
  have dictFree:∀{b:Addr} {o:Obj},s₁.heap.get? b=some o->o.cls≠.none->o.cls≠.type "list"->H b=none:=λ{b o} e d1 d2=>hHo b (λz=>by rw[z,hPt] at e;cases e;exact d1 rfl) (λz=>by rw[z,ha] at e;cases e;exact d2 rfl);have nsFree:∀{b:Addr} {m:Str->Option GR},s₁.heap.Ns b m->(ou s₁.heap H).Ns b m:=λ{b m} ⟨o,es,ep,e,d,r⟩ =>
    ⟨o,es,ep,kM e (hHo b (λz=>by rw[z,hPt] at e;cases e;cases d) (λz=>by rw[z,ha] at e;cases e;cases d)),d,r⟩
  have hKb:K.In (ou s₁.heap H):=λb o e=>kM (KX b o e) (by
    by_cases h1:b=Pt
    · subst h1;rw[hK] at e;cases e
    · by_cases h2:b=a
      · subst h2;rcases hHa with ⟨z,_⟩ | ⟨_,z⟩
        · exact z
        · rw[z] at e;cases e
      · exact hHo b h1 h2)
  have hM:Mod K mg (ou s₁.heap H):=⟨hKb,nsFree hns,⟨mb,nsFree hb,hbb⟩,let ⟨mc,h1,h2⟩:=hlim;⟨mc,nsFree h1,h2⟩⟩
  have hB:bV mg (ou s₁.heap H):=by
    obtain ⟨bm,ob,b1,b2,b3,b4,b5,b6⟩:=BM;exact ⟨bm,ob,b1,b2,kM b3 (dictFree b3 (by rw[b4];intro z;cases z) (by rw[b4];decide)),b4,b5,b6⟩
  have e0:yu P w K mg (ou s₁.heap H) callerA [] s₁ H:=⟨rfl,hM,λb o e=>zC e,Nat.le_of_eq (uY _ _),trivial,λb hb=>absurd (show b∈([]:List Addr) from hb) (by simp),bf,.of_eq hg⟩
  have hS:cb K H a (ns.map V.int):=by
    rcases hHa with ⟨_,o,z⟩ | ⟨z,_⟩
    · have e:=KX a o z;rw[ha] at e;cases e;exact .inr ⟨_,vs.toArray,_,z,rfl,rfl,rfl,by rw[Hk,lenV];exact small,by simpa using rv⟩
    · exact .inl (.inr ⟨_,z⟩)
  refine codeAny_mono ((F _ hKb (nsFree hns) hB).run callerA [] s₁ H ⟨[.ref a],[]⟩ [.ref a] [.ref a] (λv _=>v=.bl true) (λ_ _ _=>False) hr e0 (hbind s₁ (.ref a)) (.cons rfl .nil) ⟨⟨_,0,hHP,rfl⟩,a,ns,rfl,hS,hl,λ_=>rfl⟩) λr s' h=>?_;cases r with
  | error e=>exact False.elim h
  | ok fl =>
    cases fl with
    | next=>exact False.elim h
    | brk=>exact False.elim h
    | cont=>exact False.elim h
    | ret u =>
      obtain ⟨v,H',os,bare,un,hok',r',q⟩:=h;have q':v=.bl true:=q;subst q';obtain rfl:u=Value.bool true:=r';refine ⟨rfl,⟨λb o e=>?_,λb o e=>un.there b o e (by simp)⟩,os,bare⟩;by_cases h1:b=Pt
      · subst h1;rw[hPt] at e;cases e;obtain ⟨more,e2⟩:=un.lK _ _ hHP;obtain ⟨tb,e3,_⟩:=hok' _ _ e2;refine .inr (.inl ⟨((codeHd_of_K KX hC).tab hPt).isCodeTable,rfl,#[],tb,rfl,?_⟩);rw[e3];simp
      · refine .inl ?_;cases q:H b with
        | none=>exact un.keep b o e q (by intro z;exact absurd (show b∈([]:List Addr) from z) (by simp)) (by simp)
        | some u =>
          by_cases h2:b=a
          · subst h2;rcases hHa with ⟨z,_⟩ | ⟨z,_⟩
            · rw[q] at z;cases z
            · obtain ⟨e2,_⟩:=hok' _ _ (un.lS _ _ _ z);rw[ha] at e;cases e;exact e2
          · rw[hHo b h1 h2] at q;cases q
theorem yn {l:PySem.W.OpenLaw}{k:Nat}{q:Hj}{loose:List Str}{XP:(Str->Option GR)->Heap->Prop}{YP:Hs->Heap->Prop}{d:DefRec}{K:Params->Frag}{x qn:Str}{Pt:Addr}
    (hn:l.most=some 63) (hdf:d.params.defaults = []) (hr:bQ k callerA) (hY:∀(w:Hs) (h:Heap),YP w h->(K w.params).In h/\h.get? Pt=some (tabObj #[]))
    (F:∀(w:Hs) (mg:Str->Option GR) (fa:Addr) (h:Heap),(K w.params).In h->h.Ns mainGlobals mg->mg d.name=some (.ref fa) ->
      ∃(fd:FuncData) (c:Addr),(K w.params).lookup Pt=none/\PySem.W.codeHdIn (K w.params) c Pt=true/\(∀(s:GU) (u:GR),BindsTo s fd ⟨[u],[]⟩ [(x,u)]) /\
        ∀base:Heap,(K w.params).In base->base.Ns mainGlobals mg->bV mg base->cw l.prog w (K w.params) mg base g7 k fa fd [x] (oW (K w.params) Pt qn)) :
    PySem.W.WalkO q loose XP YP l.row.toRowW d [] (λf vs=>PySem.call f vs):=by
  refine Att.pk hn hdf λw s₀ s₁ mg mb fa o pm cd doc a vs ns G Y ho hd hcd hmg hobj hints hlen hg=>?_;obtain ⟨KX,hPt⟩:=hY w _ Y;obtain ⟨fd,c,hK,hC,hb,hF⟩:=F w mg fa _ KX G.T.g hmg;obtain ⟨bm,ob,b1,b2,b3,b4,b5,b6⟩:=G.T.bmain;exact u7 KX G.T.g G.T.b G.T.builtins G.T.nolimit hg ⟨bm,ob,b1,b2,b3,b4,b5,b6⟩ hPt hK hC hobj hints hlen hr hF hb
end DL
namespace Tim
open PySem PyProof.Rows
theorem Ci {α:Type}{R:α->α->Prop}:∀{l:List α},l.length=1->l.Pairwise R
  | [_],_=>List.pairwise_singleton _ _
theorem x6 {α:Type}{R:α->α->Prop}:∀{l:List α},l.length<2->l.Pairwise R
  | [],_=>.nil
  | [_],_=>List.pairwise_singleton _ _
noncomputable def bK:Bool->Keyed->Array Keyed->Nat->Nat->Nat->StateT Hf Sem (Option Nat):=sortPriv% PySem.Builtin.gallop
noncomputable def beyond (left:Bool)(key:Keyed)(arr:Array Keyed)(base:Nat)(i:Nat):StateT Hf Sem (Option Bool):=do
  let x <-elem' arr (base+i)
  if left then lt' x key else return (<-lt' key x).map (!·)
noncomputable def ot (left:Bool)(key:Keyed)(arr:Array Keyed)(base n lo0 hi0:Nat):StateT Hf Sem (Option Nat):=do
  let mut lo:=lo0
  let mut hi:=hi0
  for _ in [0:n] do
    if lo>=hi then break
    let m:=lo+(hi - lo) / 2
    let some more <-beyond left key arr base m | return none
    if more then lo:=m+1 else hi:=m
  return some hi
theorem rH (left:Bool)(key:Keyed)(arr:Array Keyed)(base n hint:Nat):bK left key arr base n hint=(do
  let mut lastofs:=0
  let mut ofs:=1
  let some right <-beyond left key arr base hint | return none
  if right then
    let maxofs:=n - hint
    for _ in [0:n] do
      if ofs>=maxofs then break
      let some more <-beyond left key arr base (hint+ofs) | return none
      if !more then break
      lastofs:=ofs
      ofs:=2*ofs+1
    ot left key arr base n (hint+lastofs+1) (hint+min ofs maxofs)
  else
    let maxofs:=hint+1
    for _ in [0:n] do
      if ofs>=maxofs then break
      let some found <-beyond left key arr base (hint - ofs) | return none
      if found then break
      lastofs:=ofs
      ofs:=2*ofs+1
    ot left key arr base n (hint+1 - min ofs maxofs) (hint - lastofs)):=rfl
section
variable {prog:Hj} {w:Hs} {A:Hr} {E:GR->GU->Prop} {s:GU}
theorem Aw {left:Bool}{key:Keyed}{arr:Array Keyed}{base n lo0 hi0:Nat}{st:Hf}{Q:Option Nat->Hf->Prop}(p:Nat->Bool)(mono:∀i j,i<=j->j<n->p j=true->p i=true)
    (hb:∀i,i<n->∀Q':Option Bool->Hf->Prop,Q' (some (p i)) st->wpS (model prog w) A E s (beyond left key arr base i) Q' st)
    (h:∀k,k<=n->(∀i,i<k->p i=true)->(∀i,k<=i->i<n->p i=false)->Q (some k) st)
    (h1:lo0<=hi0) (h2:hi0<=n) (h3:∀i,i<lo0->p i=true) (h4:∀i,hi0<=i->i<n->p i=false) :
    wpS (model prog w) A E s (ot left key arr base n lo0 hi0) Q st:=by
  unfold ot;refine Hc (wpS_mono (wpS_forRange (I:=λx c st'=>st'=st/\∃lo hi,c=(none,lo,hi)/\lo<=hi/\hi<=n/\hi - lo<=n - x/\(∀i,i<lo->p i=true)/\∀i,hi<=i->i<n->p i=false)
    (Q:=λc st'=>st'=st/\∃k,c.1=none/\c.2.2=k/\k<=n/\(∀i,i<k->p i=true)/\∀i,k<=i->i<n->p i=false) ?step ?fin ⟨rfl,lo0,hi0,rfl,h1,h2,by lia,h3,h4⟩) ?post)
  case step =>
    rintro x c st' _ hx ⟨rfl,lo,hi,rfl,a1,a2,a3,a4,a5⟩;dsimp only;by_cases c:lo>=hi
    · rw[if_pos c];have:lo=hi:=by lia
      subst this;exact He ⟨rfl,lo,rfl,rfl,a2,a4,a5⟩
    · rw[if_neg c];refine Hc (hb _ (by lia) _ ?_);dsimp only;cases hp:p (lo+(hi - lo) / 2) with
      | true =>
        simp only[if_true];exact He ⟨rfl,_,_,rfl,by lia,a2,by lia,λi hi'=>mono i _ (by lia) (by lia) hp,a5⟩
      | false =>
        simp only[Hl,if_false];refine He ⟨rfl,_,_,rfl,by lia,by lia,by lia,a4,λi h5 h6=>?_⟩;cases hq:p i with
        | false=>rfl
        | true =>
          have:=mono _ i h5 h6 hq;rw[hp] at this;cases this
  case fin =>
    rintro c st' ⟨rfl,lo,hi,rfl,a1,a2,a3,a4,a5⟩;have:lo=hi:=by lia
    subst this;exact ⟨rfl,lo,rfl,rfl,a2,a4,a5⟩
  case post =>
    rintro c st' ⟨rfl,k,e1,e2,a2,a4,a5⟩;rw[e1];dsimp only;rw[e2];exact He (h k a2 a4 a5)
theorem kL {left:Bool}{key:Keyed}{arr:Array Keyed}{base n hint:Nat}{st:Hf}{Q:Option Nat->Hf->Prop}(p:Nat->Bool)(hh:hint<n)(mono:∀i j,i<=j->j<n->p j=true->p i=true)
    (hb:∀i,i<n->∀Q':Option Bool->Hf->Prop,Q' (some (p i)) st->wpS (model prog w) A E s (beyond left key arr base i) Q' st)
    (h:∀k,k<=n->(∀i,i<k->p i=true)->(∀i,k<=i->i<n->p i=false)->Q (some k) st):wpS (model prog w) A E s (bK left key arr base n hint) Q st:=by
  have anti:∀i j,i<=j->j<n->p i=false->p j=false:=λi j h1 h2 h3=>by
    cases hq:p j with
    | false=>rfl
    | true =>
      have:=mono i j h1 h2 hq;rw[h3] at this;cases this
  rw[rH];refine Hc (hb hint hh _ ?_);dsimp only;cases hp:p hint with
  | true =>
    simp only[if_true];refine Hc (wpS_mono (wpS_forRange (I:=λx c st'=>st'=st/\∃last ofs,c=(none,last,ofs)/\last<ofs/\x<ofs/\hint+last<n/\p (hint+last)=true)
      (Q:=λc st'=>st'=st/\∃last ofs,c=(none,last,ofs)/\last<ofs/\hint+last<n/\p (hint+last)=true/\(n - hint<=ofs\/(hint+ofs<n/\p (hint+ofs)=false))) ?step ?fin ⟨rfl,0,1,rfl,by lia,by lia,by lia,by rw[Nat.add_zero];exact hp⟩) ?post)
    case step =>
      rintro x c st' _ hx ⟨rfl,last,ofs,rfl,a1,a2,a3,a4⟩;dsimp only;by_cases c:ofs>=n - hint
      · rw[if_pos c];exact He ⟨rfl,last,ofs,rfl,a1,a3,a4,.inl c⟩
      · rw[if_neg c];refine Hc (hb _ (by lia) _ ?_);dsimp only;cases hq:p (hint+ofs) with
        | true =>
          simp only[Bool.not_true,Hl,if_false];exact He ⟨rfl,ofs,_,rfl,by lia,by lia,by lia,hq⟩
        | false =>
          simp only[Bool.not_false,if_true];exact He ⟨rfl,last,ofs,rfl,a1,a3,a4,.inr ⟨by lia,hq⟩⟩
    case fin =>
      rintro c st' ⟨rfl,last,ofs,rfl,a1,a2,a3,a4⟩;exact ⟨rfl,last,ofs,rfl,a1,a3,a4,.inl (by lia)⟩
    case post =>
      rintro c st' ⟨rfl,last,ofs,rfl,a1,a3,a4,a5⟩;dsimp only;refine Aw (lo0:=hint+last+1) (hi0:=hint+min ofs (n - hint)) p mono hb h (by lia) (by lia) (λi hi=>mono i (hint+last) (by lia) a3 a4) λi h5 h6=>?_;rcases a5 with z | ⟨z1,z2⟩
      · lia
      · exact anti (hint+ofs) i (by lia) h6 z2
  | false =>
    simp only[Hl,if_false];refine Hc (wpS_mono (wpS_forRange (I:=λx c st'=>st'=st/\∃last ofs,c=(none,last,ofs)/\last<ofs/\x<ofs/\last<=hint/\p (hint - last)=false)
      (Q:=λc st'=>st'=st/\∃last ofs,c=(none,last,ofs)/\last<ofs/\last<=hint/\p (hint - last)=false/\(hint+1<=ofs\/(ofs<=hint/\p (hint - ofs)=true))) ?step ?fin ⟨rfl,0,1,rfl,by lia,by lia,by lia,by rw[Nat.sub_zero];exact hp⟩) ?post)
    case step =>
      rintro x c st' _ hx ⟨rfl,last,ofs,rfl,a1,a2,a3,a4⟩;dsimp only;by_cases c:ofs>=hint+1
      · rw[if_pos c];exact He ⟨rfl,last,ofs,rfl,a1,a3,a4,.inl c⟩
      · rw[if_neg c];refine Hc (hb _ (by lia) _ ?_);dsimp only;cases hq:p (hint - ofs) with
        | true =>
          simp only[if_true];exact He ⟨rfl,last,ofs,rfl,a1,a3,a4,.inr ⟨by lia,hq⟩⟩
        | false =>
          simp only[Hl,if_false];exact He ⟨rfl,ofs,_,rfl,by lia,by lia,by lia,hq⟩
    case fin =>
      rintro c st' ⟨rfl,last,ofs,rfl,a1,a2,a3,a4⟩;exact ⟨rfl,last,ofs,rfl,a1,a3,a4,.inl (by lia)⟩
    case post =>
      rintro c st' ⟨rfl,last,ofs,rfl,a1,a3,a4,a5⟩;dsimp only;refine Aw (lo0:=hint+1 - min ofs (hint+1)) (hi0:=hint - last) p mono hb h (by lia) (by lia) (λi hi=>?_) λi h5 h6=>anti (hint - last) i (by lia) h6 a4;rcases a5 with z | ⟨z1,z2⟩
      · lia
      · exact mono i (hint - ofs) (by lia) (by lia) z2
end
end Tim
namespace Tim
open PySem PyProof.Rows
noncomputable def aR:Nat->StateT Hf Sem Unit:=sortPriv% PySem.Builtin.setMinGallop
noncomputable def iw:Array Keyed->Array Keyed->StateT Hf Sem (Array Keyed):=sortPriv% PySem.Builtin.mergeLo
noncomputable def setG (st:Hf)(g:Nat):Hf:=SortSt.mk' (kindOf st) (arrOf st) (pendingOf st) g (failedOf st)
theorem bU (g:Nat):aR g=modify λs=>setG s g:=rfl
noncomputable def cf (a b out:Array Keyed)(ia ib:Nat):Array Keyed:=out++a.extract ia a.size++b.extract ib b.size
noncomputable def fN (a b out:Array Keyed)(ia ib:Nat):Array Keyed:=out++b.extract ib b.size++a.extract ia a.size
theorem oD (a b:Array Keyed):iw a b=(do
  rule "list.sort.merge-lo"
  let total:=a.size+b.size
  let mut out:Array Keyed:=#[<-elem' b 0]
  let mut ia:=0
  let mut ib:=1
  if ib == b.size then return cf a b out ia ib
  if ia+1 == a.size then return fN a b out ia ib
  let mut minGallop:=gallopOf (<-get)
  for _ in [0:total] do
    let mut acount:=0
    let mut bcount:=0
    for _ in [0:total] do
      let some bWins <-lt' (<-elem' b ib) (<-elem' a ia) | return cf a b out ia ib
      if bWins then
        out:=out.push (<-elem' b ib);ib:=ib+1;bcount:=bcount+1;acount:=0
        if ib == b.size then return cf a b out ia ib
        if bcount>=minGallop then break
      else
        out:=out.push (<-elem' a ia);ia:=ia+1;acount:=acount+1;bcount:=0
        if ia+1 == a.size then return fN a b out ia ib
        if acount>=minGallop then break
    rule "list.sort.gallop"
    minGallop:=minGallop+1
    for _ in [0:total] do
      if minGallop>1 then minGallop:=minGallop - 1
      aR minGallop
      let some k <-bK false (<-elem' b ib) a ia (a.size - ia) 0 | return cf a b out ia ib
      acount:=k
      if k>0 then
        out:=out++a.extract ia (ia+k);ia:=ia+k
        if ia+1 == a.size then return fN a b out ia ib
        if ia == a.size then return cf a b out ia ib
      out:=out.push (<-elem' b ib);ib:=ib+1
      if ib == b.size then return cf a b out ia ib
      let some k <-bK true (<-elem' a ia) b ib (b.size - ib) 0 | return cf a b out ia ib
      bcount:=k
      if k>0 then
        out:=out++b.extract ib (ib+k);ib:=ib+k
        if ib == b.size then return cf a b out ia ib
      out:=out.push (<-elem' a ia);ia:=ia+1
      if ia+1 == a.size then return fN a b out ia ib
      if acount<7 && bcount<7 then break
    minGallop:=minGallop+1
    aR minGallop
  unsupported "internal:list.sort.merge-bound"):=rfl
structure Ord (Dm:Keyed->Prop)(R:Keyed->Keyed->Bool):Prop where
  tr:∀x y z,Dm x->Dm y->Dm z->R y x=false->R z y=false->R z x=false
  Am:∀x y,Dm x->Dm y->R x y=true->R y x=false
noncomputable def dQ (R:Keyed->Keyed->Bool)(l:List Keyed):Prop:=l.Pairwise λx y=>R y x=false
structure MI (R:Keyed->Keyed->Bool)(la lb:List Keyed)(out:List Keyed)(ia ib:Nat):Prop where
  perm:out.Perm (la.take ia++lb.take ib)
  Cs:dQ R out
  C7:∀x∈out,∀y∈la.drop ia++lb.drop ib,R y x=false
section
variable {R:Keyed->Keyed->Bool} {la lb out:List Keyed} {ia ib:Nat}
theorem fW (l:List Keyed)(i k:Nat):l.take (i+k)=l.take i++(l.drop i).take k:=by rw[List.take_add]
theorem MI.sf (M:MI R la lb out ia ib)(k:Nat)(hs:dQ R la)(hc:∀x∈(la.drop ia).take k,∀y∈lb.drop ib,R y x=false):MI R la lb (out++(la.drop ia).take k) (ia+k) ib:=by
  have hd:dQ R (la.drop ia):=List.Pairwise.sublist (List.drop_sublist _ _) hs;have hsplit:(la.drop ia)=(la.drop ia).take k++la.drop (ia+k):=by rw[<-List.drop_drop,take_append_drop]
  refine ⟨?_,?_,?_⟩
  · rw[fW];have:=M.perm.append_right ((la.drop ia).take k);refine this.trans ?_;rw[append_assoc,append_assoc];exact List.Perm.append_left _ perm_append_comm
  · refine pairwise_append.mpr ⟨M.Cs,List.Pairwise.sublist (List.take_sublist _ _) hd,λx hx y hy=>M.C7 x hx y (mem_append_left _ (mem_of_mem_take hy))⟩
  · intro x hx y hy;rcases mem_append.mp hx with z | z
    · refine M.C7 x z y ?_;rcases mem_append.mp hy with u | u
      · rw[<-List.drop_drop] at u;exact mem_append_left _ (mem_of_mem_drop u)
      · exact mem_append_right _ u
    · rcases mem_append.mp hy with u | u
      · unfold dQ at hd;rw[hsplit] at hd;exact (pairwise_append.mp hd).2.2 x z y u
      · exact hc x z y u
theorem MI.si (M:MI R la lb out ia ib)(k:Nat)(hs:dQ R lb)(hc:∀x∈(lb.drop ib).take k,∀y∈la.drop ia,R y x=false):MI R la lb (out++(lb.drop ib).take k) ia (ib+k):=by
  have hd:dQ R (lb.drop ib):=List.Pairwise.sublist (List.drop_sublist _ _) hs;have hsplit:(lb.drop ib)=(lb.drop ib).take k++lb.drop (ib+k):=by rw[<-List.drop_drop,take_append_drop]
  refine ⟨?_,?_,?_⟩
  · rw[fW,<-append_assoc];exact M.perm.append_right _
  · refine pairwise_append.mpr ⟨M.Cs,List.Pairwise.sublist (List.take_sublist _ _) hd,λx hx y hy=>M.C7 x hx y (mem_append_right _ (mem_of_mem_take hy))⟩
  · intro x hx y hy;rcases mem_append.mp hx with z | z
    · refine M.C7 x z y ?_;rcases mem_append.mp hy with u | u
      · exact mem_append_left _ u
      · rw[<-List.drop_drop] at u;exact mem_append_right _ (mem_of_mem_drop u)
    · rcases mem_append.mp hy with u | u
      · exact hc x z y u
      · unfold dQ at hd;rw[hsplit] at hd;exact (pairwise_append.mp hd).2.2 x z y u
theorem MI.fin (M:MI R la lb out ia ib){r:List Keyed}(hp:r.Perm (la.drop ia++lb.drop ib))(hs:dQ R r):(out++r).Perm (la++lb)/\dQ R (out++r):=by
  constructor
  · refine (M.perm.append hp).trans ?_;have e:la++lb=(la.take ia++la.drop ia)++(lb.take ib++lb.drop ib):=by rw[take_append_drop,take_append_drop]
    rw[e,append_assoc,append_assoc];refine List.Perm.append_left _ ?_;rw[<-append_assoc,<-append_assoc];exact List.Perm.append_right _ perm_append_comm
  · exact pairwise_append.mpr ⟨M.Cs,hs,λx hx y hy=>M.C7 x hx y (hp.mem_iff.mp hy)⟩
end
noncomputable def Good (R:Keyed->Keyed->Bool)(a b out:Array Keyed):Prop:=out.toList.Perm (a.toList++b.toList)/\dQ R out.toList
section
variable {R:Keyed->Keyed->Bool} {a b out:Array Keyed} {ia ib:Nat}
theorem eR (a:Array Keyed)(i j:Nat):(a.extract i j).toList=(a.toList.drop i).take (j - i):=by rw[Array.toList_extract,List.extract_eq_take_drop]
theorem gf (a:Array Keyed)(i:Nat):(a.extract i a.size).toList=a.toList.drop i:=by
  rw[eR,take_of_length_le];rw[length_drop,Hd];exact GW _
theorem MI.tP (M:MI R a.toList b.toList out.toList ia ib)(ha:dQ R a.toList)(h:b.size<=ib):Good R a b (cf a b out ia ib):=by
  have e:b.toList.drop ib = []:=List.drop_eq_nil_of_le (by rw[Hd];exact h);have:=M.fin (r:=a.toList.drop ia) (by rw[e,append_nil]) (List.Pairwise.sublist (List.drop_sublist _ _) ha);unfold Good cf;rw[Array.toList_append,Array.toList_append,gf,gf,e,append_nil];exact this
theorem MI.Dh (M:MI R a.toList b.toList out.toList ia ib)(hb:dQ R b.toList)(h:a.size<=ia):Good R a b (cf a b out ia ib):=by
  have e:a.toList.drop ia = []:=List.drop_eq_nil_of_le (by rw[Hd];exact h);have:=M.fin (r:=b.toList.drop ib) (by rw[e,List.nil_append]) (List.Pairwise.sublist (List.drop_sublist _ _) hb);unfold Good cf;rw[Array.toList_append,Array.toList_append,gf,gf,e,append_nil];exact this
theorem MI.last (M:MI R a.toList b.toList out.toList ia ib)(hb:dQ R b.toList)(h:ia+1=a.size)(hz:∀y∈b.toList,∀z∈a.toList.drop (a.size - 1),R z y=false):Good R a b (fN a b out ia ib):=by
  have hia:ia=a.size - 1:=by lia
  have hl:(a.toList.drop ia).length=1:=by rw[length_drop,Hd];lia
  have hs1:dQ R (a.toList.drop ia):=Ci hl;have:=M.fin (r:=b.toList.drop ib++a.toList.drop ia) perm_append_comm (pairwise_append.mpr ⟨List.Pairwise.sublist (List.drop_sublist _ _) hb,hs1,λx hx y hy=>hz x (mem_of_mem_drop hx) y (by rw[<-hia];exact hy)⟩);unfold Good fN;rw[Array.toList_append,Array.toList_append,gf,gf,append_assoc];exact this
end
end Tim
namespace Tim
open PySem PyProof.Rows
section
variable {Ask:Keyed->Keyed->Prop} {Dm:Keyed->Prop} {R:Keyed->Keyed->Bool}
theorem Ord.Fh (o:Ord Dm R){x:Keyed}(d:Dm x):R x x=false:=by
  cases h:R x x with
  | false=>rfl
  | true=>exact h.symm.trans (o.Am x x d d h)
theorem de {l:List Keyed}{i:Nat}{y:Keyed}(h:y∈l.drop i):∃j,i<=j/\l[j]?=some y:=by
  obtain ⟨n,hn,e⟩:=List.mem_iff_getElem.mp h;refine ⟨i+n,Nat.le_add_right _ _,?_⟩;rw[<-e,List.getElem_drop];rw[length_drop] at hn;exact GV (by lia)
theorem aZ {l:List Keyed}{i k:Nat}{y:Keyed}(h:y∈(l.drop i).take k):∃j,j<k/\l[i+j]?=some y:=by
  obtain ⟨n,hn,e⟩:=List.mem_iff_getElem.mp h;rw[length_take,length_drop] at hn;refine ⟨n,by lia,?_⟩;rw[<-e,List.getElem_take,List.getElem_drop];exact GV (by lia)
theorem dQ.le (o:Ord Dm R){l:List Keyed}(hs:dQ R l)(d:∀x∈l,Dm x){i j:Nat}{x y:Keyed}(h:i<=j)(ex:l[i]?=some x)(ey:l[j]?=some y):R y x=false:=by
  by_cases e:i=j
  · subst e;rw[ex] at ey;cases ey;exact o.Fh (d x (Hi ex))
  · obtain ⟨h1,e1⟩:=Hb.mp ex;obtain ⟨h2,e2⟩:=Hb.mp ey;have:=pairwise_iff_getElem.mp hs i j h1 h2 (by lia);rw[e1,e2] at this;exact this
structure Pre (Ask:Keyed->Keyed->Prop)(Dm:Keyed->Prop)(R:Keyed->Keyed->Bool)(a b:Array Keyed):Prop where
  o:Ord Dm R
  da:∀x∈a.toList,Dm x
  db:∀x∈b.toList,Dm x
  sa:dQ R a.toList
  sb:dQ R b.toList
  fst:∀x∈a.toList,∀y,b[0]?=some y->R y x=true
  lst:∀y∈b.toList,∀z,a[a.size - 1]?=some z->R y z=true
  ask:∀x∈a.toList,∀y∈b.toList,Ask y x
  na:0<a.size
  nb:0<b.size
variable {a b out:Array Keyed} {ia ib:Nat} {x y:Keyed}
noncomputable abbrev ML (R:Keyed->Keyed->Bool)(a b out:Array Keyed)(ia ib:Nat):Prop:=MI R a.toList b.toList out.toList ia ib
theorem qS {a:Array Keyed}{i:Nat}{x:Keyed}(h:a[i]?=some x):a.toList[i]?=some x:=by rw[GY];exact h
theorem Pre.ak (P:Pre Ask Dm R a b){i j:Nat}{u v:Keyed}(hv:a[i]?=some v)(hu:b[j]?=some u):Ask u v:=P.ask v (Hi (qS hv)) u (Hi (qS hu))
theorem Pre.xY (P:Pre Ask Dm R a b)(M:ML R a b out ia ib)(hy:b[ib]?=some y)(h:∀j x,ia<=j->a[j]?=some x->R y x=true):ML R a b (out.push y) ia (ib+1):=by
  have e:(b.toList.drop ib).take 1 = [y]:=by
    have:=qS hy;obtain ⟨h1,e1⟩:=Hb.mp this;rw[drop_eq_getElem_cons h1,e1];rfl
  have:=M.si 1 P.sb λz hz u hu=>by
    rw[e] at hz;cases mem_singleton.mp hz;obtain ⟨j,h1,h2⟩:=de hu;rw[GY] at h2;exact P.o.Am _ _ (P.db _ (Hi (qS hy))) (P.da _ (mem_of_mem_drop hu)) (h j u h1 h2)
  rw[e] at this;unfold ML;rw[Array.toList_push];exact this
theorem Pre.AG (P:Pre Ask Dm R a b)(M:ML R a b out ia ib)(hx:a[ia]?=some x)(h:∀j y,ib<=j->b[j]?=some y->R y x=false):ML R a b (out.push x) (ia+1) ib:=by
  have e:(a.toList.drop ia).take 1 = [x]:=by
    have:=qS hx;obtain ⟨h1,e1⟩:=Hb.mp this;rw[drop_eq_getElem_cons h1,e1];rfl
  have:=M.sf 1 P.sa λz hz u hu=>by
    rw[e] at hz;cases mem_singleton.mp hz;obtain ⟨j,h1,h2⟩:=de hu;rw[GY] at h2;exact h j u h1 h2
  rw[e] at this;unfold ML;rw[Array.toList_push];exact this
theorem Pre.Da (P:Pre Ask Dm R a b){i:Nat}(h:a[i]?=some x):Dm x:=P.da _ (Hi (qS h))
theorem Pre.Db (P:Pre Ask Dm R a b){i:Nat}(h:b[i]?=some x):Dm x:=P.db _ (Hi (qS h))
theorem Pre.Gq (P:Pre Ask Dm R a b){i j:Nat}(h:i<=j)(hx:a[i]?=some x)(hy:a[j]?=some y):R y x=false:=P.sa.le P.o P.da h (qS hx) (qS hy)
theorem Pre.leB (P:Pre Ask Dm R a b){i j:Nat}(h:i<=j)(hx:b[i]?=some x)(hy:b[j]?=some y):R y x=false:=P.sb.le P.o P.db h (qS hx) (qS hy)
theorem Pre.Gy (P:Pre Ask Dm R a b){i j:Nat}{z:Keyed}(dy:Dm y)(h:i<=j)(hx:a[i]?=some x)(hz:a[j]?=some z)(hl:R y x=true):R y z=true:=by
  cases q:R y z with
  | true=>rfl
  | false =>
    have:=P.o.tr x z y (P.Da hx) (P.Da hz) dy (P.Gq h hx hz) q;rw[hl] at this;cases this
theorem Pre.F0 (P:Pre Ask Dm R a b){i j:Nat}{z:Keyed}(dx:Dm x)(h:i<=j)(hy:b[i]?=some y)(hz:b[j]?=some z)(hl:R y x=false):R z x=false:=
  P.o.tr x y z dx (P.Db hy) (P.Db hz) hl (P.leB h hy hz)
theorem Pre.ED (P:Pre Ask Dm R a b){i j:Nat}{z:Keyed}(dy:Dm y)(h:i<=j)(hx:a[i]?=some x)(hz:a[j]?=some z)(hl:R y z=false):R y x=false:=
  P.o.tr x z y (P.Da hx) (P.Da hz) dy (P.Gq h hx hz) hl
theorem Pre.Gm (P:Pre Ask Dm R a b){i j:Nat}{z:Keyed}(dx:Dm x)(h:i<=j)(hy:b[i]?=some y)(hz:b[j]?=some z)(hl:R z x=true):R y x=true:=by
  cases q:R y x with
  | true=>rfl
  | false =>
    have:=P.F0 dx h hy hz q;rw[hl] at this;cases this
theorem Pre.bG (P:Pre Ask Dm R a b)(M:ML R a b out ia ib)(hx:a[ia]?=some x)(hy:b[ib]?=some y)(h:R y x=true):ML R a b (out.push y) ia (ib+1):=
  P.xY M hy λj z h1 h2=>P.Gy (P.Db hy) h1 hx h2 h
theorem Pre.Ej (P:Pre Ask Dm R a b)(M:ML R a b out ia ib)(hx:a[ia]?=some x)(hy:b[ib]?=some y)(h:R y x=false):ML R a b (out.push x) (ia+1) ib:=
  P.AG M hx λj z h1 h2=>P.F0 (P.Da hx) h1 hy h2 h
theorem Pre.FK (P:Pre Ask Dm R a b)(M:ML R a b out ia ib)(k:Nat)(hy:b[ib]?=some y)(h:∀i x,i<k->a[ia+i]?=some x->R y x=false):ML R a b (out++a.extract ia (ia+k)) (ia+k) ib:=by
  have:=M.sf k P.sa λz hz u hu=>by
    obtain ⟨j,h1,h2⟩:=de hu;obtain ⟨i,h3,h4⟩:=aZ hz;rw[GY] at h2 h4;exact P.F0 (P.Da h4) h1 hy h2 (h i z h3 h4)
  unfold ML;rw[Array.toList_append,eR,show ia+k - ia=k by lia];exact this
theorem Pre.FL (P:Pre Ask Dm R a b)(M:ML R a b out ia ib)(k:Nat)(hx:a[ia]?=some x)(h:∀i y,i<k->b[ib+i]?=some y->R y x=true):ML R a b (out++b.extract ib (ib+k)) ia (ib+k):=by
  have:=M.si k P.sb λz hz u hu=>by
    obtain ⟨j,h1,h2⟩:=de hu;obtain ⟨i,h3,h4⟩:=aZ hz;rw[GY] at h2 h4;exact P.o.Am _ _ (P.Db h4) (P.Da h2) (P.Gy (P.Db h4) h1 hx h2 (h i z h3 h4))
  unfold ML;rw[Array.toList_append,eR,show ib+k - ib=k by lia];exact this
theorem Pre.last (P:Pre Ask Dm R a b)(M:ML R a b out ia ib)(h:ia+1=a.size):Good R a b (fN a b out ia ib):=
  M.last P.sb h λy hy z hz=>by
    obtain ⟨j,h1,h2⟩:=de hz;rw[GY] at h2;have h3:j<a.size:=(Array.getElem?_eq_some_iff.mp h2).1;have e:j=a.size - 1:=by lia
    subst e;exact P.o.Am _ _ (P.db _ hy) (P.Da h2) (P.lst y hy z h2)
theorem Pre.start (P:Pre Ask Dm R a b)(hy:b[0]?=some y):ML R a b #[y] 0 1:=by
  have M0:ML R a b #[] 0 0:=⟨List.Perm.nil,List.Pairwise.nil,λx hx=>nomatch hx⟩
  have:=P.xY M0 hy λj x _ hx=>P.fst x (Hi (qS hx)) y hy;exact this
end
section
variable {prog:Hj} {w:Hs} {A:Hr} {E:GR->GU->Prop} {s:GU}
theorem az {arr:Array Keyed}{i:Nat}{p:Keyed}{st:Hf}{Q:Keyed->Hf->Prop}(h:arr[i]?=some p)(hq:Q p st):wpS (model prog w) A E s (elem' arr i) Q st:=by
  rw[elem'_eq,h];exact He hq
noncomputable def ai (st st':Hf):Prop:=kindOf st'=kindOf st/\arrOf st'=arrOf st/\pendingOf st'=pendingOf st/\failedOf st'=failedOf st
theorem ai.vw {st:Hf}:ai st st:=⟨rfl,rfl,rfl,rfl⟩
theorem ai.setG {st st':Hf}(h:ai st st')(g:Nat):ai st (setG st' g):=h
noncomputable def cL (prog:Hj)(w:Hs)(A:Hr)(E:GR->GU->Prop)(s:GU)(Dm:Keyed->Prop)(R:Keyed->Keyed->Bool)(κ:SortKind)(Ask:Keyed->Keyed->Prop):Prop:=
  ∀(x y:Keyed) (st:Hf) (Q:Option Bool->Hf->Prop),Dm x->Dm y->Ask x y->kindOf st=κ->Q (some (R x y)) st->wpS (model prog w) A E s (lt' x y) Q st
variable {Ask:Keyed->Keyed->Prop} {Dm:Keyed->Prop} {R:Keyed->Keyed->Bool} {κ:SortKind}
theorem i6 (L:cL prog w A E s Dm R κ Ask){key:Keyed}{arr:Array Keyed}{base n hint:Nat}{st:Hf}{Q:Option Nat->Hf->Prop}(hk:kindOf st=κ)(dk:Dm key)(hh:hint<n)(hn:base+n<=arr.size)
    (da:∀i x,i<n->arr[base+i]?=some x->Dm x) (ak:∀i x,i<n->arr[base+i]?=some x->Ask key x) (mono:∀i j x y,i<=j->j<n->arr[base+i]?=some x->arr[base+j]?=some y->R key y=false->R key x=false)
    (h:∀k,k<=n->(∀i x,i<k->arr[base+i]?=some x->R key x=false)->(∀i x,k<=i->i<n->arr[base+i]?=some x->R key x=true)->Q (some k) st):wpS (model prog w) A E s (bK false key arr base n hint) Q st:=by
  have at_:∀i,i<n->∃x,arr[base+i]?=some x:=λi hi=>⟨arr[base+i]'(by lia),Ha (by lia)⟩
  let p:Nat->Bool:=λi=>match arr[base+i]? with | some x=>!R key x | none=>false
  have pe:∀i x,arr[base+i]?=some x->p i = !R key x:=λi x e=>by show (match arr[base+i]? with | some x=>!R key x | none=>false)=_;rw[e]
  refine kL p hh (λi j h1 h2 h3=>?_) (λi hi Q' hq=>?_) λk hk h1 h2=>h k hk (λi x hi hx=>?_) λi x hi hin hx=>?_
  · obtain ⟨x, hx⟩ := at_ i (by lia);obtain ⟨y,hy⟩:=at_ j h2;rw[pe j y hy] at h3;rw[pe i x hx,mono i j x y h1 h2 hx hy (by simpa using h3)];rfl
  · obtain ⟨x,hx⟩:=at_ i hi;rw[pe i x hx] at hq;unfold beyond;refine Hc (az hx ?_);simp only[Hl,if_false];refine Hc (L key x st _ dk (da i x hi hx) (ak i x hi hx) hk ?_);exact He hq
  · have:=h1 i hi;rw[pe i x hx] at this;simpa using this
  · have:=h2 i hi hin;rw[pe i x hx] at this;simpa using this
theorem kK (L:cL prog w A E s Dm R κ Ask){key:Keyed}{arr:Array Keyed}{base n hint:Nat}{st:Hf}{Q:Option Nat->Hf->Prop}(hk:kindOf st=κ)(dk:Dm key)(hh:hint<n)(hn:base+n<=arr.size)
    (da:∀i x,i<n->arr[base+i]?=some x->Dm x) (ak:∀i x,i<n->arr[base+i]?=some x->Ask x key) (mono:∀i j x y,i<=j->j<n->arr[base+i]?=some x->arr[base+j]?=some y->R y key=true->R x key=true)
    (h:∀k,k<=n->(∀i x,i<k->arr[base+i]?=some x->R x key=true)->(∀i x,k<=i->i<n->arr[base+i]?=some x->R x key=false)->Q (some k) st):wpS (model prog w) A E s (bK true key arr base n hint) Q st:=by
  have at_:∀i,i<n->∃x,arr[base+i]?=some x:=λi hi=>⟨arr[base+i]'(by lia),Ha (by lia)⟩
  let p:Nat->Bool:=λi=>match arr[base+i]? with | some x=>R x key | none=>false
  have pe:∀i x,arr[base+i]?=some x->p i=R x key:=λi x e=>by show (match arr[base+i]? with | some x=>R x key | none=>false)=_;rw[e]
  refine kL p hh (λi j h1 h2 h3=>?_) (λi hi Q' hq=>?_) λk hk h1 h2=>h k hk (λi x hi hx=>?_) λi x hi hin hx=>?_
  · obtain ⟨x, hx⟩ := at_ i (by lia);obtain ⟨y,hy⟩:=at_ j h2;rw[pe j y hy] at h3;rw[pe i x hx,mono i j x y h1 h2 hx hy h3]
  · obtain ⟨x,hx⟩:=at_ i hi;rw[pe i x hx] at hq;unfold beyond;refine Hc (az hx ?_);simp only[if_true];exact L x key st _ (da i x hi hx) dk (ak i x hi hx) hk hq
  · have:=h1 i hi;rw[pe i x hx] at this;exact this
  · have:=h2 i hi hin;rw[pe i x hx] at this;exact this
end
end Tim
namespace Tim
open PySem PyProof.Rows
section
variable {prog:Hj} {w:Hs} {A:Hr} {E:GR->GU->Prop} {s:GU}
variable {Ask:Keyed->Keyed->Prop} {Dm:Keyed->Prop} {R:Keyed->Keyed->Bool} {κ:SortKind}
noncomputable abbrev uF:=Option (Array Keyed)×Array Keyed×Nat×Nat×Nat×Nat×Nat
noncomputable def zu (a b out:Array Keyed)(ia ib g k k1:Nat):StateT Hf Sem (ForInStep uF):=do
  let y <-elem' a ia
  if (ia+1+1 == a.size)=true then pure (.done (some (fN a b (out.push y) (ia+1) ib),out.push y,ia+1,ib,g,k,k1))
  else if (decide (k<7) && decide (k1<7))=true then pure (.done (none,out.push y,ia+1,ib,g,k,k1))
  else pure (.yield (none,out.push y,ia+1,ib,g,k,k1))
noncomputable def zt (a b out:Array Keyed)(ia ib g k bc:Nat):StateT Hf Sem (ForInStep uF):=do
  let y <-elem' b ib
  if (ib+1 == b.size)=true then pure (.done (some (cf a b (out.push y) ia (ib+1)),out.push y,ia,ib+1,g,k,bc))
  else do
    let v <-elem' a ia
    let r <-bK true v b (ib+1) (b.size - (ib+1)) 0
    match r with
    | some k1 =>
      if k1>0 then
        if (ib+1+k1 == b.size)=true then pure (.done (some (cf a b (out.push y++b.extract (ib+1) (ib+1+k1)) ia (ib+1+k1)),out.push y++b.extract (ib+1) (ib+1+k1),ia,ib+1+k1,g,k,k1))
        else zu a b (out.push y++b.extract (ib+1) (ib+1+k1)) ia (ib+1+k1) g k k1
      else zu a b (out.push y) ia (ib+1) g k k1
    | _=>pure (.done (some (cf a b (out.push y) ia (ib+1)),out.push y,ia,ib+1,g,k,bc))
noncomputable def xq (a b out:Array Keyed)(ia ib g ac bc:Nat):StateT Hf Sem (ForInStep uF):=do
  aR g
  let y <-elem' b ib
  let r <-bK false y a ia (a.size - ia) 0
  match r with
  | some k =>
    if k>0 then
      if (ia+k+1 == a.size)=true then pure (.done (some (fN a b (out++a.extract ia (ia+k)) (ia+k) ib),out++a.extract ia (ia+k),ia+k,ib,g,k,bc))
      else if (ia+k == a.size)=true then pure (.done (some (cf a b (out++a.extract ia (ia+k)) (ia+k) ib),out++a.extract ia (ia+k),ia+k,ib,g,k,bc))
      else zt a b (out++a.extract ia (ia+k)) (ia+k) ib g k bc
    else zt a b out ia ib g k bc
  | _=>pure (.done (some (cf a b out ia ib),out,ia,ib,g,ac,bc))
section
variable {a b out:Array Keyed} {ia ib g k k1 bc ac n0:Nat} {st:Hf} {Q:ForInStep uF->Hf->Prop}
noncomputable def QD (R:Keyed->Keyed->Bool)(a b:Array Keyed)(Q:ForInStep uF->Hf->Prop)(st:Hf):Prop:=∀r c,Good R a b r->Q (.done (some r,c)) st
noncomputable def QN (R:Keyed->Keyed->Bool)(a b:Array Keyed)(n0:Nat)(Q:ForInStep uF->Hf->Prop)(st:Hf):Prop:=∀out ia ib g k k1,ML R a b out ia ib->ib<b.size->ia+1<a.size->n0<ia+ib->Q (.done (none,out,ia,ib,g,k,k1)) st/\Q (.yield (none,out,ia,ib,g,k,k1)) st
theorem qj (P:Pre Ask Dm R a b)(M:ML R a b out ia ib)(h1:ib<b.size)(h2:ia+1<a.size){v:Keyed}(hv:a[ia]?=some v)(hb:∀j x,ib<=j->b[j]?=some x->R x v=false)(hn:n0<=ia+ib)(qd:QD R a b Q st)(qn:QN R a b n0 Q st):wpS (model prog w) A E s (zu a b out ia ib g k k1) Q st:=by
  unfold zu;refine Hc (az hv ?_);have M3:=P.AG M hv hb;split
  case isTrue c=>exact He (qd _ _ (P.last M3 (beq_iff_eq.mp c)))
  case isFalse c =>
    rw[beq_iff_eq] at c;have z:=qn _ _ _ g k k1 M3 h1 (by lia) (by lia);split
    · exact He z.1
    · exact He z.2
theorem qi (L:cL prog w A E s Dm R κ Ask)(P:Pre Ask Dm R a b)(hk:kindOf st=κ)(M:ML R a b out ia ib)(h1:ib<b.size)(h2:ia+1<a.size){u:Keyed}(hu:b[ib]?=some u)(ha:∀j x,ia<=j->a[j]?=some x->R u x=true)(hn:n0<=ia+ib)(qd:QD R a b Q st)(qn:QN R a b n0 Q st):wpS (model prog w) A E s (zt a b out ia ib g k bc) Q st:=by
  unfold zt;refine Hc (az hu ?_);have M2:=P.xY M hu ha;by_cases c7:(ib+1 == b.size)=true
  · rw[if_pos c7];exact He (qd _ _ (M2.tP P.sa (by rw[<-beq_iff_eq.mp c7];exact GW _)))
  rw[if_neg c7];have h1':ib+1<b.size:=by
    have:¬ib+1=b.size:=λe=>c7 (beq_iff_eq.mpr e);lia
  obtain ⟨v,hv⟩ : ∃x,a[ia]?=some x:=⟨a[ia],Ha (by lia)⟩
  refine Hc (az hv ?_);refine Hc (kK L hk (P.Da hv) (by lia) (by lia) (λi x _ hx=>P.Db hx) (λi x _ hx=>P.ak hv hx) (λi j x y hij _ hx hy=>P.Gm (P.Da hv) (by lia) hx hy) λm hm m1 m2=>?_);dsimp only;have m2':∀j x,ib+1+m<=j->b[j]?=some x->R x v=false:=λj x hj hx=>by
    have hjs:j<b.size:=(Array.getElem?_eq_some_iff.mp hx).1;exact m2 (j - (ib+1)) x (by lia) (by lia) (by rw[show ib+1+(j - (ib+1))=j by lia];exact hx)
  by_cases c8:m>0
  · rw[if_pos c8];have Mm:=P.FL M2 m hv m1;by_cases c9:(ib+1+m == b.size)=true
    · rw[if_pos c9];exact He (qd _ _ (Mm.tP P.sa (by rw[<-beq_iff_eq.mp c9];exact GW _)))
    rw[if_neg c9];have h1'':ib+1+m<b.size:=by
      have:¬ib+1+m=b.size:=λe=>c9 (beq_iff_eq.mpr e);lia
    exact qj P Mm h1'' h2 hv m2' (by lia) qd qn
  · rw[if_neg c8];have e0:m=0:=by lia
    subst e0;exact qj P M2 h1' h2 hv m2' (by lia) qd qn
theorem xr (L:cL prog w A E s Dm R κ Ask)(P:Pre Ask Dm R a b)(hk:kindOf st=κ)(M:ML R a b out ia ib)(h1:ib<b.size)(h2:ia+1<a.size)(hn:n0<=ia+ib)(qd:QD R a b Q (setG st g))(qn:QN R a b n0 Q (setG st g)):wpS (model prog w) A E s (xq a b out ia ib g ac bc) Q st:=by
  unfold xq;rw[bU];obtain ⟨u,hu⟩ : ∃x,b[ib]?=some x:=⟨b[ib],Ha h1⟩
  refine Hc (wpS_modify (Hc (az hu ?_)));have hk':kindOf (setG st g)=κ:=hk;refine Hc (i6 L hk' (P.Db hu) (by lia) (by lia) (λi x _ hx=>P.Da hx) (λi x _ hx=>P.ak hx hu) (λi j x y hij _ hx hy=>P.ED (P.Db hu) (by lia) hx hy) λk hkn k1 k2=>?_);dsimp only;have k2':∀j x,ia+k<=j->a[j]?=some x->R u x=true:=λj x hj hx=>by
    have hjs:j<a.size:=(Array.getElem?_eq_some_iff.mp hx).1;exact k2 (j - ia) x (by lia) (by lia) (by rw[show ia+(j - ia)=j by lia];exact hx)
  by_cases c4:k>0
  · rw[if_pos c4];have Mk:=P.FK M k hu k1;by_cases c5:(ia+k+1 == a.size)=true
    · rw[if_pos c5];exact He (qd _ _ (P.last Mk (beq_iff_eq.mp c5)))
    rw[if_neg c5];by_cases c6:(ia+k == a.size)=true
    · rw[if_pos c6];exact He (qd _ _ (Mk.Dh P.sb (by rw[<-beq_iff_eq.mp c6];exact GW _)))
    rw[if_neg c6];have h2':ia+k+1<a.size:=by
      have:¬ia+k+1=a.size:=λe=>c5 (beq_iff_eq.mpr e);have:¬ia+k=a.size:=λe=>c6 (beq_iff_eq.mpr e);lia
    exact qi L P hk' Mk h1 h2' hu k2' (by lia) qd qn
  · rw[if_neg c4];have e0:k=0:=by lia
    subst e0;exact qi L P hk' M h1 h2 hu k2' hn qd qn
end
noncomputable abbrev Ak:=Option (Array Keyed)×Array Keyed×Nat×Nat×Nat×Nat
noncomputable abbrev yx:=Option (Array Keyed)×Array Keyed×Nat×Nat×Nat
noncomputable def Fv (a b:Array Keyed)(g:Nat)(c:Ak):StateT Hf Sem (ForInStep Ak):=do
  let y <-elem' b c.2.2.2.1
  let x <-elem' a c.2.2.1
  let r <-lt' y x
  match r with
  | some bW =>
    if bW=true then do
      let z <-elem' b c.2.2.2.1
      if (c.2.2.2.1+1 == b.size)=true then pure (.done (some (cf a b (c.2.1.push z) c.2.2.1 (c.2.2.2.1+1)),c.2.1.push z,c.2.2.1,c.2.2.2.1+1,0,c.2.2.2.2.2+1))
      else if c.2.2.2.2.2+1>=g then pure (.done (none,c.2.1.push z,c.2.2.1,c.2.2.2.1+1,0,c.2.2.2.2.2+1))
      else pure (.yield (none,c.2.1.push z,c.2.2.1,c.2.2.2.1+1,0,c.2.2.2.2.2+1))
    else do
      let z <-elem' a c.2.2.1
      if (c.2.2.1+1+1 == a.size)=true then pure (.done (some (fN a b (c.2.1.push z) (c.2.2.1+1) c.2.2.2.1),c.2.1.push z,c.2.2.1+1,c.2.2.2.1,c.2.2.2.2.1+1,0))
      else if c.2.2.2.2.1+1>=g then pure (.done (none,c.2.1.push z,c.2.2.1+1,c.2.2.2.1,c.2.2.2.2.1+1,0))
      else pure (.yield (none,c.2.1.push z,c.2.2.1+1,c.2.2.2.1,c.2.2.2.2.1+1,0))
  | _=>pure (.done (some (cf a b c.2.1 c.2.2.1 c.2.2.2.1),c.2.1,c.2.2.1,c.2.2.2.1,c.2.2.2.2.1,c.2.2.2.2.2))
noncomputable def Ft (a b:Array Keyed)(c:uF):StateT Hf Sem (ForInStep uF):=if c.2.2.2.2.1>1 then xq a b c.2.1 c.2.2.1 c.2.2.2.1 (c.2.2.2.2.1 - 1) c.2.2.2.2.2.1 c.2.2.2.2.2.2 else xq a b c.2.1 c.2.2.1 c.2.2.2.1 c.2.2.2.2.1 c.2.2.2.2.2.1 c.2.2.2.2.2.2
noncomputable def Fs (a b:Array Keyed)(g:Nat)(c:Ak):StateT Hf Sem (ForInStep yx):=do
  liftM (rule "list.sort.gallop")
  let d <-forIn [:a.size+b.size] ((none,c.2.1,c.2.2.1,c.2.2.2.1,g+1,c.2.2.2.2.1,c.2.2.2.2.2):uF) λ_ d=>Ft a b d
  match d.1 with
  | some r=>pure (.done (some r,d.2.1,d.2.2.1,d.2.2.2.1,d.2.2.2.2.1))
  | none=>do
    aR (d.2.2.2.2.1+1)
    pure (.yield (none,d.2.1,d.2.2.1,d.2.2.2.1,d.2.2.2.2.1+1))
noncomputable def Fu (a b:Array Keyed)(c:yx):StateT Hf Sem (ForInStep yx):=do
  let d <-forIn [:a.size+b.size] ((none,c.2.1,c.2.2.1,c.2.2.2.1,0,0):Ak) λ_ d=>Fv a b c.2.2.2.2 d
  match d.1 with
  | some r=>pure (.done (some r,d.2.1,d.2.2.1,d.2.2.2.1,c.2.2.2.2))
  | none=>Fs a b c.2.2.2.2 d
theorem bind_eq {α β:Type}{x y:StateT Hf Sem α}{f g:α->StateT Hf Sem β}(h1:x=y)(h2:∀a,f a=g a):(x >>= f)=(y >>= g):=by rw[h1,funext h2]
theorem oE (a b:Array Keyed):iw a b=(do
  liftM (rule "list.sort.merge-lo")
  let x <-elem' b 0
  if (1 == b.size)=true then pure (cf a b #[x] 0 1)
  else if (0+1 == a.size)=true then pure (fN a b #[x] 0 1)
  else do
    let s <-get
    let c <-forIn [:a.size+b.size] ((none,#[x],0,1,gallopOf s):yx) λ_ c=>Fu a b c
    match c.1 with
    | some r=>pure r
    | none=>liftM (unsupported "internal:list.sort.merge-bound")):=by
  rw[oD];dsimp only;refine bind_eq rfl λ_=>bind_eq rfl λx=>congrArg _ (congrArg _ (bind_eq rfl λs=>bind_eq (congrArg _ (funext λ_=>funext λc=>bind_eq rfl λd=>?_)) λc=>?_))
  · rcases d with ⟨_ | r,d⟩
    · refine bind_eq rfl λ_=>bind_eq rfl λd=>?_;rcases d with ⟨_ | r,d⟩<;>rfl
    · rfl
  · rcases c with ⟨_ | r,c⟩<;>rfl
section
variable {a b:Array Keyed} {st:Hf}
noncomputable def uE (R:Keyed->Keyed->Bool)(a b:Array Keyed)(n:Nat)(out:Array Keyed)(ia ib:Nat):Prop:=ML R a b out ia ib/\ib<b.size/\ia+1<a.size/\n<=ia+ib
theorem zr (L:cL prog w A E s Dm R κ Ask)(P:Pre Ask Dm R a b)(hk:kindOf st=κ){n g ia ib ac bc:Nat}{out:Array Keyed}{Q:ForInStep Ak->Hf->Prop}(M0:uE R a b n out ia ib)(qd:∀r c,Good R a b r->Q (.done (some r,c)) st)(qn:∀out ia ib ac bc,uE R a b (n+1) out ia ib->Q (.done (none,out,ia,ib,ac,bc)) st/\Q (.yield (none,out,ia,ib,ac,bc)) st):wpS (model prog w) A E s (Fv a b g (none,out,ia,ib,ac,bc)) Q st:=by
  obtain ⟨M,h1,h2,h3⟩:=M0;unfold Fv;obtain ⟨u,hu⟩ : ∃x,b[ib]?=some x:=⟨b[ib],Ha h1⟩
  obtain ⟨v,hv⟩ : ∃x,a[ia]?=some x:=⟨a[ia],Ha (by lia)⟩
  refine Hc (az hu (Hc (az hv (Hc (L u v _ _ (P.Db hu) (P.Da hv) (P.ak hv hu) hk ?_)))));cases c3:R u v with
  | true =>
    have M':=P.bG M hv hu c3;refine Hc (az hu ?_);split
    case isTrue c=>exact He (qd _ _ (M'.tP P.sa (by rw[<-beq_iff_eq.mp c];exact GW _)))
    case isFalse c =>
      have c:¬ib+1=b.size:=λz=>c (beq_iff_eq.mpr z);have z:=qn (out.push u) ia (ib+1) 0 (bc+1) ⟨M',by lia,h2,by lia⟩;split
      · exact He z.1
      · exact He z.2
  | false =>
    have M':=P.Ej M hv hu c3;refine Hc (az hv ?_);split
    case isTrue c=>exact He (qd _ _ (P.last M' (beq_iff_eq.mp c)))
    case isFalse c =>
      have c:¬ia+1+1=a.size:=λz=>c (beq_iff_eq.mpr z);have z:=qn (out.push v) (ia+1) ib (ac+1) 0 ⟨M',h1,by lia,by lia⟩;split
      · exact He z.1
      · exact He z.2
theorem zp (L:cL prog w A E s Dm R κ Ask)(P:Pre Ask Dm R a b){st0:Hf}(hk:kindOf st0=κ)(hS:ai st0 st){n:Nat}{d:uF}(h:d.1=none/\uE R a b n d.2.1 d.2.2.1 d.2.2.2.1){Q:ForInStep uF->Hf->Prop}(qd:∀r c st',ai st0 st'->Good R a b r->Q (.done (some r,c)) st')(qn:∀d st',ai st0 st'->d.1=none/\uE R a b (n+1) d.2.1 d.2.2.1 d.2.2.2.1->Q (.done d) st'/\Q (.yield d) st'):wpS (model prog w) A E s (Ft a b d) Q st:=by
  obtain ⟨_,M,h1,h2,h3⟩:=h;have key:∀g,wpS (model prog w) A E s (xq a b d.2.1 d.2.2.1 d.2.2.2.1 g d.2.2.2.2.2.1 d.2.2.2.2.2.2) Q st:=λg =>
    xr (n0:=d.2.2.1+d.2.2.2.1) L P (hS.1.trans hk) M h1 h2 (GW _) (λr c hG=>qd r c _ (hS.setG _) hG) λout' ia' ib' g2 k k1 M' i1 i2 i3=>qn _ _ (hS.setG _) ⟨rfl,M',i1,i2,by dsimp only;lia⟩
  unfold Ft;split
  · exact key _
  · exact key _
theorem zo (L:cL prog w A E s Dm R κ Ask)(P:Pre Ask Dm R a b){st0:Hf}(hk:kindOf st0=κ)(hS:ai st0 st){n g:Nat}{c:Ak}(h:uE R a b n c.2.1 c.2.2.1 c.2.2.2.1){Q:ForInStep yx->Hf->Prop}(qd:∀r c st',ai st0 st'->Good R a b r->Q (.done (some r,c)) st')(qn:∀d st',ai st0 st'->d.1=none/\uE R a b n d.2.1 d.2.2.1 d.2.2.2.1->Q (.yield d) st'):wpS (model prog w) A E s (Fs a b g c) Q st:=by
  unfold Fs;refine Hc (wpS_lift (wpAny_rule ⟨rfl,Hc (wpS_mono (wpS_forRange
    (I:=λy (d:uF) st'=>ai st0 st'/\d.1=none/\uE R a b (n+y) d.2.1 d.2.2.1 d.2.2.2.1)
    (Q:=λ(d:uF) st'=>ai st0 st'/\((∃r,d.1=some r/\Good R a b r)\/d.1=none/\uE R a b n d.2.1 d.2.2.1 d.2.2.2.1)) ?_ ?_ ⟨hS,rfl,h⟩) ?_)⟩))
  · rintro y d st' _ hy ⟨hS,z⟩;refine zp L P hk hS z (λr c st' hS hG=>⟨hS,.inl ⟨r,rfl,hG⟩⟩) λd st' hS z=>⟨⟨hS,.inr ⟨z.1,z.2.1,z.2.2.1,z.2.2.2.1,?_⟩⟩,hS,z⟩
    have:=z.2.2.2.2;lia
  · rintro d st' ⟨hS,_,M,h1,h2,h3⟩;lia
  · rintro d st' ⟨hS,⟨r,e,hG⟩ | ⟨e,z⟩⟩
    · rw[e];exact He (qd _ _ _ hS hG)
    · rw[e];dsimp only;rw[bU];exact Hc (wpS_modify (He (qn _ _ (hS.setG _) ⟨rfl,z⟩)))
theorem zq (L:cL prog w A E s Dm R κ Ask)(P:Pre Ask Dm R a b){st0:Hf}(hk:kindOf st0=κ)(hS:ai st0 st){n:Nat}{c:yx}(h:uE R a b n c.2.1 c.2.2.1 c.2.2.2.1){Q:ForInStep yx->Hf->Prop}(qd:∀r c st',ai st0 st'->Good R a b r->Q (.done (some r,c)) st')(qn:∀d st',ai st0 st'->d.1=none/\uE R a b (n+1) d.2.1 d.2.2.1 d.2.2.2.1->Q (.yield d) st'):wpS (model prog w) A E s (Fu a b c) Q st:=by
  unfold Fu;refine Hc (wpS_mono (wpS_forRange
    (I:=λy (d:Ak) st'=>st'=st/\d.1=none/\uE R a b (n+y) d.2.1 d.2.2.1 d.2.2.2.1)
    (Q:=λ(d:Ak) st'=>st'=st/\((∃r,d.1=some r/\Good R a b r)\/d.1=none/\uE R a b (n+1) d.2.1 d.2.2.1 d.2.2.2.1)) ?_ ?_ ⟨rfl,rfl,h⟩) ?_)
  · rintro y ⟨x,out,ia,ib,ac,bc⟩ st' _ hy ⟨rfl,e,z⟩;obtain rfl:x=none:=e;refine zr L P (hS.1.trans hk) z (λr c hG=>⟨rfl,.inl ⟨r,rfl,hG⟩⟩) λout ia ib ac bc z=>⟨⟨rfl,.inr ⟨rfl,z.1,z.2.1,z.2.2.1,?_⟩⟩,rfl,rfl,z⟩
    have:=z.2.2.2;dsimp only;lia
  · rintro d st' ⟨rfl,_,M,h1,h2,h3⟩;lia
  · rintro d st' ⟨rfl,⟨r,e,hG⟩ | ⟨e,z⟩⟩
    · rw[e];exact He (qd _ _ _ hS hG)
    · rw[e];exact zo L P hk hS z qd qn
end
theorem qp (L:cL prog w A E s Dm R κ Ask){a b:Array Keyed}(P:Pre Ask Dm R a b){st:Hf}(hk:kindOf st=κ){Q:Array Keyed->Hf->Prop}(h:∀r st',ai st st'->Good R a b r->Q r st'):wpS (model prog w) A E s (iw a b) Q st:=by
  have pa:=P.na;have pb:=P.nb;obtain ⟨b0,hb0⟩ : ∃x,b[0]?=some x:=⟨b[0],Ha pb⟩
  have M1:=P.start hb0;rw[oE];refine Hc (wpS_lift (wpAny_rule ⟨rfl,Hc (az hb0 ?_)⟩));split
  case isTrue c=>exact He (h _ _ .vw (M1.tP P.sa (by rw[<-beq_iff_eq.mp c];exact GW _)))
  case isFalse c1 =>
    split
    case isTrue c=>exact He (h _ _ .vw (P.last M1 (beq_iff_eq.mp c)))
    case isFalse c2 =>
      rw[beq_iff_eq] at c1 c2;refine Hc (wpS_get (Hc (wpS_mono (wpS_forRange
        (I:=λx (c:yx) st'=>ai st st'/\c.1=none/\uE R a b (1+x) c.2.1 c.2.2.1 c.2.2.2.1)
        (Q:=λ(c:yx) st'=>ai st st'/\∃r,c.1=some r/\Good R a b r) ?_ ?_ ⟨.vw,rfl,M1,?_⟩) ?_)))
      · rintro x c st' _ hx ⟨hS,_,z⟩;exact zq L P hk hS z (λr c st' hS hG=>⟨hS,r,rfl,hG⟩) λd st' hS z=>⟨hS,z⟩
      · rintro c st' ⟨hS,_,M,h1,h2,h3⟩;lia
      · dsimp only;lia
      · rintro c st' ⟨hS,r,e,hG⟩;rw[e];exact He (h _ _ hS hG)
end
end Tim
namespace Tim
open PySem PyProof.Rows
noncomputable def iu:Array Keyed->Array Keyed->StateT Hf Sem (Array Keyed):=sortPriv% PySem.Builtin.mergeHi
noncomputable def cc (a b out:Array Keyed)(na nb:Nat):Array Keyed:=a.extract 0 na++b.extract 0 nb++out.reverse
noncomputable def lT (a b out:Array Keyed)(na nb:Nat):Array Keyed:=b.extract 0 nb++a.extract 0 na++out.reverse
theorem oB (a b:Array Keyed):iu a b=(do
  rule "list.sort.merge-hi"
  let total:=a.size+b.size
  let mut na:=a.size - 1
  let mut nb:=b.size
  let mut out:Array Keyed:=#[<-elem' a na]
  if na == 0 then return cc a b out na nb
  if nb == 1 then return lT a b out na nb
  let mut minGallop:=gallopOf (<-get)
  for _ in [0:total] do
    let mut acount:=0
    let mut bcount:=0
    for _ in [0:total] do
      let some aWins <-lt' (<-elem' b (nb - 1)) (<-elem' a (na - 1)) | return cc a b out na nb
      if aWins then
        na:=na - 1;out:=out.push (<-elem' a na);acount:=acount+1;bcount:=0
        if na == 0 then return cc a b out na nb
        if acount>=minGallop then break
      else
        nb:=nb - 1;out:=out.push (<-elem' b nb);bcount:=bcount+1;acount:=0
        if nb == 1 then return lT a b out na nb
        if bcount>=minGallop then break
    rule "list.sort.gallop"
    minGallop:=minGallop+1
    for _ in [0:total] do
      if minGallop>1 then minGallop:=minGallop - 1
      aR minGallop
      let some at_ <-bK false (<-elem' b (nb - 1)) a 0 na (na - 1) | return cc a b out na nb
      let k:=na - at_
      acount:=k
      if k>0 then
        out:=out++(a.extract at_ na).reverse;na:=at_
        if na == 0 then return cc a b out na nb
      nb:=nb - 1;out:=out.push (<-elem' b nb)
      if nb == 1 then return lT a b out na nb
      let some at_ <-bK true (<-elem' a (na - 1)) b 0 nb (nb - 1) | return cc a b out na nb
      let k:=nb - at_
      bcount:=k
      if k>0 then
        out:=out++(b.extract at_ nb).reverse;nb:=at_
        if nb == 1 then return lT a b out na nb
        if nb == 0 then return cc a b out na nb
      na:=na - 1;out:=out.push (<-elem' a na)
      if na == 0 then return cc a b out na nb
      if acount<7 && bcount<7 then break
    minGallop:=minGallop+1
    aR minGallop
  unsupported "internal:list.sort.merge-bound"):=rfl
section
variable {Ask:Keyed->Keyed->Prop} {Dm:Keyed->Prop} {R:Keyed->Keyed->Bool}
noncomputable abbrev Rf (R:Keyed->Keyed->Bool):Keyed->Keyed->Bool:=λx y=>R y x
theorem dQ.rev {l:List Keyed}(h:dQ R l):dQ (Rf R) l.reverse:=List.pairwise_reverse.mpr h
theorem dQ.Ex {l:List Keyed}(h:dQ (Rf R) l):dQ R l.reverse:=List.pairwise_reverse.mpr h
theorem jZ (l:List Keyed){n m:Nat}(h1:m<=n)(h2:n<=l.length):(l.reverse.drop (l.length - n)).take (n - m)=((l.drop m).take (n - m)).reverse:=by
  rw[List.drop_reverse,List.take_reverse,<-List.drop_take,length_take];congr 2
  · congr 1;lia
  · congr 1;lia
theorem jY (l:List Keyed){n:Nat}(h2:n<=l.length):l.reverse.drop (l.length - n)=(l.take n).reverse:=by
  rw[List.drop_reverse];congr 2;lia
variable {a b out:Array Keyed} {na nb:Nat} {x y:Keyed}
noncomputable abbrev MH (R:Keyed->Keyed->Bool)(a b out:Array Keyed)(na nb:Nat):Prop:=MI (Rf R) a.toList.reverse b.toList.reverse out.toList (a.toList.length - na) (b.toList.length - nb)
theorem fO {l:List Keyed}{i:Nat}{y:Keyed}(h:y∈l.take i):∃j,j<i/\l[j]?=some y:=by
  have:=aZ (i:=0) (by simpa using h);simpa using this
theorem Pre.Ef (P:Pre Ask Dm R a b)(M:MH R a b out na nb){m:Nat}(h1:m<=na)(h2:na<=a.size)(h3:nb<=b.size)(h:∀i x,m<=i->i<na->a[i]?=some x->∀j y,j<nb->b[j]?=some y->R x y=false){out':Array Keyed}(eo:out'.toList=out.toList++((a.toList.drop m).take (na - m)).reverse):MH R a b out' m nb:=by
  have hl:na<=a.toList.length:=by rw[Hd];exact h2
  have hl':nb<=b.toList.length:=by rw[Hd];exact h3
  have:=M.sf (na - m) P.sa.rev λz hz u hu=>by
    rw[jZ _ h1 hl,List.mem_reverse] at hz;rw[jY _ hl',List.mem_reverse] at hu;obtain ⟨j,h4,h5⟩:=fO hu;obtain ⟨i,h6,h7⟩:=aZ hz;rw[GY] at h5 h7;exact h (m+i) z (by lia) (by lia) h7 j u h4 h5
  rw[jZ _ h1 hl,<-eo,show a.toList.length - na+(na - m)=a.toList.length - m by lia] at this;exact this
theorem Pre.Eg (P:Pre Ask Dm R a b)(M:MH R a b out na nb){m:Nat}(h1:m<=nb)(h2:na<=a.size)(h3:nb<=b.size)(h:∀i x,m<=i->i<nb->b[i]?=some x->∀j y,j<na->a[j]?=some y->R x y=false){out':Array Keyed}(eo:out'.toList=out.toList++((b.toList.drop m).take (nb - m)).reverse):MH R a b out' na m:=by
  have hl:na<=a.toList.length:=by rw[Hd];exact h2
  have hl':nb<=b.toList.length:=by rw[Hd];exact h3
  have:=M.si (nb - m) P.sb.rev λz hz u hu=>by
    rw[jZ _ h1 hl',List.mem_reverse] at hz;rw[jY _ hl,List.mem_reverse] at hu;obtain ⟨j,h4,h5⟩:=fO hu;obtain ⟨i,h6,h7⟩:=aZ hz;rw[GY] at h5 h7;exact h (m+i) z (by lia) (by lia) h7 j u h4 h5
  rw[jZ _ h1 hl',<-eo,show b.toList.length - nb+(nb - m)=b.toList.length - m by lia] at this;exact this
theorem uf {a:Array Keyed}{n:Nat}{x:Keyed}(h0:0<n)(h:a[n - 1]?=some x):((a.toList.drop (n - 1)).take (n - (n - 1))).reverse = [x]:=by
  have:=qS h;obtain ⟨h1,e1⟩:=Hb.mp this;rw[drop_eq_getElem_cons h1,e1,show n - (n - 1)=1 by lia];rfl
theorem Pre.Bp (P:Pre Ask Dm R a b)(M:MH R a b out na nb)(h0:0<na)(h2:na<=a.size)(h3:nb<=b.size)(hx:a[na - 1]?=some x)(h:∀j y,j<nb->b[j]?=some y->R x y=false):MH R a b (out.push x) (na - 1) nb:=
  P.Ef M (by lia) h2 h3 (λi z h4 h5 h6=>by
    have e:i=na - 1:=by lia
    subst e;rw[hx] at h6;cases h6;exact h) (by rw[uf h0 hx,Array.toList_push])
theorem Pre.Dj (P:Pre Ask Dm R a b)(M:MH R a b out na nb)(h0:0<nb)(h2:na<=a.size)(h3:nb<=b.size)(hx:b[nb - 1]?=some x)(h:∀j y,j<na->a[j]?=some y->R x y=false):MH R a b (out.push x) na (nb - 1):=
  P.Eg M (by lia) h2 h3 (λi z h4 h5 h6=>by
    have e:i=nb - 1:=by lia
    subst e;rw[hx] at h6;cases h6;exact h) (by rw[uf h0 hx,Array.toList_push])
theorem tS {a out:Array Keyed}{m n:Nat}:(out++(a.extract m n).reverse).toList=out.toList++((a.toList.drop m).take (n - m)).reverse:=by
  rw[Array.toList_append,Array.toList_reverse,eR]
theorem Pre.Gh (P:Pre Ask Dm R a b){i j:Nat}{z:Keyed}(dx:Dm x)(h:j<=i)(hy:b[i]?=some y)(hz:b[j]?=some z)(hl:R y x=true):R x z=false:=
  P.o.tr z y x (P.Db hz) (P.Db hy) dx (P.leB h hz hy) (P.o.Am _ _ (P.Db hy) dx hl)
theorem Bq {res:Array Keyed}{r:List Keyed}(M:MH R a b out na nb)(h2:na<=a.size)(h3:nb<=b.size)(hp:r.Perm (a.toList.take na++b.toList.take nb))(hs:dQ R r)(e:res.toList=r++out.toList.reverse):Good R a b res:=by
  have hl:na<=a.toList.length:=by rw[Hd];exact h2
  have hl':nb<=b.toList.length:=by rw[Hd];exact h3
  have:=M.fin (r:=r.reverse) (by
    rw[jY _ hl,jY _ hl'];exact (List.reverse_perm _).trans (hp.trans ((List.reverse_perm _).symm.append (List.reverse_perm _).symm))) hs.rev
  have e':res.toList=(out.toList++r.reverse).reverse:=by rw[e,List.reverse_append,List.reverse_reverse]
  refine ⟨?_,?_⟩
  · rw[e'];refine (List.reverse_perm _).trans (this.1.trans ((List.reverse_perm _).append (List.reverse_perm _)))
  · rw[e'];exact this.2.Ex
theorem uV (a:Array Keyed)(n:Nat):(a.extract 0 n).toList=a.toList.take n:=by
  rw[eR];simp
theorem Pre.AA (P:Pre Ask Dm R a b)(M:MH R a b out 0 nb)(h3:nb<=b.size):Good R a b (cc a b out 0 nb):=
  Bq (r:=b.toList.take nb) M (Nat.zero_le _) h3 (by simp) (List.Pairwise.sublist (List.take_sublist _ _) P.sb) (by
    unfold cc;rw[Array.toList_append,Array.toList_append,uV,uV,Array.toList_reverse];simp)
theorem Pre.EK (P:Pre Ask Dm R a b)(M:MH R a b out na 0)(h3:na<=a.size):Good R a b (cc a b out na 0):=
  Bq (r:=a.toList.take na) M h3 (Nat.zero_le _) (by simp) (List.Pairwise.sublist (List.take_sublist _ _) P.sa) (by
    unfold cc;rw[Array.toList_append,Array.toList_append,uV,uV,Array.toList_reverse];simp)
theorem Pre.zE (P:Pre Ask Dm R a b)(M:MH R a b out na 1)(h2:na<=a.size)(h3:1<=b.size):Good R a b (lT a b out na 1):=by
  refine Bq (r:=b.toList.take 1++a.toList.take na) M h2 h3 perm_append_comm ?_ (by
    unfold lT;rw[Array.toList_append,Array.toList_append,uV,uV,Array.toList_reverse])
  refine pairwise_append.mpr ⟨List.Pairwise.sublist (List.take_sublist _ _) P.sb,List.Pairwise.sublist (List.take_sublist _ _) P.sa,λx hx y hy=>?_⟩;obtain ⟨j,h4,h5⟩:=fO hx;have e:j=0:=by lia
  subst e;rw[GY] at h5;exact P.o.Am _ _ (P.Db h5) (P.da _ (mem_of_mem_take hy)) (P.fst y (mem_of_mem_take hy) x h5)
theorem Pre.gY (P:Pre Ask Dm R a b)(hx:a[a.size - 1]?=some x):MH R a b #[x] (a.size - 1) b.size:=by
  have M0:MH R a b #[] a.size b.size:=by
    have e1:a.toList.length - a.size=0:=by rw[Hd];lia
    have e2:b.toList.length - b.size=0:=by rw[Hd];lia
    unfold MH;rw[e1,e2];exact ⟨List.Perm.nil,List.Pairwise.nil,λx hx=>nomatch hx⟩
  exact P.Bp M0 P.na (GW _) (GW _) hx λj y _ hy=>P.o.Am _ _ (P.Db hy) (P.Da hx) (P.lst y (Hi (qS hy)) x hx)
end
end Tim
namespace Tim
open PySem PyProof.Rows
section
variable {prog:Hj} {w:Hs} {A:Hr} {E:GR->GU->Prop} {s:GU}
variable {Ask:Keyed->Keyed->Prop} {Dm:Keyed->Prop} {R:Keyed->Keyed->Bool} {κ:SortKind}
noncomputable abbrev uD:=Option (Array Keyed)×Nat×Nat×Array Keyed×Nat×Nat×Nat
noncomputable def zb (a b out:Array Keyed)(na nb g k k1:Nat):StateT Hf Sem (ForInStep uD):=do
  let y <-elem' a (na - 1)
  if (na - 1 == 0)=true then pure (.done (some (cc a b (out.push y) (na - 1) nb),na - 1,nb,out.push y,g,k,k1))
  else if (decide (k<7) && decide (k1<7))=true then pure (.done (none,na - 1,nb,out.push y,g,k,k1))
  else pure (.yield (none,na - 1,nb,out.push y,g,k,k1))
noncomputable def za (a b out:Array Keyed)(na nb g k bc:Nat):StateT Hf Sem (ForInStep uD):=do
  let y <-elem' b (nb - 1)
  if (nb - 1 == 1)=true then pure (.done (some (lT a b (out.push y) na (nb - 1)),na,nb - 1,out.push y,g,k,bc))
  else do
    let v <-elem' a (na - 1)
    let r <-bK true v b 0 (nb - 1) (nb - 1 - 1)
    match r with
    | some m =>
      if nb - 1 - m>0 then
        if (m == 1)=true then pure (.done (some (lT a b (out.push y++(b.extract m (nb - 1)).reverse) na m),na,m,out.push y++(b.extract m (nb - 1)).reverse,g,k,nb - 1 - m))
        else if (m == 0)=true then pure (.done (some (cc a b (out.push y++(b.extract m (nb - 1)).reverse) na m),na,m,out.push y++(b.extract m (nb - 1)).reverse,g,k,nb - 1 - m))
        else zb a b (out.push y++(b.extract m (nb - 1)).reverse) na m g k (nb - 1 - m)
      else zb a b (out.push y) na (nb - 1) g k (nb - 1 - m)
    | _=>pure (.done (some (cc a b (out.push y) na (nb - 1)),na,nb - 1,out.push y,g,k,bc))
noncomputable def xc (a b out:Array Keyed)(na nb g ac bc:Nat):StateT Hf Sem (ForInStep uD):=do
  aR g
  let y <-elem' b (nb - 1)
  let r <-bK false y a 0 na (na - 1)
  match r with
  | some k =>
    if na - k>0 then
      if (k == 0)=true then pure (.done (some (cc a b (out++(a.extract k na).reverse) k nb),k,nb,out++(a.extract k na).reverse,g,na - k,bc))
      else za a b (out++(a.extract k na).reverse) k nb g (na - k) bc
    else za a b out na nb g (na - k) bc
  | _=>pure (.done (some (cc a b out na nb),na,nb,out,g,ac,bc))
section
variable {a b out:Array Keyed} {na nb g k k1 bc ac n0:Nat} {st:Hf} {Q:ForInStep uD->Hf->Prop}
noncomputable def EY (R:Keyed->Keyed->Bool)(a b:Array Keyed)(Q:ForInStep uD->Hf->Prop)(st:Hf):Prop:=∀r c,Good R a b r->Q (.done (some r,c)) st
noncomputable def EZ (R:Keyed->Keyed->Bool)(a b:Array Keyed)(n0:Nat)(Q:ForInStep uD->Hf->Prop)(st:Hf):Prop:=∀na nb out g k k1,MH R a b out na nb->1<=na->2<=nb->na<=a.size->nb<=b.size->na+nb<n0->Q (.done (none,na,nb,out,g,k,k1)) st/\Q (.yield (none,na,nb,out,g,k,k1)) st
theorem p9 (P:Pre Ask Dm R a b)(M:MH R a b out na nb)(h1:1<=na)(h2:2<=nb)(ha:na<=a.size)(hb:nb<=b.size){v:Keyed}(hv:a[na - 1]?=some v)(hlt:∀j y,j<nb->b[j]?=some y->R y v=true)(hn:na+nb<=n0)(qd:EY R a b Q st)(qn:EZ R a b n0 Q st):wpS (model prog w) A E s (zb a b out na nb g k k1) Q st:=by
  unfold zb;refine Hc (az hv ?_);have M3:=P.Bp M (by lia) ha hb hv λj y hj hy=>P.o.Am _ _ (P.Db hy) (P.Da hv) (hlt j y hj hy);split
  case isTrue c =>
    rw[beq_iff_eq] at c;rw[c] at M3 ⊢;exact He (qd _ _ (P.AA M3 hb))
  case isFalse c =>
    rw[beq_iff_eq] at c;have z:=qn _ _ _ g k k1 M3 (by lia) h2 (by lia) hb (by lia);split
    · exact He z.1
    · exact He z.2
theorem p8 (L:cL prog w A E s Dm R κ Ask)(P:Pre Ask Dm R a b)(hk:kindOf st=κ)(M:MH R a b out na nb)(h1:1<=na)(h2:2<=nb)(ha:na<=a.size)(hb:nb<=b.size){u:Keyed}(hu:b[nb - 1]?=some u)(hle:∀j y,j<na->a[j]?=some y->R u y=false)(hn:na+nb<=n0)(qd:EY R a b Q st)(qn:EZ R a b n0 Q st):wpS (model prog w) A E s (za a b out na nb g k bc) Q st:=by
  unfold za;have pb:=P.nb;refine Hc (az hu ?_);have M2:=P.Dj M (by lia) ha hb hu λj y hj hy=>hle j y hj hy;by_cases c7:(nb - 1 == 1)=true
  · rw[if_pos c7];rw[beq_iff_eq] at c7;rw[c7] at M2 ⊢;exact He (qd _ _ (P.zE M2 ha pb))
  rw[if_neg c7];rw[beq_iff_eq] at c7;obtain ⟨v,hv⟩ : ∃x,a[na - 1]?=some x:=⟨a[na - 1],Ha (by lia)⟩
  refine Hc (az hv ?_);refine Hc (kK L hk (P.Da hv) (by lia) (by lia) (λi x _ hx=>P.Db hx) (λi x _ hx=>P.ak hv hx) (λi j x y hij _ hx hy=>P.Gm (P.Da hv) (by lia) hx hy) λm hm m1 m2=>?_);dsimp only;simp only[Nat.zero_add] at m1 m2;by_cases c8:nb - 1 - m>0
  · rw[if_pos c8];have Mm:=P.Eg M2 hm ha (by lia) (λi x h4 h5 hx j y hj hy=>P.ED (P.Db hx) (by lia) hy hv (m2 i x h4 h5 hx)) (out':=_++(b.extract m (nb - 1)).reverse) tS;by_cases c9:(m == 1)=true
    · rw[if_pos c9];rw[beq_iff_eq] at c9;rw[c9] at Mm ⊢;exact He (qd _ _ (P.zE Mm ha pb))
    rw[if_neg c9];by_cases c10:(m == 0)=true
    · rw[if_pos c10];rw[beq_iff_eq] at c10;rw[c10] at Mm ⊢;exact He (qd _ _ (P.EK Mm ha))
    rw[if_neg c10];rw[beq_iff_eq] at c9 c10;exact p9 P Mm h1 (by lia) ha (by lia) hv m1 (by lia) qd qn
  · rw[if_neg c8];have e0:m=nb - 1:=by lia
    subst e0;exact p9 P M2 h1 (by lia) ha (by lia) hv m1 (by lia) qd qn
theorem xf (L:cL prog w A E s Dm R κ Ask)(P:Pre Ask Dm R a b)(hk:kindOf st=κ)(M:MH R a b out na nb)(h1:1<=na)(h2:2<=nb)(ha:na<=a.size)(hb:nb<=b.size)(hn:na+nb<=n0)(qd:EY R a b Q (setG st g))(qn:EZ R a b n0 Q (setG st g)):wpS (model prog w) A E s (xc a b out na nb g ac bc) Q st:=by
  unfold xc;rw[bU];obtain ⟨u,hu⟩ : ∃x,b[nb - 1]?=some x:=⟨b[nb - 1],Ha (by lia)⟩
  refine Hc (wpS_modify (Hc (az hu ?_)));have hk':kindOf (setG st g)=κ:=hk;refine Hc (i6 L hk' (P.Db hu) (by lia) (by lia) (λi x _ hx=>P.Da hx) (λi x _ hx=>P.ak hx hu) (λi j x y hij _ hx hy=>P.ED (P.Db hu) (by lia) hx hy) λk hkn k1 k2=>?_);dsimp only;simp only[Nat.zero_add] at k1 k2;by_cases c4:na - k>0
  · rw[if_pos c4];have Mk:=P.Ef M hkn ha hb (λi x h4 h5 hx j y hj hy=>P.Gh (P.Da hx) (by lia) hu hy (k2 i x h4 h5 hx)) (out':=out++(a.extract k na).reverse) tS;by_cases c5:(k == 0)=true
    · rw[if_pos c5];rw[beq_iff_eq] at c5;rw[c5] at Mk ⊢;exact He (qd _ _ (P.AA Mk hb))
    rw[if_neg c5];rw[beq_iff_eq] at c5;exact p8 L P hk' Mk (by lia) h2 (by lia) hb hu k1 (by lia) qd qn
  · rw[if_neg c4];have e0:k=na:=by lia
    subst e0;exact p8 L P hk' M h1 h2 ha hb hu k1 hn qd qn
end
noncomputable abbrev Ai:=Option (Array Keyed)×Nat×Nat×Array Keyed×Nat×Nat
noncomputable abbrev yv:=Option (Array Keyed)×Nat×Nat×Array Keyed×Nat
noncomputable def Fd (a b:Array Keyed)(g:Nat)(c:Ai):StateT Hf Sem (ForInStep Ai):=do
  let y <-elem' b (c.2.2.1 - 1)
  let x <-elem' a (c.2.1 - 1)
  let r <-lt' y x
  match r with
  | some aW =>
    if aW=true then do
      let z <-elem' a (c.2.1 - 1)
      if (c.2.1 - 1 == 0)=true then pure (.done (some (cc a b (c.2.2.2.1.push z) (c.2.1 - 1) c.2.2.1),c.2.1 - 1,c.2.2.1,c.2.2.2.1.push z,c.2.2.2.2.1+1,0))
      else if c.2.2.2.2.1+1>=g then pure (.done (none,c.2.1 - 1,c.2.2.1,c.2.2.2.1.push z,c.2.2.2.2.1+1,0))
      else pure (.yield (none,c.2.1 - 1,c.2.2.1,c.2.2.2.1.push z,c.2.2.2.2.1+1,0))
    else do
      let z <-elem' b (c.2.2.1 - 1)
      if (c.2.2.1 - 1 == 1)=true then pure (.done (some (lT a b (c.2.2.2.1.push z) c.2.1 (c.2.2.1 - 1)),c.2.1,c.2.2.1 - 1,c.2.2.2.1.push z,0,c.2.2.2.2.2+1))
      else if c.2.2.2.2.2+1>=g then pure (.done (none,c.2.1,c.2.2.1 - 1,c.2.2.2.1.push z,0,c.2.2.2.2.2+1))
      else pure (.yield (none,c.2.1,c.2.2.1 - 1,c.2.2.2.1.push z,0,c.2.2.2.2.2+1))
  | _=>pure (.done (some (cc a b c.2.2.2.1 c.2.1 c.2.2.1),c.2.1,c.2.2.1,c.2.2.2.1,c.2.2.2.2.1,c.2.2.2.2.2))
noncomputable def Fb (a b:Array Keyed)(c:uD):StateT Hf Sem (ForInStep uD):=if c.2.2.2.2.1>1 then xc a b c.2.2.2.1 c.2.1 c.2.2.1 (c.2.2.2.2.1 - 1) c.2.2.2.2.2.1 c.2.2.2.2.2.2 else xc a b c.2.2.2.1 c.2.1 c.2.2.1 c.2.2.2.2.1 c.2.2.2.2.2.1 c.2.2.2.2.2.2
noncomputable def E9 (a b:Array Keyed)(g:Nat)(c:Ai):StateT Hf Sem (ForInStep yv):=do
  liftM (rule "list.sort.gallop")
  let d <-forIn [:a.size+b.size] ((none,c.2.1,c.2.2.1,c.2.2.2.1,g+1,c.2.2.2.2.1,c.2.2.2.2.2):uD) λ_ d=>Fb a b d
  match d.1 with
  | some r=>pure (.done (some r,d.2.1,d.2.2.1,d.2.2.2.1,d.2.2.2.2.1))
  | none=>do
    aR (d.2.2.2.2.1+1)
    pure (.yield (none,d.2.1,d.2.2.1,d.2.2.2.1,d.2.2.2.2.1+1))
noncomputable def Fc (a b:Array Keyed)(c:yv):StateT Hf Sem (ForInStep yv):=do
  let d <-forIn [:a.size+b.size] ((none,c.2.1,c.2.2.1,c.2.2.2.1,0,0):Ai) λ_ d=>Fd a b c.2.2.2.2 d
  match d.1 with
  | some r=>pure (.done (some r,d.2.1,d.2.2.1,d.2.2.2.1,c.2.2.2.2))
  | none=>E9 a b c.2.2.2.2 d
theorem oC (a b:Array Keyed):iu a b=(do
  liftM (rule "list.sort.merge-hi")
  let x <-elem' a (a.size - 1)
  if (a.size - 1 == 0)=true then pure (cc a b #[x] (a.size - 1) b.size)
  else if (b.size == 1)=true then pure (lT a b #[x] (a.size - 1) b.size)
  else do
    let s <-get
    let c <-forIn [:a.size+b.size] ((none,a.size - 1,b.size,#[x],gallopOf s):yv) λ_ c=>Fc a b c
    match c.1 with
    | some r=>pure r
    | none=>liftM (unsupported "internal:list.sort.merge-bound")):=by
  rw[oB];dsimp only;refine bind_eq rfl λ_=>bind_eq rfl λx=>congrArg _ (congrArg _ (bind_eq rfl λs=>bind_eq (congrArg _ (funext λ_=>funext λc=>bind_eq rfl λd=>?_)) λc=>?_))
  · rcases d with ⟨_ | r,d⟩
    · refine bind_eq rfl λ_=>bind_eq rfl λd=>?_;rcases d with ⟨_ | r,d⟩<;>rfl
    · rfl
  · rcases c with ⟨_ | r,c⟩<;>rfl
section
variable {a b:Array Keyed} {st:Hf}
noncomputable def uC (R:Keyed->Keyed->Bool)(a b:Array Keyed)(n na nb:Nat)(out:Array Keyed):Prop:=MH R a b out na nb/\1<=na/\2<=nb/\na<=a.size/\nb<=b.size/\n+na+nb<=a.size+b.size
theorem y9 (L:cL prog w A E s Dm R κ Ask)(P:Pre Ask Dm R a b)(hk:kindOf st=κ){n g na nb ac bc:Nat}{out:Array Keyed}{Q:ForInStep Ai->Hf->Prop}(M0:uC R a b n na nb out)(qd:∀r c,Good R a b r->Q (.done (some r,c)) st)(qn:∀na nb out ac bc,uC R a b (n+1) na nb out->Q (.done (none,na,nb,out,ac,bc)) st/\Q (.yield (none,na,nb,out,ac,bc)) st):wpS (model prog w) A E s (Fd a b g (none,na,nb,out,ac,bc)) Q st:=by
  obtain ⟨M,h1,h2,ha,hb,h3⟩:=M0;unfold Fd;obtain ⟨u,hu⟩ : ∃x,b[nb - 1]?=some x:=⟨b[nb - 1],Ha (by lia)⟩
  obtain ⟨v,hv⟩ : ∃x,a[na - 1]?=some x:=⟨a[na - 1],Ha (by lia)⟩
  refine Hc (az hu (Hc (az hv (Hc (L u v _ _ (P.Db hu) (P.Da hv) (P.ak hv hu) hk ?_)))));cases c3:R u v with
  | true =>
    have M':=P.Bp M (by lia) ha hb hv λj y hj hy=>P.Gh (P.Da hv) (by lia) hu hy c3;refine Hc (az hv ?_);split
    case isTrue c =>
      have c:na - 1=0:=beq_iff_eq.mp c;refine He (qd _ _ ?_);dsimp only;rw[c] at M' ⊢;exact P.AA M' hb
    case isFalse c =>
      have c:¬na - 1=0:=λz=>c (beq_iff_eq.mpr z);have z:=qn (na - 1) nb (out.push v) (ac+1) 0 ⟨M',by lia,h2,by lia,hb,by lia⟩;split
      · exact He z.1
      · exact He z.2
  | false =>
    have M':=P.Dj M (by lia) ha hb hu λj y hj hy=>P.ED (P.Db hu) (by lia) hy hv c3;refine Hc (az hu ?_);split
    case isTrue c =>
      have c:nb - 1=1:=beq_iff_eq.mp c;refine He (qd _ _ ?_);dsimp only;rw[c] at M' ⊢;exact P.zE M' ha P.nb
    case isFalse c =>
      have c:¬nb - 1=1:=λz=>c (beq_iff_eq.mpr z);have z:=qn na (nb - 1) (out.push u) 0 (bc+1) ⟨M',h1,by lia,ha,by lia,by lia⟩;split
      · exact He z.1
      · exact He z.2
theorem y7 (L:cL prog w A E s Dm R κ Ask)(P:Pre Ask Dm R a b){st0:Hf}(hk:kindOf st0=κ)(hS:ai st0 st){n:Nat}{d:uD}(h:d.1=none/\uC R a b n d.2.1 d.2.2.1 d.2.2.2.1){Q:ForInStep uD->Hf->Prop}(qd:∀r c st',ai st0 st'->Good R a b r->Q (.done (some r,c)) st')(qn:∀d st',ai st0 st'->d.1=none/\uC R a b (n+1) d.2.1 d.2.2.1 d.2.2.2.1->Q (.done d) st'/\Q (.yield d) st'):wpS (model prog w) A E s (Fb a b d) Q st:=by
  obtain ⟨_,M,h1,h2,ha,hb,h3⟩:=h;have key:∀g,wpS (model prog w) A E s (xc a b d.2.2.2.1 d.2.1 d.2.2.1 g d.2.2.2.2.2.1 d.2.2.2.2.2.2) Q st:=λg =>
    xf (n0:=d.2.1+d.2.2.1) L P (hS.1.trans hk) M h1 h2 ha hb (GW _) (λr c hG=>qd r c _ (hS.setG _) hG) λna' nb' out' g2 k k1 M' i1 i2 i3 i4 i5=>qn _ _ (hS.setG _) ⟨rfl,M',i1,i2,i3,i4,by dsimp only;lia⟩
  unfold Fb;split
  · exact key _
  · exact key _
theorem y6 (L:cL prog w A E s Dm R κ Ask)(P:Pre Ask Dm R a b){st0:Hf}(hk:kindOf st0=κ)(hS:ai st0 st){n g:Nat}{c:Ai}(h:uC R a b n c.2.1 c.2.2.1 c.2.2.2.1){Q:ForInStep yv->Hf->Prop}(qd:∀r c st',ai st0 st'->Good R a b r->Q (.done (some r,c)) st')(qn:∀d st',ai st0 st'->d.1=none/\uC R a b n d.2.1 d.2.2.1 d.2.2.2.1->Q (.yield d) st'):wpS (model prog w) A E s (E9 a b g c) Q st:=by
  unfold E9;refine Hc (wpS_lift (wpAny_rule ⟨rfl,Hc (wpS_mono (wpS_forRange
    (I:=λy (d:uD) st'=>ai st0 st'/\d.1=none/\uC R a b (n+y) d.2.1 d.2.2.1 d.2.2.2.1)
    (Q:=λ(d:uD) st'=>ai st0 st'/\((∃r,d.1=some r/\Good R a b r)\/d.1=none/\uC R a b n d.2.1 d.2.2.1 d.2.2.2.1)) ?_ ?_ ⟨hS,rfl,h⟩) ?_)⟩))
  · rintro y d st' _ hy ⟨hS,z⟩;refine y7 L P hk hS z (λr c st' hS hG=>⟨hS,.inl ⟨r,rfl,hG⟩⟩) λd st' hS z=>⟨⟨hS,.inr ⟨z.1,z.2.1,z.2.2.1,z.2.2.2.1,z.2.2.2.2.1,z.2.2.2.2.2.1,?_⟩⟩,hS,z⟩
    have:=z.2.2.2.2.2.2;lia
  · rintro d st' ⟨hS,_,M,h1,h2,h3,h4,h5⟩;lia
  · rintro d st' ⟨hS,⟨r,e,hG⟩ | ⟨e,z⟩⟩
    · rw[e];exact He (qd _ _ _ hS hG)
    · rw[e];dsimp only;rw[bU];exact Hc (wpS_modify (He (qn _ _ (hS.setG _) ⟨rfl,z⟩)))
theorem y8 (L:cL prog w A E s Dm R κ Ask)(P:Pre Ask Dm R a b){st0:Hf}(hk:kindOf st0=κ)(hS:ai st0 st){n:Nat}{c:yv}(h:uC R a b n c.2.1 c.2.2.1 c.2.2.2.1){Q:ForInStep yv->Hf->Prop}(qd:∀r c st',ai st0 st'->Good R a b r->Q (.done (some r,c)) st')(qn:∀d st',ai st0 st'->d.1=none/\uC R a b (n+1) d.2.1 d.2.2.1 d.2.2.2.1->Q (.yield d) st'):wpS (model prog w) A E s (Fc a b c) Q st:=by
  unfold Fc;refine Hc (wpS_mono (wpS_forRange
    (I:=λy (d:Ai) st'=>st'=st/\d.1=none/\uC R a b (n+y) d.2.1 d.2.2.1 d.2.2.2.1)
    (Q:=λ(d:Ai) st'=>st'=st/\((∃r,d.1=some r/\Good R a b r)\/d.1=none/\uC R a b (n+1) d.2.1 d.2.2.1 d.2.2.2.1)) ?_ ?_ ⟨rfl,rfl,h⟩) ?_)
  · rintro y ⟨x,na,nb,out,ac,bc⟩ st' _ hy ⟨rfl,e,z⟩;obtain rfl:x=none:=e;refine y9 L P (hS.1.trans hk) z (λr c hG=>⟨rfl,.inl ⟨r,rfl,hG⟩⟩) λna nb out ac bc z=>⟨⟨rfl,.inr ⟨rfl,z.1,z.2.1,z.2.2.1,z.2.2.2.1,z.2.2.2.2.1,?_⟩⟩,rfl,rfl,z⟩
    have:=z.2.2.2.2.2;dsimp only;lia
  · rintro d st' ⟨rfl,_,M,h1,h2,h3,h4,h5⟩;lia
  · rintro d st' ⟨rfl,⟨r,e,hG⟩ | ⟨e,z⟩⟩
    · rw[e];exact He (qd _ _ _ hS hG)
    · rw[e];exact y6 L P hk hS z qd qn
end
theorem qo (L:cL prog w A E s Dm R κ Ask){a b:Array Keyed}(P:Pre Ask Dm R a b){st:Hf}(hk:kindOf st=κ){Q:Array Keyed->Hf->Prop}(h:∀r st',ai st st'->Good R a b r->Q r st'):wpS (model prog w) A E s (iu a b) Q st:=by
  have pa:=P.na;have pb:=P.nb;obtain ⟨a0,ha0⟩ : ∃x,a[a.size - 1]?=some x:=⟨a[a.size - 1],Ha (by lia)⟩
  have M1:=P.gY ha0;rw[oC];refine Hc (wpS_lift (wpAny_rule ⟨rfl,Hc (az ha0 ?_)⟩));split
  case isTrue c =>
    rw[beq_iff_eq] at c;rw[c] at M1 ⊢;exact He (h _ _ .vw (P.AA M1 (GW _)))
  case isFalse c1 =>
    split
    case isTrue c =>
      rw[beq_iff_eq] at c;rw[c] at M1 ⊢;exact He (h _ _ .vw (P.zE M1 (by lia) pb))
    case isFalse c2 =>
      rw[beq_iff_eq] at c1 c2;refine Hc (wpS_get (Hc (wpS_mono (wpS_forRange
        (I:=λx (c:yv) st'=>ai st st'/\c.1=none/\uC R a b (1+x) c.2.1 c.2.2.1 c.2.2.2.1)
        (Q:=λ(c:yv) st'=>ai st st'/\∃r,c.1=some r/\Good R a b r) ?_ ?_ ⟨.vw,rfl,M1,?_⟩) ?_)))
      · rintro x c st' _ hx ⟨hS,_,z⟩;exact y8 L P hk hS z (λr c st' hS hG=>⟨hS,r,rfl,hG⟩) λd st' hS z=>⟨hS,z⟩
      · rintro c st' ⟨hS,_,M,h1,h2,h3,h4,h5⟩;lia
      · dsimp only;lia
      · rintro c st' ⟨hS,r,e,hG⟩;rw[e];exact He (h _ _ hS hG)
end
end Tim
namespace Tim
open PySem PyProof.Rows
noncomputable def putBack (sa:Nat)(merged:Array Keyed)(a:Array Keyed):Array Keyed:=merged.toList.zipIdx.foldl (λa (p,j)=>a.setIfInBounds (sa+j) p) a
theorem ql (i:Nat):mergeAt' i=(do
  let s <-get
  let (some (sa,na,power),some (sb,nb,_)):=((pendingOf s)[i]?,(pendingOf s)[i+1]?) | unsupported "internal:list.sort.pending"
  set (setPending s (((pendingOf s).setIfInBounds i (sa,na+nb,power)).eraseIdxIfInBounds (i+1)))
  let some k <-bK false (<-elem' (arrOf s) sb) (arrOf s) sa na 0 | return false
  let (sa,na):=(sa+k,na - k)
  if na == 0 then return true
  let some nb <-bK true (<-elem' (arrOf s) (sa+na - 1)) (arrOf s) sb nb (nb - 1) | return false
  if nb == 0 then return true
  let x:=(arrOf s).extract sa sb
  let y:=(arrOf s).extract sb (sb+nb)
  let merged <-if na<=nb then iw x y else iu x y
  modify λs=>setArr s (putBack sa merged (arrOf s))
  return (failedOf (<-get)).isNone):=rfl
theorem lu (sa:Nat):∀(ms:List Keyed) (k:Nat) (arr:Array Keyed),sa+k+ms.length<=arr.size->((ms.zipIdx k).foldl (λ(a:Array Keyed) (pj:Keyed×Nat)=>a.setIfInBounds (sa+pj.2) pj.1) arr).toList=arr.toList.take (sa+k)++ms++arr.toList.drop (sa+k+ms.length)
  | [],k,arr,h=>by simp
  | m::ms,k,arr,h=>by
    rw[List.zipIdx_cons,List.foldl_cons,lu sa ms (k+1) _ (by rw[Array.size_setIfInBounds];simp at h;lia),Array.toList_setIfInBounds];have hl:sa+k<arr.toList.length:=by rw[Hd];simp at h;lia
    dsimp only;rw[show sa+(k+1)=sa+k+1 by lia,List.take_succ_eq_append_getElem (by rw[length_set];exact hl),List.getElem_set_self,List.take_set_of_le (GW _),List.drop_set_of_lt (by lia)];rw[append_assoc,append_assoc,append_assoc];simp only[List.singleton_append,List.cons_append,List.nil_append,length_cons];rw[show sa+k+1+ms.length=sa+k+(ms.length+1) by lia]
theorem oO {sa:Nat}{merged arr:Array Keyed}(h:sa+merged.size<=arr.size):(putBack sa merged arr).toList=arr.toList.take sa++merged.toList++arr.toList.drop (sa+merged.size):=by
  have:=lu sa merged.toList 0 arr (by rw[Hd];lia);rw[Nat.add_zero,Hd] at this;exact this
section
variable {Ask:Keyed->Keyed->Prop} {Dm:Keyed->Prop} {R:Keyed->Keyed->Bool}
noncomputable def seg (l:List Keyed)(s n:Nat):List Keyed:=(l.drop s).take n
theorem seg_at {l:List Keyed}{s n i:Nat}(h:i<n):(seg l s n)[i]?=l[s+i]?:=by
  unfold seg;rw[List.getElem?_take_of_lt h,List.getElem?_drop]
theorem eC {l:List Keyed}{s n i:Nat}{x:Keyed}(h:(seg l s n)[i]?=some x):i<n/\l[s+i]?=some x:=by
  have:i<n:=by
    have:=(Hb.mp h).1;unfold seg at this;rw[length_take] at this;lia
  exact ⟨this,by rw[<-seg_at this];exact h⟩
theorem dE {l:List Keyed}{s n:Nat}{x:Keyed}(h:x∈seg l s n):∃i,i<n/\l[s+i]?=some x:=aZ h
theorem uc {l:List Keyed}{s n i:Nat}{x:Keyed}(h:i<n)(e:l[s+i]?=some x):x∈seg l s n:=Hi (i:=i) (by rw[seg_at h];exact e)
theorem gn (l:List Keyed)(s n m:Nat):seg l s (n+m)=seg l s n++seg l (s+n) m:=by
  unfold seg;rw[List.take_add,List.drop_drop]
theorem jl (l:List Keyed)(s n:Nat):l=l.take s++seg l s n++l.drop (s+n):=by
  unfold seg;rw[append_assoc,<-List.drop_drop,take_append_drop,take_append_drop]
theorem j3 (a:Array Keyed)(i j:Nat):(a.extract i j).toList=seg a.toList i (j - i):=eR a i j
theorem xi (o:Ord Dm R){X0 X1 Y0 Y1 m:List Keyed}(hd:∀x,x∈X0++X1++(Y0++Y1)->Dm x)(sX:dQ R (X0++X1))(sY:dQ R (Y0++Y1))(hm:m.Perm (X1++Y0))(sm:dQ R m)
    (h0:∀x∈X0,∀y∈Y0++Y1,R y x=false) (h1:∀x∈X1,∀y∈Y1,R y x=false):dQ R (X0++m++Y1):=by
  have a:=pairwise_append.mp sX;have b:=pairwise_append.mp sY;refine pairwise_append.mpr ⟨pairwise_append.mpr ⟨a.1,sm,λx hx y hy=>?_⟩,b.2.1,λx hx y hy=>?_⟩
  · rcases mem_append.mp (hm.mem_iff.mp hy) with z | z
    · exact a.2.2 x hx y z
    · exact h0 x hx y (mem_append_left _ z)
  · rcases mem_append.mp hx with z | z
    · exact h0 x z y (mem_append_right _ hy)
    · rcases mem_append.mp (hm.mem_iff.mp z) with u | u
      · exact h1 x u y hy
      · exact b.2.2 x u y hy
variable {prog:Hj} {w:Hs} {A:Hr} {E:GR->GU->Prop} {s:GU} {κ:SortKind}
theorem Ah {σ:Type}{M:Model}{st st':σ}{Q:PUnit->σ->Prop}(h:Q ⟨⟩ st'):wpS M A E s (set st':StateT σ Sem PUnit) Q st:=by
  unfold wpS;rw[StateT.run_set];exact GX ⟨rfl,h⟩
noncomputable def Done (R:Keyed->Keyed->Bool)(l l':List Keyed)(s n:Nat):Prop:=∃m,l'=l.take s++m++l.drop (s+n)/\m.Perm (seg l s n)/\dQ R m
theorem qm (L:cL prog w A E s Dm R κ Ask)(o:Ord Dm R){st:Hf}(hk:kindOf st=κ)(hf:failedOf st=none)(hd:∀x∈(arrOf st).toList,Dm x){i sa na pw sb nb pb:Nat}
    (h1:(pendingOf st)[i]?=some (sa,na,pw)) (h2:(pendingOf st)[i+1]?=some (sb,nb,pb)) (hs:sa+na=sb) (hn:1<=na) (hm:1<=nb) (hz:sb+nb<=(arrOf st).size)
    (sX:dQ R (seg (arrOf st).toList sa na)) (sY:dQ R (seg (arrOf st).toList sb nb)) (ask:∀x∈seg (arrOf st).toList sa na,∀y∈seg (arrOf st).toList sb nb,Ask y x) {Q:Bool->Hf->Prop}
    (h:∀st',kindOf st'=κ->failedOf st'=none->pendingOf st'=((pendingOf st).setIfInBounds i (sa,na+nb,pw)).eraseIdxIfInBounds (i+1)->Done R (arrOf st).toList (arrOf st').toList sa (na+nb)->Q true st'):wpS (model prog w) A E s (mergeAt' i) Q st:=by
  subst hs;generalize hl:(arrOf st).toList=l at *;have hlen:l.length=(arrOf st).size:=by rw[<-hl,Hd]
  have at_:∀j,j<sa+na+nb->∃x,(arrOf st)[j]?=some x:=λj hj=>⟨(arrOf st)[j]'(by lia),Ha (by lia)⟩
  have toL':∀{j x},(arrOf st)[j]?=some x->l[j]?=some x:=λ{j x} e=>by rw[<-hl];exact qS e
  have D:∀{j x},(arrOf st)[j]?=some x->Dm x:=λ{j x} e=>hd x (Hi (toL' e));have dX:∀x∈seg l sa na,Dm x:=λx hx=>by obtain ⟨j,_,e⟩:=dE hx;exact hd x (Hi e)
  have dY:∀x∈seg l (sa+na) nb,Dm x:=λx hx=>by obtain ⟨j,_,e⟩:=dE hx;exact hd x (Hi e)
  have leX:∀{i j x y},i<=j->j<na->(arrOf st)[sa+i]?=some x->(arrOf st)[sa+j]?=some y->R y x=false:=λ{i j x y} hij hj hx hy =>
    sX.le o dX hij (by rw[seg_at (by lia)];exact toL' hx) (by rw[seg_at hj];exact toL' hy)
  have leY:∀{i j x y},i<=j->j<nb->(arrOf st)[sa+na+i]?=some x->(arrOf st)[sa+na+j]?=some y->R y x=false:=λ{i j x y} hij hj hx hy =>
    sY.le o dY hij (by rw[seg_at (by lia)];exact toL' hx) (by rw[seg_at hj];exact toL' hy)
  have ak:∀{i j x y},i<na->j<nb->(arrOf st)[sa+i]?=some x->(arrOf st)[sa+na+j]?=some y->Ask y x:=λ{i j x y} hi hj hx hy=>ask x (uc hi (toL' hx)) y (uc hj (toL' hy));obtain ⟨y0,hy0⟩:=at_ (sa+na) (by lia);rw[ql];refine Hc (wpS_get ?_);rw[h1,h2];dsimp (config:={ zeta:=false }) only;refine Hc (Ah (Hc (az hy0 ?_)));refine Hc (i6 L hk (D hy0) (by lia) (by lia) (λi x _ hx=>D hx) (λi x hi hx=>ak (j:=0) hi (by lia) hx hy0) (λi j x y hij hj hx hy hr=>o.tr x y y0 (D hx) (D hy) (D hy0) (leX hij hj hx hy) hr) λk hkn k1 k2=>?_);dsimp (config:={ zeta:=false }) only;have low:∀x∈seg l sa k,∀y∈seg l (sa+na) nb,R y x=false:=λx hx y hy=>by
    obtain ⟨i,h3,h4⟩:=dE hx;obtain ⟨j,h5,h6⟩:=dE hy;rw[<-hl,GY] at h4 h6;exact o.tr x y0 y (D h4) (D hy0) (D h6) (k1 i x h3 h4) (leY (i:=0) (Nat.zero_le _) h5 (by rw[Nat.add_zero];exact hy0) h6)
  by_cases c1:(na - k == 0)=true
  · rw[if_pos c1];rw[beq_iff_eq] at c1;have e:k=na:=by lia
    subst e;refine He (h _ hk hf rfl ⟨seg l sa (k+nb),?_,.refl _,?_⟩)
    · show (arrOf st).toList=_;rw[hl];exact jl _ _ _
    · rw[gn];exact pairwise_append.mpr ⟨sX,sY,low⟩
  rw[if_neg c1];rw[beq_iff_eq] at c1;obtain ⟨z,hz'⟩:=at_ (sa+k+(na - k) - 1) (by lia);refine Hc (az hz' ?_);rw[show sa+k+(na - k) - 1=sa+(na - 1) by lia] at hz';refine Hc (kK L hk (D hz') (by lia) (by lia) (λi x _ hx=>D hx) (λi x hi hx=>ak (by lia) hi hz' hx) (λi j x y hij hj hx hy hr=>by
    cases q:R x z with
    | true=>rfl
    | false =>
      have:=o.tr z x y (D hz') (D hx) (D hy) q (leY hij hj hx hy);rw[hr] at this;cases this) λn hnn n1 n2=>?_)
  dsimp (config:={ zeta:=false }) only;have eX:seg l sa na=seg l sa k++seg l (sa+k) (na - k):=by rw[<-gn];congr 1;lia
  have eY:seg l (sa+na) nb=seg l (sa+na) n++seg l (sa+na+n) (nb - n):=by rw[<-gn];congr 1;lia
  have high:∀x∈seg l (sa+k) (na - k),∀y∈seg l (sa+na+n) (nb - n),R y x=false:=λx hx y hy=>by
    obtain ⟨i,h3,h4⟩:=dE hx;obtain ⟨j,h5,h6⟩:=dE hy;rw[<-hl,GY] at h4 h6;rw[Nat.add_assoc] at h4;rw[Nat.add_assoc (sa+na)] at h6;exact o.tr x z y (D h4) (D hz') (D h6) (leX (by lia) (by lia) h4 hz') (n2 _ y (by lia) (by lia) h6)
  have fin:∀m:List Keyed,m.Perm (seg l (sa+k) (na - k)++seg l (sa+na) n)->dQ R m->(seg l sa k++m++seg l (sa+na+n) (nb - n)).Perm (seg l sa (na+nb))/\dQ R (seg l sa k++m++seg l (sa+na+n) (nb - n)):=λm hp hs=>by
    constructor
    · rw[gn,eX,eY,append_assoc,append_assoc];refine List.Perm.append_left _ ?_;rw[<-append_assoc];exact hp.append_right _
    · exact xi o (X1:=seg l (sa+k) (na - k)) (Y0:=seg l (sa+na) n) (λx hx=>by
        rw[<-eX,<-eY] at hx;rcases mem_append.mp hx with q | q
        · exact dX x q
        · exact dY x q) (by rw[<-eX];exact sX) (by rw[<-eY];exact sY) hp hs (by rw[<-eY];exact low) high
  by_cases c2:(n == 0)=true
  · rw[if_pos c2];rw[beq_iff_eq] at c2;subst c2;have:=fin (seg l (sa+k) (na - k)) (by unfold seg;simp) (by
      rw[eX] at sX;exact (pairwise_append.mp sX).2.1)
    refine He (h _ hk hf rfl ⟨_,?_,this.1,this.2⟩);show (arrOf st).toList=_;rw[hl,<-eX];rw[show sa+na+0=sa+na by lia,show nb - 0=nb by lia,<-gn];exact jl _ _ _
  rw[if_neg c2];rw[beq_iff_eq] at c2;have P:Pre Ask Dm R ((arrOf st).extract (sa+k) (sa+na)) ((arrOf st).extract (sa+na) (sa+na+n)):=by
    have e1:((arrOf st).extract (sa+k) (sa+na)).toList=seg l (sa+k) (na - k):=by rw[j3,hl];congr 1;lia
    have e2:((arrOf st).extract (sa+na) (sa+na+n)).toList=seg l (sa+na) n:=by rw[j3,hl];congr 1;lia
    have z1:((arrOf st).extract (sa+k) (sa+na)).size=na - k:=by rw[Array.size_extract];lia
    have z2:((arrOf st).extract (sa+na) (sa+na+n)).size=n:=by rw[Array.size_extract];lia
    refine ⟨o,?_,?_,?_,?_,?_,?_,?_,by lia,by lia⟩
    · rw[e1];exact λx hx=>dX x (by rw[eX];exact mem_append_right _ hx)
    · rw[e2];exact λx hx=>dY x (by rw[eY];exact mem_append_left _ hx)
    · rw[e1];rw[eX] at sX;exact (pairwise_append.mp sX).2.1
    · rw[e2];rw[eY] at sY;exact (pairwise_append.mp sY).1
    · rw[e1];intro x hx y hy;have hy':=qS hy;rw[e2] at hy';obtain ⟨h3,h4⟩:=eC hy';rw[<-hl,GY,Nat.add_zero,hy0] at h4;cases h4;obtain ⟨j,h5,h6⟩:=dE hx;rw[<-hl,GY,Nat.add_assoc] at h6;exact k2 _ x (by lia) (by lia) h6
    · rw[e2];intro y hy x hx;have hx':=qS hx;rw[e1,z1] at hx';obtain ⟨h3,h4⟩:=eC hx';rw[<-hl,GY,show sa+k+(na - k - 1)=sa+(na - 1) by lia,hz'] at h4;cases h4;obtain ⟨j,h5,h6⟩:=dE hy;rw[<-hl,GY] at h6;exact n1 j y h5 h6
    · rw[e1,e2];exact λx hx y hy=>ask x (by rw[eX];exact mem_append_right _ hx) y (by rw[eY];exact mem_append_left _ hy)
  have back:∀(r:Array Keyed) (st':Hf),ai (setPending st (((pendingOf st).setIfInBounds i (sa,na+nb,pw)).eraseIdxIfInBounds (i+1))) st'->Good R ((arrOf st).extract (sa+k) (sa+na)) ((arrOf st).extract (sa+na) (sa+na+n)) r ->
      Q true (setArr st' (putBack (sa+k) r (arrOf st')))/\failedOf st'=none:=λr st' hS hG=>by
    have hS1:kindOf st'=κ:=hS.1.trans hk;have hS2:arrOf st'=arrOf st:=hS.2.1;have hS4:failedOf st'=none:=hS.2.2.2.trans hf;obtain ⟨hp,hs⟩:=hG;rw[j3,j3,hl,show sa+na - (sa+k)=na - k by lia,show sa+na+n - (sa+na)=n by lia] at hp;have:=fin r.toList hp hs;have hlen2:r.size=na - k+n:=by
      have:=hp.length_eq;rw[Hu] at this;unfold seg at this;rw[length_take,length_take,length_drop,length_drop,Hd] at this;lia
    refine ⟨h _ hS1 hS4 hS.2.2.1 ⟨_,?_,this.1,this.2⟩,hS4⟩;show (putBack (sa+k) r (arrOf st')).toList=_;rw[hS2,oO (by lia),hl];have t1:l.take (sa+k)=l.take sa++seg l sa k:=by unfold seg;rw[List.take_add]
    have t2:l.drop (sa+k+r.size)=seg l (sa+na+n) (nb - n)++l.drop (sa+(na+nb)):=by
      unfold seg;rw[show sa+k+r.size=sa+na+n by lia,show sa+(na+nb)=sa+na+n+(nb - n) by lia];have:=take_append_drop (nb - n) (l.drop (sa+na+n));rw[List.drop_drop] at this;exact this.symm
    rw[t1,t2];simp only[append_assoc]
  dsimp only;have post:∀(r:Array Keyed) (st':Hf),ai (setPending st (((pendingOf st).setIfInBounds i (sa,na+nb,pw)).eraseIdxIfInBounds (i+1))) st'->Good R ((arrOf st).extract (sa+k) (sa+na)) ((arrOf st).extract (sa+na) (sa+na+n)) r ->
      wpS (model prog w) A E s (do modify λs=>setArr s (putBack (sa+k) r (arrOf s));let t <-get;pure (failedOf t).isNone) Q st':=λr st' hS hG=>by
    obtain ⟨q1,q2⟩:=back r st' hS hG;refine Hc (wpS_modify (Hc (wpS_get (He ?_))));show Q (failedOf st').isNone _;rw[q2];exact q1
  split
  · exact Hc (qp L P (st:=setPending st (((pendingOf st).setIfInBounds i (sa,na+nb,pw)).eraseIdxIfInBounds (i+1))) hk post)
  · exact Hc (qo L P (st:=setPending st (((pendingOf st).setIfInBounds i (sa,na+nb,pw)).eraseIdxIfInBounds (i+1))) hk post)
end
end Tim
namespace Tim
open PySem PyProof.Rows
section
variable {prog:Hj} {w:Hs} {A:Hr} {E:GR->GU->Prop} {s:GU}
variable {Ask:Keyed->Keyed->Prop} {Dm:Keyed->Prop} {rk:Keyed->Int} {κ:SortKind}
noncomputable def bD (rk:Keyed->Int):Keyed->Keyed->Bool:=λx y=>decide (rk x<rk y)
theorem vZ:Ord Dm (bD rk):=⟨λx y z _ _ _ h1 h2=>by unfold bD at *;simp only[decide_eq_false_iff_not,Int.not_lt] at *;lia,λx y _ _ h=>by unfold bD at *;simp only[decide_eq_true_eq,decide_eq_false_iff_not] at *;lia⟩
noncomputable def Kr (rk:Keyed->Int)(xs:Array Keyed)(i:Nat):Int:=match xs[i]? with
  | some p=>rk p
  | none=>0
theorem cz {xs ys:Array Keyed}{i j:Nat}(h:xs[i]?=ys[j]?):Kr rk xs i=Kr rk ys j:=by unfold Kr;rw[h]
theorem dz {xs:Array Keyed}{i:Nat}{x:Keyed}(h:xs[i]?=some x):Kr rk xs i=rk x:=by unfold Kr;rw[h]
theorem bH {xs:Array Keyed}{i j:Nat}(hj:j<=xs.size)(k:Nat):Kr rk (mirror xs i j ((j - i) / 2)) k=if i<=k/\k<j then Kr rk xs (i+j - 1 - k) else Kr rk xs k:=by
  have e:=getElem?_mirror_all (i:=i) hj k;split
  · rename_i c;rw[if_pos c] at e;exact cz e
  · rename_i c;rw[if_neg c] at e;exact cz e
structure Bs (κ:SortKind)(xs:Array Keyed)(p:Array (Nat×Nat×Nat))(lo:Nat)(st:Hf):Prop where
  perm:(arrOf st).Perm xs
  kind:kindOf st=κ
  failed:failedOf st=none
  pend:pendingOf st=p
  low:∀i,i<lo->(arrOf st)[i]?=xs[i]?
variable {xs:Array Keyed} {p:Array (Nat×Nat×Nat)} {lo:Nat}
theorem Bs.size {st:Hf}(B:Bs κ xs p lo st):(arrOf st).size=xs.size:=B.perm.size_eq
theorem Bs.mirror {st:Hf}(B:Bs κ xs p lo st){i j:Nat}(h:lo<=i)(hj:j<=xs.size):Bs κ xs p lo (setArr st (mirror (arrOf st) i j ((j - i) / 2))):=
  ⟨(mirror_perm _ _ _ _).trans B.perm,B.kind,B.failed,B.pend,λk hk=>by
    show (PyProof.Rows.mirror (arrOf st) i j ((j - i) / 2))[k]?=_;rw[getElem?_mirror_all (by rw[B.size];exact hj),if_neg (by lia)];exact B.low k hk⟩
theorem Bs.bubble {st:Hf}(B:Bs κ xs p lo st){k d:Nat}(hk:k<xs.size)(h:lo+d<=k):Bs κ xs p lo (setArr st (bubble (arrOf st) k d)):=
  ⟨(bubble_perm _ _ _).trans B.perm,B.kind,B.failed,B.pend,λi hi=>by
    show (PyProof.Rows.bubble (arrOf st) k d)[i]?=_;rw[getElem?_bubble (by rw[B.size];exact hk) d (by lia),if_neg (by lia),if_neg (by lia)];exact B.low i hi⟩
theorem Bs.lt (L:cL prog w A E s Dm (bD rk) κ λ_ _=>True)(D:∀x∈xs.toList,Dm x){st:Hf}(B:Bs κ xs p lo st){i j:Nat}(hi:i<xs.size)(hj:j<xs.size){Q:Option Bool->Hf->Prop}(h:Q (some (decide (Kr rk (arrOf st) i<Kr rk (arrOf st) j))) st):wpS (model prog w) A E s (ltAt' i j) Q st:=by
  have at_:∀k,k<xs.size->∃x,(arrOf st)[k]?=some x/\Dm x:=λk hk=>by
    have hk':k<(arrOf st).size:=by rw[B.size];exact hk
    exact ⟨(arrOf st)[k],Ha hk',D _ ((Array.perm_iff_toList_perm.mp B.perm).mem_iff.mp (by simp))⟩
  obtain ⟨x,hx,dx⟩:=at_ i hi;obtain ⟨y,hy,dy⟩:=at_ j hj;rw[ltAt'_eq];refine Hc (wpS_get ?_);refine Hc (az hx (Hc (az hy (L x y st _ dx dy trivial B.kind ?_))));rw[dz hx,dz hy] at h;exact h
noncomputable def Up (rk:Keyed->Int)(lo:Nat)(xs:Array Keyed)(n:Nat):Prop:=∀i j,i<=j->j<n->Kr rk xs (lo+i)<=Kr rk xs (lo+j)
noncomputable def Dn (rk:Keyed->Int)(lo:Nat)(xs:Array Keyed)(n:Nat):Prop:=∀i j,i<=j->j<n->Kr rk xs (lo+j)<=Kr rk xs (lo+i)
theorem Up.step {ys:Array Keyed}{n:Nat}(h:Up rk lo ys n)(h1:1<=n)(hl:¬Kr rk ys (lo+n)<Kr rk ys (lo+n - 1)):Up rk lo ys (n+1):=λi j hij hj=>by
  by_cases c:j<n
  · exact h i j hij c
  · have e : j = n := by lia
    subst e;by_cases c2:i=j
    · subst c2;exact Int.le_refl _
    · have := h i (j - 1) (by lia) (by lia);rw[show lo+(j - 1)=lo+j - 1 by lia] at this;lia
theorem Dn.rev {ys:Array Keyed}{n:Nat}(h:Dn rk lo ys n)(hn:lo+n<=ys.size):Up rk lo (mirror ys lo (lo+n) ((lo+n - lo) / 2)) n:=λi j hij hj=>by
  rw[bH hn,bH hn,if_pos (by lia),if_pos (by lia)];have:=h (n - 1 - j) (n - 1 - i) (by lia) (by lia);rw[show lo+(n - 1 - j)=lo+(lo+n) - 1 - (lo+j) by lia,show lo+(n - 1 - i)=lo+(lo+n) - 1 - (lo+i) by lia] at this;exact this
theorem Up.one {ys:Array Keyed}:Up rk lo ys 1:=λi j hij hj=>by
  have e1:i=0:=by lia
  have e2:j=0:=by lia
  subst e1 e2;exact Int.le_refl _
theorem Dn.one {ys:Array Keyed}:Dn rk lo ys 1:=λi j hij hj=>by
  have e1:i=0:=by lia
  have e2:j=0:=by lia
  subst e1 e2;exact Int.le_refl _
noncomputable def dU (rk ix:Keyed->Int)(N:Int):Keyed->Int:=λx=>rk x*N+ix x
variable {ix:Keyed->Int} {N:Int}
theorem yq (xs:Array Keyed)(k:Nat):Kr (dU rk ix N) xs k=Kr rk xs k*N+Kr ix xs k:=by
  unfold Kr dU;cases xs[k]? with
  | some p=>rfl
  | none=>simp
theorem d9 {a b i j:Int}(h:a<b)(hi:i<N)(hj:0<=j)(hN:0<=N):a*N+i<b*N+j:=by
  have:(a+1)*N<=b*N:=Int.mul_le_mul_of_nonneg_right (by lia) hN;rw[Int.add_mul,Int.one_mul] at this;lia
noncomputable def lP (ix:Keyed->Int)(lo:Nat)(xs:Array Keyed)(n:Nat):Prop:=∀i,i<n->(lo:Int)<=Kr ix xs (lo+i)/\Kr ix xs (lo+i)<(lo:Int)+n
noncomputable def vT (ix:Keyed->Int)(N:Int)(xs:Array Keyed)(k:Nat):Prop:=∀j,k<=j->j<xs.size->Kr ix xs j=j/\(j:Int)<N
noncomputable def Kept (xs ys:Array Keyed)(k:Nat):Prop:=∀j,k<=j->ys[j]?=xs[j]?
theorem lP.EI {ys:Array Keyed}{n a b:Nat}(h:lP ix lo ys n)(ha:lo<=a)(hb:b<=lo+n)(hz:b<=ys.size):lP ix lo (mirror ys a b ((b - a) / 2)) n:=λi hi=>by
  rw[bH hz];split
  · have := h (a + b - 1 - (lo + i) - lo) (by lia);rw[show lo+(a+b - 1 - (lo+i) - lo)=a+b - 1 - (lo+i) by lia] at this;exact this
  · exact h i hi
theorem Kept.EI {xs ys:Array Keyed}{k a b:Nat}(h:Kept xs ys k)(hb:b<=k)(hz:b<=ys.size):Kept xs (mirror ys a b ((b - a) / 2)) k:=λj hj=>by
  rw[getElem?_mirror_all hz,if_neg (by lia)];exact h j hj
structure Ds (rk ix:Keyed->Int)(N:Int)(lo:Nat)(xs ys:Array Keyed)(t x:Nat):Prop where
  tx:t<x
  pre:Dn (dU rk ix N) lo ys t
  low:∀i,i<t->Kr rk ys (lo+t)<Kr rk ys (lo+i)
  eq:∀i,t<=i->i<x->Kr rk ys (lo+i)=Kr rk ys (lo+t)
  CM:Kept xs ys (lo+t)
  Fg:lP ix lo ys t
theorem Ds.flush {ys:Array Keyed}{t x:Nat}(h:Ds rk ix N lo xs ys t x)(o:vT ix N xs lo)(hz:lo+x<=ys.size)(he:ys.size=xs.size) :
    Dn (dU rk ix N) lo (mirror ys (lo+t) (lo+x) ((lo+x - (lo+t)) / 2)) x/\lP ix lo (mirror ys (lo+t) (lo+x) ((lo+x - (lo+t)) / 2)) x/\Kept xs (mirror ys (lo+t) (lo+x) ((lo+x - (lo+t)) / 2)) (lo+x)/\∀i,i<x->Kr rk ys (lo+t)<=Kr rk (mirror ys (lo+t) (lo+x) ((lo+x - (lo+t)) / 2)) (lo+i):=by
  have htx:=h.tx;have io:∀i,t<=i->i<x->Kr ix ys (lo+i)=(lo:Int)+i/\(lo:Int)+i<N:=λi h1 h2=>by
    have:=o (lo+i) (by lia) (by lia);rw[cz (h.CM (lo+i) (by lia))];constructor
    · rw[this.1];lia
    · have:=this.2;lia
  have hN:0<=N:=by have:=(io t (GW _) htx).2;lia
  have inx:lP ix lo ys x:=λi hi=>by
    by_cases c:i<t
    · have:=h.Fg i c;lia
    · have:=(io i (by lia) hi).1;lia
  have up:∀i,i<x->Kr rk ys (lo+t)<=Kr rk ys (lo+i):=λi hi=>by
    by_cases c:i<t
    · exact Int.le_of_lt (h.low i c)
    · rw[h.eq i (by lia) hi];exact Int.le_refl _
  refine ⟨λi j hij hj=>?_,inx.EI (by lia) (GW _) hz,λj hj=>?_,λi hi=>?_⟩
  · rw[yq,yq,bH hz,bH hz,bH hz,bH hz];by_cases cj:j<t
    · rw [if_neg (by lia), if_neg (by lia), if_neg (by lia), if_neg (by lia), <- yq, <- yq];exact h.pre i j hij cj
    · rw [if_pos (by lia), if_pos (by lia)];have ej:lo+t+(lo+x) - 1 - (lo+j)=lo+(t+x - 1 - j):=by lia
      rw[ej,h.eq (t+x - 1 - j) (by lia) (by lia),(io (t+x - 1 - j) (by lia) (by lia)).1];by_cases ci:i<t
      · rw [if_neg (by lia), if_neg (by lia)];have:=h.Fg i ci;exact Int.le_of_lt (d9 (h.low i ci) (io (t+x - 1 - j) (by lia) (by lia)).2 (by lia) hN)
      · rw [if_pos (by lia), if_pos (by lia)];have ei:lo+t+(lo+x) - 1 - (lo+i)=lo+(t+x - 1 - i):=by lia
        rw[ei,h.eq (t+x - 1 - i) (by lia) (by lia),(io (t+x - 1 - i) (by lia) (by lia)).1];lia
  · rw [getElem?_mirror_all hz, if_neg (by lia)];exact h.CM j (by lia)
  · rw[bH hz];split
    · have := up (lo + t + (lo + x) - 1 - (lo + i) - lo) (by lia);rw[show lo+(lo+t+(lo+x) - 1 - (lo+i) - lo)=lo+t+(lo+x) - 1 - (lo+i) by lia] at this;exact this
    · exact up i hi
theorem Ds.next {ys:Array Keyed}{x:Nat}(d:Dn (dU rk ix N) lo ys x)(n:lP ix lo ys x)(k:Kept xs ys (lo+x))(l:∀i,i<x->Kr rk ys (lo+x)<Kr rk ys (lo+i)):Ds rk ix N lo xs ys x (x+1):=
  ⟨by lia,d,l,λi h1 h2=>by rw[show i=x by lia],k,n⟩
theorem Up.E7 {n:Nat}(h:Up rk lo xs n)(o:vT ix N xs lo)(hz:lo+n<=xs.size):Up (dU rk ix N) lo xs n:=λi j hij hj=>by
  have h1:=h i j hij hj;have oi:=o (lo+i) (by lia) (by lia);have oj:=o (lo+j) (by lia) (by lia);rw[yq,yq];by_cases c:Kr rk xs (lo+i)<Kr rk xs (lo+j)
  · exact Int.le_of_lt (d9 c (by rw[oi.1];exact oi.2) (by rw[oj.1];lia) (by lia))
  · rw [show Kr rk xs (lo + i) = Kr rk xs (lo + j) by lia, oi.1, oj.1];lia
theorem lP.CM {n:Nat}(o:vT ix N xs lo)(hz:lo+n<=xs.size):lP ix lo xs n:=λi hi=>by
  have:=(o (lo+i) (by lia) (by lia)).1;lia
theorem Up.grow {ys:Array Keyed}{n:Nat}(h:Up (dU rk ix N) lo ys n)(h1:1<=n)(hi:lP ix lo ys n)(hk:Kept xs ys (lo+n))(o:vT ix N xs lo)(hz:lo+n<xs.size)(hl:¬Kr rk ys (lo+n)<Kr rk ys (lo+n - 1)):Up (dU rk ix N) lo ys (n+1)/\lP ix lo ys (n+1)/\Kept xs ys (lo+(n+1)):=by
  have on:=o (lo+n) (by lia) hz;rw[<-cz (hk (lo+n) (GW _))] at on;have il:=hi (n - 1) (by lia);rw[show lo+(n - 1)=lo+n - 1 by lia] at il;refine ⟨h.step h1 λz=>?_,λi hi'=>?_,λj hj=>hk j (by lia)⟩
  · rw[yq,yq] at z;by_cases c:Kr rk ys (lo+n - 1)<Kr rk ys (lo+n)
    · have := d9 (N := N) c (i := Kr ix ys (lo + n - 1)) (j := Kr ix ys (lo + n)) (by lia) (by lia) (by lia);lia
    · rw [show Kr rk ys (lo + n) = Kr rk ys (lo + n - 1) by lia] at z;lia
  · by_cases c:i<n
    · have:=hi i c;lia
    · rw[show i=n by lia,on.1];lia
theorem kW (ys:Array Keyed)(a:Nat):mirror ys a (a+1) ((a+1 - a) / 2)=ys:=by
  rw[show (a+1 - a) / 2=0 by lia];rfl
theorem nM (L:cL prog w A E s Dm (bD rk) κ λ_ _=>True)(D:∀x∈xs.toList,Dm x){st:Hf}(B:Bs κ xs p lo st)(hx0:arrOf st=xs)(o:vT ix N xs lo){nrem:Nat}(h1:1<=nrem)(h2:lo+nrem<=xs.size){Q:Option Nat->Hf->Prop}
    (h:∀m st',Bs κ xs p lo st'->1<=m->m<=nrem->Up (dU rk ix N) lo (arrOf st') m->lP ix lo (arrOf st') m->Kept xs (arrOf st') (lo+m)->Q (some m) st'):wpS (model prog w) A E s (countRun' lo nrem) Q st:=by
  rw[countRun'_eq];refine Hc (wpS_mono (wpS_forRange (I:=λx c st'=>st'=st/\c=(none,x)/\Up rk lo (arrOf st) x)
    (Q:=λc st'=>st'=st/\∃n,c=(none,n)/\1<=n/\n<=nrem/\Up rk lo (arrOf st) n/\(n=nrem\/Kr rk (arrOf st) (lo+n)<Kr rk (arrOf st) (lo+n - 1))) ?s1 ?f1 ⟨rfl,rfl,.one⟩) ?post)
  case f1 =>
    rintro c st' ⟨rfl,rfl,hu⟩;rw[show max 1 nrem=nrem by lia] at hu ⊢;exact ⟨rfl,nrem,rfl,h1,GW _,hu,.inl rfl⟩
  case s1 =>
    rintro x c st' hx1 hx2 ⟨rfl,rfl,hu⟩;dsimp (config:={ zeta:=false }) only;refine Hc (B.lt L D (by lia) (by lia) ?_);dsimp (config:={ zeta:=false }) only;split
    · rename_i c;exact He ⟨rfl,x,rfl,hx1,by lia,hu,.inr (of_decide_eq_true c)⟩
    · rename_i c;exact He ⟨rfl,rfl,hu.step hx1 λz=>c (decide_eq_true z)⟩
  case post =>
    rintro c st' ⟨rfl,n,rfl,n1,n2,hu,hor⟩;dsimp only;have asc:Q (some n) st':=h n _ B n1 n2 (by rw[hx0] at hu ⊢;exact hu.E7 o (by lia)) (by rw[hx0];exact .CM o (by lia)) (by rw[hx0];exact λ_ _=>rfl);by_cases c1:(n == nrem)=true
    · rw[if_pos c1];exact He asc
    rw[if_neg c1];rw[beq_iff_eq] at c1;have hlt:=hor.resolve_left c1;have hsz:=B.size;refine (λ(tail:∀st1,Bs κ xs p lo st1->Ds rk ix N lo xs (arrOf st1) n (n+1)->wpS (model prog w) A E s ?X Q st1)=>?main) ?tl
    case main =>
     by_cases c2:n>1
     case pos =>
      rw[if_pos c2];refine Hc (B.lt L D (by lia) (by lia) ?_);dsimp only;by_cases c3:Kr rk (arrOf st') lo<Kr rk (arrOf st') (lo+n - 1)
      · rw[if_pos (decide_eq_true c3)];exact He asc
      rw[if_neg (λz=>c3 (of_decide_eq_true z))];refine Hc (wpS_reverse ?_);have heq:∀i,i<n->Kr rk (arrOf st') (lo+i)=Kr rk (arrOf st') (lo+0):=λi hi=>by
        have a1:=hu 0 i (by lia) hi;have a2:=hu i (n - 1) (by lia) (by lia);rw[show lo+(n - 1)=lo+n - 1 by lia] at a2;rw[Nat.add_zero] at a1 ⊢;lia
      have d0:Ds rk ix N lo xs (arrOf st') 0 n:=⟨by lia,λi j _ hj=>by lia,λi hi=>by lia,λi _ hi=>heq i hi,by rw[hx0];exact λ_ _=>rfl,λi hi=>by lia⟩
      have fl:=d0.flush o (by lia) hsz;rw[Nat.add_zero] at fl;have B1:=B.mirror (i:=lo) (j:=lo+n) (GW _) (by lia);refine tail _ B1 (Ds.next fl.1 fl.2.1 fl.2.2.1 λi hi=>?_);have e1:Kr rk (mirror (arrOf st') lo (lo+n) ((lo+n - lo) / 2)) (lo+n)=Kr rk (arrOf st') (lo+n):=by rw[bH (by lia),if_neg (by lia)]
      have e2:=fl.2.2.2 i hi;have e3:=heq (n - 1) (by lia);rw[show lo+(n - 1)=lo+n - 1 by lia,Nat.add_zero] at e3;show Kr rk (mirror (arrOf st') lo (lo+n) ((lo+n - lo) / 2)) (lo+n)<Kr rk (mirror (arrOf st') lo (lo+n) ((lo+n - lo) / 2)) (lo+i);lia
     case neg =>
      rw[if_neg c2];have e:n=1:=by lia
      subst e;exact tail _ B (Ds.next .one (by rw[hx0];exact .CM o (by lia)) (by rw[hx0];exact λ_ _=>rfl) λi hi=>by
        rw[show i=0 by lia];exact hlt)
    case tl =>
      intro st1 B1 d1;refine Hc (wpS_lift (wpAny_rule ⟨rfl,?_⟩));refine Hc (wpS_mono (wpS_forRange (I:=λx c st2=>∃neq,c=(none,x,neq)/\Bs κ xs p lo st2/\neq+1<=x/\Ds rk ix N lo xs (arrOf st2) (x - (neq+1)) x)
        (Q:=λc st2=>∃m neq,c=(none,m,neq)/\Bs κ xs p lo st2/\n+1<=m/\m<=nrem/\neq+1<=m/\Ds rk ix N lo xs (arrOf st2) (m - (neq+1)) m) ?s2 ?f2 ⟨0,rfl,B1,by lia,d1⟩) ?post2)
      case f2 =>
        rintro c st2 ⟨neq,rfl,B2,q1,d2⟩;rw[show max (n+1) nrem=nrem by lia] at d2 q1 ⊢;exact ⟨nrem,neq,rfl,B2,by lia,GW _,q1,d2⟩
      case s2 =>
        rintro x c st2 hx1 hx2 ⟨neq,rfl,B2,q1,d2⟩;have hs2:=B2.size;dsimp only;refine Hc (B2.lt L D (by lia) (by lia) ?_);dsimp only;have el:=d2.eq (x - 1) (by lia) (by lia);rw[show lo+(x - 1)=lo+x - 1 by lia] at el;by_cases c4:Kr rk (arrOf st2) (lo+x)<Kr rk (arrOf st2) (lo+x - 1)
        · rw[if_pos (decide_eq_true c4)];have fl:=d2.flush o (by lia) hs2;have key:Ds rk ix N lo xs (mirror (arrOf st2) (lo+(x - (neq+1))) (lo+x) ((lo+x - (lo+(x - (neq+1)))) / 2)) x (x+1):=Ds.next fl.1 fl.2.1 fl.2.2.1 λi hi=>by
            have e2:=fl.2.2.2 i hi;rw[bH (by lia),if_neg (by lia)];lia
          by_cases c5:neq>0
          · rw[if_pos c5];refine Hc (wpS_reverse (He ⟨0,rfl,B2.mirror (by lia) (by lia),by lia,?_⟩));rw[show lo+(x - (neq+1))=lo+x - (neq+1) by lia] at key;exact key
          · rw[if_neg c5];refine He ⟨0,rfl,B2,by lia,?_⟩;rw[show neq=0 by lia,show lo+x=lo+(x - (0+1))+1 by lia,kW] at key;exact key
        · rw[if_neg (λz=>c4 (of_decide_eq_true z))];refine Hc (B2.lt L D (by lia) (by lia) ?_);dsimp only;by_cases c5:Kr rk (arrOf st2) (lo+x - 1)<Kr rk (arrOf st2) (lo+x)
          · rw[if_pos (decide_eq_true c5)];exact He ⟨x,neq,rfl,B2,by lia,by lia,q1,d2⟩
          · rw[if_neg (λz=>c5 (of_decide_eq_true z))];refine He ⟨neq+1,rfl,B2,by lia,?_⟩;rw[show x+1 - (neq+1+1)=x - (neq+1) by lia];refine ⟨by lia,d2.pre,d2.low,λi i1 i2=>?_,d2.CM,d2.Fg⟩;by_cases c6:i=x
            · rw[c6];lia
            · exact d2.eq i i1 (by lia)
      case post2 =>
        rintro c st2 ⟨m,neq,rfl,B2,m1,m2,q1,d2⟩;dsimp only;have hs2:=B2.size;refine (λ(tail:∀st3,Bs κ xs p lo st3->Dn (dU rk ix N) lo (arrOf st3) m->lP ix lo (arrOf st3) m->Kept xs (arrOf st3) (lo+m)->wpS (model prog w) A E s ?X2 Q st3)=>?main) ?tl
        case main =>
         have fl:=d2.flush o (by lia) hs2;by_cases c4:neq>0
         case pos =>
          rw[if_pos c4];refine Hc (wpS_reverse ?_);have B3:=B2.mirror (i:=lo+m - (neq+1)) (j:=lo+m) (by lia) (by lia);rw[show lo+(m - (neq+1))=lo+m - (neq+1) by lia] at fl;exact tail _ B3 fl.1 fl.2.1 fl.2.2.1
         case neg =>
          rw[if_neg c4];rw[show neq=0 by lia,show lo+m=lo+(m - (0+1))+1 by lia,kW,show lo+(m - (0+1))+1=lo+m by lia] at fl;exact tail _ B2 fl.1 fl.2.1 fl.2.2.1
        case tl =>
          intro st3 B3 d3 i3 k3;have hs3:=B3.size;refine Hc (wpS_reverse ?_);have B4:=B3.mirror (i:=lo) (j:=lo+m) (GW _) (by lia);have u4:=d3.rev (by lia);have i4:=i3.EI (a:=lo) (b:=lo+m) (GW _) (GW _) (by lia);have k4:=k3.EI (a:=lo) (b:=lo+m) (GW _) (by lia);generalize hst4:setArr st3 (mirror (arrOf st3) lo (lo+m) ((lo+m - lo) / 2))=st4 at B4 ⊢;have ea:arrOf st4=mirror (arrOf st3) lo (lo+m) ((lo+m - lo) / 2):=by rw[<-hst4]
          rw[<-ea] at u4 i4 k4;refine Hc (wpS_mono (wpS_forRange (I:=λx c st'=>st'=st4/\c=(none,x)/\Up (dU rk ix N) lo (arrOf st4) x/\lP ix lo (arrOf st4) x/\Kept xs (arrOf st4) (lo+x))
            (Q:=λc st'=>st'=st4/\∃n,c=(none,n)/\1<=n/\n<=nrem/\Up (dU rk ix N) lo (arrOf st4) n/\lP ix lo (arrOf st4) n/\Kept xs (arrOf st4) (lo+n)) ?s3 ?f3 ⟨rfl,rfl,u4,i4,k4⟩) ?post3)
          case f3 =>
            rintro c st' ⟨rfl,rfl,hu⟩;rw[show max m nrem=nrem by lia] at hu ⊢;exact ⟨rfl,nrem,rfl,h1,GW _,hu⟩
          case s3 =>
            rintro x c st' hx1 hx2 ⟨rfl,rfl,hu,hi,hkp⟩;dsimp only;refine Hc (B4.lt L D (by lia) (by lia) ?_);dsimp only;split
            · exact He ⟨rfl,x,rfl,by lia,by lia,hu,hi,hkp⟩
            · rename_i c;exact He ⟨rfl,rfl,hu.grow (by lia) hi hkp o (by lia) λz=>c (decide_eq_true z)⟩
          case post3 =>
            rintro c st' ⟨rfl,n',rfl,z1,z2,hu,hi,hkp⟩;dsimp only;exact He (h n' _ B4 z1 z2 hu hi hkp)
theorem iQ {xs:Array Keyed}{src d:Nat}(hs:src<xs.size)(hd:d<=src)(k:Nat):Kr rk (bubble xs src d) k=if k=src - d then Kr rk xs src else if src - d<k/\k<=src then Kr rk xs (k - 1) else Kr rk xs k:=by
  have e:=getElem?_bubble hs d hd k;by_cases h1:k=src - d
  · rw[if_pos h1] at e ⊢;exact cz e
  · rw[if_neg h1] at e ⊢;by_cases h2:src - d<k/\k<=src
    · rw[if_pos h2] at e ⊢;exact cz e
    · rw[if_neg h2] at e ⊢;exact cz e
theorem ki (L:cL prog w A E s Dm (bD rk) κ λ_ _=>True)(D:∀x∈xs.toList,Dm x){st:Hf}(B:Bs κ xs p lo st)(o:vT ix N xs lo){n ok:Nat}(h2:lo+n<=xs.size)(hu:Up (dU rk ix N) lo (arrOf st) ok)(hi0:lP ix lo (arrOf st) ok)(hk0:Kept xs (arrOf st) (lo+ok))(h1:1<=ok)(bf:ok<=n){Q:Bool->Hf->Prop}
    (h:∀st',Bs κ xs p lo st'->Up (dU rk ix N) lo (arrOf st') n->lP ix lo (arrOf st') n->Kept xs (arrOf st') (lo+n)->Q true st'):wpS (model prog w) A E s (binarySort' lo n ok) Q st:=by
  rw[binarySort'_eq];refine Hc (wpS_mono (wpS_forRange (I:=λk c st'=>c=(none,())/\Bs κ xs p lo st'/\Up (dU rk ix N) lo (arrOf st') k/\lP ix lo (arrOf st') k/\Kept xs (arrOf st') (lo+k))
    (Q:=λc st'=>c=(none,())/\Bs κ xs p lo st'/\Up (dU rk ix N) lo (arrOf st') n/\lP ix lo (arrOf st') n/\Kept xs (arrOf st') (lo+n)) ?step ?fin ⟨rfl,B,by rw[show max ok 1=ok by lia];exact ⟨hu,hi0,hk0⟩⟩) ?post)
  case post =>
    rintro c st' ⟨rfl,B',hs'⟩;exact He (h st' B' hs'.1 hs'.2.1 hs'.2.2)
  case fin =>
    rintro c st' ⟨hc,B',hs'⟩;rw[show max (max ok 1) n=n by lia] at hs';exact ⟨hc,B',hs'⟩
  case step =>
    rintro k c st' hk1 hk2 ⟨rfl,B',hs',hin,hkp⟩;have hsz:=B'.size;have pv:=o (lo+k) (by lia) (by lia);rw[<-cz (hkp (lo+k) (GW _))] at pv;have cv:∀i,i<k->(Kr rk (arrOf st') (lo+k)<Kr rk (arrOf st') (lo+i)↔Kr (dU rk ix N) (arrOf st') (lo+k)<Kr (dU rk ix N) (arrOf st') (lo+i)):=λi hi=>by
      have ii:=hin i hi;rw[yq,yq];refine ⟨λz=>d9 z (by lia) (by lia) (by lia),λz=>?_⟩;by_cases c:Kr rk (arrOf st') (lo+i)<Kr rk (arrOf st') (lo+k)
      · have := d9 (N := N) c (i := Kr ix (arrOf st') (lo + i)) (j := Kr ix (arrOf st') (lo + k)) (by lia) (by lia) (by lia);lia
      · by_cases c':Kr rk (arrOf st') (lo+k)=Kr rk (arrOf st') (lo+i)
        · rw[c'] at z;lia
        · lia
    dsimp only;refine Hc (wpS_mono (wpS_forRange (I:=λx c st2=>st2=st'/\∃l r,c=(none,l,r)/\l<=r/\r<=k/\r - l<=k - x/\(∀i,i<l->Kr (dU rk ix N) (arrOf st') (lo+i)<=Kr (dU rk ix N) (arrOf st') (lo+k))/\∀i,r<=i->i<k->Kr (dU rk ix N) (arrOf st') (lo+k)<Kr (dU rk ix N) (arrOf st') (lo+i))
      (Q:=λc st2=>st2=st'/\∃l r,c=(none,l,r)/\l<=k/\(∀i,i<l->Kr (dU rk ix N) (arrOf st') (lo+i)<=Kr (dU rk ix N) (arrOf st') (lo+k))/\∀i,l<=i->i<k->Kr (dU rk ix N) (arrOf st') (lo+k)<Kr (dU rk ix N) (arrOf st') (lo+i)) ?istep ?ifin ⟨rfl,0,k,rfl,by lia,by lia,by lia,λi hi=>by lia,λi h1 h2=>by lia⟩) ?ipost)
    case ifin =>
      rintro c st2 ⟨rfl,l,r,rfl,a1,a2,a3,a4,a5⟩;have:l=r:=by lia
      subst this;exact ⟨rfl,l,l,rfl,a2,a4,a5⟩
    case istep =>
      rintro x c st2 _ hx ⟨rfl,l,r,rfl,a1,a2,a3,a4,a5⟩;dsimp only;by_cases c1:l>=r
      · rw[if_pos c1];have:l=r:=by lia
        subst this;exact He ⟨rfl,l,l,rfl,a2,a4,a5⟩
      rw[if_neg c1];refine Hc (B'.lt L D (by lia) (by lia) ?_);dsimp only;by_cases c2:Kr rk (arrOf st2) (lo+k)<Kr rk (arrOf st2) (lo+(l+r) / 2)
      · rw[if_pos (decide_eq_true c2)];have c2:=(cv _ (by lia)).mp c2;refine He ⟨rfl,l,_,rfl,by lia,by lia,by lia,a4,λi b1 b2=>?_⟩;have:=hs' ((l+r) / 2) i b1 b2;lia
      · rw[if_neg (λz=>c2 (of_decide_eq_true z))];have c2:¬_:=λz=>c2 ((cv _ (by lia)).mpr z);refine He ⟨rfl,_,r,rfl,by lia,by lia,by lia,λi b1=>?_,a5⟩;have:=hs' i ((l+r) / 2) (by lia) (by lia);lia
    case ipost =>
      rintro c st2 ⟨rfl,l,r,rfl,a1,a4,a5⟩;dsimp only;rw[moveDown'_eq];refine Hc (wpS_modify (He ⟨rfl,B'.bubble (by lia) (by lia),?_,λi hi=>?_,λj hj=>?_⟩));rotate_left
      · show (lo:Int)<=Kr ix (bubble (arrOf st2) (lo+k) (lo+k - (lo+l))) _/\Kr ix (bubble (arrOf st2) (lo+k) (lo+k - (lo+l))) _<_;rw[iQ (by lia) (by lia)];split
        · rw[pv.1];lia
        split
        · have := hin (i - 1) (by lia);rw[show lo+(i - 1)=lo+i - 1 by lia] at this;lia
        · have := hin i (by lia);lia
      · show (bubble (arrOf st2) (lo+k) (lo+k - (lo+l)))[j]?=_;rw[getElem?_bubble (by lia) _ (by lia),if_neg (by lia),if_neg (by lia)];exact hkp j (by lia)
      intro i j hij hj;show Kr (dU rk ix N) (bubble (arrOf st2) (lo+k) (lo+k - (lo+l))) _<=Kr (dU rk ix N) (bubble (arrOf st2) (lo+k) (lo+k - (lo+l))) _;rw[iQ (by lia) (by lia),iQ (by lia) (by lia),show lo+k - (lo+k - (lo+l))=lo+l by lia];have back:∀q,lo+l<lo+q->Kr (dU rk ix N) (arrOf st2) (lo+q - 1)=Kr (dU rk ix N) (arrOf st2) (lo+(q - 1)):=λq hq=>by congr 1;lia
      by_cases i1:lo+i=lo+l
      · rw[if_pos i1];by_cases j1:lo+j=lo+l
        · rw[if_pos j1];exact Int.le_refl _
        rw[if_neg j1,if_pos (by lia),back j (by lia)];exact Int.le_of_lt (a5 _ (by lia) (by lia))
      rw[if_neg i1];by_cases i2:lo+l<lo+i/\lo+i<=lo+k
      · rw [if_pos i2, if_neg (by lia), if_pos (by lia), back i (by lia), back j (by lia)];exact hs' _ _ (by lia) (by lia)
      rw[if_neg i2];by_cases j1:lo+j=lo+l
      · rw[if_pos j1];exact a4 _ (by lia)
      rw[if_neg j1];by_cases j2:lo+l<lo+j/\lo+j<=lo+k
      · rw [if_pos j2, back j (by lia)];exact hs' _ _ (by lia) (by lia)
      · rw[if_neg j2];exact hs' _ _ (by lia) (by lia)
end
end Tim
namespace Tim
open PySem PyProof.Rows
section
variable {R:Keyed->Keyed->Bool} {ix:Keyed->Int}
noncomputable def yp (ix:Keyed->Int)(l:List Keyed)(s n:Nat):Prop:=∀x∈seg l s n,(s:Int)<=ix x/\ix x<(s:Int)+n
inductive Runs (R:Keyed->Keyed->Bool)(ix:Keyed->Int)(l:List Keyed):Nat->List (Nat×Nat×Nat)->Nat->Prop where
  | nil (s:Nat):Runs R ix l s [] s
  | cons {s n pw e:Nat} {rest:List (Nat×Nat×Nat)}:1<=n->dQ R (seg l s n)->yp ix l s n->Runs R ix l (s+n) rest e->Runs R ix l s ((s,n,pw)::rest) e
theorem Runs.le {l:List Keyed}{s e:Nat}{p:List (Nat×Nat×Nat)}(h:Runs R ix l s p e):s+p.length<=e:=by
  induction h with
  | nil s=>exact GW _
  | cons h1 _ _ _ ih=>simp;lia
theorem Runs.append {l:List Keyed}{s m e:Nat}{p q:List (Nat×Nat×Nat)}(h:Runs R ix l s p m)(h':Runs R ix l m q e):Runs R ix l s (p++q) e:=by
  induction h with
  | nil s=>exact h'
  | cons h1 h2 h3 _ ih=>exact .cons h1 h2 h3 (ih h')
theorem Runs.split {l:List Keyed}{e:Nat}{q:List (Nat×Nat×Nat)}:∀{p:List (Nat×Nat×Nat)} {s:Nat},Runs R ix l s (p++q) e->∃m,Runs R ix l s p m/\Runs R ix l m q e
  | [],s,h=>⟨s,.nil s,h⟩
  | _::p,s,.cons h1 h2 hi h3=>by
    obtain ⟨m,a,b⟩:=Runs.split h3;exact ⟨m,.cons h1 h2 hi a,b⟩
theorem Runs.congr {l l':List Keyed}{s e:Nat}{p:List (Nat×Nat×Nat)}(h:Runs R ix l s p e)(hc:∀s' n',s<=s'->s'+n'<=e->seg l' s' n'=seg l s' n'):Runs R ix l' s p e:=by
  induction h with
  | nil s=>exact .nil s
  | @cons s n pw e rest h1 h2 hi h3 ih =>
    have:=h3.le;have e:=hc s n (GW _) (by lia);exact .cons h1 (by rw[e];exact h2) (by unfold yp;rw[e];exact hi) (ih λs' n' a b=>hc s' n' (by lia) b)
theorem fu {l l':List Keyed}{s n:Nat}(h:∀i,i<n->l'[s+i]?=l[s+i]?):seg l' s n=seg l s n:=by
  refine List.ext_getElem? λi=>?_;by_cases c:i<n
  · rw[seg_at c,seg_at c,h i c]
  · have : ∀ z : List Keyed, (seg z s n)[i]? = none := λz => List.getElem?_eq_none (by unfold seg;rw [length_take];lia);rw[this,this]
theorem Done.len {l l':List Keyed}{s n:Nat}(h:Done R l l' s n):l'.Perm l:=by
  obtain ⟨m,e,hp,_⟩:=h;rw[e];conv=>rhs;rw[jl l s n]
  exact (hp.append_left _).append_right _
theorem Done.below {l l':List Keyed}{s n i:Nat}(h:Done R l l' s n)(hz:s+n<=l.length)(hi:i<s):l'[i]?=l[i]?:=by
  obtain ⟨m,e,hp,_⟩:=h;rw[e,append_assoc,List.getElem?_append_left (by rw[length_take];lia),List.getElem?_take_of_lt hi]
theorem Done.BJ {l m:List Keyed}{s n:Nat}(hp:m.Perm (seg l s n))(hz:s+n<=l.length):m.length=n:=by
  rw[hp.length_eq];unfold seg;rw[length_take,length_drop];lia
theorem Done.above {l l':List Keyed}{s n i:Nat}(h:Done R l l' s n)(hz:s+n<=l.length)(hi:s+n<=i):l'[i]?=l[i]?:=by
  obtain ⟨m,e,hp,_⟩:=h;have hm:=Done.BJ hp hz;rw[e,List.getElem?_append_right (by rw[Hu,length_take,hm];lia),Hu,length_take,hm,List.getElem?_drop];congr 1;lia
theorem Done.Cs {l l':List Keyed}{s n:Nat}(h:Done R l l' s n)(hz:s+n<=l.length):dQ R (seg l' s n):=by
  obtain ⟨m,e,hp,hs⟩:=h;have hm:=Done.BJ hp hz;have:seg l' s n=m:=by
    unfold seg;rw[e,append_assoc,List.drop_append_of_le_length (by rw[length_take];lia),List.drop_eq_nil_of_le (by rw[length_take];lia),List.nil_append,List.take_append_of_le_length (by lia),take_of_length_le (by lia)]
  rw[this];exact hs
theorem Done.perm {l l':List Keyed}{s n:Nat}(h:Done R l l' s n)(hz:s+n<=l.length):(seg l' s n).Perm (seg l s n):=by
  obtain ⟨m,e,hp,hs⟩:=h;have hm:=Done.BJ hp hz;have:seg l' s n=m:=by
    unfold seg;rw[e,append_assoc,List.drop_append_of_le_length (by rw[length_take];lia),List.drop_eq_nil_of_le (by rw[length_take];lia),List.nil_append,List.take_append_of_le_length (by lia),take_of_length_le (by lia)]
  rw[this];exact hp
theorem mR (X a b:Nat×Nat×Nat)(post:List (Nat×Nat×Nat)):∀pre:List (Nat×Nat×Nat),((pre++a::b::post).set pre.length X).eraseIdx (pre.length+1)=pre++X::post
  | []=>rfl
  | c::pre=>by
    have:=mR X a b post pre;simp only[List.cons_append,length_cons,List.set_cons_succ,List.eraseIdx_cons_succ];rw[this]
end
section
variable {prog:Hj} {w:Hs} {A:Hr} {E:GR->GU->Prop} {s:GU}
variable {Dm:Keyed->Prop} {rk ix:Keyed->Int} {N:Int} {κ:SortKind}
structure sH (κ:SortKind)(rk ix:Keyed->Int)(N:Int)(xs:Array Keyed)(lo:Nat)(st:Hf):Prop where
  perm:(arrOf st).Perm xs
  kind:kindOf st=κ
  failed:failedOf st=none
  runs:Runs (bD (dU rk ix N)) ix (arrOf st).toList 0 (pendingOf st).toList lo
variable {xs:Array Keyed} {lo:Nat}
theorem sH.size {st:Hf}(B:sH κ rk ix N xs lo st):(arrOf st).size=xs.size:=B.perm.size_eq
theorem yY (L:cL prog w A E s Dm (bD rk) κ λ_ _=>True):cL prog w A E s (λx=>Dm x/\0<=ix x/\ix x<N) (bD (dU rk ix N)) κ λx y=>ix y<ix x:=λx y st Q dx dy ha hk h=>by
  refine L x y st Q dx.1 dy.1 trivial hk ?_;have e:bD (dU rk ix N) x y=bD rk x y:=by
    unfold bD dU;rw[decide_eq_decide];refine ⟨λz=>?_,λz=>d9 z dx.2.2 dy.2.1 (by lia)⟩;by_cases c:rk y<rk x
    · have := d9 (N := N) c (i := ix y) (j := ix x) dy.2.2 dx.2.1 (by lia);lia
    · by_cases c':rk x=rk y
      · rw[c'] at z;lia
      · lia
  rw[<-e];exact h
theorem sH.merge (L:cL prog w A E s Dm (bD (dU rk ix N)) κ λx y=>ix y<ix x)(D:∀x∈xs.toList,Dm x){st:Hf}(B:sH κ rk ix N xs lo st)(hlo:lo<=xs.size){i:Nat}(hi:i+1<(pendingOf st).size){Q:Bool->Hf->Prop}
    (h:∀st',sH κ rk ix N xs lo st'->(pendingOf st').size+1=(pendingOf st).size->(∀j,lo<=j->(arrOf st')[j]?=(arrOf st)[j]?)->Q true st'):wpS (model prog w) A E s (mergeAt' i) Q st:=by
  have hl:(pendingOf st).toList.length=(pendingOf st).size:=Hd;obtain ⟨⟨sa,na,pw⟩,ha⟩ : ∃x,(pendingOf st)[i]?=some x:=⟨(pendingOf st)[i]'(by lia),Ha (by lia)⟩
  obtain ⟨⟨sb,nb,pb⟩,hb⟩ : ∃x,(pendingOf st)[i+1]?=some x:=⟨(pendingOf st)[i+1]'(by lia),Ha (by lia)⟩
  have e:(pendingOf st).toList=(pendingOf st).toList.take i++(sa,na,pw)::(sb,nb,pb)::(pendingOf st).toList.drop (i+2):=by
    conv=>lhs;rw[<-take_append_drop i (pendingOf st).toList]
    congr 1;rw[drop_eq_getElem_cons (by lia),drop_eq_getElem_cons (by lia)];rw[<-GY,Hb] at ha hb;rw[ha.2,hb.2]
  have hr:=B.runs;rw[e] at hr;obtain ⟨m,r1,r2⟩:=hr.split;obtain ⟨rfl,na1,sX,iX,r3⟩ : sa=m/\1<=na/\dQ (bD (dU rk ix N)) (seg (arrOf st).toList sa na)/\yp ix (arrOf st).toList sa na/\Runs (bD (dU rk ix N)) ix (arrOf st).toList (sa+na) ((sb,nb,pb)::(pendingOf st).toList.drop (i+2)) lo:=by
    cases r2 with
    | cons a b i c=>exact ⟨rfl,a,b,i,c⟩
  obtain ⟨rfl,nb1,sY,iY,r4⟩ : sb=sa+na/\1<=nb/\dQ (bD (dU rk ix N)) (seg (arrOf st).toList sb nb)/\yp ix (arrOf st).toList sb nb/\Runs (bD (dU rk ix N)) ix (arrOf st).toList (sb+nb) ((pendingOf st).toList.drop (i+2)) lo:=by
    cases r3 with
    | cons a b i c=>exact ⟨rfl,a,b,i,c⟩
  have hle:=r4.le;have hsz:=B.size;have hpl:((pendingOf st).toList.take i).length=i:=by rw[length_take];lia
  refine qm L vZ B.kind B.failed (λx hx=>D x ((Array.perm_iff_toList_perm.mp B.perm).mem_iff.mp hx)) ha hb rfl na1 nb1 (by lia) sX sY (λx hx y hy=>by have:=iX x hx;have:=iY y hy;lia) λst' k' f' p' d'=>?_;have hz:sa+(na+nb)<=(arrOf st).toList.length:=by rw[Hd];lia
  have pe:(pendingOf st').toList=(pendingOf st).toList.take i++(sa,na+nb,pw)::(pendingOf st).toList.drop (i+2):=by
    rw[p',Array.toList_eraseIdxIfInBounds,Array.toList_setIfInBounds];conv=>lhs;rw[e]
    have:=mR (sa,na+nb,pw) (sa,na,pw) (sa+na,nb,pb) ((pendingOf st).toList.drop (i+2)) ((pendingOf st).toList.take i);rw[hpl] at this;exact this
  refine h st' ⟨(Array.perm_iff_toList_perm.mpr d'.len).trans B.perm,k',f',?_⟩ ?_ ?_
  · rw[pe];have r1le:=r1.le;refine (r1.congr λs' n' _ h2=>fu λj hj=>d'.below hz (by lia)).append (.cons (by lia) (d'.Cs hz) (λx hx=>?_) ?_)
    · have hx:=(d'.perm hz).mem_iff.mp hx;rw[gn] at hx;rcases mem_append.mp hx with z | z
      · have:=iX x z;lia
      · have:=iY x z;lia
    rw[<-Nat.add_assoc];exact r4.congr λs' n' h1 _=>fu λj hj=>d'.above hz (by lia)
  · have:=congrArg List.length pe;rw[Hd,Hu,length_cons,hpl,length_drop] at this;lia
  · intro j hj;have:=d'.above (i:=j) hz (by lia);rw[GY,GY] at this;exact this
theorem Up.Cs {ys:Array Keyed}{n:Nat}(h:Up rk lo ys n):dQ (bD rk) (seg ys.toList lo n):=by
  refine pairwise_iff_getElem.mpr λi j h1 h2 hij=>?_;have e1:=eC (GV h1);have e2:=eC (GV h2);have:=h i j (Nat.le_of_lt hij) e2.1;rw[dz (by rw[<-GY];exact e1.2),dz (by rw[<-GY];exact e2.2)] at this;unfold bD;simp only[decide_eq_false_iff_not,Int.not_lt];exact this
theorem lP.GC {ys:Array Keyed}{n:Nat}(h:Tim.lP ix lo ys n):yp ix ys.toList lo n:=λx hx=>by
  obtain ⟨i,h1,h2⟩:=dE hx;rw[GY] at h2;have:=h i h1;rw[dz h2] at this;exact this
theorem qM:∀(p:List (Nat×Nat×Nat)) (f:Nat×Nat×Nat->Nat×Nat×Nat),(∀t,(f t).1=t.1/\(f t).2.1=t.2.1)->∀{R:Keyed->Keyed->Bool} {ix:Keyed->Int} {l:List Keyed} {s e i:Nat},Runs R ix l s p e->Runs R ix l s (p.modify i f) e
  | [],f,hf,_,_,_,_,_,i,h=>by rw[List.modify_nil];exact h
  | (s1,n,pw)::p,f,hf,_,_,_,_,_,0,.cons h1 h2 hi h3=>by
    rw[List.modify_zero_cons];have e:f (s1,n,pw)=(s1,n,(f (s1,n,pw)).2.2):=Prod.ext (hf _).1 (Prod.ext (hf _).2 rfl);rw[e];exact .cons h1 h2 hi h3
  | (s1,n,pw)::p,f,hf,_,_,_,_,_,i+1,.cons h1 h2 hi h3=>by
    rw[List.modify_succ_cons];exact .cons h1 h2 hi (qM p f hf h3)
theorem oV (L0:cL prog w A E s Dm (bD rk) κ λ_ _=>True)(D0:∀x∈xs.toList,Dm x)(o0:vT ix N xs 0){st:Hf}(ha:arrOf st=xs)(hk:kindOf st=κ)(hf:failedOf st=none)(hp:pendingOf st = #[]){Q:Unit->Hf->Prop}
    (h:∀st',(arrOf st').Perm xs->failedOf st'=none->dQ (bD (dU rk ix N)) (arrOf st').toList->Q () st'):wpS (model prog w) A E s sortRuns' Q st:=by
  have L:=yY (ix:=ix) (N:=N) L0;have D:∀x∈xs.toList,Dm x/\0<=ix x/\ix x<N:=λx hx=>by
    obtain ⟨i,hi,e⟩:=List.mem_iff_getElem.mp hx;rw[Hd] at hi;have:=o0 i (Nat.zero_le _) hi;rw[dz (x:=x) (by rw[<-GY,Hb];exact ⟨by rw[Hd];exact hi,e⟩)] at this;exact ⟨D0 x hx,by lia,by lia⟩
  rw[sortRuns'_eq];refine Hc (wpS_get ?_);dsimp only;rw[ha];generalize hmr:minRun' xs.size xs.size 0=mr;refine Hc (wpS_mono (wpS_forRange (I:=λx c st'=>∃lo,c=(none,lo)/\sH κ rk ix N xs lo st'/\lo<=xs.size/\min x xs.size<=lo/\Kept xs (arrOf st') lo) (Q:=λc st'=>c=(none,xs.size)/\sH κ rk ix N xs xs.size st') ?step ?fin ⟨0,rfl,⟨by rw[ha],hk,hf,by rw[hp];exact .nil 0⟩,Nat.zero_le _,by lia,by rw[ha];exact λ_ _=>rfl⟩) ?post)
  case fin =>
    rintro c st' ⟨lo,rfl,S,h1,h2,hkp⟩;have e:lo=xs.size:=by lia
    subst e;exact ⟨rfl,S⟩
  case step =>
    rintro x c st' _ hx ⟨lo,rfl,S,h1,h2,hkp⟩;dsimp only;by_cases c1:lo>=xs.size
    · rw[if_pos c1];have e:lo=xs.size:=by lia
      subst e;exact He ⟨rfl,S⟩
    rw[if_neg c1];have B0:Bs κ (arrOf st') (pendingOf st') lo st':=⟨.refl _,S.kind,S.failed,rfl,λ_ _=>rfl⟩
    have hsz:=S.size;have o:vT ix N (arrOf st') lo:=λj j1 j2=>by
      rw[cz (hkp j j1)];exact o0 j (Nat.zero_le _) (by lia)
    have D':∀x∈(arrOf st').toList,Dm x:=λx hx=>D0 x ((Array.perm_iff_toList_perm.mp S.perm).mem_iff.mp hx);refine Hc (nM L0 D' B0 rfl o (by lia) (by lia) λm st2 B1 m1 m2 u1 i1 k1=>?_);dsimp only;have cont:∀(n:Nat) (st3:Hf),Bs κ (arrOf st') (pendingOf st') lo st3->1<=n->n<=xs.size - lo->Up (dU rk ix N) lo (arrOf st3) n->lP ix lo (arrOf st3) n->Kept (arrOf st') (arrOf st3) (lo+n)->sH κ rk ix N xs lo st3/\dQ (bD (dU rk ix N)) (seg (arrOf st3).toList lo n)/\yp ix (arrOf st3).toList lo n/\Kept xs (arrOf st3) (lo+n):=λn st3 B3 n1 n2 u3 i3 k3 =>
      ⟨⟨B3.perm.trans S.perm,B3.kind,B3.failed,by
        rw[B3.pend];refine S.runs.congr λs' n' _ h'=>fu λj hj=>?_;rw[GY,GY];exact B3.low _ (by lia)⟩,u3.Cs,i3.GC,λj hj=>(k3 j hj).trans (hkp j (by lia))⟩
    by_cases c2:m<mr
    case' pos =>
      rw[if_pos c2];refine Hc (wpS_lift (wpAny_rule ⟨rfl,?_⟩));refine Hc (ki L0 D' B1 o (by lia) u1 i1 k1 m1 (by lia) λst3 B3 u3 i3 k3=>?_);simp only[Bool.not_true,Hl,if_false];obtain ⟨S3,s3⟩:=cont (min (xs.size - lo) mr) st3 B3 (by lia) (by lia) u3 i3 k3;have nb:1<=min (xs.size - lo) mr/\min (xs.size - lo) mr<=xs.size - lo:=by lia
      generalize min (xs.size - lo) mr=n at s3 nb ⊢
    case' neg =>
      rw[if_neg c2];obtain ⟨S3,s3⟩:=cont m st2 B1 m1 m2 u1 i1 k1;have nb:1<=m/\m<=xs.size - lo:=⟨m1,m2⟩
      generalize hst:st2=st3 at S3 s3 ⊢;generalize m=n at s3 nb ⊢
    all_goals
      refine Hc (wpS_get ?_);have pushed:∀st4:Hf,sH κ rk ix N xs lo st4->(dQ (bD (dU rk ix N)) (seg (arrOf st4).toList lo n)/\yp ix (arrOf st4).toList lo n/\Kept xs (arrOf st4) (lo+n))->sH κ rk ix N xs (lo+n) (setPending st4 ((pendingOf st4).push (lo,n,0))):=λst4 S4 s4 =>
        ⟨S4.perm,S4.kind,S4.failed,by
          show Runs _ _ (arrOf st4).toList 0 ((pendingOf st4).push (lo,n,0)).toList (lo+n);rw[Array.toList_push];exact S4.runs.append (.cons nb.1 s4.1 s4.2.1 (.nil _))⟩
      split
      · rename_i s1 n1 _ hback;generalize power' _ _ _ _=pw;refine Hc (wpS_mono (wpS_forRange (I:=λ_ c st4=>c=(none,())/\sH κ rk ix N xs lo st4/\dQ (bD (dU rk ix N)) (seg (arrOf st4).toList lo n)/\yp ix (arrOf st4).toList lo n/\Kept xs (arrOf st4) (lo+n)) (Q:=λc st4=>c=(none,())/\sH κ rk ix N xs lo st4/\dQ (bD (dU rk ix N)) (seg (arrOf st4).toList lo n)/\yp ix (arrOf st4).toList lo n/\Kept xs (arrOf st4) (lo+n)) ?ms (λ_ _ z=>z) ⟨rfl,S3,s3⟩) ?mp)
        case ms =>
          rintro y c st4 _ _ ⟨rfl,S4,s4⟩;refine Hc (wpS_get ?_);split
          · rename_i older hq;split
            · exact He ⟨rfl,S4,s4⟩
            · have hgt:1<(pendingOf st4).size:=by
                by_cases c:(pendingOf st4).size>1
                · exact c
                · rw[if_neg c] at hq;cases hq
              refine Hc (S4.merge L D h1 (by lia) λst5 S5 _ k5=>?_);simp only[Bool.not_true,Hl,if_false];refine He ⟨rfl,S5,?_⟩;unfold yp;rw[fu (l:=(arrOf st4).toList) λj hj=>by rw[GY,GY];exact k5 _ (by lia)];exact ⟨s4.1,s4.2.1,λj hj=>(k5 j (by lia)).trans (s4.2.2 j hj)⟩
          · exact He ⟨rfl,S4,s4⟩
        case mp =>
          rintro c st4 ⟨rfl,S4,s4⟩;dsimp only;refine Hc (wpS_modify (Hc (wpS_modify (He ⟨_,rfl,pushed _ ⟨S4.perm,S4.kind,S4.failed,?_⟩ s4,by lia,by lia,s4.2.2⟩))));show Runs _ _ (arrOf st4).toList 0 ((pendingOf st4).modify _ _).toList lo;rw[Array.toList_modify];exact qM _ (λx=>(x.1,x.2.1,pw)) (λt=>⟨rfl,rfl⟩) S4.runs
      · exact Hc (wpS_modify (He ⟨_,rfl,pushed _ S3 s3,by lia,by lia,s3.2.2⟩))
  case post =>
    rintro c st' ⟨rfl,S⟩;dsimp only;refine Hc (wpS_mono (wpS_forRange (I:=λx c st'=>c=(none,())/\sH κ rk ix N xs xs.size st'/\((pendingOf st').size<=1\/(pendingOf st').size+x<=xs.size)) (Q:=λc st'=>c=(none,())/\sH κ rk ix N xs xs.size st'/\(pendingOf st').size<=1) ?s2 ?f2 ⟨rfl,S,.inr (by have:=S.runs.le;rw[Hd] at this;lia)⟩) ?post2)
    case f2 =>
      rintro c st' ⟨rfl,S,z⟩;exact ⟨rfl,S,by lia⟩
    case s2 =>
      rintro x c st' _ hx ⟨rfl,S,z⟩;refine Hc (wpS_get ?_);by_cases c1:(pendingOf st').size<=1
      · rw[if_pos c1];exact He ⟨rfl,S,c1⟩
      rw[if_neg c1];refine Hc (S.merge L D (GW _) ?_ λst2 S2 e2 _=>?_)
      · (repeat' split)<;>lia
      · simp only[Bool.not_true,Hl,if_false];exact He ⟨rfl,S2,.inr (by lia)⟩
    case post2 =>
      rintro c st' ⟨rfl,S,z⟩;dsimp only;refine He (h _ S.perm S.failed ?_);have hr:=S.runs;have hl:(pendingOf st').toList.length<=1:=by rw[Hd];exact z
      have hsz:=S.size;generalize (pendingOf st').toList=q at hl hr;generalize xs.size=N at hr hsz;cases hr with
      | nil =>
        have:(arrOf st').toList = []:=List.eq_nil_of_length_eq_zero (by rw[Hd,hsz]);rw[this];exact List.Pairwise.nil
      | @cons _ n pw _ rest a b _ c =>
        cases c with
        | nil =>
          unfold seg at b;rw[List.drop_zero,take_of_length_le (by rw[Hd];lia)] at b;exact b
        | cons=>simp at hl
theorem Dy {xs:Array Keyed}(nd:xs.toList.Nodup):∃ix:Keyed->Int,vT ix xs.size xs 0:=by
  classical
  refine ⟨λp=>if h:∃j:Nat,xs[j]?=some p then ((Classical.choose h:Nat):Int) else 0,λj _ hj=>⟨?_,by lia⟩⟩;have e:=Ha hj;rw[dz e];have hx:∃k:Nat,xs[k]?=some xs[j]:=⟨j,e⟩
  rw[dif_pos hx];have e2:=Classical.choose_spec hx;rw[<-GY] at e e2;have:=(List.getElem?_inj (by rw[Hd];exact hj) nd).mp (e.trans e2.symm);lia
theorem fC (L0:cL prog w A E s Dm (bD rk) κ λ_ _=>True)(D0:∀x∈xs.toList,Dm x)(nd:xs.toList.Nodup){st:Hf}(ha:arrOf st=xs)(hk:kindOf st=κ)(hf:failedOf st=none)(hp:pendingOf st = #[]){Q:Unit->Hf->Prop}
    (h:∀(st':Hf) (ix:Keyed->Int),vT ix xs.size xs 0->(arrOf st').Perm xs->failedOf st'=none->dQ (bD rk) (arrOf st').toList->(arrOf st').toList.Pairwise (λx y=>rk x=rk y->ix x<=ix y)->Q () st'):wpS (model prog w) A E s sortRuns' Q st:=by
  obtain ⟨ix,o⟩:=Dy nd;refine oV L0 D0 o ha hk hf hp λst' a1 a2 a3=>?_;have bd:∀x∈(arrOf st').toList,0<=ix x/\ix x<xs.size:=λx hx=>by
    obtain ⟨i,hi,e⟩:=List.mem_iff_getElem.mp ((Array.perm_iff_toList_perm.mp a1).mem_iff.mp hx);rw[Hd] at hi;have:=o i (Nat.zero_le _) hi;rw[dz (x:=x) (by rw[<-GY,Hb];exact ⟨by rw[Hd];exact hi,e⟩)] at this;lia
  refine h st' ix o a1 a2 (List.Pairwise.imp_of_mem (λ{x y} hx hy z=>?_) a3) (List.Pairwise.imp_of_mem (λ{x y} hx hy z e=>?_) a3)
  · unfold bD dU at z;unfold bD;rw[decide_eq_false_iff_not] at z ⊢;exact λc=>z (d9 c (bd y hy).2 (bd x hx).1 (by lia))
  · unfold bD dU at z;rw[decide_eq_false_iff_not,e] at z;lia
end
end Tim
namespace Tim
open PySem PySem.W PySem.Calls PyProof.Rows
section
variable {α:Type}
theorem mF {p q:α->Bool}:∀{l:List α},(∀x∈l,p x=true->q x=true)->(∃x∈l,q x=true/\p x=false)->l.countP p<l.countP q
  | [],_,⟨x,hx,_⟩=>nomatch hx
  | a::l,h,⟨x,hx,h1,h2⟩=>by
    rw[List.countP_cons,List.countP_cons];have hm:l.countP p<=l.countP q:=List.countP_mono_left λx hx=>h x (Hv _ hx);rcases Hn.mp hx with e | hx'
    · subst e;rw[h1,h2];simp;lia
    · have ih:=mF (l:=l) (λx hx=>h x (Hv _ hx)) ⟨x,hx',h1,h2⟩;have:=h a (mem_cons_self ..);cases hp:p a with
      | true=>rw[this hp];simp;lia
      | false=>simp;lia
noncomputable def rank (lt:α->α->Bool)(l:List α)(x:α):Int:=l.countP λz=>lt z x
theorem zV {lt:α->α->Bool}{l:List α}(Fh:∀x,x∈l->lt x x=false)(tr:∀x y z,x∈l->y∈l->z∈l->lt x y=true->lt y z=true->lt x z=true)(ntr:∀x y z,x∈l->y∈l->z∈l->lt x y=false->lt z y=true->lt z x=true)
    {x y:α} (hx:x∈l) (hy:y∈l):decide (rank lt l x<rank lt l y)=lt x y:=by
  cases h:lt x y with
  | true =>
    refine decide_eq_true ?_;have:=mF (p:=λz=>lt z x) (q:=λz=>lt z y) (l:=l) (λz hz h1=>tr z x y hz hx hy h1 h) ⟨x,hx,h,Fh x hx⟩;unfold rank;lia
  | false =>
    refine decide_eq_false ?_;have:=List.countP_mono_left (p:=λz=>lt z y) (q:=λz=>lt z x) (l:=l) λz hz h1=>ntr x y z hx hy hz h h1;unfold rank;lia
end
noncomputable abbrev c0:=SoT.xn false
theorem t9:∀a:List Int,c0 a a=false
  | []=>rfl
  | x::a=>by
    show (if x=x then c0 a a else decide (x<x))=false;rw[if_pos rfl];exact t9 a
theorem kR (x y:Int)(a b:List Int):c0 (x::a) (y::b)=if x=y then c0 a b else decide (x<y):=rfl
theorem xo:∀{a b c:List Int},a.length=b.length->b.length=c.length->c0 a b=true->c0 b c=true->c0 a c=true
  | [],[],[],_,_,h,_=>h
  | x::a,y::b,z::c,h1,h2,h3,h4=>by
    rw[kR] at h3 h4 ⊢;by_cases e1:x=y
    · rw[if_pos e1] at h3;by_cases e2:y=z
      · rw[if_pos e2] at h4;rw[if_pos (e1.trans e2)];exact xo (by simpa using h1) (by simpa using h2) h3 h4
      · rw[if_neg e2] at h4;rw[if_neg (by lia)];have:=of_decide_eq_true h4;exact decide_eq_true (by lia)
    · rw[if_neg e1] at h3;have d1:=of_decide_eq_true h3;by_cases e2:y=z
      · rw [if_neg (by lia)];exact decide_eq_true (by lia)
      · rw[if_neg e2] at h4;have d2:=of_decide_eq_true h4;rw[if_neg (by lia)];exact decide_eq_true (by lia)
theorem ua:∀{a b c:List Int},a.length=b.length->b.length=c.length->c0 a b=false->c0 c b=true->c0 c a=true
  | [],[],[],_,_,_,h=>h
  | x::a,y::b,z::c,h1,h2,h3,h4=>by
    rw[kR] at h3 h4 ⊢;by_cases e1:x=y
    · rw[if_pos e1] at h3;by_cases e2:z=y
      · rw[if_pos e2] at h4;rw[if_pos (by lia)];exact ua (by simpa using h1) (by simpa using h2) h3 h4
      · rw[if_neg e2] at h4;have:=of_decide_eq_true h4;rw[if_neg (by lia)];exact decide_eq_true (by lia)
    · rw[if_neg e1] at h3;have d1:=of_decide_eq_false h3;by_cases e2:z=y
      · rw [if_neg (by lia)];exact decide_eq_true (by lia)
      · rw[if_neg e2] at h4;have d2:=of_decide_eq_true h4;rw[if_neg (by lia)];exact decide_eq_true (by lia)
section
variable {prog:Hj} {w:Hs} {A:Hr} {E:GR->GU->Prop} {s:GU}
noncomputable def q8 (h:Heap)(vs:List GR)(f:GR->List Int)(c:Nat):Prop:=∀v∈vs,SoT.Tp h v (f v)/\(f v).length=c
theorem q8.keep {h h':Heap}{vs:List GR}{f:GR->List Int}{c:Nat}(k:∀b o,h.get? b=some o->o.cls=.type "tuple"->h'.get? b=some o)(t:q8 h vs f c):q8 h' vs f c:=λv hv=>⟨(t v hv).1.keep k,(t v hv).2⟩
theorem qH {vs:List GR}{f:GR->List Int}{c:Nat}(hT:∀v∈vs,(f v).length=c){x y:GR}(hx:x∈vs)(hy:y∈vs):decide (rank (λu v=>c0 (f u) (f v)) vs x<rank (λu v=>c0 (f u) (f v)) vs y)=c0 (f x) (f y):=
  zV (lt:=λu v=>c0 (f u) (f v)) (λu _=>t9 _) (λu v z h1 h2 h3=>xo ((hT u h1).trans (hT v h2).symm) ((hT v h2).trans (hT z h3).symm)) (λu v z h1 h2 h3=>ua ((hT u h1).trans (hT v h2).symm) ((hT v h2).trans (hT z h3).symm)) hx hy
theorem vf {vs:List GR}{f:GR->List Int}{c:Nat}(hT:q8 s.heap vs f c) :
    cL prog w A E s (λp=>p.1∈vs) (bD λp=>rank (λu v=>c0 (f u) (f v)) vs p.1) (tuples' true) λ_ _=>True:=by
  intro x y st Q hx hy _ hk h;have e:bD (λp:Keyed=>rank (λu v=>c0 (f u) (f v)) vs p.1) x y=c0 (f x.1) (f y.1):=by
    unfold bD;exact qH (λv hv=>(hT v hv).2) hx hy
  rw[e] at h;rw[lt'_eq];refine Hc (wpS_get ?_);rw[hk];refine Hc (wpS_lift (wpAny_attempt (SoT.BC (hT _ hx).1 (hT _ hy).1 ⟨rfl,?_⟩)));rw[(hT _ hx).2,(hT _ hy).2,show decide (c<c)=false from decide_eq_false (Nat.lt_irrefl c)];exact He h
theorem zg {h:Heap}{f:GR->List Int}{c:Nat}(hc:0<c){vs:List GR}(hT:q8 h vs f c):∃fs,KatTups h vs fs/\fs.length=vs.length/\∀f∈fs,∃n t,f=Value.int n t:=
  SoT.xj (nss:=vs.map f) (by rw[Hh]) λi v ns h1 h2=>by
    rw[Hw,h1] at h2;cases h2;have:=hT v (Hi h1);exact ⟨by rw[this.2];exact hc,this.1⟩
theorem m8 {vs us:List GR}(h:vs.Nodup):(us.zip vs).Nodup:=by
  refine List.Pairwise.imp_of_mem (R:=λp q:GR×GR=>p.2≠q.2) (λ{p q} _ _ z e=>z (by rw[e])) ?_;rw[<-pairwise_map (f:=Prod.snd) (R:=λa b=>a≠b)];refine List.Pairwise.sublist ?_ h;clear h;induction us generalizing vs with
  | nil=>exact List.nil_sublist _
  | cons u us ih =>
    cases vs with
    | nil=>exact List.nil_sublist _
    | cons v vs=>exact (ih (vs:=vs)).cons₂ v
theorem lV {a:Addr}{vs:List GR}{n c:Nat}{f:GR->List Int}{P:PySem.Fin->GU->Prop}(ho:s.heap.get? a=some (seqObj "list" vs.toArray n))(nd:vs.Nodup)(hT:q8 s.heap vs f c)(hc:0<c)(hz:vs.length<=sizeLine)
    (h:∀out:List GR,out.Perm vs->out.Pairwise (λu v=>c0 (f v) (f u)=false)->P (.done (.ret .none)) { s with heap:=sortedHeap s.heap a vs out.toArray }):wpAny (model prog w) A (Builtin.«list.sort» ⟨[.ref a],[]⟩) P E s:=by
  rw[list_sort_plain];have ha:a<s.heap.objs.size:=Hg ho;refine GS (listItems_at ho rfl (GS (listUpdate_at ho rfl ?_ (by simpa using hz) (by simp))));obtain ⟨e1,ho1⟩ : ∃e1,(s.heap.update a (Obj.mapSeq λ_=>#[])).get? a=some (seqObj "list" #[] e1):=⟨_,get?_update_seq ho (λ_=>#[])⟩
  refine GS (seqEpoch_at ho1 rfl (GS (wpAny_newTuple (GS (wpAny_newList (wpAny_holding ?_))) (by simpa using hz))));have ho6:(((s.heap.update a (Obj.mapSeq λ_=>#[])).push (seqObj "tuple" vs.toArray 0)).push (seqObj "list" #[] 0)).get? a=some (seqObj "list" #[] e1):=by
    rw[Heap.get?_push_ne _ _ _ (show a≠_ by rw[size_push',Heap.size_update];exact Hm (Nat.lt_succ_of_lt ha)),Heap.get?_push_ne _ _ _ (show a≠_ by rw[Heap.size_update];exact Hm ha)];exact ho1
  have keep:∀b o,s.heap.get? b=some o->o.cls=.type "tuple"->(((s.heap.update a (Obj.mapSeq λ_=>#[])).push (seqObj "tuple" vs.toArray 0)).push (seqObj "list" #[] 0)).get? b=some o:=λb o hb hc=>by
    have hba:a≠b:=by
      rintro rfl;rw[ho] at hb;cases hb;exact absurd hc (show ¬Value.type "list" = Value.type "tuple" by decide)
    exact GZ _ (GZ _ ((Heap.get?_update_other _ _ hba).trans hb))
  have hT':=hT.keep keep;show wpAny (model prog w) A _ P E { s with heap:=((s.heap.update a (Obj.mapSeq λ_=>#[])).push (seqObj "tuple" vs.toArray 0)).push (seqObj "list" #[] 0) };dsimp only;have zl:(vs.toArray.zip vs.toArray).toList=vs.zip vs:=by simp
  have fin:∀xs:Array Keyed,xs.Perm (vs.toArray.zip vs.toArray)->(∀p∈xs.toList,p.1=p.2/\p.1∈vs)/\(xs.map (·.2)).toList.Perm vs:=λxs hp=>by
    have hp':=Array.perm_iff_toList_perm.mp hp;rw[zl] at hp';refine ⟨λp hq=>?_,?_⟩
    · have:=hp'.mem_iff.mp hq;obtain ⟨u,v⟩:=p;exact mem_zip_self this
    · rw[Array.toList_map];have:=hp'.map (λp:Keyed=>p.2);rw[List.map_snd_zip (GW _)] at this;exact this
  by_cases h2:vs.toArray.size<2
  · rw[if_pos h2,if_pos h2];refine GS (GX ?_);rw[StateT.run_pure];refine GS (GX ?_);dsimp only;have ef:(arrOf (SortSt.mk' general' (vs.toArray.zip vs.toArray) #[] 7 none)).map (·.2)=vs.toArray:=by
      apply Array.ext';simp[List.map_snd_zip]
    rw[ef];refine GS (seqEpoch_at ho6 rfl (GS (listUpdate_at ho6 rfl ?_ (by simp) (by simp;lia))));simp only[bne_self_eq_false,Hl,if_false];refine GX (h vs (.refl _) ?_);have h2':vs.length<2:=by simpa using h2
    exact x6 h2'
  · rw[if_neg h2,if_neg h2];obtain ⟨fs,k1,k2,k3⟩:=zg hc hT';have h2':2<=vs.length:=by simpa using h2
    refine GS (kat_kind (T:=.type "int") k1 (by lia) (λv hv=>?_) (by rfl) ?_)
    · obtain ⟨m,t,rfl⟩:=k3 v hv;exact .now
    · have e0 : (Value.type "int" != Value.type "tuple") = true := by decide
      rw[e0];refine GS (wpAny_mono (fC (xs:=vs.toArray.zip vs.toArray) (vf hT') (λp hp=>?_) (by rw[zl];exact m8 nd) (st:=SortSt.mk' (tuples' true) (vs.toArray.zip vs.toArray) #[] 7 none)
        (Q:=λ_ st'=>(arrOf st').Perm (vs.toArray.zip vs.toArray)/\failedOf st'=none/\dQ (bD λp=>rank (λu v=>c0 (f u) (f v)) vs p.1) (arrOf st').toList) rfl rfl rfl rfl λst' _ _ a1 a2 a3 _=>⟨a1,a2,a3⟩) ?_ λ_ _ z=>z)
      · rw[zl] at hp;obtain ⟨u,v⟩:=p;exact (List.of_mem_zip hp).1
      · rintro ⟨⟨⟩,st'⟩ s' ⟨rfl,hp',hf',hs'⟩;dsimp only at hp' hf' hs' ⊢;obtain ⟨f1,f2⟩:=fin _ hp';have hsz:((arrOf st').map (·.2)).size<=sizeLine:=by
          have:=f2.length_eq;rw[Hd] at this;lia
        refine GS (seqEpoch_at ho6 rfl (GS (listUpdate_at ho6 rfl ?_ (by simp) (Nat.le_succ_of_le hsz))));rw[hf'];simp only[bne_self_eq_false,Hl,if_false];refine GX ?_;have:=h ((arrOf st').map (·.2)).toList f2 ?_
        · rw[Array.toArray_toList] at this;exact this
        · rw[Array.toList_map,pairwise_map];refine List.Pairwise.imp_of_mem (λ{p q} hp hq hr=>?_) hs';obtain ⟨p1,p2⟩:=f1 p hp;obtain ⟨q1,q2⟩:=f1 q hq;have e:bD (λp:Keyed=>rank (λu v=>c0 (f u) (f v)) vs p.1) q p=c0 (f q.1) (f p.1):=by
            unfold bD;exact qH (λv hv=>(hT v hv).2) q2 p2
          rw[e] at hr;rw[<-p1,<-q1];exact hr
theorem sk {l:Addr}{vs:List GR}{c:Nat}{f:GR->List Int}{Q:GR->GU->Prop}(hl:s.heap.IsList l vs.toArray)(nd:vs.Nodup)(hT:q8 s.heap vs f c)(hc:0<c)(hz:vs.length<=sizeLine)
    (h:∀(D:Addr) (h':Heap) (n:Nat) (out:List GR),s.heap.objs.size<=D->(∀b o,s.heap.get? b=some o->h'.get? b=some o)->h'.get? D=some (seqObj "list" out.toArray n)->out.Perm vs->out.Pairwise (λu v=>c0 (f v) (f u)=false)->Q (.ref D) { s with heap:=h' }) :
    wpAny (model prog w) A (call (.builtin "sorted") [.ref l]) Q E s:=by
  refine Calls.call_function_entry kind_sorted plain_sorted entry_sorted (args_sorted1 _) ?_;unfold Builtin.«sorted»;refine GS (m:=checkCount "sorted" 1 1 _) (GX ?_);refine GS (collect_list hl ?_ hz);refine GS (wpAny_newList ?_ hz);have hsz:((s.heap.push (seqObj "list" #[] 0)).update s.heap.objs.size (Obj.mapSeq (·++vs.toArray))).objs.size=s.heap.objs.size+1:=by
    rw[Heap.size_update,size_push']
  have hoL:(((s.heap.push (seqObj "list" #[] 0)).update s.heap.objs.size (Obj.mapSeq (·++vs.toArray))).push (seqObj "list" vs.toArray 0)).get? (s.heap.objs.size+1)=some (seqObj "list" vs.toArray 0):=by
    rw[<-hsz];exact Hq _ rfl
  have keep:∀b o,s.heap.get? b=some o->(((s.heap.push (seqObj "list" #[] 0)).update s.heap.objs.size (Obj.mapSeq (·++vs.toArray))).push (seqObj "list" vs.toArray 0)).get? b=some o:=λb o q=>by
    have hlt:b<s.heap.objs.size:=Hg q;rw[Heap.get?_push_ne _ _ _ (by rw[hsz];exact Hm (Nat.lt_succ_of_lt hlt)),Heap.get?_update_ne _ _ _ _ (Hm hlt),Heap.get?_push_ne _ _ _ (Hm hlt)];exact q
  show wpAny _ _ _ _ _ { s with heap:=((s.heap.push (seqObj "list" #[] 0)).update s.heap.objs.size (Obj.mapSeq (·++vs.toArray))).push (seqObj "list" vs.toArray 0) };rw[hsz];refine GS (wpAny_holding (wpAny_call_entry slot_list_sort ⟨_,hoL,rfl⟩ entry_list_sort (lV hoL nd (hT.keep λb o hb _=>keep b o hb) hc hz λout p1 p2=>⟨_,rfl,?_⟩) (args_list_sort _)));obtain ⟨e1,ho1⟩ : ∃e1,(sortedHeap (((s.heap.push (seqObj "list" #[] 0)).update s.heap.objs.size (Obj.mapSeq (·++vs.toArray))).push (seqObj "list" vs.toArray 0)) (s.heap.objs.size+1) vs out.toArray).get? (s.heap.objs.size+1)=some (seqObj "list" out.toArray e1):=by
    unfold sortedHeap;obtain ⟨e2,ho2⟩ : ∃e2,((((s.heap.push (seqObj "list" #[] 0)).update s.heap.objs.size (Obj.mapSeq (·++vs.toArray))).push (seqObj "list" vs.toArray 0)).update (s.heap.objs.size+1) (Obj.mapSeq λ_=>#[])).get? (s.heap.objs.size+1)=some (seqObj "list" #[] e2):=⟨_,get?_update_seq hoL (λ_=>#[])⟩
    exact ⟨_,get?_update_seq (GZ _ (GZ _ ho2)) _⟩
  exact GX ⟨_,rfl,h _ _ e1 out (Nat.le_succ _) (λb o hb=>SoT.jI (Hm (Nat.lt_succ_of_lt (Hg hb))) (keep b o hb)) ho1 p1 p2⟩
end
end Tim
set_option maxHeartbeats 4000000
namespace Tim
open PySem PySem.W PySem.Calls PyProof.Rows
section
variable {prog:Hj} {w:Hs} {A:Hr} {E:GR->GU->Prop} {s:GU}
noncomputable def xh (p:Keyed):Prop:=∃n t,p.1=Value.int n t
theorem zA:cL prog w A E s xh (bD λp=>numOf p.1) oneType' λ_ _=>True:=by
  intro x y st Q hx hy _ hk h;obtain ⟨x1,x2⟩:=x;obtain ⟨y1,y2⟩:=y;obtain ⟨n,t,hx⟩:=hx;obtain ⟨m,u,hy⟩:=hy;dsimp only at hx hy;subst hx hy;rw[lt'_eq];refine Hc (wpS_get ?_);rw[hk,keyLt'_oneType];refine Hc (wpS_lift (wpAny_attempt (oneLt_int ⟨rfl,?_⟩)));exact He h
theorem vD {xs:Array Keyed}(h:dQ (bD λp=>numOf p.1) xs.toList):SortedTo xs xs.size:=λi j hij hj=>by
  by_cases e:i=j
  · subst e;exact Int.le_refl _
  · have hi : i < xs.size := by lia
    have:=pairwise_iff_getElem.mp h i j (by rw[Hd];exact hi) (by rw[Hd];exact hj) (by lia);unfold bD at this;rw[K_eq hi,K_eq hj];simp only[decide_eq_false_iff_not,Int.not_lt,Array.getElem_toList] at this;exact this
variable {a kS:Addr} {b:Bool} {vs:List GR} {kz:List Int} {keys:Array GR} {e e1:Nat} {P:PySem.Fin->GU->Prop}
noncomputable def CI (kz:List Int)(vs out:List GR):Prop:=out.Pairwise λu v=>∀(i j:Nat) (k:Int),vs[i]?=some u->vs[j]?=some v->kz[i]?=some k->kz[j]?=some k->i<=j
noncomputable def vS (b:Bool)(kz:List Int)(vs out:List GR):Prop:=KskOut b kz vs out/\(b=true->CI kz vs out)
noncomputable def Rest (h h':Heap)(a kS:Addr):Prop:=∀c o,c≠a->c≠kS->h.get? c=some o->h'.get? c=some o
theorem qk {st:Hf}(nk:s.heap.get? kS=some (seqObj "list" keys e))(na:s.heap.get? a=some (seqObj "list" #[] e1))(hka:kS≠a)
    (hk:IntsAre keys.toList kz) (hlen:kz.length=vs.length) (hz:vs.length<=sizeLine) (hp:(arrOf st).Perm (keys.zip vs.toArray)) (hs:SortedTo (arrOf st) (arrOf st).size) (hfl:failedOf st=none) (hst:b=true->CI kz vs ((arrOf st).map (·.2)).reverse.toList)
    (h:∀h' tk out c,Rest s.heap h' a kS->h'.get? a=some (seqObj "list" out c)->vS b kz vs out.toList->P (.done (.ret .none)) { s with heap:=h',toks:=tk }) :
    wpAny (model prog w) A (ksk_tail a b e1 (.ref kS) st) P E s:=by
  have hsz:keys.size=vs.length:=by
    have h1:=hk.length;rw[Hd] at h1;lia
  have hsz2:(arrOf st).size=vs.length:=by rw[hp.size_eq,Array.size_zip,hsz,Hk,Nat.min_self]
  have hout:(if b then ((arrOf st).map (·.2)).reverse else (arrOf st).map (·.2)).size=vs.length:=by
    cases b with
    | false=>rw[if_neg (by decide),Array.size_map];exact hsz2
    | true=>rw[if_pos rfl,Array.size_reverse,Array.size_map];exact hsz2
  have s1:=Heap.SameBut.update s.heap kS (Obj.mapSeq λ_=>(#[]:Array GR));have na1:(s.heap.update kS (Obj.mapSeq λ_=>(#[]:Array GR))).get? a=some (seqObj "list" #[] e1):=(s1.2 a hka.symm).trans na;have s2:=Heap.SameBut.update (s.heap.update kS (Obj.mapSeq λ_=>(#[]:Array GR))) a (Obj.mapSeq λ_=>if b then ((arrOf st).map (·.2)).reverse else (arrOf st).map (·.2));have put:∀out:Array GR,∃c2,((s.heap.update kS (Obj.mapSeq λ_=>(#[]:Array GR))).update a (Obj.mapSeq λ_=>out)).get? a=some (seqObj "list" out c2):=λout=>⟨_,get?_update_seq na1 λ_=>out⟩
  obtain ⟨c2,hc2⟩:=put (if b then ((arrOf st).map (·.2)).reverse else (arrOf st).map (·.2));unfold ksk_tail;dsimp only;refine GS (listUpdate_at nk rfl ?_ (by rw[hsz];exact hz) (Nat.zero_le _));refine GS (wpAny_letGo (GS (seqEpoch_at na1 rfl ?_)));refine GS (listUpdate_at na1 rfl ?_ (Nat.zero_le _) (Nat.le_succ_of_le (Nat.le_trans (Nat.le_of_eq hout) hz)));rw[hfl];simp only[bne_self_eq_false,Hl,if_false];exact GX (h _ _ _ c2 (λc o h1 h2 ec=>(s2.2 c h1).trans ((s1.2 c h2).trans ec)) hc2 ⟨ksk_out hk hp hs,λz=>by subst z;exact hst rfl⟩)
theorem Ct {xs:Array Keyed}{ix:Keyed->Int}(nd:vs.Nodup)(hk:IntsAre keys.toList kz)(hlen:kz.length=vs.length)(hsz:keys.size=vs.length)(o:vT ix ((keys.zip vs.toArray).reverse).size (keys.zip vs.toArray).reverse 0)(hp:xs.Perm (keys.zip vs.toArray).reverse)(hs:xs.toList.Pairwise (λx y=>numOf x.1=numOf y.1->ix x<=ix y)):CI kz vs (xs.map (·.2)).reverse.toList:=by
  unfold CI;rw[Array.toList_reverse,List.pairwise_reverse,Array.toList_map,pairwise_map];have hz:(keys.zip vs.toArray).size=vs.length:=by rw[Array.size_zip,hsz,Hk,Nat.min_self]
  have at_:∀x∈xs.toList,∀(i:Nat) (k:Int),vs[i]?=some x.2->kz[i]?=some k->numOf x.1=k/\ix x=(vs.length:Int) - 1 - i:=λx hx i k h1 h2=>by
    have hm:=(Array.perm_iff_toList_perm.mp hp).mem_iff.mp hx;rw[Array.toList_reverse,List.mem_reverse,ksk_zip] at hm;obtain ⟨m,hm,e⟩:=List.mem_iff_getElem.mp hm;rw[List.length_zip] at hm;rw[List.getElem_zip] at e;have hv:vs[m]?=some x.2:=by rw[<-e];exact GV (by lia)
    have em:m=i:=(List.getElem?_inj (by lia) nd).mp (hv.trans h1.symm);subst em;have hi:m<vs.length:=by lia
    constructor
    · have:=hk.nums;have h3:(keys.toList.map numOf)[m]?=some k:=by rw[this];exact h2
      rw[Hw,GV (by lia)] at h3;have h4:=Option.some.inj h3;rw[<-e];exact h4
    · have := (o (vs.length - 1 - m) (Nat.zero_le _) (by rw [Array.size_reverse, hz];lia)).1;rw[dz (x:=x) ?_] at this
      · lia
      rw[Array.getElem?_reverse (by rw[hz];lia),hz,show vs.length - 1 - (vs.length - 1 - m)=m by lia,<-GY,ksk_zip,<-e,<-List.getElem_zip (h:=by rw[List.length_zip];lia)];exact GV _
  refine List.Pairwise.imp_of_mem (λ{x y} hx hy z i j k h1 h2 h3 h4=>?_) hs;obtain ⟨a1,a2⟩:=at_ y hy i k h1 h3;obtain ⟨b1,b2⟩:=at_ x hx j k h2 h4;have:=z (b1.trans a1.symm);lia
theorem zw (nd:vs.Nodup)(nk:s.heap.get? kS=some (seqObj "list" keys e))(na:s.heap.get? a=some (seqObj "list" #[] e1))(hka:kS≠a)(hk:IntsAre keys.toList kz)(hlen:kz.length=vs.length)(hz:vs.length<=sizeLine)
    (h:∀h' tk out c,Rest s.heap h' a kS->h'.get? a=some (seqObj "list" out c)->vS b kz vs out.toList->P (.done (.ret .none)) { s with heap:=h',toks:=tk }) :
    wpAny (model prog w) A (ksk_end a b vs.toArray e1 (.ref kS) keys) P E s:=by
  have hsz:keys.size=vs.length:=by
    have h1:=hk.length;rw[Hd] at h1;lia
  have hzs:(keys.zip vs.toArray).size=vs.length:=by rw[Array.size_zip,hsz,Hk,Nat.min_self]
  have hstart:(if b=true then (keys.zip vs.toArray).reverse else keys.zip vs.toArray).Perm (keys.zip vs.toArray):=by
    cases b with
    | false=>exact Array.Perm.refl _
    | true=>exact Array.perm_iff_toList_perm.mpr (by rw[if_pos rfl,Array.toList_reverse];exact List.reverse_perm _)
  have main:wpAny (model prog w) A (do
      let kind <-if vs.toArray.size<2 then pure general' else keyKind' keys
      let ((),s) <-(if vs.toArray.size<2 then pure () else sortRuns').run (SortSt.mk' kind (if b then (keys.zip vs.toArray).reverse else keys.zip vs.toArray) #[] 7 none)
      ksk_tail a b e1 (.ref kS) s) P E s:=by
    by_cases h2:vs.toArray.size<2
    · rw[if_pos h2,if_pos h2];refine GS (GX ?_);dsimp only;rw[StateT.run_pure];refine GS (GX ?_);dsimp only;refine qk (st:=SortSt.mk' general' (if b=true then (keys.zip vs.toArray).reverse else keys.zip vs.toArray) #[] 7 none) nk na hka hk hlen hz hstart ?_ rfl (λ_=>x6 ?_) h;rotate_left
      · rw[Hd,Array.size_reverse,Array.size_map];have:(if b=true then (keys.zip vs.toArray).reverse else keys.zip vs.toArray).size<2:=by rw[hstart.size_eq,hzs];rw[Hk] at h2;exact h2
        exact this
      intro i j hij hj;have hj2:j<(if b=true then (keys.zip vs.toArray).reverse else keys.zip vs.toArray).size:=hj;rw[hstart.size_eq,hzs] at hj2;rw[Hk] at h2;have:i=j:=by lia
      subst this;exact Int.le_refl _
    · rw[if_neg h2,if_neg h2];rw[Hk] at h2;rw[ksk_kind hk (by rw[hsz];lia)];refine GS (GX ?_);refine GS (wpAny_mono (fC (xs:=if b=true then (keys.zip vs.toArray).reverse else keys.zip vs.toArray) zA (λp hp=>?_) ((Array.perm_iff_toList_perm.mp hstart).symm.nodup (by rw[ksk_zip];exact m8 nd)) (st:=SortSt.mk' oneType' (if b=true then (keys.zip vs.toArray).reverse else keys.zip vs.toArray) #[] 7 none)
        (Q:=λ_ st'=>(arrOf st').Perm (keys.zip vs.toArray)/\failedOf st'=none/\SortedTo (arrOf st') (arrOf st').size/\(b=true->CI kz vs ((arrOf st').map (·.2)).reverse.toList)) rfl rfl rfl rfl λst' ix o a1 a2 a3 a4=>⟨a1.trans hstart,a2,vD a3,λhb=>by subst hb;exact Ct nd hk hlen hsz o a1 a4⟩) ?_ λ_ _ z=>z)
      · exact ksk_intKeys hk p ((Array.perm_iff_toList_perm.mp hstart).mem_iff.mp hp)
      · rintro ⟨⟨⟩,st'⟩ s' ⟨rfl,hp,hf,hs,hst⟩;dsimp only at hp hf hs hst ⊢;exact qk nk na hka hk hlen hz hp hs hf hst h
  unfold ksk_end;dsimp only;cases b with
  | false=>exact main
  | true=>exact GS (wpAny_rule main)
noncomputable def Keeps (h h':Heap):Prop:=∀c o,h.get? c=some o->h'.get? c=some o
theorem xu {f:GR}{h₀:Heap}(nd:vs.Nodup)(K0:Keeps h₀ s.heap)(fa:h₀.get? a=none)(fk:h₀.get? kS=none)(nk:s.heap.get? kS=some (seqObj "list" #[] 0))(na:s.heap.get? a=some (seqObj "list" #[] e1))(hka:kS≠a)(hlen:kz.length=vs.length)(hz:vs.length<=sizeLine)
    (turn:∀(i:Nat) (v:GR) (k:Int),vs[i]?=some v->kz[i]?=some k->∀(h:Heap) (tk:Nat),Keeps h₀ h->∀Q:GR->GU->Prop,(∀h' tk' t',Keeps h h'->Q (.int k t') { s with heap:=h',toks:=tk' }) ->
      wpAny (model prog w) A (call f [v]) Q (λ_ _=>False) { s with heap:=h,toks:=tk })
    (h:∀h' tk out c,Keeps h₀ h'->h'.get? a=some (seqObj "list" out c)->vS b kz vs out.toList->P (.done (.ret .none)) { s with heap:=h',toks:=tk }) :
    wpAny (model prog w) A (ksk_rest a f b vs.toArray e1 (.ref kS)) P E s:=by
  unfold ksk_rest;refine GS (wpAny_rule ?_);rw[List.forIn_toArray];refine GS (ksk_fold (λi s'=>∃h' tk kA e,s' = { s with heap:=h',toks:=tk }/\Keeps h₀ h'/\h'.get? kS=some (seqObj "list" kA e)/\h'.get? a=some (seqObj "list" #[] e1)/\IntsAre kA.toList (kz.take i)) vs 0 s
    ⟨s.heap,s.toks,#[],0,rfl,K0,nk,na,by simpa using IntsAre.nil⟩ ?step ?done)
  case step =>
    rintro j x s' hx ⟨h',tk,kA,e,rfl,K',nk',na',hk⟩;simp only[Nat.zero_add] at hk ⊢;have hj:j<vs.length:=(Hb.mp hx).1;obtain ⟨k,hkj⟩ : ∃k,kz[j]?=some k:=⟨_,GV (by lia)⟩
    have hzz:kA.size<=j:=by
      have h1:=hk.length;rw[Hd,length_take] at h1;lia
    refine GS (wpAny_attempt (wpAny_mono (turn j x k hx hkj h' tk K' _ λg tk2 t2 kg=>?_) (λv s'' he=>he) λ_ _ hF=>hF.elim));dsimp only;have nk2:=kg _ _ nk';have na2:=kg _ _ na';have s1:=Heap.SameBut.update g kS (Obj.mapSeq (·.push (.int k t2)));obtain ⟨c2,hc2⟩ : ∃c2,(g.update kS (Obj.mapSeq (·.push (.int k t2)))).get? kS=some (seqObj "list" (kA.push (.int k t2)) c2):=⟨_,get?_update_seq nk2 (·.push (.int k t2))⟩
    have ek:kz.take (j+1)=kz.take j++[k]:=by rw[List.take_add_one,hkj];simp
    have ea:(kA.push (Value.int k t2)).toList=kA.toList++[Value.int k t2]:=by simp
    refine GS (listUpdate_at nk2 rfl ?_ (by lia) (Nat.le_trans (Nat.le_of_eq (Array.size_push ..)) (by lia)));refine GX ⟨rfl,_,_,kA.push (.int k t2),c2,rfl,λc o ec=>?_,hc2,(s1.2 a hka.symm).trans na2,by rw[ea,ek];exact ksk_snoc hk⟩;have hc:c≠kS:=λz=>by rw[z,fk] at ec;cases ec
    exact (s1.2 c hc).trans (kg _ _ (K' _ _ ec))
  case done =>
    rintro s' ⟨h',tk,kA,e,rfl,K',nk',na',hk⟩;have hk':IntsAre kA.toList kz:=by
      have e3:kz.take (0+vs.length)=kz:=take_of_length_le (by lia);rw[e3] at hk;exact hk
    refine GS (listItems_at nk' rfl ?_);refine zw (s:={ s with heap:=h',toks:=tk }) nd nk' na' hka hk' hlen hz λh3 tk3 out c R3 n3 k3=>h h3 tk3 out c (λc o ec=>R3 c o (λz=>by rw[z,fa] at ec;cases ec) (λz=>by rw[z,fk] at ec;cases ec) (K' _ _ ec)) n3 k3
theorem xw {f:GR}{n:Nat}{h₀:Heap}(nd:vs.Nodup)(K0:Keeps h₀ s.heap)(fa:h₀.get? a=none)(hle:h₀.objs.size<=s.heap.objs.size)(ho:s.heap.get? a=some (seqObj "list" vs.toArray n))(hlen:kz.length=vs.length)(hz:vs.length<=sizeLine)
    (turn:∀(i:Nat) (v:GR) (k:Int),vs[i]?=some v->kz[i]?=some k->∀(h:Heap) (tk:Nat),Keeps h₀ h->∀Q:GR->GU->Prop,(∀h' tk' t',Keeps h h'->Q (.int k t') { s with heap:=h',toks:=tk' }) ->
      wpAny (model prog w) A (call f [v]) Q (λ_ _=>False) { s with heap:=h,toks:=tk })
    (h:∀h' tk out c,Keeps h₀ h'->h'.get? a=some (seqObj "list" out c)->vS b kz vs out.toList->P (.done (.ret .none)) { s with heap:=h',toks:=tk }) :
    wpAny (model prog w) A (ksk_tree a f b) P E s:=by
  have ha:a<s.heap.objs.size:=Hg ho;have s1:=Heap.SameBut.update s.heap a (Obj.mapSeq λ_=>(#[]:Array GR));obtain ⟨e1,ho1⟩ : ∃e1,(s.heap.update a (Obj.mapSeq λ_=>(#[]:Array GR))).get? a=some (seqObj "list" #[] e1):=⟨_,get?_update_seq ho λ_=>#[]⟩
  have hkS:((s.heap.update a (Obj.mapSeq λ_=>(#[]:Array GR))).push (seqObj "tuple" vs.toArray 0)).objs.size=s.heap.objs.size+1:=by rw[size_push',Heap.size_update]
  unfold ksk_tree;refine GS (listItems_at ho rfl ?_);refine GS (listUpdate_at ho rfl ?_ (by rw[Hk];exact hz) (Nat.zero_le _));refine GS (seqEpoch_at ho1 rfl ?_);refine GS (wpAny_newTuple ?_ (by simpa using hz));refine GS (wpAny_newList ?_ (Nat.zero_le _));refine wpAny_holding ?_;refine xu (s:={ s with heap:=((s.heap.update a (Obj.mapSeq λ_=>(#[]:Array GR))).push (seqObj "tuple" vs.toArray 0)).push (seqObj "list" #[] 0) }) (kS:=((s.heap.update a (Obj.mapSeq λ_=>(#[]:Array GR))).push (seqObj "tuple" vs.toArray 0)).objs.size) nd
    (λc o ec=>GZ _ (GZ _ ((s1.2 c λz=>by rw[z,fa] at ec;cases ec).trans (K0 _ _ ec)))) fa (Heap.get?_none_of_le (by rw[hkS];lia)) (Hq _ rfl) (GZ _ (GZ _ ho1)) (by rw[hkS];exact Nat.ne_of_gt (Nat.lt_succ_of_lt ha)) hlen hz turn h
theorem rR {l:Addr}{f:GR}{kw:List (Str×GR)}{Q:GR->GU->Prop}(nd:vs.Nodup)(hl:s.heap.IsList l vs.toArray)(hlen:kz.length=vs.length)(hz:vs.length<=sizeLine)
    (ha1:argsOk "sorted" ⟨[.ref l],kw⟩) (ha2:∀x,argsOk "list.sort" ⟨[.ref x],kw⟩) (ht:∀x,Builtin.«list.sort» ⟨[.ref x],kw⟩=ksk_tree x f b)
    (turn:∀(i:Nat) (v:GR) (k:Int),vs[i]?=some v->kz[i]?=some k->∀(h:Heap) (tk:Nat),Keeps s.heap h->∀Q:GR->GU->Prop,(∀h' tk' t',Keeps h h'->Q (.int k t') { s with heap:=h',toks:=tk' }) ->
      wpAny (model prog w) A.in1.in1 (call f [v]) Q (λ_ _=>False) { s with heap:=h,toks:=tk })
    (h:∀D h' tk out c,Keeps s.heap h'->s.heap.objs.size<=D->h'.get? D=some (seqObj "list" out c)->vS b kz vs out.toList->Q (.ref D) { s with heap:=h',toks:=tk }) :
    wpAny (model prog w) A (call (.builtin "sorted") [.ref l] kw) Q E s:=by
  refine call_function_entry_kw kind_sorted plain_sorted entry_sorted ha1 ?_;unfold Builtin.«sorted»;refine GS (m:=checkCount "sorted" 1 1 _) (GX ?_);refine GS (collect_list hl ?_ hz);refine GS (wpAny_newList ?_ hz);have hsz:((s.heap.push (seqObj "list" #[] 0)).update s.heap.objs.size (Obj.mapSeq (·++vs.toArray))).objs.size=s.heap.objs.size+1:=by
    rw[Heap.size_update,size_push']
  have hoL:(((s.heap.push (seqObj "list" #[] 0)).update s.heap.objs.size (Obj.mapSeq (·++vs.toArray))).push (seqObj "list" vs.toArray 0)).get? (s.heap.objs.size+1)=some (seqObj "list" vs.toArray 0):=by
    rw[<-hsz];exact Hq _ rfl
  have keep:Keeps s.heap (((s.heap.push (seqObj "list" #[] 0)).update s.heap.objs.size (Obj.mapSeq (·++vs.toArray))).push (seqObj "list" vs.toArray 0)):=λb o q=>by
    have hlt:b<s.heap.objs.size:=Hg q;rw[Heap.get?_push_ne _ _ _ (by rw[hsz];exact Hm (Nat.lt_succ_of_lt hlt)),Heap.get?_update_ne _ _ _ _ (Hm hlt),Heap.get?_push_ne _ _ _ (Hm hlt)];exact q
  show wpAny _ _ _ _ _ { s with heap:=((s.heap.push (seqObj "list" #[] 0)).update s.heap.objs.size (Obj.mapSeq (·++vs.toArray))).push (seqObj "list" vs.toArray 0) };rw[hsz];refine GS (wpAny_holding (wpAny_call_entry_kw slot_list_sort ⟨_,hoL,rfl⟩ entry_list_sort ?body (ha2 _)))
  case body =>
    have ht':=ht (s.heap.objs.size+1);show wpAny (model prog w) A.in1.in1 (Builtin.«list.sort» ⟨[.ref (s.heap.objs.size+1)],kw⟩) _ _ _;rw[ht'];refine xw (h₀:=s.heap) (s:={ s with heap:=((s.heap.push (seqObj "list" #[] 0)).update s.heap.objs.size (Obj.mapSeq (·++vs.toArray))).push (seqObj "list" vs.toArray 0) }) nd
      keep (Heap.get?_none_of_le (Nat.le_succ _)) (by rw[size_push',hsz];lia) hoL hlen hz turn λh' tk out c K' n' k'=>⟨_,rfl,?_⟩
    exact GX ⟨_,rfl,h _ h' tk out c K' (Nat.le_succ _) n' k'⟩
end
end Tim
set_option maxHeartbeats 1000000
namespace L2
open PySem PySem.Spec PyProof.Rows PySem.W
section
variable {X:Cx} {pins:List (Addr×Obj)} {σ:St} {H:Hp} {s:GU} {A:Hr} {E:GR->GU->Prop} {Q:GR->GU->Prop}
theorem u6 {f c' ta:Addr}{nm q x:Str}{params:Arguments}{scope:Scope}{pm ctv:GR}{ys:List V}{j k:Int}{kk:Nat}{p1 p4 p5:Pos}
    (I:Inv X pins σ H s) (ho:s.heap.get? f=some (kla_obj nm q params (.Subscript (.Name x p1) (.Constant (.int j) kk p4) p5) scope [] pm c' ctv)) (hcd:s.heap.CodeRec (.ref c') q)
    (ht:fA X.K H ta ys) (hy:fE ys j=some (.int k))
    (hbind:∀v,bindArgs (kla_fn nm q params (.Subscript (.Name x p1) (.Constant (.int j) kk p4) p5) scope [] pm (.ref c') ctv) ⟨[v],[]⟩=pure [(x,v)])
    (hk:scope.kind=.function) (hco:scope.isCoroutine=false) (hgen:scope.isGenerator=false) (hcell:∀z∈scope.names,z.2≠.cell) (hlx:scope.names.lookup x=some .local)
    (hdx:(x == ("__debug__" : Str))=false) (room:A.depth<recursionLimit)
    (h:∀h' tk t',(∀b o,s.heap.get? b=some o->h'.get? b=some o)->Q (.int k t') { s with heap:=h',toks:=tk }) :
    wpAny (model X.prog X.w) A (call (.ref f) [.ref ta]) Q E s:=by
  obtain ⟨us,r',pt,hz'⟩:=I.tuple ht;obtain ⟨j',g1,g2,g3,g4,g5⟩:=jL hy;obtain ⟨w2,ew2,rw2⟩:=r'.get g2;obtain ⟨t2,rfl⟩:=rw2;have hl':=r'.length;have hn:=i9;refine wpAny_call (kla_callFunE room ho rfl hco hgen rfl hcd ?_);rw[hbind];refine GX (wpAny_newFunctionEnv hcell (λz hz=>by cases mem_singleton.mp hz;exact hlx) (λh₁ hns hsb=>⟨I.nolimit.fresh _ hsb,?_⟩) hk);have keep:∀b o,s.heap.get? b=some o->h₁.get? b=some o:=λb o e=>hsb.extBut b o (Hm (Hg e)) (GZ _ e);refine kla_codeExpr ?_;refine Subscript_ (wpAny_Name (wpAny_loadName_local (v:=.ref ta) hk hlx hns (by simp[List.lookup]) ?_) hdx);refine wpAny_Constant_int ?_;have pt1:IsTup h₁ ta us.toArray:=by
    obtain ⟨o,e,d⟩:=pt;exact ⟨o,keep _ _ e,d⟩
  refine subscriptTail_builtinR (x:=.int k t2) pt1.typeIs slot_tuple_getitem.lookup
    (getItem_tuple (j:=j') pt1 (by lia) (by lia) (by rw[Hk,<-hl'];exact g1) (by simpa using ew2) ⟨rfl,?_⟩) (by with_unfolding_all rfl)
  exact h _ _ _ keep
end
section
variable {X:Cx}
noncomputable def x9:List V->Hp->VK->Prop:=λxs H Q=>∃(a:Addr) (ps:List ((Int×Int)×Int)),xs = [.ref a]/\Rd H a (.dT (DL.encD ps)) /\
  ∀(l:Addr) (bs:List Addr),H l=none->Paired (λb p=>H b=some (.tup [.int p.1.1,.int p.1.2])) bs ps->Q (.ref l) (upd H l (.lst (bs.map V.ref)))
theorem gm:∀bs:List Addr,Vals (bs.map V.ref) (bs.map Value.ref)
  | []=>.nil
  | b::bs=>.cons rfl (gm bs)
theorem rl (hc:X.calm=true):dP X (.type "list") x9:=by
  intro pins s σ H xs us Q I r h;obtain ⟨a,ps,rfl,e,q⟩:=h;obtain ⟨u,rfl,ru⟩:=vals1 r;cases ru;obtain ⟨z,hd,xs,rel,o,es,ep,h1,h2,h3,h4,_⟩:=mP I.bf e;obtain ⟨bs,hb,hk⟩:=kI (P:=X.prog) (w:=X.w) rel;rw[<-h4] at hk;have hl:bs.length=ps.length:=Paired.length hb;have hsz:es.size=ps.length:=by
    have:=congrArg List.length hk;simp at this;lia
  have hz:es.size<=sizeLine:=by
    rw[hsz];have:(DL.encD ps).length=ps.length:=by unfold DL.encD;rw[Hh]
    lia
  refine kdl_call (DIt.src (ep:=ep) hd) (I.ok.hd hc) ⟨o,h1,h2,h3⟩ hz λh' tk acc' c' k' hD hacc=>?_;have ea:acc'.toList=bs.map Value.ref:=by
    rw[<-hk];refine List.ext_getElem? λj=>?_;rw[Hw];by_cases hj:j<es.size
    · have h1 : acc'[j]? = some (acc'[j]'(by rw [hacc.1];exact hj)) := Ha _;obtain ⟨en,e1,e2⟩:=hacc.2 j _ h1;rw[GY,GY,h1,e1,e2];rfl
    · rw [GY, GY, Array.getElem?_eq_none (by rw [hacc.1];lia), Array.getElem?_eq_none (by lia)];rfl
  refine ⟨.ref _,_,I.laid (t':=tk) k' (GW _) (o:=.lst (bs.map V.ref)) ⟨by rw[Hh];lia,bs.map Value.ref,c',gm bs,?_⟩,rfl,q _ bs (I.bf.fresh (GW _)) hb⟩;rw[<-ea,Array.toArray_toList];exact hD
theorem fS {α β:Type}{g:α->β}:∀{l1 l2:List β},l1.Perm l2->∀zs:List α,l2=zs.map g->∃zs':List α,zs'.Perm zs/\l1=zs'.map g:=by
  intro l1 l2 h;induction h with
  | nil =>
    intro zs e;exact ⟨[],by rw[List.map_eq_nil_iff.mp e.symm],rfl⟩
  | cons x _ ih =>
    intro zs e;cases zs with
    | nil=>cases e
    | cons z zs =>
      rw[map_cons] at e;obtain ⟨e1,e2⟩:=List.cons.inj e;obtain ⟨zs',p,r⟩:=ih zs e2;exact ⟨z::zs',p.cons z,by rw[r,e1];rfl⟩
  | swap x y l =>
    intro zs e;match zs,e with
    | z::z'::zs,e =>
      rw[map_cons,map_cons] at e;obtain ⟨e1,e2⟩:=List.cons.inj e;obtain ⟨e3,e4⟩:=List.cons.inj e2;exact ⟨z'::z::zs,.swap _ _ _,by rw[e1,e3,e4];rfl⟩
  | trans _ _ ih1 ih2 =>
    intro zs e;obtain ⟨zs2,p2,r2⟩:=ih2 zs e;obtain ⟨zs1,p1,r1⟩:=ih1 zs2 r2;exact ⟨zs1,p1.trans p2,r1⟩
theorem eu {α β:Type}{R R':α->β->Prop}(f:∀a b,R a b->R' a b):∀{xs:List α} {ys:List β},Paired R xs ys->Paired R' xs ys
  | _,_,.nil=>.nil
  | _,_,.cons h t=>.cons (f _ _ h) (eu f t)
theorem fi {α β:Type}{R:α->β->Prop}:∀{xs:List α} {ys:List β},Paired R xs ys->∀{z:α×β},z∈xs.zip ys->R z.1 z.2
  | _,_,.nil,_,h=>nomatch h
  | _,_,.cons h t,z,hz=>by
    rw[List.zip_cons_cons] at hz;rcases Hn.mp hz with e | e
    · subst e;exact h
    · exact fi t e
theorem gJ {α β:Type}{R:α->β->Prop}:∀{zs:List (α×β)},(∀z∈zs,R z.1 z.2)->Paired R (zs.map Prod.fst) (zs.map Prod.snd)
  | [],_=>.nil
  | z::zs,h=>.cons (h z (mem_cons_self ..)) (gJ λy hy=>h y (Hv _ hy))
noncomputable def g9 (ps:List ((Int×Int)×Int)):Prop:=ps.Pairwise λp q=>q.1.2<=p.1.2
noncomputable def j8 (ps ps':List ((Int×Int)×Int)):Prop:=ps'.Pairwise λp q=>∀i j:Nat,ps[i]?=some p->ps[j]?=some q->p.1.2=q.1.2->i<=j
noncomputable def Gu (t:TA):TA:=AN (ER x9 t) Ep
noncomputable def Cy (t:TA):TE:=λσ H Q=>Gu t σ H λus H2=>∃(l0:Addr) (bs:List Addr) (ps:List ((Int×Int)×Int)),us = [.ref l0]/\H2 l0=some (.lst (bs.map V.ref))/\Paired (λb p=>H2 b=some (.tup [.int p.1.1,.int p.1.2])) bs ps/\(ps.map (·.1)).Nodup /\
  ∀(l:Addr) (bs':List Addr) (ps':List ((Int×Int)×Int)) (H3:Hp),ai H2 H3->H3 l=none->ps'.Perm ps->g9 ps'->j8 ps ps'->Paired (λb p=>H3 b=some (.tup [.int p.1.1,.int p.1.2])) bs' ps'->Q (.ref l) (upd H3 l (.lst (bs'.map V.ref)))
theorem xN {P c:Addr}{x:Str}{params:Arguments}{scope:Scope}{e:Expr}{lpos kpos kpos2 cpos p pl posl pos p1 p4 p5:Pos}{kk jc:Nat}{t:TA}
    (hg:Gl X "sorted") (hm:X.mg "sorted" = none) (hgl:Gl X "list") (hml:X.mg "list" = none) (hc:X.calm=true) (room:bQ 0 X.A)
    (hcode:X.env.code=.ref c) (C:CodeHd X.base c P) (B:bV X.mg X.base) (hT:TabAt X.H₀ P (X.env.qual++"<lambda>"))
    (hcl:closureFor scope X.env=pure []) (hdef:defaultsOf params X.env=([],[]))
    (hbind:∀q pm c' ctv v,bindArgs (kla_fn "<lambda>" q params (.Subscript (.Name x p1) (.Constant (.int 1) kk p4) p5) scope [] pm (.ref c') ctv) ⟨[v],[]⟩=pure [(x,v)])
    (hk:scope.kind=.function) (hco:scope.isCoroutine=false) (hgen:scope.isGenerator=false) (hcell:∀z∈scope.names,z.2≠.cell) (hlx:scope.names.lookup x=some .local)
    (hdx:(x == ("__debug__" : Str))=false)
    (ha:PA X [e] t) (he0:autoParam (starEach [e] X.env = [(false,eval e X.env)]) aZa._auto_1)
    (he:autoParam (starEach [.Call (.Name "list" pl) [e] [] posl] X.env = [(false,eval (.Call (.Name "list" pl) [e] [] posl) X.env)]) aZa._auto_1) :
    PE X (.Call (.Name "sorted" p) [.Call (.Name "list" pl) [e] [] posl] [⟨some "key",.Lambda params (.Subscript (.Name x p1) (.Constant (.int 1) kk p4) p5) scope lpos,kpos⟩,⟨some "reverse",.Constant (.bool true) jc cpos,kpos2⟩] pos) (Cy t):=by
  intro pins s σ H Q I h;have hpa:PA X [.Call (.Name "list" pl) [e] [] posl] (Gu t):=eh (m9 (rl hc) hgl hml boot_list ha (he:=by rw[he0];rfl) (hpl:=rfl)) jf (by rw[he];rfl);refine wpAny_Call_Name_kw (fg I hg hm (show bootBuiltins "sorted" = some (.builtin "sorted") by first | rfl | decide) ?_ (by decide) (by decide));refine callWith_kw (bt (hpa pos pins s σ H _ I h) ?_) (by rw[he];rfl) (by rw[he];rfl) rfl rfl;rintro us s1 ⟨vs,H1,I1,r1,q1⟩;obtain ⟨l0,bs,ps,rfl,hl0,hbs,kn,fin⟩:=q1;obtain ⟨u,rfl,rx⟩:=vals1 r1;cases rx;show wpAny _ _ (evalAll [(do let v <-eval (.Lambda params (.Subscript (.Name x p1) (.Constant (.int 1) kk p4) p5) scope lpos) X.env;standAt pos;pure v),(do let v <-eval (.Constant (.bool true) jc cpos) X.env;standAt pos;pure v)]) _ _ s1;refine wpAny_evalAll_cons (GS (xm I1 hcode C B hT hcl hdef λf c' ctv pm h3 tk3 H3 I3 hH3 ho hfn hge hrec=>GS (wpAny_standAt (GX (wpAny_evalAll_cons (GS (wpAny_Constant_bool (GS (wpAny_standAt (GX (wpAny_evalAll_nil ?_)))))))))));show wpAny _ _ (call (.builtin "sorted") [.ref l0] [(Str.ofString "key",.ref f),(Str.ofString "reverse",.bool true)]) _ _ _;have s13:ai H1 H3:=by
    rcases hH3 with z | ⟨z,z'⟩
    · rw[z];exact ai.refl _
    · rw[z'];exact d4 z
  have hbs3:Paired (λb p=>H3 b=some (.tup [.int p.1.1,.int p.1.2])) bs ps:=eu (λ_ _ z=>s13 _ _ z) hbs;have hl:bs.length=ps.length:=Paired.length hbs;obtain ⟨hz,its,n0,rv,hit⟩:=(show bC X.prog X.w H3 h3 l0 (.lst (bs.map V.ref)) from I3.bf l0 _ (s13 _ _ hl0))
  have eits:its=bs.map Value.ref:=by
    clear hz hit hbs hbs3 hl hl0 fin kn;induction bs generalizing its with
    | nil=>cases rv;rfl
    | cons b bs ih =>
      cases rv with
      | cons h1 h2 =>
        cases h1;rw[ih _ h2];rfl
  subst eits;have bn:bs.Nodup:=by
    refine pairwise_iff_getElem.mpr λi j hi hj hij e=>?_;obtain ⟨b,eb,h1⟩:=DL.aB hbs3 (GV (i:=i) (by lia));obtain ⟨b',eb',h2⟩:=DL.aB hbs3 (GV (i:=j) (by lia));rw[GV hi] at eb;rw[GV hj] at eb';cases eb;cases eb';rw[e,h2] at h1;simp only[Option.some.injEq,HO.tup.injEq,List.cons.injEq,V.int.injEq,and_true] at h1;have hk:(ps.map (·.1))[i]?=(ps.map (·.1))[j]?:=by rw[Hw,Hw,GV (l:=ps) (i:=i) (by lia),GV (l:=ps) (i:=j) (by lia)];exact congrArg some (Prod.ext h1.1.symm h1.2.symm)
    have:=(List.getElem?_inj (by rw[Hh];lia) kn).mp hk;lia
  have pn:ps.Nodup:=List.Pairwise.imp (λ{a b} z e=>z (by rw[e])) (pairwise_map.mp kn);rw[Hh] at hz;refine Tim.rR (b:=true) (kz:=ps.map λp=>p.1.2) (vs:=bs.map Value.ref) (pairwise_map.mpr (bn.imp λ{a b} z e=>z (by cases e;rfl))) ⟨_,hit,rfl,_,rfl⟩ (by rw[Hh,Hh,hl]) (by rw[Hh];exact hz) (ksk_s2 _ _ _) (λx=>ksk_l2 _ _ _) (λx=>ksk_t2 _ x true)
    (λi' v k hv hk' h4 tk4 K4 Q4 q4=>?_) λD h5 d6 out c5 K5 hD hDo ko=>?_
  · rw[Hw] at hv hk';obtain ⟨p,hp,rfl⟩:=Option.map_eq_some_iff.mp hk';obtain ⟨b,eb,hb'⟩:=DL.aB hbs3 hp;rw[eb] at hv;cases hv;have I4:Inv X pins σ H3 { s1 with heap:=h4,toks:=tk4 }:=I3.kept (t':=tk4) K4;have hrec4:h4.CodeRec (.ref c') (X.env.qual++"<lambda>"):=by
      obtain ⟨c2,o2,vs2,t2,e2,gg,r2,r3⟩:=hrec;cases e2;exact ⟨c',o2,vs2,t2,rfl,K4 _ _ gg,r2,r3⟩
    refine u6 (j:=1) (ys:=[.int p.1.1,.int p.1.2]) I4 (K4 f _ ho) hrec4 (.inl (.inl hb')) rfl (hbind _ _ _ _) hk hco hgen hcell hlx hdx ?_ λh' tk t' keep=>q4 h' tk t' keep;have:=room.dp;show X.A.depth<_;lia
  · obtain ⟨⟨qs,hqp,hqo,hqs⟩,kst⟩:=ko;replace kst:=kst rfl;have ezip:(ps.map λp=>p.1.2).zip (bs.map Value.ref)=(bs.zip ps).map λz=>(z.2.1.2,Value.ref z.1):=by
      clear hz hit hbs hbs3 hl0 fin hqp rv kn bn pn kst;induction bs generalizing ps with
      | nil=>cases ps<;>rfl
      | cons b bs ih =>
        cases ps with
        | nil=>rfl
        | cons p ps =>
          rw[map_cons,map_cons,List.zip_cons_cons,List.zip_cons_cons,map_cons,ih ps (by simpa using hl)]
    rw[ezip] at hqp;obtain ⟨zs,hzp,rfl⟩:=fS hqp _ rfl;have eo:out.toList=(zs.map Prod.fst).map Value.ref:=by rw[hqo,map_map,map_map];rfl
    have zlen:zs.length=bs.length:=by rw[hzp.length_eq,List.length_zip];lia
    refine ⟨.ref D,_,I3.laid (s:={ s1 with heap:=h3,toks:=tk3 }) (t':=d6) K5 hD (o:=.lst ((zs.map Prod.fst).map V.ref)) ⟨by rw[Hh,Hh];lia,(zs.map Prod.fst).map Value.ref,c5,gm _,?_⟩,rfl,fin D (zs.map Prod.fst) (zs.map Prod.snd) H3 s13 (I3.bf.fresh hD) ?_ ?_ ?_ ?_⟩
    · rw[<-eo,Array.toArray_toList];exact hDo
    · have:=hzp.map Prod.snd;rw[List.map_snd_zip (by lia)] at this;exact this
    · unfold g9;rw[pairwise_map] at hqs ⊢;exact hqs.imp λ{p q} z=>z
    · unfold Tim.CI at kst;rw[eo,pairwise_map,pairwise_map] at kst;unfold j8;rw[pairwise_map];refine List.Pairwise.imp_of_mem (λ{z z'} h1 h2 hr i j e1 e2 e3=>?_) kst;have at_:∀z∈zs,∀i:Nat,ps[i]?=some z.2->bs[i]?=some z.1:=λz hz i e=>by
        obtain ⟨m,hm,em⟩:=List.mem_iff_getElem.mp (hzp.mem_iff.mp hz);rw[List.length_zip] at hm;rw[List.getElem_zip] at em;have h3:ps[m]?=some z.2:=by rw[<-em];exact GV (by lia)
        have:m=i:=(List.getElem?_inj (by lia) pn).mp (h3.trans e.symm);subst this;rw[<-em];exact GV (by lia)
      refine hr i j z.2.1.2 ?_ ?_ ?_ ?_
      · rw[Hw,at_ z h1 i e1];rfl
      · rw[Hw,at_ z' h2 j e2];rfl
      · rw[Hw,e1];rfl
      · rw[Hw,e2,e3];rfl
    · exact gJ λz hz=>fi hbs3 (hzp.mem_iff.mp hz)
end
end L2
set_option maxHeartbeats 1000000
namespace L2
open PySem PySem.Spec PyProof.Rows
section
variable {X:Cx}
noncomputable def j4 (h:Heap):GR->List Int
  | .ref a=>match h.get? a with
    | some o=>match o.data with
      | .seq xs _=>xs.toList.map numOf
      | _=>[]
    | none=>[]
  | _=>[]
theorem Ae {h:Heap}{v:GR}{ns:List Int}(t:SoT.Tp h v ns):j4 h v=ns:=by
  obtain ⟨a,o,xs,n,rfl,h1,h2,h3,h4⟩:=t;unfold j4;dsimp only;rw[h1];dsimp only;rw[h3];exact h4.nums
noncomputable def Ck (K:Frag):List V->Hp->VK->Prop:=λxs H Q=>∃(a:Addr) (bs:List Addr) (nss:List (List Int)) (c:Nat),xs = [.ref a]/\cb K H a (bs.map V.ref)/\Paired (λb ns=>fA K H b (ns.map V.int)) bs nss/\bs.Nodup/\0<c/\(∀ns∈nss,ns.length=c) /\
  ∀(l:Addr) (zs:List (Addr×List Int)),H l=none->zs.Perm (bs.zip nss)->zs.Pairwise (λp q=>Tim.c0 q.2 p.2=false)->Q (.ref l) (upd H l (.lst ((zs.map Prod.fst).map V.ref)))
theorem ur:∀{bs:List Addr} {its:List GR},Vals (bs.map V.ref) its->its=bs.map Value.ref
  | [],_,h=>by cases h;rfl
  | b::bs,_,h=>by
    cases h with
    | cons h1 h2 =>
      cases h1;rw[ur h2];rfl
theorem rm:dP X (.builtin "sorted") (Ck X.K):=by
  intro pins s σ H xs us Q I r h;obtain ⟨a,bs,nss,c,rfl,hs,hb,bn,hc,hl,q⟩:=h;obtain ⟨u,rfl,ru⟩:=vals1 r;cases ru;obtain ⟨its,rv,pl,hz⟩:=I.list hs;rw[Hh] at hz;cases ur rv;have hlen:bs.length=nss.length:=Paired.length hb;have tp:∀z∈bs.zip nss,SoT.Tp s.heap (.ref z.1) z.2:=λz hz'=>by
    obtain ⟨us,rr,⟨o,e1,e2,m,e3⟩,_⟩:=I.tuple (fi hb hz');exact ⟨z.1,o,us.toArray,m,rfl,e1,e2,e3,by simpa using intsAre_of rr⟩
  have tz:∀z∈bs.zip nss,j4 s.heap (.ref z.1)=z.2:=λz hz'=>Ae (tp z hz');have ebs:bs.map Value.ref=(bs.zip nss).map λz=>Value.ref z.1:=by
    have:(bs.zip nss).map Prod.fst=bs:=List.map_fst_zip (by lia);conv=>lhs;rw[<-this]
    rw[map_map];rfl
  refine Tim.sk (f:=j4 s.heap) (c:=c) pl.isList (pairwise_map.mpr (bn.imp λ{a b} z e=>z (by cases e;rfl))) (λv hv=>?_) hc (by rw[Hh];exact hz) λD h' n out hD k' hDo hp ho=>?_
  · rw[ebs] at hv;obtain ⟨z,hz',rfl⟩:=mem_map.mp hv;have:=tp z hz';rw[tz z hz'];exact ⟨this,hl _ (List.of_mem_zip hz').2⟩
  · rw[ebs] at hp;obtain ⟨zs,hzp,rfl⟩:=fS hp _ rfl;have em:zs.map (λz=>Value.ref z.1)=(zs.map Prod.fst).map Value.ref:=by rw[map_map];rfl
    rw[em] at hDo;have zlen:zs.length=bs.length:=by rw[hzp.length_eq,List.length_zip];lia
    refine ⟨.ref D,_,I.laid (t':=s.toks) k' hD (o:=.lst ((zs.map Prod.fst).map V.ref)) ⟨by rw[Hh,Hh];lia,(zs.map Prod.fst).map Value.ref,n,gm _,hDo⟩,rfl,q D zs (I.bf.fresh hD) hzp ?_⟩;rw[pairwise_map] at ho;refine List.Pairwise.imp_of_mem (λ{p q} h1 h2 z=>?_) ho;rw[tz p (hzp.mem_iff.mp h1),tz q (hzp.mem_iff.mp h2)] at z;exact z
end
end L2
namespace DL
open PySem L2 PyProof.Rows PySem.W
noncomputable def vJ (ns:List Int):D:=.tup (ns.map D.int)
noncomputable def j6 (mss:List (List Int)):Prop:=mss.Pairwise λa b=>Tim.c0 b a=false
noncomputable def nS:DR:=λds P=>match ds with
  | [.lst xs]=>∃(nss:List (List Int)) (c:Nat),xs=nss.map vJ/\nss.Nodup/\0<c/\(∀ns∈nss,ns.length=c)/\∀mss:List (List Int),mss.Perm nss->j6 mss->P (.o (.lst (mss.map vJ)))
  | _=>False
theorem nr {K:Frag}{G:Hp}:∀{us:List V} {nss:List (List Int)},aE K G us (nss.map vJ)->∃bs:List Addr,us=bs.map V.ref/\Paired (λb ns=>G b=some (.tup (ns.map V.int))) bs nss
  | _,[],h=>by
    have h:aE K G _ []:=h;cases h;exact ⟨[],rfl,.nil⟩
  | _,ns::nss,h=>by
    have h:aE K G _ (vJ ns::nss.map vJ):=h;cases h with
    | cons h1 h2 =>
      obtain ⟨bs,rfl,hb⟩:=nr h2;obtain ⟨b,vs,rfl,e,rr⟩:=Rep.sA h1;rw[dJ rr] at e;exact ⟨b::bs,rfl,.cons e hb⟩
theorem pz {X:Cx}:CallD X (.builtin "sorted") nS:=by
  refine ⟨_,rm,λH G vs ds P Q s r h k=>?_⟩;unfold nS at h;split at h
  · obtain ⟨nss,c,rfl,nd,hc,hl,h⟩:=h;obtain ⟨v,rfl,rv⟩:=du r;obtain ⟨a,us,rfl,e,rr⟩:=rv.lst_inv;obtain ⟨bs,rfl,hb⟩:=nr rr;have bn:bs.Nodup:=by
      have hl':bs.length=nss.length:=Paired.length hb;refine pairwise_iff_getElem.mpr λi j hi hj hij e=>?_;obtain ⟨b,eb,h1⟩:=DL.aB hb (GV (i:=i) (by lia));obtain ⟨b',eb',h2⟩:=DL.aB hb (GV (i:=j) (by lia));rw[GV hi] at eb;rw[GV hj] at eb';cases eb;cases eb';rw[e,h2] at h1;simp only[Option.some.injEq,HO.tup.injEq] at h1;have h3:=(List.map_inj_right (λx y z=>by cases z;rfl)).mp h1;have:=(List.getElem?_inj (by lia) nd).mp ((GV (l:=nss) (i:=j) (by lia)).trans ((congrArg some h3).trans (GV (l:=nss) (i:=i) (by lia)).symm));lia
    refine ⟨a,bs,nss,c,rfl,cb.of (s _ _ e),eu (λb ns z=>.inl (.inl (s _ _ z))) hb,bn,hc,hl,λl zs hl' hp ho=>?_⟩;have hlen:bs.length=nss.length:=Paired.length hb;have hp2:(zs.map Prod.snd).Perm nss:=by
      have:=hp.map Prod.snd;rw[List.map_snd_zip (by lia)] at this;exact this
    have hr:aE X.K G ((zs.map Prod.fst).map V.ref) ((zs.map Prod.snd).map vJ):=by
      have:∀z∈zs,G z.1=some (.tup (z.2.map V.int)):=λz hz=>fi hb (hp.mem_iff.mp hz);clear hp ho hp2;induction zs with
      | nil=>exact .nil
      | cons z zs ih=>exact .cons (Rep.sy (this z (mem_cons_self ..)) (dG z.2)) (ih λy hy=>this y (Hv _ hy))
    obtain ⟨w2,r2⟩:=cG (Wd.refl s) hl' hr;exact k _ _ _ _ (h _ hp2 (by unfold j6;rw[pairwise_map];exact ho)) w2 r2
  · exact h.elim
section
variable {X:Cx} {e:Expr}
noncomputable def rp (t:dj):DT:=λρ Q=>t ρ λds=>match ds with
  | [.dct kvs]=>(kvs.map (·.1)).Nodup/\∀ps:cy,ps.Perm kvs->g9 ps->j8 kvs ps->Q (.o (.lst (xk ps)))
  | _=>False
theorem wD {P c:Addr}{x:Str}{params:Arguments}{scope:Scope}{lpos kpos kpos2 cpos p pl posl pos p1 p4 p5:Pos}{kk jc:Nat}{t:dj}
    (hg:Gl X "sorted") (hm:X.mg "sorted" = none) (hgl:Gl X "list") (hml:X.mg "list" = none) (hc:X.calm=true) (room:bQ 0 X.A)
    (hcode:X.env.code=.ref c) (C:PySem.W.codeHdIn X.K c P=true) (DB:X.K.In X.base) (B:bV X.mg X.base) (hT:TabAt X.H₀ P (X.env.qual++"<lambda>"))
    (hcl:closureFor scope X.env=pure []) (hdef:defaultsOf params X.env=([],[]))
    (hbind:∀q pm c' ctv v,bindArgs (kla_fn "<lambda>" q params (.Subscript (.Name x p1) (.Constant (.int 1) kk p4) p5) scope [] pm (.ref c') ctv) ⟨[v],[]⟩=pure [(x,v)])
    (hk:scope.kind=.function) (hco:scope.isCoroutine=false) (hgen:scope.isGenerator=false) (hcell:∀z∈scope.names,z.2≠.cell) (hlx:scope.names.lookup x=some .local)
    (hdx:(x == ("__debug__" : Str))=false)
    (ha:DA X [e] t) (he0:autoParam (starEach [e] X.env = [(false,eval e X.env)]) aZa._auto_1)
    (he:autoParam (starEach [.Call (.Name "list" pl) [e] [] posl] X.env = [(false,eval (.Call (.Name "list" pl) [e] [] posl) X.env)]) aZa._auto_1) :
    DE X (.Call (.Name "sorted" p) [.Call (.Name "list" pl) [e] [] posl] [⟨some "key",.Lambda params (.Subscript (.Name x p1) (.Constant (.int 1) kk p4) p5) scope lpos,kpos⟩,⟨some "reverse",.Constant (.bool true) jc cpos,kpos2⟩] pos) (rp t):=
  DE.of (xN hg hm hgl hml hc room hcode (codeHd_of_K DB C) B hT hcl hdef hbind hk hco hgen hcell hlx hdx ha.pa he0 he)<|by
    rintro σ H Q ⟨G,ρ,PP,s,re,h,k⟩;refine ⟨G,ρ,_,s,re,h,λds vs H1 G1 p1 l1 w1 r1=>?_⟩;split at p1
    · rename_i kvs;obtain ⟨v,rfl,rv⟩:=du r1;cases rv with
      | dct e =>
        refine ⟨_,kvs,rfl,ft w1.gh e,λl bs hl hb=>⟨l,bs,kvs,rfl,ay,?_,p1.1,λl2 bs' ps' H3 s3 hl2 hp hf hst hb'=>?_⟩⟩
        · exact eu (λb p z=>by rw[aw (aH z hl)];exact z) hb
        · have w3:Wd H G H3 G1:=⟨(w1.hh.trans (d4 hl)).trans s3,w1.gg,(w1.gh.trans (d4 hl)).trans s3,w1.old⟩
          obtain ⟨G',w',r'⟩:=vM (K:=X.K) w3.gh hl2 hb';refine k _ _ _ G' (p1.2 ps' hp hf hst) (w3.trans w') ?_;exact r'.ahead w3.hh
    · exact p1.elim
end
section
variable {X:Cx} {e:Expr} {te:DT} {i:Nat} {x:Str} {pos px:Pos}
theorem qt {K:Frag}{H0 G0 H G G1 H' G':Hp}{σ:L2.St}{ρ:ar}{v:V}{ds:List D}(w:Wd H0 G0 H G)(w1:Wd H0 G0 H G1)(en:aD K H0 G H σ ρ)(w':Wd H G1 H' G')(r':eD K H G' H' v (.o (.lst ds)))(fl:ds.all D.flat=true) :
    ∃(a:Addr) (vs:List V) (G4:Hp),v=.ref a/\H a=none/\H' a=some (.lst vs)/\G4 a=some (.lst vs)/\aE K G4 vs ds/\Wd H0 G0 H' G4/\aD K H0 G4 H' σ ρ:=by
  obtain ⟨a,rfl,ha,ga,vs,hv,rr⟩:=r';obtain ⟨G3,w3,s3,_,k4,o3⟩:=C0 (K:=K) w w1 w';have k3:∀c us,G' c=some (.tup us)->G3 c=some (.tup us):=λc us e=>k4 c us (w'.gh _ _ e);have g3:G3 a=none:=by
    rw[o3 a (λus z=>by rw[hv] at z;cases z) (λo us z=>by rw[hv] at z;cases z)];exact w.gh.free ha
  have w4:Wd H0 G0 H' (upd G3 a (.lst vs)):=w3.give (.inl (w.hh.free ha)) g3 hv;have s4:ai G3 (upd G3 a (.lst vs)):=d4 g3;have en4:aD K H0 (upd G3 a (.lst vs)) H' σ ρ:=(en.more (s3.trans s4) λx gx hx=>by
    have xa:x≠a:=by
      rintro rfl;rcases hx with ⟨_,z⟩ | ⟨_,z⟩<;>rw[ha] at z<;>cases z
    rw[aw xa,o3 x,gx]
    · intro us z;rcases hx with ⟨_,y⟩ | ⟨_,y⟩<;>have:=w'.hh _ _ y<;>rw[z] at this<;>cases this
    · intro o us z;rcases hx with ⟨_,y⟩ | ⟨_,y⟩<;>have:=w'.hh _ _ y<;>rw[z] at this<;>cases this).back w'.hh
  exact ⟨a,vs,_,rfl,ha,hv,ay,aE.mono s4 (aE.flat k3 rr fl),w4,en4⟩
noncomputable def wy (i:Nat)(te:DT):fz:=λE ρ=>te (cx ρ) λb=>match b with
  | .o (.lst ds)=>ds.all D.flat=true/\E.nx (dput ρ i (.p (.lst ds)))
  | _=>False
theorem tQ (hN:X.N.Nodup)(hi:X.N[i]?=some x)(hx:Loc X.env.scope x)(he:DE X e te)(hs:autoParam (swapsWith e (some (.Name x px)) pos.line X.env=pure false) aZa._auto_1)(hf:autoParam (X.fn x=true\/X.env.scope.names.lookup x=some .local) aZd._auto_1) :
    DS X (.Assign [.Name x px] e pos) (wy i te):=DS.mk λH0 G0=>PS.imp (oN hN hi hx he.pe hs hf)<|by
  rintro Dn σ H ⟨E,G,ρ,eo,w,en,h⟩;obtain ⟨G1,w1,sg,e1⟩:=en.freeze w;refine ⟨G1,cx ρ,_,w1.gh,e1.p,h,λb v H' G' p' w' r'=>?_⟩;split at p'
  · rename_i ds;obtain ⟨a,vs,G4,rfl,ha,hv,ga,rr,w4,en4⟩:=qt w w1 en w' r' p'.1;exact eo.nx _ H' G4 _ w4 (en4.sj i (Rep.zy ga rr)) p'.2
  · exact p'.elim
variable {apos cpos spos:Pos}
noncomputable def sW (i:Nat)(te:DT):fz:=λE ρ=>match bp ρ i with
  | some (.o (.lst ds))=>te (cx ρ) λb=>match b with
    | .o (.lst es)=>es.all D.flat=true/\ds.length+es.length<=sizeLine/\E.nx (dput ρ i (.o (.lst (ds++es))))
    | _=>False
  | _=>False
theorem yU (hN:X.N[i]?=some x)(hv:vU X.env.scope x)(he:DE X e te)(hd:autoParam ((x == ("__debug__" : Str))=false) aZb._auto_1)(hcd:autoParam ((x == ("__classdict__" : Str))=false) aZb._auto_1)
    (hbase:autoParam (attributeBase (.Name x px) "extend" X.env (eval (.Name x px) X.env)=eval (.Name x px) X.env) aZa._auto_1)
    (hfew:autoParam (((backTo cpos (starEach (e::[]) X.env)).all (λx=>!x.1) && (backToKw cpos (keywordEach [] X.env)).all (λx=>x.1.isSome)
      && decide ((e::[]).length+([]:List Keyword).length+(if ([]:List Keyword).isEmpty then 0 else 1)<30))=true) aZa._auto_1)
    (hline:autoParam ((apos.endLine == cpos.line)=true) aZa._auto_1) (hs:autoParam (starEach (e::[]) X.env=(false,eval e X.env)::starEach [] X.env) aZa._auto_1) (hplain:autoParam ((backTo cpos (starEach [] X.env)).any (·.1)=false) aZa._auto_1)
    (hsw:autoParam (swapsWith (.Call (.Attribute (.Name x px) "extend" apos) [e] [] cpos) none spos.line X.env=pure false) aZa._auto_1) :
    DS X (.Expr (.Call (.Attribute (.Name x px) "extend" apos) [e] [] cpos) spos) (sW i te):=DS.mk λH0 G0 =>
  PS.imp (uj (AD PySem.F.plainAttrs_list PySem.F.slot_list_extend PySem.F.type_list_extend vi (fR hN hv hd hcd) (eh he.pe jf hs) hbase hfew hline hs hplain) hsw)<|by
    rintro Dn σ H ⟨E,G,ρ,eo,w,en,h⟩;unfold sW at h;split at h
    · rename_i ds q;obtain ⟨a,h1,h2,h3,vs,h4,h5⟩:=en.o i _ q;obtain ⟨G1,w1,sg,e1⟩:=en.freeze w;refine ⟨_,h1,.inl ⟨rfl,_,cb.of h4⟩,G1,cx ρ,_,w1.gh,e1.p,h,λb v H' G' p' w' r'=>?_⟩;split at p'
      · rename_i es;obtain ⟨b,us,G4,rfl,hb,hb',gb,rr,w4,en4⟩:=qt w w1 en w' r' p'.1;have hl:H' a=some (.lst vs):=w'.hh _ _ h4;obtain ⟨a',k1,k2,k3⟩:=en4.o i _ q;rw[h1] at k1;cases k1;obtain ⟨k3b,vs',k5,k6⟩:=k3;rw[hl] at k5;cases k5;exact ⟨a,b,vs,us,rfl,rfl,hl,hb',by rw[Paired.length k6,Paired.length rr];exact p'.2.1,eo.nx σ _ G4 _ (w4.own k2 k3b) (en4.Eh q h1 (bF k6 rr)) p'.2.2⟩
      · exact p'.elim
    · exact h.elim
end
section
variable {X:Cx} {e:Expr} {te:DT} {x:Str} {pos px:Pos}
noncomputable def v9 (z y:Int)(te:DT):DT:=λρ Q=>te ρ λb=>match b.val with
  | .tup ds=>ds≠[]/\ds.length+2<=sizeLine/\Q (.p (.tup ([.int z,.int y]++ds)))
  | _=>False
noncomputable def sR (z y:Int)(te:DT):DT:=λρ Q=>te ρ λb=>match b.val with
  | .tup ds=>ds≠[]/\ds.length+2<=sizeLine/\Q (.p (.tup (ds++[.int z,.int y])))
  | _=>False
theorem yR {z y:Int}(he:DE X e te)(hB:CT X.K X.mg x z y)(hg:Gl X x)(hdb:autoParam ((x == ("__debug__" : Str))=false) aZb._auto_1):DE X (.BinOp e .Add (.Name x px) pos) (sR z y te):=by
  obtain ⟨c,hm,hc⟩:=hB;refine DE.of (xK oK he.pe (ug (v:=.ref c) hg hm rfl hdb)) ?_;rintro σ H Q ⟨G,ρ,P,s,re,h,k⟩;refine ⟨G,ρ,_,s,re,h,λb v H1 G1 p1 w1 r1=>?_⟩;obtain ⟨G2,w2,r2⟩:=r1.give w1;split at p1
  · rename_i ds ee;rw[ee] at r2;obtain ⟨a,us,rfl,e',rr⟩:=r2.bL;refine ⟨a,c,us,[.int z,.int y],rfl,rfl,ah w2.gh e',hc _,λz=>?_,by rw[Paired.length rr];exact p1.2.1,λz=>(nomatch z),λ_ p hp=>?_⟩
    · subst z;cases rr;exact p1.1 rfl
    · obtain ⟨w3,r3⟩:=iJ w2 hp (bF rr (.cons (.int z) (.cons (.int y) .nil)));exact k _ _ _ _ p1.2.2 w3 r3
  · exact p1.elim
theorem yQ {z y:Int}(he:DE X e te)(hB:CT X.K X.mg x z y)(hg:Gl X x)(hdb:autoParam ((x == ("__debug__" : Str))=false) aZb._auto_1):DE X (.BinOp (.Name x px) .Add e pos) (v9 z y te):=by
  obtain ⟨c,hm,hc⟩:=hB;refine DE.of (xK oK (ug (v:=.ref c) hg hm rfl hdb) he.pe) ?_;rintro σ H Q ⟨G,ρ,P,s,re,h,k⟩;refine ⟨G,ρ,_,s,re,h,λb v H1 G1 p1 w1 r1=>?_⟩;obtain ⟨G2,w2,r2⟩:=r1.give w1;split at p1
  · rename_i ds ee;rw[ee] at r2;obtain ⟨a,us,rfl,e',rr⟩:=r2.bL;refine ⟨c,a,[.int z,.int y],us,rfl,rfl,hc _,ah w2.gh e',(λz=>nomatch z),by rw[Paired.length rr,Nat.add_comm];exact p1.2.1,λz=>?_,λ_ p hp=>?_⟩
    · subst z;cases rr;exact (p1.1 rfl).elim
    · obtain ⟨w3,r3⟩:=iJ w2 hp (bF (.cons (.int z) (.cons (.int y) .nil)) rr);exact k _ _ _ _ p1.2.2 w3 r3
  · exact p1.elim
end
end DL
namespace WS
open PySem PySem.SetTable
noncomputable def vN (x:Nat):Nat:=5*x+1
noncomputable def fH:Nat->Nat->Nat
  | 0,x=>x
  | n+1,x=>fH n (vN x)
theorem pX (a b x:Nat):fH (a+b) x=fH b (fH a x):=by
  induction a generalizing x with
  | zero=>rw[Nat.zero_add];rfl
  | succ a ih=>rw[Nat.succ_add];exact ih (vN x)
theorem tU:∀k:Nat,∃u v:Nat,v % 2=1/\∀x,fH (2 ^ k) x=(1+2 ^ (k+2)*u)*x+2 ^ k*v
  | 0=>⟨1,1,rfl,λx=>by show 5*x+1=_;lia⟩
  | k+1=>by
    obtain ⟨u,v,hv,h⟩:=tU k;refine ⟨u+2 ^ (k+1)*u*u,v*(1+2 ^ (k+1)*u),?_,λx=>?_⟩
    · have e : 2 ^ (k + 1) * u = 2 * (2 ^ k * u) := by rw [Nat.pow_succ];ac_rfl
      rw[Nat.mul_mod,e,Nat.add_mod,Nat.mul_mod_right,hv]
    · rw [show 2 ^ (k + 1) = 2 ^ k + 2 ^ k by rw [Nat.pow_succ];lia, pX, h, h];have p1:2 ^ (k+2)=4*2 ^ k:=by rw[Nat.pow_add];lia
      have p3:2 ^ (k+1+2)=8*2 ^ k:=by rw[Nat.pow_add,Nat.pow_add];lia
      rw[p1,p3];generalize 2 ^ k=q
      grind
theorem fL (m:Nat):∀(n x:Nat),fH n (x % m) % m=fH n x % m
  | 0,x=>Nat.mod_mod _ _
  | n+1,x=>by
    show fH n (vN (x % m)) % m=fH n (vN x) % m;rw[<-fL m n (vN (x % m)),<-fL m n (vN x)];have e:vN (x % m) % m=vN x % m:=by
      unfold vN;rw[Nat.add_mod,Nat.mul_mod,Nat.mod_mod,<-Nat.mul_mod,<-Nat.add_mod]
    rw[e]
theorem p7 {q y:Nat}(hq:0<q)(hy:y<2*q):(y<q/\y % q=y)\/(q<=y/\y % q=y - q):=by
  by_cases h:y<q
  · exact .inl ⟨h,Nat.mod_eq_of_lt h⟩
  · refine .inr ⟨by lia, ?_⟩;rw[Nat.mod_eq_sub_mod (by lia),Nat.mod_eq_of_lt (by lia)]
theorem Ag {q y j:Nat}(hq:0<q)(hy:y<2*q)(hj:j<2*q)(e:y % q=j % q)(hne:¬y=j):(y+q) % (2*q)=j:=by
  rcases p7 hq hy with ⟨a1,a2⟩ | ⟨a1,a2⟩<;>rcases p7 hq hj with ⟨b1,b2⟩ | ⟨b1,b2⟩
  · lia
  · rw[Nat.mod_eq_of_lt (by lia)];lia
  · rw[show y+q=(y - q)+2*q by lia,Nat.add_mod_right,Nat.mod_eq_of_lt (by lia)];lia
  · lia
theorem oo:∀(k x j:Nat),j<2 ^ k->∃n,n<2 ^ k/\fH n x % 2 ^ k=j
  | 0, x, j, hj => ⟨0, by decide, by have : j = 0 := by lia
                                     subst this;exact Nat.mod_one _⟩
  | k+1,x,j,hj=>by
    have p1:2 ^ (k+1)=2*2 ^ k:=by rw[Nat.pow_succ];lia
    have q0:0<2 ^ k:=Nat.two_pow_pos k;obtain ⟨n,hn,e⟩:=oo k x (j % 2 ^ k) (Nat.mod_lt _ q0);obtain ⟨u,v,hv,h⟩:=tU k;have d1:=Nat.div_add_mod (fH n x) (2 ^ (k+1));have l1:=Nat.mod_lt (fH n x) (show 0<2 ^ (k+1) by lia);have e2:fH n x % 2 ^ (k+1) % 2 ^ k=j % 2 ^ k:=by rw[p1,Nat.mod_mul_left_mod];exact e
    by_cases hh:fH n x % 2 ^ (k+1)=j
    · exact ⟨n,by lia,hh⟩
    · refine ⟨n + 2 ^ k, by lia, ?_⟩;rw[pX,<-fL,h];generalize fH n x % 2 ^ (k+1)=y at *;have hy:(1+2 ^ (k+2)*u)*y+2 ^ k*v=(y+2 ^ k)+2 ^ (k+1)*(2*u*y+v / 2):=by
        have hv2:v=2*(v / 2)+1:=by lia
        have p2:2 ^ (k+2)=4*2 ^ k:=by rw[Nat.pow_add];lia
        rw[p1,p2];generalize v / 2=t at hv2 ⊢;subst hv2;generalize 2 ^ k=q
        grind
      rw[hy,Nat.add_mul_mod_self_left];rw[p1] at l1 ⊢;exact Ag q0 l1 (by lia) e2 hh
noncomputable def m5 (mask:Nat):Nat->Nat×Nat->Nat×Nat
  | 0,s=>s
  | n+1,s=>m5 mask n (leap mask s.1 s.2)
theorem jV (mask a b:Nat)(s:Nat×Nat):m5 mask (a+b) s=m5 mask b (m5 mask a s):=by
  induction a generalizing s with
  | zero=>rw[Nat.zero_add];rfl
  | succ a ih=>rw[Nat.succ_add];exact ih _
theorem oA (mask:Nat):∀(n:Nat) (s:Nat×Nat),(m5 mask n s).2=s.2 / 32 ^ n
  | 0,s=>by rw[Nat.pow_zero,Nat.div_one];rfl
  | n+1,s=>by
    show (m5 mask n (leap mask s.1 s.2)).2=_;rw[oA mask n];show s.2 / 32 / 32 ^ n=_;rw[Nat.div_div_eq_div_mul,Nat.pow_succ,Nat.mul_comm]
theorem kU (mask:Nat):∀(n x:Nat),(m5 mask n (x % (mask+1),0)).1=fH n x % (mask+1)
  | 0,x=>rfl
  | n+1,x=>by
    show (m5 mask n ((x % (mask+1)*5+1+0 / 32) % (mask+1),0 / 32)).1=_;rw[Nat.zero_div,Nat.add_zero,kU mask n (x % (mask+1)*5+1)];show fH n (x % (mask+1)*5+1) % (mask+1)=fH n (vN x) % (mask+1);rw[<-fL,<-fL (mask+1) n (vN x)];congr 2;unfold vN;rw[Nat.add_mod,Nat.mul_comm,Nat.mul_mod,Nat.mod_mod,<-Nat.mul_mod,<-Nat.add_mod]
theorem qe {mask k i p j:Nat}(hm:mask+1=2 ^ k)(hp:p<2 ^ 64)(hj:j<=mask):∃n,n<13+2 ^ k/\(m5 mask n (i,p)).1=j:=by
  have h2:=oA mask 13 (i,p);have z:p / 32 ^ 13=0:=Nat.div_eq_of_lt (Ho hp (by decide));rw[z] at h2;generalize hs:m5 mask 13 (i,p)=s at h2;obtain ⟨x,y⟩:=s;have hy:y=0:=h2;subst hy;have hx:x=x % (mask+1):=by
    have e:m5 mask 13 (i,p)=m5 mask 1 (m5 mask 12 (i,p)):=jV mask 12 1 _;rw[hs] at e;have e1:x=(leap mask (m5 mask 12 (i,p)).1 (m5 mask 12 (i,p)).2).1:=congrArg Prod.fst e;rw[e1];show _ % (mask+1)=_ % (mask+1) % (mask+1);rw[Nat.mod_mod]
  obtain ⟨n,hn,e⟩:=oo k x j (by lia);refine ⟨13+n,by lia,?_⟩;rw[jV,hs,hx,kU,hm];exact e
theorem lF (mask i:Nat):runEnd mask i - i<=9:=by
  unfold runEnd;split<;>lia
section
variable {t:SetTable} {hashAt:Nat->Int} {h:Int}
theorem tY (fuel:Nat)(p:Probe)(H:∀d,probe.go t hashAt h fuel (t.advance { p with dummy:=d })≠none):probe.go t hashAt h (fuel+1) p≠none:=by
  unfold probe.go;split
  · exact λz=>nomatch z
  · exact H _
  · split
    · exact λz=>nomatch z
    · exact H p.dummy
theorem rK:∀(m fuel:Nat) (p:Probe),p.more=m->(∀d,probe.go t hashAt h fuel (t.advance { p with more:=0,dummy:=d })≠none)->probe.go t hashAt h (fuel+m+1) p≠none
  | 0,fuel,p,e,H=>tY fuel p λd=>by
    have:=H d;rw[show ({ p with dummy:=d }:Probe) = { p with more:=0,dummy:=d } by rw[<-e]];exact this
  | m+1,fuel,p,e,H=>tY (fuel+(m+1)) p λd=>by
    have ea:t.advance { p with dummy:=d } = { p with j:=p.j+1,more:=p.more - 1,dummy:=d }:=by
      unfold advance;rw[if_pos (show ({ p with dummy:=d }:Probe).more>0 by show p.more>0;lia)]
    rw[ea];exact rK m fuel _ (by show p.more - 1=m;lia) H
theorem p6:∀(n fuel:Nat) (p:Probe) (j0:Nat),p.j=p.i->p.more=runEnd t.mask p.i - p.i->(m5 t.mask n (p.i,p.perturb)).1=j0->t.slot j0=.empty->10*n<fuel->probe.go t hashAt h fuel p≠none
  | 0,fuel,p,j0,hj,_,e,hs,hf=>by
    obtain ⟨f,rfl⟩ : ∃f,fuel=f+1:=⟨fuel - 1,by lia⟩
    have:t.slot p.j=.empty:=by rw[hj];rw[<-hs,<-e];rfl
    unfold probe.go;rw[this];exact λz=>nomatch z
  | n+1,fuel,p,j0,hj,hm,e,hs,hf=>by
    have hr:=lF t.mask p.i;obtain ⟨f,rfl⟩ : ∃f,fuel=f+p.more+1:=⟨fuel - p.more - 1,by lia⟩
    refine rK p.more f p rfl λd=>?_;have ea:t.advance { p with more:=0,dummy:=d } = { p with j:=(leap t.mask p.i p.perturb).1,more:=runEnd t.mask (leap t.mask p.i p.perturb).1 - (leap t.mask p.i p.perturb).1,i:=(leap t.mask p.i p.perturb).1,perturb:=(leap t.mask p.i p.perturb).2,dummy:=d }:=rfl;rw[ea];exact p6 n f _ j0 rfl rfl e hs (by lia)
end
end WS
namespace WS
open PySem PySem.SetTable
noncomputable def yy (xs:Array Nat):Prop:=∀a b,a<b->b<xs.size->xs.getD a 0<xs.getD b 0
theorem wY {xs:Array Nat}{i:Nat}(h:i<xs.size)(d:Nat):xs.getD i d=xs.getD i 0:=by
  rw[Array.getD_eq_getD_getElem?,Array.getD_eq_getD_getElem?,Ha h];rfl
theorem kf {xs:Array Nat}{j:Nat}(R:yy xs):∀(fuel lo hi:Nat),hi<=xs.size->lo<=hi->hi - lo<=fuel->(∀i,i<lo->xs.getD i 0<j)->(∀i,hi<=i->i<xs.size->j<=xs.getD i 0) ->
    below.go xs j fuel lo hi<=xs.size/\(∀i,i<below.go xs j fuel lo hi->xs.getD i 0<j)/\∀i,below.go xs j fuel lo hi<=i->i<xs.size->j<=xs.getD i 0
  | 0,lo,hi,h1,h2,h3,hl,hh=>by
    have:lo=hi:=by lia
    subst this;exact ⟨h1,hl,hh⟩
  | fuel+1,lo,hi,h1,h2,h3,hl,hh=>by
    unfold below.go;by_cases h:lo<hi
    · rw[if_pos h];have hm:(lo+hi) / 2<xs.size:=by lia
      dsimp only;rw[wY hm];by_cases c:xs.getD ((lo+hi) / 2) 0<j
      · rw[if_pos c];refine kf R fuel _ hi h1 (by lia) (by lia) (λi hi'=>?_) hh;by_cases e:i=(lo+hi) / 2
        · rw[e];exact c
        · exact Nat.lt_trans (R i _ (by lia) hm) c
      · rw[if_neg c];refine kf R fuel lo _ (by lia) (by lia) (by lia) hl λi hi' hs=>?_;by_cases e:i=(lo+hi) / 2
        · rw[e];lia
        · have := R _ i (show (lo + hi) / 2 < i by lia) hs;lia
    · rw[if_neg h];have:lo=hi:=by lia
      subst this;exact ⟨h1,hl,hh⟩
theorem hX {xs:Array Nat}(R:yy xs)(j:Nat):below xs j<=xs.size/\(∀i,i<below xs j->xs.getD i 0<j)/\∀i,below xs j<=i->i<xs.size->j<=xs.getD i 0:=
  kf R xs.size 0 xs.size (GW _) (Nat.zero_le _) (by lia) (λi h=>absurd h (Nat.not_lt_zero _)) λi h1 h2=>absurd h2 (by lia)
theorem below_at {xs:Array Nat}(R:yy xs){i j:Nat}(hi:i<xs.size)(e:xs.getD i 0=j):below xs j=i:=by
  obtain ⟨h1,h2,h3⟩:=hX R j;by_cases c:i<below xs j
  · have:=h2 i c;lia
  · by_cases c2:below xs j<i
    · have:=R _ i c2 hi;have:=h3 (below xs j) (GW _) (by lia);lia
    · lia
theorem get_some {xs:Array Nat}{i j:Nat}:(xs[i]?=some j)↔(i<xs.size/\xs.getD i 0=j):=by
  rw[Array.getD_eq_getD_getElem?];constructor
  · intro h;obtain ⟨h1,h2⟩:=Array.getElem?_eq_some_iff.mp h;exact ⟨h1,by rw[h];rfl⟩
  · rintro ⟨h1,h2⟩;rw[Ha h1] at h2 ⊢;exact congrArg some h2
structure o8 (t:SetTable):Prop where
  rise:yy t.place
  eJ:t.dummies = #[]
section
variable {t:SetTable}
theorem cV (P:o8 t){i j:Nat}(h:t.place[i]?=some j):t.slot j=.live i:=by
  obtain ⟨h1,h2⟩:=get_some.mp h;unfold slot;dsimp only;rw[below_at P.rise h1 h2,h];simp
theorem lI (P:o8 t){j:Nat}(h:∀i:Nat,t.place[i]?≠some j):t.slot j=.empty:=by
  unfold slot;dsimp only;have e:(t.place[below t.place j]? == some j)=false:=by
    rw[beq_eq_false_iff_ne];exact h _
  rw[e,P.eJ];simp[has]
theorem fw (P:o8 t)(j:Nat):(∃i:Nat,t.place[i]?=some j/\t.slot j=.live i)\/((∀i:Nat,t.place[i]?≠some j)/\t.slot j=.empty):=by
  by_cases h:∃i:Nat,t.place[i]?=some j
  · obtain ⟨i,h⟩:=h;exact .inl ⟨i,h,cV P h⟩
  · have h':∀i:Nat,t.place[i]?≠some j:=λi z=>h ⟨i,z⟩;exact .inr ⟨h',lI P h'⟩
end
theorem fe {α:Type}(xs:Array α)(p:Nat)(x:α)(hp:p<=xs.size)(i:Nat):(insertAt xs p x)[i]?=if i<p then xs[i]? else if i=p then some x else xs[i - 1]?:=by
  rw[<-GY,toList_insertAt];have lp:(xs.toList.take p).length=p:=by rw[length_take,Hd];lia
  by_cases h1:i<p
  · rw[if_pos h1,List.getElem?_append_left (by lia),List.getElem?_take_of_lt h1,GY]
  · rw [if_neg h1, List.getElem?_append_right (by lia), lp];by_cases h2:i=p
    · rw[if_pos h2,h2,Nat.sub_self];rfl
    · rw[if_neg h2];obtain ⟨d,hd⟩ : ∃d,i - p=d+1:=⟨i - p - 1,by lia⟩
      rw[hd,List.getElem?_cons_succ,List.getElem?_drop,GY];congr 1;lia
theorem kN {α:Type}(xs:Array α)(p:Nat)(x:α)(hp:p<=xs.size):(insertAt xs p x).size=xs.size+1:=by
  rw[<-Hd,toList_insertAt,Hu,length_cons,length_take,length_drop,Hd];lia
theorem qa (xs:Array Nat)(p x:Nat)(hp:p<=xs.size)(i:Nat)(hi:i<xs.size+1):(insertAt xs p x).getD i 0=if i<p then xs.getD i 0 else if i=p then x else xs.getD (i - 1) 0:=by
  rw[Array.getD_eq_getD_getElem?,fe xs p x hp,Array.getD_eq_getD_getElem?,Array.getD_eq_getD_getElem?];split
  · rfl
  · split
    · rfl
    · rfl
section
variable {t:SetTable}
theorem lB (P:o8 t)(j:Nat):t.put j=({ t with place:=insertAt t.place (below t.place j) j,dummies:=#[] },below t.place j):=by
  unfold put;dsimp only;rw[P.eJ];simp[has]
theorem oQ (P:o8 t){j:Nat}(h:∀i:Nat,t.place[i]?≠some j):o8 (t.put j).1:=by
  rw[lB P];obtain ⟨h1,h2,h3⟩:=hX P.rise j;refine ⟨λa b hab hb=>?_,rfl⟩;dsimp only at hb ⊢;rw[kN _ _ _ h1] at hb;rw[qa _ _ _ h1 _ (by lia),qa _ _ _ h1 _ hb];have gt:∀i,below t.place j<=i->i<t.place.size->j<t.place.getD i 0:=λi a1 a2=>by
    have:=h3 i a1 a2;have ne:t.place.getD i 0≠j:=λz=>h i (get_some.mpr ⟨a2,z⟩);lia
  by_cases c1:a<below t.place j
  · rw[if_pos c1];by_cases c2:b<below t.place j
    · rw[if_pos c2];exact P.rise a b hab (by lia)
    · rw[if_neg c2];by_cases c3:b=below t.place j
      · rw[if_pos c3];exact h2 a c1
      · rw[if_neg c3];exact Nat.lt_trans (h2 a c1) (gt (b - 1) (by lia) (by lia))
  · rw [if_neg c1, if_neg (show ¬ b < below t.place j by lia), if_neg (show ¬ b = below t.place j by lia)];by_cases c4:a=below t.place j
    · rw[if_pos c4];exact gt (b - 1) (by lia) (by lia)
    · rw[if_neg c4];exact P.rise (a - 1) (b - 1) (by lia) (by lia)
theorem xZ (P:o8 t){j:Nat}(h:∀i:Nat,t.place[i]?≠some j):(t.put j).1.slot j=.live (below t.place j)/\∀(i j':Nat),t.place[i]?=some j'->(t.put j).1.place[if i<below t.place j then i else i+1]?=some j':=by
  have P':=oQ P h;obtain ⟨h1,h2,h3⟩:=hX P.rise j;have e:(t.put j).1.place=insertAt t.place (below t.place j) j:=by rw[lB P]
  refine ⟨cV P' ?_,λi j' hi=>?_⟩
  · rw[e,fe _ _ _ h1,if_neg (Nat.lt_irrefl _),if_pos rfl]
  · rw[e,fe _ _ _ h1];by_cases c:i<below t.place j
    · rw[if_pos c,if_pos c];exact hi
    · rw[if_neg c,if_neg (show ¬i+1<below t.place j by lia),if_neg (show ¬i+1=below t.place j by lia),Nat.add_sub_cancel];exact hi
theorem lZ (P:o8 t){j j':Nat}(h:∀i:Nat,t.place[i]?≠some j)(hs:t.slot j'≠.empty):(t.put j).1.slot j'≠.empty:=by
  rcases fw P j' with ⟨i,hi,_⟩ | ⟨_,hz⟩
  · rw[cV (oQ P h) ((xZ P h).2 i j' hi)];exact λz=>nomatch z
  · exact absurd hz hs
end
end WS
namespace WS
open PySem PySem.SetTable
noncomputable def stN (t:SetTable)(h:Int):Nat->Probe
  | 0=>t.probeStart h
  | n+1=>t.advance (stN t h n)
theorem nG (h:Int):bits h<2 ^ 64:=by
  unfold bits;have:=Int.emod_lt_of_pos h (show (0:Int)<2 ^ 64 by decide);have:=Int.emod_nonneg h (show (2 ^ 64:Int)≠0 by decide);lia
theorem uG {t:SetTable}{p:Probe}(h1:p.dummy=none)(h2:p.more<=9)(h3:p.perturb<2 ^ 64)(h4:p.j+p.more<=t.mask):(t.advance p).dummy=none/\(t.advance p).more<=9/\(t.advance p).perturb<2 ^ 64/\(t.advance p).j+(t.advance p).more<=t.mask:=by
  unfold advance;by_cases c:p.more>0
  · rw[if_pos c];exact ⟨h1,by show p.more - 1<=9;lia,h3,by show p.j+1+(p.more - 1)<=t.mask;lia⟩
  · rw[if_neg c];refine ⟨h1,lF _ _,?_,?_⟩
    · show p.perturb / 32<2 ^ 64;lia
    · show (leap t.mask p.i p.perturb).1+(runEnd t.mask (leap t.mask p.i p.perturb).1 - (leap t.mask p.i p.perturb).1)<=t.mask;have hl:(leap t.mask p.i p.perturb).1<t.mask+1:=Nat.mod_lt _ (by lia);generalize (leap t.mask p.i p.perturb).1=y at *;unfold runEnd;split<;>lia
theorem di (t:SetTable)(h:Int):∀n,(stN t h n).dummy=none/\(stN t h n).more<=9/\(stN t h n).perturb<2 ^ 64/\(stN t h n).j+(stN t h n).more<=t.mask
  | 0=>by
    refine ⟨rfl,lF _ _,nG h,?_⟩;show bits h % (t.mask+1)+(runEnd t.mask (bits h % (t.mask+1)) - bits h % (t.mask+1))<=t.mask;have hl:bits h % (t.mask+1)<t.mask+1:=Nat.mod_lt _ (by lia);generalize bits h % (t.mask+1)=y at *;unfold runEnd;split<;>lia
  | n+1=>by
    obtain ⟨a,b,c,d⟩:=di t h n;exact uG a b c d
theorem gw {t t':SetTable}(e:t.mask=t'.mask)(h:Int):∀n,stN t h n=stN t' h n
  | 0=>by
    show t.probeStart h=t'.probeStart h;unfold probeStart;rw[e]
  | n+1=>by
    show t.advance (stN t h n)=t'.advance (stN t' h n);rw[gw e h n];unfold advance;rw[e]
theorem wZ {t:SetTable}{hashAt:Nat->Int}{h:Int}{k j0:Nat}(hm:t.mask+1=2 ^ k)(hj:j0<=t.mask)(hs:t.slot j0=.empty){p:Probe}(h2:p.more<=9)(h3:p.perturb<2 ^ 64):probe.go t hashAt h (10*turns t.mask) p≠none:=by
  obtain ⟨n,hn,e⟩:=qe (i:=(leap t.mask p.i p.perturb).1) (p:=(leap t.mask p.i p.perturb).2) hm (show p.perturb / 32<2 ^ 64 by lia) hj;obtain ⟨f,hf⟩ : ∃f,10*turns t.mask=f+p.more+1:=⟨10*turns t.mask - p.more - 1,by unfold turns;lia⟩
  have hf2:10*n<f:=by unfold turns at hf;lia
  rw[hf];refine rK p.more f p rfl λd=>?_;have ea:t.advance { p with more:=0,dummy:=d } = { p with j:=(leap t.mask p.i p.perturb).1,more:=runEnd t.mask (leap t.mask p.i p.perturb).1 - (leap t.mask p.i p.perturb).1,i:=(leap t.mask p.i p.perturb).1,perturb:=(leap t.mask p.i p.perturb).2,dummy:=d }:=rfl;rw[ea];exact p6 n f _ j0 rfl rfl e hs hf2
section
variable {t:SetTable} {hashAt:Nat->Int} {h:Int}
theorem oq (P:o8 t):∀(fuel n:Nat) (r:Met),probe.go t hashAt h fuel (stN t h n)=some r->∃m,n<=m/\m<n+fuel/\(∀q,n<=q->q<m->∃i,t.slot (stN t h q).j=.live i/\hashAt i≠h) /\
    ((r=.empty (stN t h m).j none/\t.slot (stN t h m).j=.empty)\/∃i,t.slot (stN t h m).j=.live i/\hashAt i=h/\r=.candidate (stN t h m).j i (stN t h (m+1)))
  | 0,n,r,e=>by
    unfold probe.go at e;cases e
  | fuel+1,n,r,e=>by
    have hd:=(di t h n).1;rcases fw P (stN t h n).j with ⟨i,_,hs⟩ | ⟨_,hs⟩
    · unfold probe.go at e;rw[hs] at e;dsimp only at e;by_cases c:hashAt i=h
      · rw [if_pos (by rw [beq_iff_eq];exact c)] at e;exact ⟨n,GW _,by lia,λq a b=>absurd a (by lia),.inr ⟨i,hs,c,(Option.some.inj e).symm⟩⟩
      · rw [if_neg (by rw [beq_iff_eq];exact c)] at e;obtain ⟨m,h1,h2,h3,h4⟩:=oq P fuel (n+1) r e;refine ⟨m,by lia,by lia,λq a b=>?_,h4⟩;by_cases z:q=n
        · subst z;exact ⟨i,hs,c⟩
        · exact h3 q (by lia) b
    · unfold probe.go at e;rw[hs,hd] at e;exact ⟨n,GW _,by lia,λq a b=>absurd a (by lia),.inl ⟨(Option.some.inj e).symm,hs⟩⟩
theorem pW (P:o8 t){k j0:Nat}(hm:t.mask+1=2 ^ k)(hj:j0<=t.mask)(hs:t.slot j0=.empty)(h:Int):∃K,K<10*turns t.mask/\t.slot (stN t h K).j=.empty/\∀q,q<K->t.slot (stN t h q).j≠.empty:=by
  have hp:=wZ (hashAt:=λ_=>h+1) (h:=h) hm hj hs (p:=stN t h 0) (di t h 0).2.1 (di t h 0).2.2.1;cases e:probe.go t (λ_=>h+1) h (10*turns t.mask) (stN t h 0) with
  | none=>exact absurd e hp
  | some r =>
    obtain ⟨m,h1,h2,h3,h4⟩:=oq P _ 0 r e;rcases h4 with ⟨_,h5⟩ | ⟨i,_,h5,_⟩
    · refine ⟨m, by lia, h5, λq hq => ?_⟩;obtain ⟨i,hi,_⟩:=h3 q (Nat.zero_le _) hq;rw[hi];exact λz=>nomatch z
    · lia
noncomputable def cB (t:SetTable)(h:Int)(j:Nat):Prop:=∃n,(stN t h n).j=j/\∀q,q<n->t.slot (stN t h q).j≠.empty
theorem cB.put (P:o8 t){j j':Nat}(hj:∀i:Nat,t.place[i]?≠some j)(hp:cB t h j'):cB (t.put j).1 h j':=by
  obtain ⟨n,e,hn⟩:=hp;have em:t.mask=(t.put j).1.mask:=by rw[lB P]
  refine ⟨n,by rw[<-gw em];exact e,λq hq=>?_⟩;rw[<-gw em];exact lZ P hj (hn q hq)
theorem cB.new (P:o8 t){K:Nat}(he:t.slot (stN t h K).j=.empty)(hb:∀q,q<K->t.slot (stN t h q).j≠.empty):cB (t.put (stN t h K).j).1 h (stN t h K).j:=by
  have hj:∀i:Nat,t.place[i]?≠some (stN t h K).j:=λi z=>by rw[cV P z] at he;cases he
  exact cB.put P hj ⟨K,rfl,hb⟩
end
end WS
namespace WS
open PySem PySem.SetTable
theorem eU:∀{l l':List Nat},l.Nodup->(∀x∈l,x∈l')->l.length<=l'.length
  | [],_,_,_=>Nat.zero_le _
  | x::l,l',hn,hs=>by
    obtain ⟨h1,h2⟩:=nodup_cons.mp hn;have hx:x∈l':=hs x (.head _);have ih:=eU (l:=l) (l':=l'.erase x) h2 λy hy=>(List.mem_erase_of_ne (λz=>h1 (by rw[<-z];exact hy))).mpr (hs y (.tail _ hy));rw[List.length_erase_of_mem hx] at ih;have:0<l'.length:=List.length_pos_of_mem hx;rw[length_cons];lia
theorem m6 {f:Nat->Nat}{m:Nat}(h:∀a b,a<b->b<m->f a≠f b):((List.range m).map f).Nodup:=by
  show ((List.range m).map f).Pairwise (·≠·);rw[pairwise_map,pairwise_iff_getElem];intro i j hi hj hij;rw[List.getElem_range,List.getElem_range];rw[length_range] at hj;exact h i j hij hj
theorem rL {f:Nat->Nat}{N:Nat}(h:∀j,j<N->∃n,n<N/\f n=j):∀a b,a<b->b<N->f a≠f b:=λa b hab hb e=>by
  have:=eU (l:=List.range N) (l':=((List.range N).erase b).map f) nodup_range λj hj=>by
    obtain ⟨n,hn,e2⟩:=h j (mem_range.mp hj);by_cases c:n=b
    · refine mem_map.mpr ⟨a, (List.mem_erase_of_ne (by lia)).mpr (mem_range.mpr (by lia)), ?_⟩;rw[e,<-c];exact e2
    · exact mem_map.mpr ⟨n,(List.mem_erase_of_ne c).mpr (mem_range.mpr hn),e2⟩
  rw[length_range,Hh,List.length_erase_of_mem (mem_range.mpr hb),length_range] at this;lia
section
variable {t:SetTable} {h:Int}
noncomputable def sN (t:SetTable)(h:Int)(n:Nat):Nat×Nat:=m5 t.mask n (bits h % (t.mask+1),bits h)
noncomputable def iN (t:SetTable)(h:Int):Nat->Nat
  | 0=>0
  | n+1=>iN t h n+(runEnd t.mask (sN t h n).1 - (sN t h n).1)+1
theorem uw (n:Nat):sN t h (n+1)=leap t.mask (sN t h n).1 (sN t h n).2:=jV t.mask n 1 _
theorem yh {n c:Nat}(h0:(stN t h n).more=c):∀q,q<=c->(stN t h (n+q)).j=(stN t h n).j+q/\(stN t h (n+q)).more=c - q/\(stN t h (n+q)).i=(stN t h n).i/\(stN t h (n+q)).perturb=(stN t h n).perturb
  | 0,_=>⟨rfl,h0,rfl,rfl⟩
  | q+1,hq=>by
    obtain ⟨a1,a2,a3,a4⟩:=yh h0 q (by lia);have e:stN t h (n+(q+1))=t.advance (stN t h (n+q)):=rfl;rw[e];unfold advance;rw[if_pos (by lia)];exact ⟨by show (stN t h (n+q)).j+1=_;lia,by show (stN t h (n+q)).more - 1=_;lia,a3,a4⟩
theorem sr:∀n,(stN t h (iN t h n)).j=(sN t h n).1/\(stN t h (iN t h n)).more=runEnd t.mask (sN t h n).1 - (sN t h n).1/\(stN t h (iN t h n)).i=(sN t h n).1/\(stN t h (iN t h n)).perturb=(sN t h n).2
  | 0=>⟨rfl,rfl,rfl,rfl⟩
  | n+1=>by
    obtain ⟨a1,a2,a3,a4⟩:=sr n;obtain ⟨b1,b2,b3,b4⟩:=yh a2 _ (GW _);have e:stN t h (iN t h (n+1))=t.advance (stN t h (iN t h n+(runEnd t.mask (sN t h n).1 - (sN t h n).1))):=rfl;rw[e];unfold advance;rw[if_neg (by lia),uw,b3,b4,a3,a4];exact ⟨rfl,rfl,rfl,rfl⟩
theorem AK (n:Nat):(sN t h n).1<=t.mask:=by
  cases n with
  | zero =>
    have:bits h % (t.mask+1)<t.mask+1:=Nat.mod_lt _ (by lia);show bits h % (t.mask+1)<=t.mask;lia
  | succ n =>
    rw[uw];have:(leap t.mask (sN t h n).1 (sN t h n).2).1<t.mask+1:=Nat.mod_lt _ (by lia);lia
theorem Co {k:Nat}(hm:t.mask+1=2 ^ k):∀a b,a<b->b<2 ^ k->(sN t h (13+a)).1≠(sN t h (13+b)).1:=by
  refine rL (f:=λn=>(sN t h (13+n)).1) λj hj=>?_;have z:(sN t h 13).2=0:=by
    unfold sN;rw[oA];exact Nat.div_eq_of_lt (Ho (nG h) (by decide))
  have hx:(sN t h 13).1=(sN t h 13).1 % (t.mask+1):=(Nat.mod_eq_of_lt (by have:=AK (t:=t) (h:=h) 13;lia)).symm;obtain ⟨n,hn,e⟩:=oo k (sN t h 13).1 j hj;refine ⟨n,hn,?_⟩;show (m5 t.mask (13+n) _).1=j;rw[jV];show (m5 t.mask n (sN t h 13)).1=j;rw[show sN t h 13=((sN t h 13).1 % (t.mask+1),0) from Prod.ext hx z,kU,hm];exact e
theorem nt (mask i:Nat):(i+9<=mask/\runEnd mask i - i=9)\/(¬i+9<=mask/\runEnd mask i - i=0):=by
  unfold runEnd;by_cases c:i+9<=mask
  · rw[if_pos c];exact .inl ⟨c,by lia⟩
  · rw[if_neg c];exact .inr ⟨c,by lia⟩
theorem yj (n:Nat):iN t h n<=10*n:=by
  induction n with
  | zero=>exact GW _
  | succ n ih =>
    have:=lF t.mask (sN t h n).1;show iN t h n+(runEnd t.mask (sN t h n).1 - (sN t h n).1)+1<=_;lia
theorem yk:∀{a b:Nat},a<b->iN t h a<iN t h b
  | a,0,hab=>absurd hab (Nat.not_lt_zero _)
  | a,b+1,hab=>by
    show iN t h a<iN t h b+(runEnd t.mask (sN t h b).1 - (sN t h b).1)+1;by_cases c:a<b
    · have:=yk c;lia
    · rw[show a=b by lia];lia
theorem xy:∀{l:List Nat},l≠[]->∃m∈l,∀x∈l,x<=m
  | [],h=>absurd rfl h
  | [a],_=>⟨a,.head _,λx hx=>by rw[mem_singleton.mp hx];exact GW _⟩
  | a::b::l,_=>by
    obtain ⟨m,hm,h⟩:=xy (l:=b::l) (by simp);by_cases c:a<=m
    · exact ⟨m,.tail _ hm,λx hx=>by
        rcases Hn.mp hx with rfl | hx
        · exact c
        · exact h x hx⟩
    · exact ⟨a,.head _,λx hx=>by
        rcases Hn.mp hx with rfl | hx
        · exact GW _
        · have:=h x hx;lia⟩
noncomputable def ju (t:SetTable)(h:Int)(m:Nat):List Nat:=((List.range m).map λa=>(sN t h (13+a)).1).filter λj=>decide (j+9<=t.mask)
noncomputable def km (t:SetTable)(h:Int)(m:Nat):List Nat:=((List.range m).map λa=>(sN t h (13+a)).1).filter λj=>decide (¬j+9<=t.mask)
theorem jo:∀m,iN t h (13+m)<=130+10*(ju t h m).length+(km t h m).length/\(ju t h m).length+(km t h m).length=m
  | 0=>by
    have:=yj (t:=t) (h:=h) 13;exact ⟨by show iN t h 13<=130+10*0+0;lia,rfl⟩
  | m+1=>by
    obtain ⟨ih1,ih2⟩:=jo m;have e:iN t h (13+(m+1))=iN t h (13+m)+(runEnd t.mask (sN t h (13+m)).1 - (sN t h (13+m)).1)+1:=rfl;unfold ju km at ih1 ih2 ⊢;rw[List.range_succ,map_append,filter_append,filter_append,Hu,Hu];rcases nt t.mask (sN t h (13+m)).1 with ⟨c,r⟩ | ⟨c,r⟩
    · have e1 : (List.filter (λj => decide (j + 9 <= t.mask)) ([m].map λa => (sN t h (13 + a)).1)).length = 1 := by simp [c]
      have e2:(List.filter (λj=>decide (¬j+9<=t.mask)) ([m].map λa=>(sN t h (13+a)).1)).length=0:=by simp[c]
      rw[e1,e2];lia
    · have e1 : (List.filter (λj => decide (j + 9 <= t.mask)) ([m].map λa => (sN t h (13 + a)).1)).length = 0 := by simp [c]
      have e2:(List.filter (λj=>decide (¬j+9<=t.mask)) ([m].map λa=>(sN t h (13+a)).1)).length=1:=by rw[map_cons,List.map_nil,filter_cons,if_pos (by simpa using c)];rfl
      rw[e1,e2];lia
theorem fx {k:Nat}(hm:t.mask+1=2 ^ k){m:Nat}(h1:m<=2 ^ k):((List.range m).map λa=>(sN t h (13+a)).1).Nodup:=m6 λa b hab hb=>Co hm a b hab (by lia)
theorem mD {k:Nat}(hm:t.mask+1=2 ^ k){m:Nat}(h1:m<=2 ^ k):(km t h m).length<=9:=by
  have:=eU (l:=km t h m) (l':=(List.range 9).map λi=>t.mask - i) ((fx hm h1).sublist filter_sublist) λx hx=>by
    obtain ⟨h2,h3⟩:=List.mem_filter.mp hx;obtain ⟨a,_,rfl⟩:=mem_map.mp h2;rw[decide_eq_true_eq] at h3;have:=AK (t:=t) (h:=h) (13+a);exact mem_map.mpr ⟨t.mask - (sN t h (13+a)).1,mem_range.mpr (by lia),by lia⟩
  rw[Hh,length_range] at this;exact this
theorem qh (P:o8 t){j:Nat}(hs:t.slot j≠.empty):j∈t.place.toList:=by
  rcases fw P j with ⟨i,hi,_⟩ | ⟨_,z⟩
  · exact Hi (i:=i) (by rw[GY];exact hi)
  · exact absurd z hs
theorem wX (P:o8 t){k:Nat}(hm:t.mask+1=2 ^ k){m:Nat}(h1:m<=2 ^ k)(hl:∀q,q<iN t h (13+m)->t.slot (stN t h q).j≠.empty):(ju t h m).length+9<=t.place.size\/ju t h m = []:=by
  by_cases c:ju t h m = []
  · exact .inr c
  refine .inl ?_;obtain ⟨j,hj,hmax⟩:=xy c;have mono:∀a b,a<=b->iN t h a<=iN t h b:=λa b hab=>by
    induction b with
    | zero=>rw[Nat.le_zero.mp hab];exact GW _
    | succ b ih =>
      by_cases z:a<=b
      · have:=ih z;show iN t h a<=iN t h b+_+1;lia
      · rw[show a=b+1 by lia];exact GW _
  have win:∀x∈ju t h m,∀q,q<=9->x+q∈t.place.toList:=λx hx q hq=>by
    obtain ⟨h2,h3⟩:=List.mem_filter.mp hx;obtain ⟨a,ha,rfl⟩:=mem_map.mp h2;have ha:=mem_range.mp ha;rw[decide_eq_true_eq] at h3;rcases nt t.mask (sN t h (13+a)).1 with ⟨_,r⟩ | ⟨z,_⟩
    · obtain ⟨a1,a2,_,_⟩:=sr (t:=t) (h:=h) (13+a);obtain ⟨b1,_,_,_⟩:=yh a2 q (by lia);rw[a1] at b1;rw[<-b1];refine qh P (hl _ ?_);have e:iN t h (13+a+1)=iN t h (13+a)+(runEnd t.mask (sN t h (13+a)).1 - (sN t h (13+a)).1)+1:=rfl;have:=mono (13+a+1) (13+m) (by lia);lia
    · exact absurd h3 z
  have:=eU (l:=ju t h m++(List.range 9).map λi=>j+1+i) (l':=t.place.toList) (by
    rw[nodup_append];refine ⟨(fx hm h1).sublist filter_sublist,m6 λa b hab _=>by lia,λx hx y hy e=>?_⟩;obtain ⟨i,_,rfl⟩:=mem_map.mp hy;have:=hmax x hx;lia) λx hx=>by
    rcases mem_append.mp hx with hx | hx
    · exact win x hx 0 (by lia)
    · obtain ⟨i,hi,rfl⟩:=mem_map.mp hx;have:=win j hj (i+1) (by have:=mem_range.mp hi;lia);rw[show j+(i+1)=j+1+i by lia] at this;exact this
  rw[Hu,Hh,length_range,Hd] at this;exact this
theorem rF (P:o8 t){k j0:Nat}(hm:t.mask+1=2 ^ k)(hj:j0<=t.mask)(hs:t.slot j0=.empty)(hn:t.place.size<=9994)(hr:t.place.size+1<=2 ^ k)(h:Int):∃K,K<100000/\t.slot (stN t h K).j=.empty/\∀q,q<K->t.slot (stN t h q).j≠.empty:=by
  obtain ⟨K,_,h1,h2⟩:=pW P hm hj hs h;refine ⟨K,?_,h1,h2⟩;refine Classical.byContradiction λc=>?_;have key:∀m,m<=t.place.size+1->iN t h (13+m)<=99999:=λm=>by
    induction m with
    | zero=>intro _;have:=yj (t:=t) (h:=h) 13;show iN t h 13<=_;lia
    | succ m ih =>
      intro hm1;have ih:=ih (by lia);obtain ⟨s1,s2⟩:=jo (t:=t) (h:=h) m;have c9:=mD (t:=t) (h:=h) hm (m:=m) (by lia);have e:iN t h (13+(m+1))=iN t h (13+m)+(runEnd t.mask (sN t h (13+m)).1 - (sN t h (13+m)).1)+1:=rfl;have r9:=lF t.mask (sN t h (13+m)).1;rcases wX P hm (h:=h) (m:=m) (by lia) (λq hq=>h2 q (by lia)) with z | z
      · lia
      · rw[z] at s1;have:([]:List Nat).length=0:=rfl;lia
  obtain ⟨s1,s2⟩:=jo (t:=t) (h:=h) (t.place.size+1);have c9:=mD (t:=t) (h:=h) hm (m:=t.place.size+1) hr;have k1:=key _ (GW _);have:=eU (l:=(List.range (t.place.size+1)).map λa=>(sN t h (13+a)).1) (l':=t.place.toList) (fx hm hr) λx hx=>by
    obtain ⟨a,ha,rfl⟩:=mem_map.mp hx;have ha:=mem_range.mp ha;rw[<-(sr (t:=t) (h:=h) (13+a)).1];exact qh P (h2 _ (by have:=yk (t:=t) (h:=h) (show 13+a<13+(t.place.size+1) by lia);lia))
  rw[Hh,length_range,Hd] at this;lia
end
end WS
namespace WS
open PySem PySem.SetTable
section
variable {t:SetTable} {h:Int}
noncomputable def ml (t:SetTable)(h:Int)(n:Nat):Prop:=(stN t h n).j=(stN t h n).i/\(stN t h n).more=runEnd t.mask (stN t h n).i - (stN t h n).i
theorem FJ:ml t h 0:=⟨rfl,rfl⟩
theorem lE {n:Nat}(R:ml t h n):∀k,k<=(stN t h n).more->(stN t h (n+k)).j=(stN t h n).i+k/\(stN t h (n+k)).i=(stN t h n).i/\(stN t h (n+k)).perturb=(stN t h n).perturb/\(stN t h (n+k)).more=(stN t h n).more - k
  | 0,_=>⟨R.1,rfl,rfl,rfl⟩
  | k+1,hk=>by
    obtain ⟨a,b,c,d⟩:=lE R k (by lia);have e:stN t h (n+(k+1))=t.advance (stN t h (n+k)):=rfl;rw[e];unfold advance;rw[if_pos (show (stN t h (n+k)).more>0 by lia)];refine ⟨?_,b,c,?_⟩
    · show (stN t h (n+k)).j+1=_;lia
    · show (stN t h (n+k)).more - 1=_;lia
theorem yf {n:Nat}(R:ml t h n):ml t h (n+(stN t h n).more+1)/\(stN t h (n+(stN t h n).more+1)).i=(leap t.mask (stN t h n).i (stN t h n).perturb).1/\(stN t h (n+(stN t h n).more+1)).perturb=(leap t.mask (stN t h n).i (stN t h n).perturb).2:=by
  obtain ⟨a,b,c,d⟩:=lE R (stN t h n).more (GW _);have e:stN t h (n+(stN t h n).more+1)=t.advance (stN t h (n+(stN t h n).more)):=rfl;have e2:t.advance (stN t h (n+(stN t h n).more)) = { stN t h (n+(stN t h n).more) with j:=(leap t.mask (stN t h n).i (stN t h n).perturb).1,more:=runEnd t.mask (leap t.mask (stN t h n).i (stN t h n).perturb).1 - (leap t.mask (stN t h n).i (stN t h n).perturb).1,i:=(leap t.mask (stN t h n).i (stN t h n).perturb).1,perturb:=(leap t.mask (stN t h n).i (stN t h n).perturb).2 }:=by
    unfold advance;rw[if_neg (show ¬(stN t h (n+(stN t h n).more)).more>0 by lia),b,c]
  unfold ml;rw[e,e2];exact ⟨⟨rfl,rfl⟩,rfl,rfl⟩
noncomputable def iP (owner:Array (Option Nat))(j:Nat):Prop:=(owner.getD j (some 0)).isNone=true
theorem mS {owner:Array (Option Nat)}:∀(fuel n j:Nat),ml t h n->layClean.free t.mask owner fuel (stN t h n).i (stN t h n).perturb=some j->∃m,n<=m/\(stN t h m).j=j/\iP owner j/\∀q,n<=q->q<m->¬iP owner (stN t h q).j
  | 0,n,j,R,e=>by
    unfold layClean.free at e;cases e
  | fuel+1,n,j,R,e=>by
    unfold layClean.free at e;have hlen:runEnd t.mask (stN t h n).i+1 - (stN t h n).i=(stN t h n).more+1:=by
      have:(stN t h n).i<=runEnd t.mask (stN t h n).i:=by unfold runEnd;split<;>lia
      rw[R.2];lia
    rw[hlen] at e;cases hf:(List.range ((stN t h n).more+1)).find? λk=>(owner.getD ((stN t h n).i+k) (some 0)).isNone with
    | some k =>
      rw[hf] at e;have ej:(stN t h n).i+k=j:=Option.some.inj e;have h1:=List.find?_some hf;have h2:=mem_range.mp (List.mem_of_find?_eq_some hf);have rk:=lE R k (by lia);refine ⟨n+k,by lia,by rw[rk.1];exact ej,by rw[<-ej];exact h1,λq a b=>?_⟩;obtain ⟨d,rfl⟩ : ∃d,q=n+d:=⟨q - n,by lia⟩
      have rd:=lE R d (by lia);rw[rd.1];have hb:=List.find?_eq_some_iff_getElem.mp hf;obtain ⟨_,i,hi,ei,hall⟩:=hb;rw[List.getElem_range] at ei;have:=hall d (by lia);rw[List.getElem_range] at this;intro z;unfold iP at z;rw[z] at this;cases this
    | none =>
      rw[hf] at e;dsimp only at e;obtain ⟨R',e1,e2⟩:=yf R;rw[<-e1,<-e2] at e;obtain ⟨m,m1,m2,m3,m4⟩:=mS fuel _ j R' e;refine ⟨m,by lia,m2,m3,λq a b=>?_⟩;by_cases c:n+(stN t h n).more+1<=q
      · exact m4 q c b
      · obtain ⟨d, rfl⟩ : ∃ d, q = n + d := ⟨q - n, by lia⟩
        have rd:=lE R d (by lia);rw[rd.1];have:=List.find?_eq_none.mp hf d (mem_range.mpr (by lia));exact this
theorem mT {owner:Array (Option Nat)}{j0:Nat}(hs:iP owner j0){mask:Nat}:∀(n fuel i p:Nat),(m5 mask n (i,p)).1=j0->n<fuel->layClean.free mask owner fuel i p≠none
  | 0,fuel,i,p,e,hf=>by
    obtain ⟨f,rfl⟩ : ∃f,fuel=f+1:=⟨fuel - 1,by lia⟩
    unfold layClean.free;have e':i=j0:=e;subst e';have hm:(List.range (runEnd mask i+1 - i)).find? (λk=>(owner.getD (i+k) (some 0)).isNone)≠none:=λz=>by
      have:=List.find?_eq_none.mp z 0 (mem_range.mpr (by unfold runEnd;split<;>lia));exact this hs
    cases hf:(List.range (runEnd mask i+1 - i)).find? λk=>(owner.getD (i+k) (some 0)).isNone with
    | none=>exact absurd hf hm
    | some k=>exact λz=>nomatch z
  | n+1,fuel,i,p,e,hf=>by
    obtain ⟨f,rfl⟩ : ∃f,fuel=f+1:=⟨fuel - 1,by lia⟩
    unfold layClean.free;cases hf2:(List.range (runEnd mask i+1 - i)).find? λk=>(owner.getD (i+k) (some 0)).isNone with
    | some k=>exact λz=>nomatch z
    | none=>exact mT hs n f _ _ e (by lia)
end
end WS
namespace WS
open PySem PySem.SetTable
theorem fM {owner:Array (Option Nat)}{j:Nat}:iP owner j↔owner[j]?=some none:=by
  unfold iP;rw[Array.getD_eq_getD_getElem?];cases e:owner[j]? with
  | none=>exact ⟨λz=>(nomatch z),λz=>(nomatch z)⟩
  | some v =>
    cases v with
    | none=>exact ⟨λ_=>rfl,λ_=>rfl⟩
    | some k=>exact ⟨λz=>(nomatch z),λz=>(nomatch z)⟩
structure Laid (t:SetTable)(hs:List Int)(owner:Array (Option Nat)):Prop where
  size:owner.size=t.mask+1
  has:∀(k:Nat) (h:Int),hs[k]?=some h->∃j n,owner[j]?=some (some k)/\(stN t h n).j=j/\∀q,q<n->¬iP owner (stN t h q).j
  own:∀(j v:Nat),owner[j]?=some (some v)->v<hs.length
  inj:∀(j j' v:Nat),owner[j]?=some (some v)->owner[j']?=some (some v)->j=j'
  cnt:owner.toList.countP Option.isNone+hs.length=t.mask+1
theorem Laid.nil (t:SetTable):Laid t [] (Array.replicate (t.mask+1) none) where
  size:=Array.size_replicate
  has:=λk h e=>by rw[List.getElem?_nil] at e;cases e
  own:=λj v e=>by rw[Array.getElem?_replicate] at e;split at e<;>cases e
  inj:=λj j' v e=>by rw[Array.getElem?_replicate] at e;split at e<;>cases e
  cnt:=by rw[Array.toList_replicate,List.countP_replicate];rfl
theorem Laid.room {t:SetTable}{hs:List Int}{owner:Array (Option Nat)}(L:Laid t hs owner)(h:hs.length<=t.mask):∃j,j<=t.mask/\iP owner j:=by
  have c:=L.cnt;have:0<owner.toList.countP Option.isNone:=by lia
  obtain ⟨v,hv,hn⟩:=List.countP_pos_iff.mp this;obtain ⟨j,hj,e⟩:=List.mem_iff_getElem.mp hv;have s:=L.size;rw[Hd] at hj;refine ⟨j,by lia,fM.mpr ?_⟩;cases v with
  | none =>
    rw[Ha hj];rw[Array.getElem_toList] at e;exact congrArg some e
  | some k=>cases hn
theorem aT {owner:Array (Option Nat)}{j k:Nat}(hj:j<owner.size)(j':Nat):(owner.setIfInBounds j (some k))[j']?=if j=j' then some (some k) else owner[j']?:=by
  rw[Array.getElem?_setIfInBounds];by_cases e:j=j'
  · subst e;rw[if_pos rfl,if_pos rfl,if_pos hj]
  · rw[if_neg e,if_neg e]
theorem Laid.step {t:SetTable}{hs:List Int}{owner:Array (Option Nat)}(L:Laid t hs owner){h:Int}{n:Nat}(hf:iP owner (stN t h n).j)(hq:∀q,q<n->¬iP owner (stN t h q).j):Laid t (hs++[h]) (owner.setIfInBounds (stN t h n).j (some hs.length)):=by
  have hg:=fM.mp hf;obtain ⟨hj,hv⟩:=Array.getElem?_eq_some_iff.mp hg;generalize hJ:(stN t h n).j=J at *;have keep:∀x,¬iP owner x->¬iP (owner.setIfInBounds J (some hs.length)) x:=λx hx z=>by
    rw[fM,aT hj] at z;split at z
    · cases z
    · exact hx (fM.mpr z)
  refine ⟨by rw[Array.size_setIfInBounds];exact L.size,λk h' e=>?_,λj v e=>?_,λj j' v e e'=>?_,?_⟩
  · by_cases hk:k<hs.length
    · rw[List.getElem?_append_left hk] at e;obtain ⟨j,m,a,b,c⟩:=L.has k h' e;refine ⟨j,m,?_,b,λq hq'=>keep _ (c q hq')⟩;rw[aT hj,if_neg (λz=>by rw[<-z,hg] at a;cases a)];exact a
    · have hk2:k=hs.length:=by
        have:=(Hb.mp e).1;rw[Hu,List.length_singleton] at this;lia
      subst hk2;rw[List.getElem?_append_right (GW _),Nat.sub_self] at e;have e':h=h':=Option.some.inj e;subst e';exact ⟨J,n,by rw[aT hj,if_pos rfl],hJ,λq hq'=>keep _ (hq q hq')⟩
  · rw[aT hj] at e;rw[Hu,List.length_singleton];split at e
    · have : v = hs.length := by injection e with e;injection e with e;exact e.symm
      lia
    · have:=L.own j v e;lia
  · rw[aT hj] at e e';split at e
    · have hv' : v = hs.length := by injection e with e;injection e with e;exact e.symm
      split at e'
      · lia
      · have:=L.own j' v e';lia
    · split at e'
      · have hv' : v = hs.length := by injection e' with e';injection e' with e';exact e'.symm
        have:=L.own j v e;lia
      · exact L.inj j j' v e e'
  · have c:=L.cnt;rw[Array.toList_setIfInBounds,List.countP_set (by rw[Hd];exact hj),Hu,List.length_singleton];have e1:owner.toList[J]'(by rw[Hd];exact hj)=none:=by rw[Array.getElem_toList];exact hv
    rw[e1];have pos:0<owner.toList.countP Option.isNone:=List.countP_pos_iff.mpr ⟨none,by rw[<-e1];exact List.getElem_mem _,rfl⟩;show owner.toList.countP Option.isNone - 1+0+(hs.length+1)=_;lia
theorem kq {t:SetTable}{k:Nat}(hm:t.mask+1=2 ^ k):∀(rest hs:List Int) (owner:Array (Option Nat)),Laid t hs owner->hs.length+rest.length<=t.mask+1 ->
    ∃owner',rest.foldl (λacc h=>do let (owner,k) <-acc;let j <-layClean.free t.mask owner (turns t.mask) (bits h % (t.mask+1)) (bits h);pure (owner.setIfInBounds j (some k),k+1)) (some (owner,hs.length))=some (owner',hs.length+rest.length)/\Laid t (hs++rest) owner'
  | [],hs,owner,L,_=>⟨owner,rfl,by rw[append_nil];exact L⟩
  | h::rest,hs,owner,L,hl=>by
    rw[length_cons] at hl;obtain ⟨j0,hj0,hfree⟩:=L.room (by lia);obtain ⟨n0,hn0,e0⟩:=qe (i:=bits h % (t.mask+1)) hm (nG h) hj0;have hs':=mT hfree n0 (turns t.mask) (bits h % (t.mask+1)) (bits h) e0 (by unfold turns;lia);cases e:layClean.free t.mask owner (turns t.mask) (bits h % (t.mask+1)) (bits h) with
    | none=>exact absurd e hs'
    | some j =>
      obtain ⟨m,_,m2,m3,m4⟩:=mS (t:=t) (h:=h) (turns t.mask) 0 j FJ e;have L':=L.step (h:=h) (n:=m) (by rw[m2];exact m3) λq hq=>m4 q (Nat.zero_le _) hq;rw[m2] at L';obtain ⟨o',e1,e2⟩:=kq hm rest (hs++[h]) _ L' (by rw[Hu,List.length_singleton];lia);refine ⟨o',?_,by rw[append_assoc] at e2;exact e2⟩;rw[List.foldl_cons];rw[Hu,List.length_singleton] at e1;rw[show (do let (owner,k) <-(some (owner,hs.length):Option (Array (Option Nat)×Nat));let j <-layClean.free t.mask owner (turns t.mask) (bits h % (t.mask+1)) (bits h);pure (owner.setIfInBounds j (some k),k+1))=some (owner.setIfInBounds j (some hs.length),hs.length+1) by
        show (layClean.free t.mask owner (turns t.mask) (bits h % (t.mask+1)) (bits h)).bind (λj=>some (owner.setIfInBounds j (some hs.length),hs.length+1))=_;rw[e];rfl]
      rw[e1,length_cons];congr 2;lia
end WS
namespace WS
open PySem PySem.SetTable
theorem v7 {t:SetTable}{k:Nat}(hm:t.mask+1=2 ^ k)(hashes:Array Int)(hl:hashes.size<=t.mask+1):∃owner,layClean t.mask hashes=some owner/\Laid t hashes.toList owner:=by
  obtain ⟨o,e,L⟩:=kq hm hashes.toList [] _ (Laid.nil t) (by rw[List.length_nil,Hd];lia);refine ⟨o,?_,L⟩;unfold layClean;rw[<-Array.foldl_toList];rw[List.length_nil] at e;rw[e];rfl
noncomputable def dc (owner:Array (Option Nat))(mask:Nat):List (Nat×Nat):=(List.range (mask+1)).filterMap λj=>(owner.getD j none).map (j,·)
theorem oz {owner:Array (Option Nat)}{j:Nat}{x:Nat×Nat}:(owner.getD j none).map (j,·)=some x↔x.1=j/\owner[j]?=some (some x.2):=by
  rw[Array.getD_eq_getD_getElem?];cases e:owner[j]? with
  | none=>exact ⟨λz=>(nomatch z),λz=>(nomatch z.2)⟩
  | some v =>
    cases v with
    | none=>exact ⟨λz=>(nomatch z),λz=>(nomatch z.2)⟩
    | some w =>
      constructor
      · intro z;have:(j,w)=x:=Option.some.inj z;subst this;exact ⟨rfl,rfl⟩
      · rintro ⟨h1,h2⟩;have h3:w=x.2:=by injection h2 with h2;injection h2
        show some (j,w)=some x;rw[h3,<-h1]
theorem xB {t:SetTable}{hs:List Int}{owner:Array (Option Nat)}(L:Laid t hs owner){x:Nat×Nat}:x∈dc owner t.mask↔owner[x.1]?=some (some x.2):=by
  unfold dc;rw[List.mem_filterMap];constructor
  · rintro ⟨j,_,hj⟩;obtain ⟨a,b⟩:=oz.mp hj;rw[a];exact b
  · intro h;have hs:=(Array.getElem?_eq_some_iff.mp h).1;have s:=L.size;exact ⟨x.1,mem_range.mpr (by lia),oz.mpr ⟨rfl,h⟩⟩
theorem u9 (owner:Array (Option Nat))(mask:Nat):(dc owner mask).Pairwise λx y=>x.1<y.1:=by
  unfold dc;rw[List.pairwise_filterMap];refine List.Pairwise.imp (λ{a b} hab x hx y hy=>?_) List.pairwise_lt_range;rw[(oz.mp hx).1,(oz.mp hy).1];exact hab
theorem zi {mask k:Nat}(hm:mask+1=2 ^ k)(finger moves:Nat)(led plain:Bool)(hashes:Array Int)(hl:hashes.size<=mask+1) :
    ∃t order,laid mask finger moves led plain hashes=some (t,order)/\t.mask=mask/\t.moves=moves/\t.led=led/\t.plain=plain/\o8 t/\t.place.size=hashes.size/\order.toList.Perm (List.range hashes.size) /\
      (∀j∈t.place.toList,j<=mask)/\∀(i j:Nat),t.place[i]?=some j->∃(kk:Nat) (hh:Int),order[i]?=some kk/\hashes[kk]?=some hh/\cB t hh j:=by
  obtain ⟨owner,e,L⟩:=v7 (t:=⟨mask,#[],#[],finger,led,moves,plain⟩) hm hashes hl;have rise:=u9 owner mask;have mem:∀{x:Nat×Nat},x∈dc owner mask↔owner[x.1]?=some (some x.2):=xB L;have perm:((dc owner mask).map (·.2)).Perm (List.range hashes.size):=by
    refine (List.perm_ext_iff_of_nodup ?_ nodup_range).mpr λv=>?_
    · show ((dc owner mask).map (·.2)).Pairwise (·≠·);rw[pairwise_map];refine List.Pairwise.imp_of_mem (λ{a b} ha hb hab z=>?_) rise;have h1:=mem.mp ha;have h2:=mem.mp hb;rw[<-z] at h2;have:=L.inj _ _ _ h1 h2;lia
    · rw[mem_map,mem_range];constructor
      · rintro ⟨x,hx,rfl⟩;have:=L.own _ _ (mem.mp hx);rw[Hd] at this;exact this
      · intro hv;obtain ⟨j,n,a,_⟩:=L.has v hashes[v] (by rw[GY];exact Ha hv);exact ⟨(j,v),mem.mpr a,rfl⟩
  have len:(dc owner mask).length=hashes.size:=by have:=perm.length_eq;rw[Hh,length_range] at this;exact this
  generalize hT:(⟨mask,((dc owner mask).map (·.1)).toArray,#[],finger,led,moves,plain⟩ : SetTable)=T;have ep:T.place=((dc owner mask).map (·.1)).toArray:=by rw[<-hT]
  have em:T.mask=mask:=by rw[<-hT]
  have getp:∀(i j:Nat),T.place[i]?=some j↔∃v,(dc owner mask)[i]?=some (j,v):=λi j=>by
    rw[ep,List.getElem?_toArray,Hw];cases (dc owner mask)[i]? with
    | none=>exact ⟨λz=>(nomatch z),by rintro ⟨v,z⟩;exact (nomatch z)⟩
    | some x =>
      constructor
      · intro z;have:x.1=j:=Option.some.inj z;exact ⟨x.2,by rw[<-this]⟩
      · rintro ⟨v,z⟩;rw[Option.some.inj z];rfl
  have P:o8 T:=by
    refine ⟨λa b hab hb=>?_,by rw[<-hT]⟩;have hb':b<(dc owner mask).length:=by rw[ep,Hk,Hh] at hb;exact hb
    have ga:T.place[a]?=some ((dc owner mask)[a]'(by lia)).1:=(getp a _).mpr ⟨_,GV (by lia)⟩;have gb:T.place[b]?=some ((dc owner mask)[b]).1:=(getp b _).mpr ⟨_,GV hb'⟩;rw[(get_some.mp ga).2,(get_some.mp gb).2];exact pairwise_iff_getElem.mp rise a b (by lia) hb' hab
  have occ:∀j,j<=mask->¬iP owner j->T.slot j≠.empty:=λj hj hf=>by
    have s:owner.size=mask+1:=L.size;have hlt:j<owner.size:=by lia
    cases ev:owner[j] with
    | none=>exact absurd (fM.mpr (by rw[Ha hlt,ev])) hf
    | some v =>
      have hx:(j,v)∈dc owner mask:=mem.mpr (by rw[Ha hlt,ev]);obtain ⟨i,hi,ei⟩:=List.mem_iff_getElem.mp hx;rw[cV P ((getp i j).mpr ⟨v,by rw[GV hi,ei]⟩)];exact λz=>nomatch z
  refine ⟨T,((dc owner mask).map (·.2)).toArray,?_,em,by rw[<-hT],by rw[<-hT],by rw[<-hT],P,by rw[ep,Hk,Hh];exact len,perm,λj hj=>?_,λi j hij=>?_⟩
  · unfold laid;rw[show layClean mask hashes=some owner from e,<-hT];rfl
  · rw[ep] at hj;obtain ⟨x,hx,rfl⟩:=mem_map.mp hj;have:=(Array.getElem?_eq_some_iff.mp (mem.mp hx)).1;have s:owner.size=mask+1:=L.size;lia
  · obtain ⟨v,hv⟩:=(getp i j).mp hij;have hmem:=Hi hv;have ho:=mem.mp hmem;have hvn:=L.own _ _ ho;rw[Hd] at hvn;refine ⟨v,hashes[v],by rw[List.getElem?_toArray,Hw,hv];rfl,Ha hvn,?_⟩;obtain ⟨j2,n,a,b,c⟩:=L.has v hashes[v] (by rw[GY];exact Ha hvn);have ej:j2=j:=L.inj _ _ _ a ho;subst ej;have es:=gw (t:=⟨mask,#[],#[],finger,led,moves,plain⟩) (t':=T) em.symm hashes[v];refine ⟨n,by rw[<-es];exact b,λq hq=>?_⟩;rw[<-es];refine occ _ ?_ (c q hq);have:=(di ⟨mask,#[],#[],finger,led,moves,plain⟩ hashes[v] q).2.2.2;dsimp only at this;lia
end WS
namespace WS
open PySem PySem.SetTable
theorem len_sub {α:Type}[DecidableEq α]:∀(xs ys:List α),xs.Nodup->(∀x∈xs,x∈ys)->xs.length<=ys.length
  | [],_,_,_=>Nat.zero_le _
  | x::xs,ys,hn,hs=>by
    rw[nodup_cons] at hn;have h1:=len_sub xs (ys.erase x) hn.2 λy hy=>(List.mem_erase_of_ne (λe:y=x=>hn.1 (e ▸ hy))).mpr (hs y (.tail _ hy));have h2:=hs x (.head _);have h3:=List.length_erase_of_mem h2;have h4:=List.length_pos_of_mem h2;rw[length_cons];lia
section
variable {prog:Hj} {w:Hs} {K:Type} [DecidableEq K]
structure Tab (knd:KeyKind prog w K)(h:Heap)(es:Array (Int×GR))(t:SetTable)(ks:List (List K)):Prop where
  lr:o8 t
  qN:t.place.size=es.size
  vP:t.mask∈[7,31,127,511,2047,8191,32767]
  le:∀(i j:Nat),t.place[i]?=some j->j<=t.mask
  num:ks.length=es.size
  eJ:ks.Nodup
  ent:∀(i:Nat) e,es[i]?=some e->∃k∈ks,∃b,e=(tupleKeyHash knd k,.ref b)/\IsTupleKey knd h k b
  has:∀k∈ks,∃(i:Nat) (b:Addr),es[i]?=some (tupleKeyHash knd k,.ref b)/\IsTupleKey knd h k b
  path:∀(i j:Nat) e,t.place[i]?=some j->es[i]?=some e->cB t e.1 j
structure eN (knd:KeyKind prog w K)(h:Heap)(a:Addr)(o:Obj)(es:Array (Int×GR))(ep:Nat)(t:SetTable)(ks:List (List K)):Prop extends Tab knd h es t ks where
  obj:h.get? a=some o
  dat:o.data=.set es ep t
  As:o.ExactSet
  room:t.place.size*5<t.mask*3
variable {knd:KeyKind prog w K} {h:Heap} {a:Addr} {o:Obj} {es:Array (Int×GR)} {ep:Nat} {t:SetTable} {ks:List (List K)}
theorem Tab.pow (T:Tab knd h es t ks):∃k,3<=k/\t.mask+1=2 ^ k:=by
  have hm:=T.vP;simp only[Hn,List.not_mem_nil,or_false] at hm;rcases hm with e | e | e | e | e | e | e<;>rw[e]
  · exact ⟨3,by decide,by decide⟩
  · exact ⟨5,by decide,by decide⟩
  · exact ⟨7,by decide,by decide⟩
  · exact ⟨9,by decide,by decide⟩
  · exact ⟨11,by decide,by decide⟩
  · exact ⟨13,by decide,by decide⟩
  · exact ⟨15,by decide,by decide⟩
theorem eN.odd (T:eN knd h a o es ep t ks):t.mask % 2=1:=by
  obtain ⟨k,h3,e⟩:=T.pow;obtain ⟨m,rfl⟩ : ∃m,k=m+1:=⟨k - 1,by lia⟩
  rw[Nat.pow_succ] at e;lia
theorem eN.fits (T:eN knd h a o es ep t ks):t.fits es.size=true:=by
  unfold SetTable.fits SetTable.fill;rw[T.lr.eJ];have:=T.room;have:=T.qN;rw[Bool.and_eq_true,beq_iff_eq,decide_eq_true_eq];refine ⟨T.qN,?_⟩;show t.place.size+0<=t.mask;lia
theorem eN.kG (T:eN knd h a o es ep t ks):∃j,j<=t.mask/\t.slot j=.empty:=by
  by_cases c:∃j,j<=t.mask/\∀i:Nat,t.place[i]?≠some j
  · obtain ⟨j,hj,hn⟩:=c;exact ⟨j,hj,lI T.lr hn⟩
  · exfalso;have hr:=T.room;have all:∀j,j<=t.mask->j∈t.place.toList:=λj hj=>by
      refine Classical.byContradiction λhc=>c ⟨j,hj,λi z=>hc ?_⟩;rw[<-GY] at z;exact Hi z
    have hl:(List.range (t.mask+1)).length<=t.place.toList.length:=len_sub _ _ nodup_range λj hj=>all j (by rw[mem_range] at hj;lia);rw[length_range,Hd] at hl;lia
variable {A:Hr} {E:GR->GU->Prop} {s:GU}
theorem lW (n:Nat){v:GR}(hv:carriedByValue v=true):ofAClassStatement n v=pure false:=by
  cases v with
  | ref a=>simp[carriedByValue] at hv
  | _=>cases n<;>rfl
theorem gI {k:List K}{b:Addr}{Q:Bool->GU->Prop}(hk:IsTupleKey knd s.heap k b)(q:Q false s):wpAny (model prog w) A (ofAClassStatement 8 (.ref b)) Q E s:=by
  have hT:=hk.typeIs;obtain ⟨o,items,n,ho,_,hd,hi⟩:=hk;unfold ofAClassStatement;refine GS (wpAny_typeOf hT ?_);dsimp only;rw[if_pos (by decide)];refine GS (GX ?_);simp only[Bool.not_true,Hl,if_false];refine GS (wpAny_seqItems ho hd ?_);dsimp only;refine GS ?_;rw[<-Array.forIn_toList];refine wpAny_forIn_list _ (λrest r s'=>r.1=none/\s'=s/\∀v∈rest,carriedByValue v=true) _ ?_ ?_ _ _ ⟨rfl,rfl,hi.byValue⟩
  · rintro v rest r s' ⟨hr,rfl,hall⟩;rw[lW _ (hall v mem_cons_self)];refine GS (GX ?_);simp only[Hl,if_false];exact GX ⟨rfl,rfl,λu hu'=>hall u (Hv _ hu')⟩
  · rintro ⟨r1,r2⟩ s' ⟨hr,rfl,_⟩;simp only at hr;subst hr;exact GX q
theorem zY {k:List K}{b:Addr}{Q:Bool->GU->Prop}(hk:IsTupleKey knd s.heap k b)(ys:List GR)(hy:∀y∈ys,∃k' b',y=.ref b'/\IsTupleKey knd s.heap k' b')(q:Q false s):wpAny (model prog w) A (searchCouldBeSeen (.ref b) ys) Q E s:=by
  unfold searchCouldBeSeen;refine GS ?_;refine wpAny_forIn_list _ (λrest r s'=>r.1=none/\s'=s/\∀y∈rest,∃k' b',y=.ref b'/\IsTupleKey knd s.heap k' b') _ ?_ ?_ _ _ ⟨rfl,rfl,hy⟩
  · rintro v rest r s' ⟨hr,rfl,hall⟩;obtain ⟨k',b',rfl,hk'⟩:=hall v mem_cons_self;dsimp only;split
    · exact GX ⟨rfl,rfl,λu hu'=>hall u (Hv _ hu')⟩
    · refine GS (wpAny_eqIsQuiet_tuple hk ?_);simp only[Bool.not_true,Hl,if_false];refine GS (wpAny_eqIsQuiet_tuple hk' ?_);simp only[Bool.not_true,Hl,if_false];refine GS (gI hk ?_);simp only[Hl,if_false];refine GS (gI hk' ?_);simp only[Hl,if_false];exact GX ⟨rfl,rfl,λu hu'=>hall u (Hv _ hu')⟩
  · rintro ⟨r1,r2⟩ s' ⟨hr,rfl,_⟩;simp only at hr;subst hr;exact GX q
noncomputable def Other (knd:KeyKind prog w K)(hp:Heap)(es:Array (Int×GR))(t:SetTable)(kk:List K)(q:Nat):Prop:=
  ∃i:Nat,t.slot (stN t (tupleKeyHash knd kk) q).j=.live i/\∀b,es[i]?=some (tupleKeyHash knd kk,.ref b)->¬IsTupleKey knd hp kk b
theorem jA (T:eN knd s.heap a o es ep t ks){kk:List K}{b:Addr}(hu:A.units<cLine)(hb:IsTupleKey knd s.heap kk b){KK:Nat}
    (hK:t.slot (stN t (tupleKeyHash knd kk) KK).j=.empty) (hK':∀q,q<KK->t.slot (stN t (tupleKeyHash knd kk) q).j≠.empty) {Q:SetFound->GU->Prop}
    (q1:kk∈ks->Q (.there none) s) (q2:kk∉ks->Q (.free (stN t (tupleKeyHash knd kk) KK).j false) s) :
    ∀(fuel n:Nat) (st:Option Probe),st.getD (t.probeStart (tupleKeyHash knd kk))=stN t (tupleKeyHash knd kk) n->n<=KK->KK<n+fuel->(∀q,q<n->Other knd s.heap es t kk q) ->
      wpAny (model prog w) A (setSearchFrom a (.ref b) (tupleKeyHash knd kk) true fuel st) Q E s
  | 0,n,st,e,h1,h2,h3=>absurd h2 (by lia)
  | fuel+1,n,st,e,h1,h2,h3=>by
    unfold setSearchFrom;refine GS (wpAny_setState_of T.obj T.dat T.fits ?_);dsimp only;have hg:t.gaveWay=false:=by
      unfold SetTable.gaveWay;rw[T.odd];rfl
    rw[hg,e];simp only[Hl,if_false];obtain ⟨k,_,hm⟩:=T.pow;obtain ⟨j0,hj0,hs0⟩:=T.kG;have hsome:t.probe (λi=>(es[i]?.map (·.1)).getD 0) (tupleKeyHash knd kk) (stN t (tupleKeyHash knd kk) n)≠none:=wZ hm hj0 hs0 (di t _ n).2.1 (di t _ n).2.2.1;have hpath:=oq (t:=t) (hashAt:=λi=>(es[i]?.map (·.1)).getD 0) (h:=tupleKeyHash knd kk) T.lr (10*turns t.mask) n;have hch:∀q,q<n->t.slot (stN t (tupleKeyHash knd kk) q).j≠.empty:=λq hq=>by
      obtain ⟨i,hi,_⟩:=h3 q hq;rw[hi];exact λz=>nomatch z
    generalize er0:t.probe _ _ _=r0;have er:probe.go t (λi=>(es[i]?.map (·.1)).getD 0) (tupleKeyHash knd kk) (10*turns t.mask) (stN t (tupleKeyHash knd kk) n)=r0:=er0;unfold SetTable.probe at hsome;cases r0 with
    | none=>exact absurd er hsome
    | some r =>
      obtain ⟨m,m1,m2,m3,m4⟩:=hpath r er;have hoth:∀q,q<m->Other knd s.heap es t kk q:=λq hq=>by
        by_cases c:q<n
        · exact h3 q c
        · obtain ⟨i, hi, hne⟩ := m3 q (by lia) hq;refine ⟨i,hi,λb' z=>?_⟩;rw[z] at hne;exact absurd rfl hne
      have hne:∀q,q<m->t.slot (stN t (tupleKeyHash knd kk) q).j≠.empty:=λq hq z=>by
        obtain ⟨i,hi,_⟩:=hoth q hq;rw[hi] at z;cases z
      rcases m4 with ⟨rfl,hs⟩ | ⟨i,hi,hh,rfl⟩
      · have em:m=KK:=by
          by_cases c:m<KK
          · exact absurd hs (hK' m c)
          · by_cases c':KK<m
            · exact absurd hK (hne KK c')
            · lia
        subst em;dsimp only;refine GX (q2 λhmem=>?_);obtain ⟨i,b',he,hb'⟩:=T.has kk hmem;have hilt:i<t.place.size:=by rw[T.qN];exact (Array.getElem?_eq_some_iff.mp he).1
        obtain ⟨n',e',hn'⟩:=T.path i _ _ (Ha hilt) he;have hlive:=cV T.lr (Ha hilt);by_cases c:n'<m
        · obtain ⟨i2,hi2,hno⟩:=hoth n' c;dsimp only at e';rw[e',hlive] at hi2;injection hi2 with hi2
          subst hi2;exact hno b' he hb'
        · by_cases c':m<n'
          · exact hn' m c' hs
          · have : n' = m := by lia
            subst this;dsimp only at e';rw[e',hlive] at hs;cases hs
      · dsimp only;have hmK:m<=KK:=by
          refine Classical.byContradiction λc=>?_;exact hne KK (by lia) hK
        have hmK':m≠KK:=λz=>by
          subst z;rw[hi] at hK;cases hK
        have hes:∃e,es[i]?=some e:=by
          rcases fw T.lr (stN t (tupleKeyHash knd kk) m).j with ⟨i',hp,hl⟩ | ⟨_,hl⟩
          · rw[hl] at hi;injection hi with hi
            subst hi;have:i'<es.size:=by rw[<-T.qN];exact (Array.getElem?_eq_some_iff.mp hp).1
            exact ⟨_,Ha this⟩
          · rw[hl] at hi;cases hi
        obtain ⟨e0,he0⟩:=hes;obtain ⟨k',hk',b',rfl,hb'⟩:=T.ent i e0 he0;have hseen:∀y∈(es.filter (·.1 == tupleKeyHash knd kk)).toList.map (·.2),∃k' b',y=.ref b'/\IsTupleKey knd s.heap k' b':=λy hy=>by
          rw[mem_map] at hy;obtain ⟨e,he,rfl⟩:=hy;rw[Array.mem_toList_iff,Array.mem_filter] at he;obtain ⟨i2,hi2⟩:=Array.mem_iff_getElem?.mp he.1;obtain ⟨k2,_,b2,rfl,hb2⟩:=T.ent i2 e hi2;exact ⟨k2,b2,rfl,hb2⟩
        split
        case' isTrue =>
          refine GS (zY hb _ hseen ?_);simp only[Hl,if_false]
        all_goals
          rw[he0];dsimp only;refine GS (wpAny_holding (wpAny_eqBool_tuple hu hb' hb ?_));refine GS (wpAny_setState_of T.obj T.dat T.fits ?_);dsimp only;by_cases ek:k'=kk
          · rw[decide_eq_true ek];subst ek;simp only[Bool.and_self,if_true];exact GX (q1 hk')
          · rw[decide_eq_false ek];simp only[Bool.and_false,Hl,if_false];have hsm:t.sameMemory t.moves t.mask=some true:=by
              unfold SetTable.sameMemory;rw[if_pos (by rw[beq_iff_eq])]
            rw[hsm];dsimp only;rw[if_pos rfl,hi];dsimp only;rw[he0];dsimp only;refine GS (wpAny_isSame_ref_self ?_);refine GS (GX ?_);rw[if_pos rfl];dsimp only;refine jA T hu hb hK hK' q1 q2 fuel (m+1) _ rfl (by lia) (by lia) λq hq=>?_;by_cases c:q<m
            · exact hoth q c
            · have : q = m := by lia
              subst this;refine ⟨i,hi,λb2 z hb2=>ek ?_⟩;rw[he0] at z;injection z with z
              injection z with _ z
              injection z with z
              subst z;exact hb'.inj hb2
end
end WS
namespace WS
open PySem PySem.SetTable
section
variable {prog:Hj} {w:Hs} {K:Type} [DecidableEq K] {knd:KeyKind prog w K} {h h':Heap} {a:Addr} {o:Obj} {es:Array (Int×GR)} {ep:Nat} {t t':SetTable} {ks:List (List K)}
theorem vz (e1:t'.place=t.place)(e2:t'.dummies=t.dummies)(j:Nat):t'.slot j=t.slot j:=by
  unfold SetTable.slot;rw[e1,e2]
theorem vy (e0:t'.mask=t.mask)(e1:t'.place=t.place)(e2:t'.dummies=t.dummies){x:Int}{j:Nat}(hp:cB t x j):cB t' x j:=by
  obtain ⟨n,h1,h2⟩:=hp;refine ⟨n,by rw[gw e0];exact h1,λq hq=>?_⟩;rw[gw e0,vz e1 e2];exact h2 q hq
theorem Tab.same (T:Tab knd h es t ks)(e0:t'.mask=t.mask)(e1:t'.place=t.place)(e2:t'.dummies=t.dummies):Tab knd h es t' ks where
  lr:=⟨by rw[e1];exact T.lr.rise,by rw[e2];exact T.lr.eJ⟩
  qN:=by rw[e1];exact T.qN
  vP:=by rw[e0];exact T.vP
  le:=λi j=>by rw[e1,e0];exact T.le i j
  num:=T.num
  eJ:=T.eJ
  ent:=T.ent
  has:=T.has
  path:=λi j e h1 h2=>vy e0 e1 e2 (T.path i j e (by rw[<-e1];exact h1) h2)
theorem Tab.heap (T:Tab knd h es t ks)(hk:∀k b,IsTupleKey knd h k b->IsTupleKey knd h' k b):Tab knd h' es t ks where
  lr:=T.lr
  qN:=T.qN
  vP:=T.vP
  le:=T.le
  num:=T.num
  eJ:=T.eJ
  ent:=λi e he=>let ⟨k,h1,b,h2,h3⟩:=T.ent i e he;⟨k,h1,b,h2,hk k b h3⟩
  has:=λk hm=>let ⟨i,b,h1,h2⟩:=T.has k hm;⟨i,b,h1,hk k b h2⟩
  path:=T.path
theorem Tab.put (T:Tab knd h es t ks){kk:List K}{b:Addr}(hb:IsTupleKey knd h kk b)(hn:kk∉ks){KK:Nat}
    (hK:t.slot (stN t (tupleKeyHash knd kk) KK).j=.empty) (hK':∀q,q<KK->t.slot (stN t (tupleKeyHash knd kk) q).j≠.empty) :
    Tab knd h (insertAt es (t.put (stN t (tupleKeyHash knd kk) KK).j).2 (tupleKeyHash knd kk,.ref b)) (t.put (stN t (tupleKeyHash knd kk) KK).j).1 (kk::ks):=by
  generalize hh:tupleKeyHash knd kk=x at *;generalize hj:(stN t x KK).j=j at *;have hfree:∀i:Nat,t.place[i]?≠some j:=λi z=>by rw[cV T.lr z] at hK;cases hK
  have ep:t.put j=({ t with place:=insertAt t.place (below t.place j) j,dummies:=#[] },below t.place j):=lB T.lr j;have hle:below t.place j<=t.place.size:=(hX T.lr.rise j).1;have hle':below t.place j<=es.size:=by rw[<-T.qN];exact hle
  have e2:(t.put j).2=below t.place j:=by rw[ep]
  have em:(t.put j).1.mask=t.mask:=by rw[ep]
  have epl:(t.put j).1.place=insertAt t.place (below t.place j) j:=by rw[ep]
  have gp:∀i:Nat,(t.put j).1.place[i]?=if i<below t.place j then t.place[i]? else if i=below t.place j then some j else t.place[i - 1]?:=λi=>by rw[epl,fe _ _ _ hle]
  have ge:∀i:Nat,(insertAt es (t.put j).2 (x,Value.ref b))[i]?=if i<below t.place j then es[i]? else if i=below t.place j then some (x,Value.ref b) else es[i - 1]?:=λi=>by rw[e2,fe _ _ _ hle']
  have sz:(insertAt es (t.put j).2 (x,Value.ref b)).size=es.size+1:=by rw[e2,kN _ _ _ hle']
  refine { lr:=oQ T.lr hfree,qN:=?_,vP:=by rw[em];exact T.vP,le:=?_,num:=?_,eJ:=?_,ent:=?_,has:=?_,path:=?_ }
  · rw[sz,epl,kN _ _ _ hle,T.qN]
  · intro i j' hij;rw[gp] at hij;rw[em];split at hij
    · exact T.le _ _ hij
    · split at hij
      · injection hij with hij
        subst hij;rw[<-hj];have:=(di t x KK).2.2.2;lia
      · exact T.le _ _ hij
  · rw[sz,length_cons,T.num]
  · exact nodup_cons.mpr ⟨hn,T.eJ⟩
  · intro i e he;rw[ge] at he;split at he
    · obtain ⟨k,h1,b',h2,h3⟩:=T.ent _ _ he;exact ⟨k,.tail _ h1,b',h2,h3⟩
    · split at he
      · injection he with he
        exact ⟨kk,.head _,b,by rw[<-he,hh],hb⟩
      · obtain ⟨k,h1,b',h2,h3⟩:=T.ent _ _ he;exact ⟨k,.tail _ h1,b',h2,h3⟩
  · intro k hk;rcases Hn.mp hk with rfl | hk
    · refine ⟨below t.place j,b,?_,hb⟩;rw[ge,if_neg (Nat.lt_irrefl _),if_pos rfl,hh]
    · obtain ⟨i,b',h1,h2⟩:=T.has k hk;by_cases c:i<below t.place j
      · exact ⟨i,b',by rw[ge,if_pos c];exact h1,h2⟩
      · exact ⟨i+1,b',by rw[ge,if_neg (by lia),if_neg (by lia)];exact h1,h2⟩
  · intro i j' e hp he;rw[gp] at hp;rw[ge] at he;split at hp
    · rw [if_pos (by assumption)] at he;exact cB.put T.lr hfree (T.path _ _ _ hp he)
    · rw [if_neg (by assumption)] at he;split at hp
      · rw [if_pos (by assumption)] at he;injection hp with hp
        injection he with he
        subst hp;subst he;show cB _ x j;have:=cB.new (t:=t) (h:=x) T.lr (K:=KK) (by rw[hj];exact hK) hK';rw[hj] at this;exact this
      · rw [if_neg (by assumption)] at he;exact cB.put T.lr hfree (T.path _ _ _ hp he)
theorem wR {α:Type}{es:Array α}:∀(ord:List Nat),(∀i∈ord,i<es.size)->∀i:Nat,(ord.filterMap (es[·]?))[i]?=(ord[i]?).bind (es[·]?)
  | [],_,i=>by simp
  | x::ord,hx,i=>by
    have h1:=hx x (.head _);rw[filterMap_cons,Ha h1];dsimp only;cases i with
    | zero=>rw[List.getElem?_cons_zero,List.getElem?_cons_zero];exact (Ha h1).symm
    | succ i=>rw[List.getElem?_cons_succ,List.getElem?_cons_succ];exact wR ord (λi hi=>hx i (.tail _ hi)) i
theorem wU {α:Type}{es:Array α}:∀(ord:List Nat),(∀i∈ord,i<es.size)->(ord.filterMap (es[·]?)).length=ord.length
  | [],_=>rfl
  | x::ord,hx=>by
    rw[filterMap_cons,Ha (hx x (.head _))];dsimp only;rw[length_cons,length_cons,wU ord λi hi=>hx i (.tail _ hi)]
theorem Tab.Ec (T:Tab knd h es t ks){wanted m:Nat}(hw:sizeAbove wanted=m+1)(hm:m∈[7,31,127,511,2047,8191,32767])(hl:es.size<=m+1) :
    ∃t' order,t.relaid (es.map (·.1)) wanted=some (t',order)/\(order.filterMap (es[·]?)).size=es.size/\Tab knd h (order.filterMap (es[·]?)) t' ks/\t'.mask=m:=by
  have hp:∃k,m+1=2 ^ k:=by
    simp only[Hn,List.not_mem_nil,or_false] at hm;rcases hm with e | e | e | e | e | e | e<;>rw[e]
    · exact ⟨3,by decide⟩
    · exact ⟨5,by decide⟩
    · exact ⟨7,by decide⟩
    · exact ⟨9,by decide⟩
    · exact ⟨11,by decide⟩
    · exact ⟨13,by decide⟩
    · exact ⟨15,by decide⟩
  obtain ⟨k,hp⟩:=hp;obtain ⟨t',order,e,em,_,_,_,P,sz,perm,le,pth⟩:=zi hp t.finger (t.movedTo (sizeAbove wanted - 1)) t.led t.plain (es.map (·.1)) (by rw[Array.size_map];exact hl);rw[Array.size_map] at sz perm;have hlt:∀i∈order.toList,i<es.size:=λi hi=>mem_range.mp (perm.mem_iff.mp hi);have el:(order.filterMap (es[·]?)).toList=order.toList.filterMap (es[·]?):=Array.toList_filterMap;have olen:order.toList.length=es.size:=by rw[perm.length_eq,length_range]
  have ge:∀i:Nat,(order.filterMap (es[·]?))[i]?=(order[i]?).bind (es[·]?):=λi=>by rw[<-GY,el,wR _ hlt,GY]
  have sz':(order.filterMap (es[·]?)).size=es.size:=by rw[<-Hd,el,wU _ hlt,olen]
  refine ⟨t',order,?_,sz',?_,em⟩
  · unfold SetTable.relaid;rw[<-e,hw];rfl
  refine { lr:=P,qN:=by rw[sz,sz'],vP:=by rw[em];exact hm,le:=?_,num:=by rw[sz'];exact T.num,eJ:=T.eJ,ent:=?_,has:=?_,path:=?_ }
  · intro i j hij;rw[em];refine le j ?_;rw[<-GY] at hij;exact Hi hij
  · intro i e he;rw[ge,Option.bind_eq_some_iff] at he;obtain ⟨i',_,h2⟩:=he;exact T.ent _ _ h2
  · intro k hk;obtain ⟨i,b,h1,h2⟩:=T.has k hk;have hi:i<es.size:=(Array.getElem?_eq_some_iff.mp h1).1;have hmem:i∈order.toList:=perm.mem_iff.mpr (mem_range.mpr hi);obtain ⟨p,hp'⟩:=mem_iff_getElem?.mp hmem;refine ⟨p,b,?_,h2⟩;rw[GY] at hp';rw[ge,hp'];exact h1
  · intro i j e hp he;obtain ⟨kk,hh,h1,h2,h3⟩:=pth i j hp;rw[ge,h1] at he;have he':es[kk]?=some e:=he;rw[Array.getElem?_map,he'] at h2;injection h2 with h2
    rw[show e.1=hh from h2];exact h3
end
end WS
namespace WS
open PySem PySem.SetTable
section
variable {prog:Hj} {w:Hs} {K:Type} [DecidableEq K] {knd:KeyKind prog w K} {h h':Heap} {a:Addr} {o:Obj} {es:Array (Int×GR)} {ep:Nat} {t t':SetTable} {ks:List (List K)}
variable {A:Hr} {E:GR->GU->Prop} {s:GU}
theorem mZ {k:List K}{b:Addr}(x:IsTupleKey knd h k b)(ho:h.get? a=some o)(hd:o.data=.set es ep t)(hs:Heap.SameBut a h h'):IsTupleKey knd h' k b:=by
  obtain ⟨o',items,n,ho',hc,hd',hi⟩:=x;have hne:b≠a:=by
    rintro rfl;obtain rfl:o'=o:=Option.some.inj (ho'.symm.trans ho);rw[hd] at hd';exact nomatch hd'
  exact ⟨o',items,n,(hs.2 b hne).trans ho',hc,hd',hi⟩
theorem uW (n:Nat){v:GR}(hv:carriedByValue v=true):∃bb,hashByValue n v=pure bb:=by
  cases v with
  | ref a=>simp[carriedByValue] at hv
  | _=>cases n<;>exact ⟨_,rfl⟩
theorem uX {k:List K}{b:Addr}{Q:Bool->GU->Prop}(hk:IsTupleKey knd s.heap k b)(q:∀bb,Q bb s):wpAny (model prog w) A (hashByValue 8 (.ref b)) Q E s:=by
  have hT:=hk.typeIs;obtain ⟨o,items,n,ho,_,hd,hi⟩:=hk;unfold hashByValue;refine GS (wpAny_specialOf hT F.slot_tuple_hash.lookup ?_);dsimp only;refine GS (wpAny_seqItems ho hd ?_);refine GS ?_;rw[<-Array.forIn_toList];refine wpAny_forIn_list _ (λrest r s'=>r.1=none/\s'=s/\∀v∈rest,carriedByValue v=true) _ ?_ ?_ _ _ ⟨rfl,rfl,hi.byValue⟩
  · rintro v rest r s' ⟨hr,rfl,hall⟩;obtain ⟨bb,e⟩:=uW 7 (hall v mem_cons_self);rw[e];refine GS (GX ?_);cases bb
    · simp only[Bool.not_false,if_true];exact GX (GX (q _))
    · simp only[Bool.not_true,Hl,if_false];exact GX ⟨rfl,rfl,λu hu'=>hall u (Hv _ hu')⟩
  · rintro ⟨r1,r2⟩ s' ⟨hr,rfl,_⟩;simp only at hr;subst hr;exact GX (q _)
theorem lA (ho:h.get? a=some o)(hd:o.data=.set es ep t)(es':Array (Int×GR))(t':SetTable):(h.update a (Obj.putSet es' t')).get? a=some { o with data:=.set es' (ep+1) t' }:=by
  have:=Heap.get?_update_self (Obj.putSet es' t') ho (by rw[putSet_of es' t' hd];rfl);rw[putSet_of es' t' hd] at this;exact this
theorem yc (T:Tab knd s.heap es t ks)(ho:s.heap.get? a=some o)(hd:o.data=.set es ep t)(hx:o.ExactSet)(hf:t.fits es.size=true){wanted m:Nat}(hw:sizeAbove wanted=m+1)(hm:m∈[7,31,127,511,2047,8191,32767])(hl:es.size*5<m*3)
    {Q:Unit->GU->Prop} (q:∀h' o' es' ep' t',Heap.SameBut a s.heap h'->eN knd h' a o' es' ep' t' ks->Q () { s with heap:=h' }):wpAny (model prog w) A (setRelay a wanted) Q E s:=by
  obtain ⟨t',order,e1,e2,T',em⟩:=T.Ec hw hm (by lia);have hm8:m<=32767:=by
    simp only[Hn,List.not_mem_nil,or_false] at hm;lia
  have hsl:(32768:Nat)<=sizeLine:=by rw[sizeLine_eq];decide
  unfold setRelay;refine GS (wpAny_setState_of ho hd hf ?_);dsimp only;rw[if_neg (by rw[hw];lia),e1];refine GS ?_;show wpAny _ _ (do
    if (order.filterMap (es[·]?)).size != es.size then unsupported "internal:set-table-lost-an-element"
    pure (order.filterMap (es[·]?),t')) _ _ _
  rw[if_neg (by rw[e2];simp)];refine GX ?_;dsimp only;refine wpAny_storeSet_of ho hd ?_ (by rw[e2];lia);have hsb:=Heap.SameBut.update s.heap a (Obj.putSet (order.filterMap (es[·]?)) t');refine q _ { o with data:=.set (order.filterMap (es[·]?)) (ep+1) t' } (order.filterMap (es[·]?)) (ep+1) t' hsb ?_;exact { toTab:=T'.heap λk b hb=>mZ hb ho hd hsb,obj:=lA ho hd _ _,dat:=rfl,As:=hx,room:=by rw[T'.qN,e2,em];exact hl }
theorem vg {n m:Nat}(hm:m∈[7,31,127,511,2047,8191,32767])(h1:n*5<m*3)(h2:(n+1)*5>=m*3)(h3:n<9995):∃m',sizeAbove (grown (n+1))=m'+1/\m'∈[7,31,127,511,2047,8191,32767]/\(n+1)*5<m'*3:=by
  simp only[Hn,List.not_mem_nil,or_false] at hm;rcases hm with e | e | e | e | e | e | e<;>subst e
  · obtain rfl : n = 4 := by lia
    exact ⟨31,by decide,by decide,by decide⟩
  · obtain rfl : n = 18 := by lia
    exact ⟨127,by decide,by decide,by decide⟩
  · obtain rfl : n = 76 := by lia
    exact ⟨511,by decide,by decide,by decide⟩
  · obtain rfl : n = 306 := by lia
    exact ⟨2047,by decide,by decide,by decide⟩
  · obtain rfl : n = 1228 := by lia
    exact ⟨8191,by decide,by decide,by decide⟩
  · obtain rfl : n = 4914 := by lia
    exact ⟨32767,by decide,by decide,by decide⟩
  · lia
theorem q9 (T:eN knd s.heap a o es ep t ks){kk:List K}{b:Addr}(hu:A.units<cLine)(hb:IsTupleKey knd s.heap kk b)(hn:ks.length<9995){Q:Bool->GU->Prop}
    (q:∀h' o' es' ep' t' r,Heap.SameBut a s.heap h'->eN knd h' a o' es' ep' t' (if kk∈ks then ks else kk::ks)->Q r { s with heap:=h' }) :
    wpAny (model prog w) A (setAddHashed a (.ref b) (tupleKeyHash knd kk)) Q E s:=by
  have hsl:(32768:Nat)<=sizeLine:=by rw[sizeLine_eq];decide
  obtain ⟨k,_,hm⟩:=T.pow;obtain ⟨j0,hj0,hs0⟩:=T.kG;obtain ⟨KK,hK0,hK,hK'⟩:=rF T.lr hm hj0 hs0 (by rw[T.qN,<-T.num];lia) (by have:=T.room;lia) (tupleKeyHash knd kk);have hm8:t.mask<=32767:=by
    have:=T.vP;simp only[Hn,List.not_mem_nil,or_false] at this;lia
  unfold setAddHashed setAddHashedIn;refine wpAny_holding (GS (wpAny_setState_of T.obj T.dat T.fits ?_));dsimp only;rw[if_neg (by simp[byScan,Value.scannable])];refine GS ?_;unfold setSearch;refine jA T hu hb hK hK' (λhmem=>?_) (λhmem=>?_) 100000 0 none rfl (Nat.zero_le _) (by lia) (λq hq=>absurd hq (Nat.not_lt_zero _))
  · dsimp only;have:=q s.heap o es ep t false (Heap.SameBut.refl a s.heap) (by rw[if_pos hmem];exact T);exact GX this
  · dsimp only;refine GS (wpAny_setState_of T.obj T.dat T.fits ?_);dsimp only;rw[if_neg hmem] at q;have T1:=T.toTab.put hb hmem hK hK';generalize hj:(stN t (tupleKeyHash knd kk) KK).j=j at *;generalize hput:t.put j=pt at *;obtain ⟨t1,p⟩:=pt;dsimp only at T1 ⊢;have hmask:t1.mask=t.mask:=by
      have:=congrArg (λz=>z.1.mask) hput;rw[lB T.lr] at this;exact this.symm
    have hsz:=T1.num;rw[length_cons,T.num] at hsz;have main:∀bb:Bool,wpAny (model prog w) A (do
        storeSet a (insertAt es p (tupleKeyHash knd kk,Value.ref b)) (if bb=true then t1 else { t1 with plain:=false })
        if (!false && (if bb=true then t1 else { t1 with plain:=false }).tooFull)=true then do
          setRelay a (grown (es.size+1))
          pure true
        else pure true) Q E s:=λbb=>by
      have T2:Tab knd s.heap (insertAt es p (tupleKeyHash knd kk,Value.ref b)) (if bb=true then t1 else { t1 with plain:=false }) (kk::ks):=by
        cases bb
        · exact T1.same rfl rfl rfl
        · exact T1
      have em2:(if bb=true then t1 else { t1 with plain:=false }).mask=t.mask:=by
        rw[<-hmask];cases bb<;>rfl
      generalize (if bb=true then t1 else { t1 with plain:=false })=t2 at *;have hr:=T.room;have hsi:=T.qN;have hnum:=T.num;have s2:=T2.qN;refine GS (wpAny_storeSet_of T.obj T.dat ?_ (by rw[<-hsz];lia));have hsb:=Heap.SameBut.update s.heap a (Obj.putSet (insertAt es p (tupleKeyHash knd kk,Value.ref b)) t2);have T3:=T2.heap (h':=s.heap.update a (Obj.putSet (insertAt es p (tupleKeyHash knd kk,Value.ref b)) t2)) λk b' hb'=>mZ hb' T.obj T.dat hsb;have hget:=lA T.obj T.dat (insertAt es p (tupleKeyHash knd kk,Value.ref b)) t2;have hfill:t2.fill=es.size+1:=by
        unfold SetTable.fill;rw[T2.lr.eJ,s2,<-hsz];rfl
      by_cases hfull:t2.tooFull=true
      · rw [hfull, if_pos (by decide)];have hge:(es.size+1)*5>=t.mask*3:=by
          unfold SetTable.tooFull at hfull;rw[hfill,em2,decide_eq_true_eq] at hfull;exact hfull
        obtain ⟨m',w1,w2,w3⟩:=vg T.vP (by rw[<-hsi];exact hr) hge (by lia);refine GS (yc (s:={ s with heap:=s.heap.update a (Obj.putSet (insertAt es p (tupleKeyHash knd kk,Value.ref b)) t2) }) T3 hget rfl T.As ?_ w1 w2 (by rw[<-hsz];exact w3) λh' o' es' ep' t' sb' T'=>?_)
        · unfold SetTable.fits;rw[Bool.and_eq_true,beq_iff_eq,decide_eq_true_eq];refine ⟨s2,?_⟩;rw[hfill,em2];have:=T.vP;simp only[Hn,List.not_mem_nil,or_false] at this;lia
        · exact GX (q h' o' es' ep' t' true (hsb.trans sb') T')
      · rw [if_neg (by simpa using hfull)];refine GX (q _ _ _ _ t2 true hsb { toTab:=T3,obj:=hget,dat:=rfl,As:=T.As,room:=?_ });unfold SetTable.tooFull at hfull;rw[decide_eq_true_eq,hfill,em2] at hfull;rw[s2,<-hsz,em2];lia
    split
    · exact GS (uX hb λbb=>main bb)
    · exact GS (GX (main true))
theorem add_tuple (T:eN knd s.heap a o es ep t ks){kk:List K}{b:Addr}(hu:A.units<cLine)(hb:IsTupleKey knd s.heap kk b)(hn:ks.length<9995){Q:Bool->GU->Prop}
    (q:∀h' o' es' ep' t' r,Heap.SameBut a s.heap h'->eN knd h' a o' es' ep' t' (if kk∈ks then ks else kk::ks)->Q r { s with heap:=h',toks:=s.toks+(kk.length+1) }) :
    wpAny (model prog w) A (setAdd a (.ref b)) Q E s:=by
  unfold setAdd;refine wpAny_holding (GS (wpAny_pyHash_tuple hu hb ?_));exact q9 (s:={ s with toks:=s.toks+(kk.length+1) }) T hu hb hn λh' o' es' ep' t' r sb T'=>q h' o' es' ep' t' r sb T'
end
end WS
namespace WS
open PySem PySem.SetTable
noncomputable def aS {α:Type}[DecidableEq α](val:Nat->α):Nat->List α
  | 0=>[]
  | i+1=>if val i∈aS val i then aS val i else val i::aS val i
theorem iG {α:Type}[DecidableEq α](val:Nat->α):∀i,(aS val i).length<=i
  | 0=>GW _
  | i+1=>by
    have:=iG val i;unfold aS;split
    · lia
    · rw[length_cons];lia
section
variable {prog:Hj} {w:Hs} {K:Type} [DecidableEq K] {knd:KeyKind prog w K} {A:Hr} {R:Result->GU->Prop} {I:Addr} {fp wr:List Addr} {G:Array GenState->Array GenState->Prop} {n:Nat} {P:Nat->GR->Prop} {St:Nat->GU->Prop}
noncomputable def gF (knd:KeyKind prog w K)(h:Heap)(a:Addr)(ks:List (List K)):Prop:=∃o es ep t,eN knd h a o es ep t ks
theorem gF.keep {h h':Heap}{a:Addr}{ks:List (List K)}(x:gF knd h a ks)(hs:∀o,h.get? a=some o->h'.get? a=some o)(hk:∀k b,IsTupleKey knd h k b->IsTupleKey knd h' k b):gF knd h' a ks:=by
  obtain ⟨o,es,ep,t,T⟩:=x;exact ⟨o,es,ep,t,{ toTab:=T.toTab.heap hk,obj:=hs _ T.obj,dat:=T.dat,As:=T.As,room:=T.room }⟩
theorem kQ {h h':Heap}{k:List K}{b:Addr}(x:IsTupleKey knd h k b)(hs:∀o,h.get? b=some o->h'.get? b=some o):IsTupleKey knd h' k b:=by
  obtain ⟨o,items,m,ho,r⟩:=x;exact ⟨o,items,m,hs o ho,r⟩
theorem yg (W:WalksS prog w A.in1 I fp wr G n P St)(S:Addr)(hSf:S∉fp)(hu:A.units+1<cLine)
    (val:Nat->List K) (hb:n<=9995) (hno:∀s' i',i'<=n->St i' s'->∀kk b,IsTupleKey knd s'.heap kk b->b∉wr) :
    ∀(k i:Nat) (s:GU),n - i=k->i<=n->St i s->gF knd s.heap S (aS val i) ->
      (∀j v,i<=j->j<n->P j v->∃b,v=.ref b/\b∉wr/\b≠S/\IsTupleKey knd s.heap (val j) b) ->
      (∀s',Moved (S::wr) G s s'->gF knd s'.heap S (aS val n)->R (.ok (.ret .none)) s') ->
      codeAny (model prog w) A (.builtin "set.update.loop" ⟨[.ref S,.ref I],[]⟩) R s:=by
  have hSw:S∉wr:=λh=>hSf (W.sub _ h);have hsub:∀b∈wr,b∈S::wr:=λb hb=>Hv _ hb;intro k;induction k with
  | zero =>
    intro i s hk hi hst hS hkeys hR;have hin:i=n:=by lia
    subst hin;refine codeAny_builtin PyProof.Rows.F.entry_set_update_loop ?_;rw[Around.under_plainId PyProof.Rows.F.plain_set_update_loop _];show wpAny _ A.in1 (pyNext (.ref I) >>= _) _ _ s;refine GS (W.done s _ _ hst λs' hm=>?_);show wpAny _ A.in1 (ret Value.none) _ _ s';exact GX (hR s' (hm.mono hsub) (hS.keep (λo ho=>hm.heap S o hSw ho) λkk b x=>kQ x λo ho=>hm.heap b o (hno s i hi hst kk b x) ho))
  | succ k ih =>
    intro i s hk hi hst hS hkeys hR;have hlt:i<n:=by lia
    refine codeAny_builtin PyProof.Rows.F.entry_set_update_loop ?_;rw[Around.under_plainId PyProof.Rows.F.plain_set_update_loop _];show wpAny _ A.in1 (pyNext (.ref I) >>= _) _ _ s;refine GS (W.item i s _ _ hlt hst λv s' hP hst' hm=>?_);obtain ⟨b,rfl,hbw,hbS,hkey⟩:=hkeys i v (GW _) hlt hP;have hS':=hS.keep (h':=s'.heap) (λo ho=>hm.heap S o hSw ho) λkk b x=>kQ x λo ho=>hm.heap b o (hno s i hi hst kk b x) ho;obtain ⟨o,es,ep,t,T⟩:=hS';have hkey':IsTupleKey knd s'.heap (val i) b:=kQ hkey λo ho=>hm.heap b o hbw ho;show wpAny _ A.in1 (holding [Value.ref b] (setAdd S (.ref b)) >>= _) _ _ s';refine GS (wpAny_holding ?_);refine add_tuple T hu hkey' (by have:=iG val i;lia) λh' o' es' ep' t' r hsb T'=>?_;have hset:gF knd h' S (aS val (i+1)):=⟨o',es',ep',t',by
      rw[aS];by_cases c:val i∈aS val i
      · rw[if_pos c] at T' ⊢;exact T'
      · rw[if_neg c] at T' ⊢;exact T'⟩
    refine GX ⟨plainId_quiet PyProof.Rows.F.plain_set_update_loop _,ih (i+1) _ (by lia) hlt (W.frame _ s' _ _ hst' (by lia) λb hb o e=>?_) hset (λj v hj1 hj2 hPj=>?_) λs'' hm'' hS''=>?_⟩
    · rw[hsb.2 b (λh:b=S=>hSf (by rw[<-h];exact hb))];exact e
    · obtain ⟨b2, rfl, hbw2, hbS2, hkey2⟩ := hkeys j v (by lia) hj2 hPj;exact ⟨b2,rfl,hbw2,hbS2,kQ hkey2 λo ho=>(hsb.2 b2 hbS2).trans (hm.heap b2 o hbw2 ho)⟩
    · refine hR s'' (Moved.trans W.gtrans ((hm.mono hsub).then_heap (by lia) λb o hb e => ?_) hm'') hS'';rw[hsb.2 b (λh:b=S=>hb (by rw[h];exact mem_cons_self))];exact e
theorem vB (h:Heap)(a:Addr)(led:Bool)(ho:h.get? a=some { cls:=.type "set",dict:=none,data:=.set #[] 0 (.fresh 0 0 led) }):gF knd h a []:=by
  refine ⟨_,#[],0,.fresh 0 0 led,{ obj:=ho,dat:=rfl,As:=⟨rfl,rfl,rfl⟩,room:=by show 0*5<7*3;decide,lr:=⟨λa b _ hb=>absurd hb (Nat.not_lt_zero _),rfl⟩,qN:=rfl,vP:=.head _,le:=λi j z=>?_,num:=rfl,eJ:=.nil,ent:=λi e z=>?_,has:=λk hk=>(nomatch hk),path:=λi j e z=>?_ }⟩
  · exact absurd z (by show ¬(#[]:Array Nat)[i]?=some j;simp)
  · exact absurd z (by simp)
  · exact absurd z (by show ¬(#[]:Array Nat)[i]?=some j;simp)
end
section
variable {prog:Hj} {w:Hs} {K:Type} [DecidableEq K] {knd:KeyKind prog w K} {A:Hr} {E:GR->GU->Prop} {s:GU}
set_option maxHeartbeats 3200000 in
theorem jF {l:Addr}{items:Array GR}(val:Nat->List K){Q:GR->GU->Prop}
    (hh:A.handled=none) (hu:A.units+8<cLine) (hl:s.heap.IsList l items) (hi:∀j v,items[j]?=some v->∃b,v=.ref b/\IsTupleKey knd s.heap (val j) b) (hb:items.size<=9995)
    (h:∀(h':Heap) (tk:Nat),gF knd h' s.heap.objs.size (aS val items.size)->(∀b o,b<s.heap.objs.size->s.heap.get? b=some o->h'.get? b=some o)->Q (.ref s.heap.objs.size) { s with heap:=h',toks:=tk }) :
    wpAny (model prog w) A (call (.type "set") [.ref l]) Q E s:=by
  obtain ⟨c,tl,hmro⟩:=F.called_set.mro;have hmade:=F.called_set.made;have hsub:=F.called_set.sub;refine wpAny_call (codeAny_of_tree ?_);show wpAny _ _ (callAny (.type "set") _) _ _ _;refine GX ⟨Code.quiet_builtin _ (by decide +kernel),codeAny_builtin F.entry_type_call ?_⟩;rw[Around.under_plain (weight_type_call_type "set" [.ref l] []) rfl];have h1:=F.called_set.notType;have h2:=F.called_set.canCreate;have hct:=F.typeCall_set_1 (.ref l);repeat (any_goals (first | assumption | wp_step))
  refine codeAny_mono (code_set_new_1 (.ref l) (E:=E) (Q₁:=λobj s₁=>∃led:Bool,obj=.ref s.heap.objs.size/\s₁ = { s with heap:=s.heap.push { cls:=.type "set",dict:=none,data:=.set #[] 0 (.fresh 0 0 led) } }) λled=>⟨led,rfl,rfl⟩) λr s₁ hr=>?_;cases r with
  | error e=>exact hr
  | ok fl =>
    cases fl with
    | ret obj =>
      obtain ⟨led,rfl,rfl⟩:=hr;have hS:(s.heap.push { cls:=.type "set",dict:=none,data:=.set #[] 0 (.fresh 0 0 led) }).get? s.heap.objs.size=some { cls:=.type "set",dict:=none,data:=.set #[] 0 (.fresh 0 0 led) }:=Hq _ rfl;have hT:Shared.TypeIs { s with heap:=s.heap.push { cls:=.type "set",dict:=none,data:=.set #[] 0 (.fresh 0 0 led) } } (.ref s.heap.objs.size) "set":=⟨_,hS,rfl⟩
      have hli:=F.called_set.init.lookup;have hbi:=F.called_set.init.bind (.ref s.heap.objs.size);repeat (any_goals (first | assumption | wp_step))
      refine codeAny_mono (codeAny_call_builtin (R:=wants (λr s₂=>r=.none/\∃h' tk,s₂ = { s with heap:=h',toks:=tk }/\gF knd h' s.heap.objs.size (aS val items.size) /\
          (∀b o,b<s.heap.objs.size->s.heap.get? b=some o->h'.get? b=some o)) E) F.called_set.init.plain F.entry_set_init (check_set_init_1 hT ?_)) λr₂ s₂ hr₂=>?_
      · obtain ⟨ol,hol,hcl,nl,hdl⟩:=hl;obtain ⟨ocls,odict,odata,oslots⟩:=ol;simp only at hcl hdl;subst hcl;subst hdl;have hol':(s.heap.push { cls:=.type "set",dict:=none,data:=.set #[] 0 (.fresh 0 0 led) }).get? l=some { cls:=.type "list",dict:=odict,data:=.seq items nl,slots:=oslots }:=GZ _ hol;have hsls:=F.sub_list_set;have hslf:=F.sub_list_frozenset;have hne:(Value.type "list" == Value.type "dict")=false:=by decide
        have hl1:(s.heap.push { cls:=.type "set",dict:=none,data:=.set #[] 0 (.fresh 0 0 led) }).IsList l items:=⟨_,hol',rfl,nl,rfl⟩
        unfold Builtin.«set.__init__» noKeywords Builtin.Frozenset.updateFrom;generalize hPI:pyIter=PI
        wp_walk
        subst hPI;refine wpAny_pyIter_list hl1 ?_;refine GS (wpAny_runValue ?_);have hlS:l<s.heap.objs.size:=Hg hol;have hh3:A.in1.in1.in1.handled=none:=by simp[hh]
        have hneI:l≠(s.heap.push { cls:=.type "set",dict:=none,data:=.set #[] 0 (.fresh 0 0 led) }).objs.size:=by
          rw[Heap.size_push];exact Hm (Nat.lt_succ_of_lt hlS)
        have hSf:s.heap.objs.size∉[(s.heap.push { cls:=.type "set",dict:=none,data:=.set #[] 0 (.fresh 0 0 led) }).objs.size,l]:=by
          rw[Heap.size_push];simp only[Hn,mem_singleton,List.not_mem_nil,or_false,not_or];exact ⟨Hm (Nat.lt_succ_self _),Nat.ne_of_gt hlS⟩
        refine yg (knd:=knd) ((Walks.list hh3 _ l hneI items).toS) s.heap.objs.size hSf ?hU val hb ?hNo (items.size - 0) 0 _ (by lia) (Nat.zero_le _)
          ⟨⟨_,Hq _ rfl,rfl,rfl⟩,(hl1.push _)⟩ (vB _ _ led (GZ _ hS)) ?hK ?hR
        case hU=>show A.units+1+1+1<cLine;lia
        case hNo =>
          intro s' i' _ hst kk b x hm;obtain ⟨o,its,m,ho,hc,hd,_⟩:=x;rw[mem_singleton] at hm;subst hm;obtain ⟨⟨o2,e1,e2,e3⟩,_⟩:=hst;rw[ho] at e1;cases e1;rw[hc] at e2;exact absurd e2 (by decide)
        case hK =>
          intro j v _ _ hv;obtain ⟨b,rfl,hb'⟩:=hi j v hv;have hlt:b<s.heap.objs.size:=by obtain ⟨o,_,_,ho,_⟩:=hb';exact Hg ho
          refine ⟨b,rfl,?_,Hm hlt,kQ hb' λo ho=>GZ _ (GZ _ ho)⟩;rw[mem_singleton,Heap.size_push];exact Hm (Nat.lt_succ_of_lt hlt)
        case hR =>
          intro s' hm hS';obtain ⟨h',g',d',tk',os'⟩:=s';have eg:g'=s.gens:=hm.gens;have ed:d'=s.drawn:=hm.drawn;have eo:os'=s.os:=hm.os;subst eg;subst ed;subst eo;show wpAny _ _ _ _ _ _;refine GX ?_;show wpAny _ _ (ret Value.none) _ _ _;refine GX ⟨rfl,h',tk',rfl,hS',λb o hb e=>?_⟩;have hb1:b≠s.heap.objs.size:=Hm hb;have hb2:b≠(s.heap.push { cls:=.type "set",dict:=none,data:=.set #[] 0 (.fresh 0 0 led) }).objs.size:=by
            rw[Heap.size_push];exact Hm (Nat.lt_succ_of_lt hb)
          exact hm.heap b o (by simp only[Hn,mem_singleton,List.not_mem_nil,or_false,not_or];exact ⟨hb1,hb2⟩) (GZ _ (GZ _ e))
      · cases r₂ with
        | error e=>exact hr₂
        | ok fl₂ =>
          cases fl₂ with
          | ret r =>
            obtain ⟨rfl,h',tk,rfl,hS',hk'⟩:=hr₂;repeat (any_goals (first | assumption | wp_step))
            exact h _ _ hS' hk'
          | _=>exact hr₂.elim
    | _=>exact hr.elim
theorem rQ {a:Addr}{ks:List (List K)}{Q:GR->GU->Prop}(x:gF knd s.heap a ks)(hz:ks.length<=9995)(h:∀t tk,Q (.int ks.length t) { s with toks:=tk }):wpAny (model prog w) A (call (.builtin "len") [.ref a]) Q E s:=by
  obtain ⟨o,es,ep,t,T⟩:=x;have e:=T.num;refine call_len_set T.obj T.As T.dat T.fits ?_ ?_
  · rw[<-e];have:(2:Int) ^ 63=9223372036854775808:=by decide
    lia
  · rw[<-e];exact h _ _
end
end WS
namespace WS
theorem nu {α β:Type}[DecidableEq α][DecidableEq β](f:α->β)(hf:∀x y,f x=f y->x=y)(val:Nat->α):∀i,aS (λj=>f (val j)) i=(aS val i).map f
  | 0=>rfl
  | i+1=>by
    have e:(f (val i)∈(aS val i).map f)↔val i∈aS val i:=by
      rw[mem_map];exact ⟨λ⟨y,h1,h2⟩=>hf _ _ h2 ▸ h1,λh=>⟨_,h,rfl⟩⟩
    rw[aS,aS,nu f hf val i];by_cases c:val i∈aS val i
    · rw[if_pos c,if_pos (e.mpr c)]
    · rw[if_neg c,if_neg (λz=>c (e.mp z)),map_cons]
theorem jB {α:Type}[DecidableEq α]{f g:Nat->α}:∀n,(∀i,i<n->f i=g i)->aS f n=aS g n
  | 0,_=>rfl
  | n+1,h=>by
    rw[aS,aS,jB n λi hi=>h i (by lia),h n (by lia)]
noncomputable def dist {α:Type}[DecidableEq α][Inhabited α](xs:List α):Nat:=(aS (λi=>xs.getD i default) xs.length).length
end WS
namespace L2
open PySem PySem.Spec PyProof.Rows
section
variable {X:Cx} {l:Expr} {p pos p2 pos2:Pos} {ta:TA}
noncomputable def Ab (K:Frag)(t:TA):TE:=λσ H Q=>t σ H λvs H1=>∃a xs kss,vs = [.ref a]/\H1 a=some (.lst xs)/\Paired (λv ks=>∃b,v=V.ref b/\fA K H1 b (ks.map kV)) xs kss/\xs.length<=9995/\Q (.int (WS.aS (λi=>kss.getD i []) kss.length).length) H1
theorem vm {n:Nat}(hr:bQ n X.A)(hc:X.calm=true)(hg:Gl X "len")(hm:X.mg "len" = none)(hgl:Gl X "set")(hml:X.mg "set" = none)(ha:PA X [l] ta)(hs:autoParam (starEach [l] X.env = [(false,eval l X.env)]) aZa._auto_1)
    (he:autoParam (starEach [.Call (.Name "set" p2) [l] [] pos2] X.env = [(false,eval (.Call (.Name "set" p2) [l] [] pos2) X.env)]) aZa._auto_1) :
    PE X (.Call (.Name "len" p) [.Call (.Name "set" p2) [l] [] pos2] [] pos) (Ab X.K ta):=by
  intro pins s σ H Q I h;refine wpAny_Call_Name_kw (fg I hg hm PySem.boot_len ?_ (by decide) (by decide));refine PyProof.Rows.callWith_builtin1 ?_ he rfl;rw[he];show wpAny _ _ (spliced [(false,eval (.Call (.Name "set" p2) [l] [] pos2) X.env)]) _ _ s;refine Calls.spliced_cons ?_;refine Call_ (fg I hgl hml boot_set (PyProof.Rows.callWith_type1 (bt (ha pos2 pins s σ H _ I h) ?_) hs rfl));rintro us s1 ⟨vs,H1,I1,r1,q1⟩;obtain ⟨a,xs,kss,rfl,hx,pr,hz,q⟩:=q1;obtain ⟨u,rfl,ru⟩:=vals1 r1;cases ru;obtain ⟨zx,its,m,rv,hl⟩:=I1.bf a _ hx;have hlen:=rv.length;have hlk:=Paired.length pr;refine WS.jF (knd:=bw X.prog X.w) (items:=its.toArray) (λi=>kss.getD i []) (I1.ok.hd hc) (by have:=hr.units;lia) ⟨_,hl,rfl,m,rfl⟩ (λj v hv=>?_) (by rw[Hk];lia) λh' tk hS hk=>?_
  · rw[List.getElem?_toArray] at hv;have hjt:j<its.length:=(Hb.mp hv).1;have e1:=GV (l:=xs) (i:=j) (by lia);have e2:=GV (l:=kss) (i:=j) (by lia);obtain ⟨b,eb,hb⟩:=DL.dH pr j _ _ e1 e2;have rb:=DL.dH rv j _ _ e1 hv;rw[eb] at rb;cases rb;refine ⟨b,rfl,?_⟩;have:=ox I1 hb;rw[show kss.getD j []=kss[j]'(by lia) by rw[getD_eq_getElem?_getD,e2];rfl];exact this
  · refine Calls.spliced_nil ?_;rw[show its.toArray.size=kss.length by rw[Hk];lia] at hS;have hle:=WS.iG (λi=>kss.getD i []) kss.length;refine WS.rQ (s:={ s1 with heap:=h',toks:=tk }) hS (by lia) λt tk'=>?_;exact ⟨.int _,H1,I1.kept (t':=tk') λb o e=>hk b o (Hg e) e,⟨t,rfl⟩,q⟩
end
end L2
namespace DL
open PySem L2
section
variable {X:Cx} {l:Expr} {p pos p2 pos2:Pos} {t:dj}
noncomputable def tupI (ns:List Int):D:=.tup (ns.map D.int)
noncomputable def nQ (t:dj):DT:=λρ Q=>t ρ λds=>match ds with
  | [.lst xs]=>∃nss:List (List Int),xs=nss.map tupI/\nss.length<=9995/\Q (.p (.int (WS.dist nss)))
  | _=>False
theorem xl (ns:List Int):(ns.map (Sum.inl:Int->Key)).map kV=ns.map V.int:=by
  rw[map_map];rfl
theorem qT {K:Frag}{G:Hp}:∀{nss:List (List Int)} {us:List V},aE K G us (nss.map tupI)->Paired (λv ks=>∃b,v=V.ref b/\fA K G b (ks.map kV)) us (nss.map λns=>ns.map (Sum.inl:Int->Key))
  | [],_,h=>by cases h;exact .nil
  | ns::nss,_,h=>by
    cases h with
    | cons h t =>
      refine .cons ?_ (qT t);obtain ⟨b,vs,rfl,e,rr⟩:=Rep.bL (show Rep K G _ (.tup (ns.map D.int)) from h);rw[dJ rr] at e;exact ⟨b,rfl,by rw[xl];exact e⟩
theorem uQ {n:Nat}(hr:bQ n X.A)(hc:X.calm=true)(hg:Gl X "len")(hm:X.mg "len" = none)(hgl:Gl X "set")(hml:X.mg "set" = none)(ha:DA X [l] t)(hs:autoParam (starEach [l] X.env = [(false,eval l X.env)]) aZa._auto_1)
    (he:autoParam (starEach [.Call (.Name "set" p2) [l] [] pos2] X.env = [(false,eval (.Call (.Name "set" p2) [l] [] pos2) X.env)]) aZa._auto_1) :
    DE X (.Call (.Name "len" p) [.Call (.Name "set" p2) [l] [] pos2] [] pos) (nQ t):=
  DE.of (vm hr hc hg hm hgl hml ha.pa hs he)<|by
    rintro σ H Q ⟨G,ρ,P,s,re,h,k⟩;refine ⟨G,ρ,_,s,re,h,λds vs H1 G1 p1 l1 w1 r1=>?_⟩;split at p1
    · obtain ⟨nss,rfl,hz,p1⟩:=p1;obtain ⟨v,rfl,rv⟩:=du r1;obtain ⟨a,us,rfl,e,rr⟩:=rv.lst_inv;have hl:=Paired.length rr;rw[Hh] at hl;refine ⟨a,us,nss.map λns=>ns.map (Sum.inl:Int->Key),rfl,w1.gh _ _ e,?_,by lia,?_⟩
      · exact Paired.imp' (by rintro v ks ⟨b,e1,e2⟩;exact ⟨b,e1,ah w1.gh e2⟩) (qT rr)
      · have en:(WS.aS (λi=>(nss.map λns=>ns.map (Sum.inl:Int->Key)).getD i []) (nss.map λns=>ns.map (Sum.inl:Int->Key)).length).length=WS.dist nss:=by
          unfold WS.dist;have hm:=WS.nu (λns:List Int=>ns.map (Sum.inl:Int->Key)) (λx y h=>(List.map_inj_right λa b h=>Sum.inl.inj h).mp h) (λi=>nss.getD i default) nss.length;have hm2:=congrArg List.length hm;rw[Hh] at hm2;rw[<-hm2,Hh];congr 1;refine WS.jB _ λi hi=>?_;rw[getD_eq_getElem?_getD,Hw,GV hi,getD_eq_getElem?_getD,GV hi];rfl
        rw[en];exact k _ _ H1 G1 p1 w1 (.int _)
    · exact p1.elim
end
end DL
namespace DL
open PySem L2
noncomputable def wB:DR:=λds P=>match ds with
  | [.lst xs]=>P (.p (.tup xs))
  | _=>False
end DL
namespace PySem
open PyProof.Rows
section
variable {prog:Hj} {w:Hs} {A:Hr} {E:GR->GU->Prop} {s:GU} {l:Addr} {xs:Array (Int×Tok)}
theorem mX {Q:GR->GU->Prop}(hl:s.heap.IsTuple l (intItems xs))(h:∀s₂,s₂ = { s with heap:=s.heap.push { cls:=.type "tuple_iterator",data:=.fields #[.ref l,.int 0 0] } }->s₂.heap.IsTupleIter s.heap.objs.size l 0/\s₂.heap.IsTuple l (intItems xs)->(∀b∈[s.heap.objs.size,l],b<s₂.heap.objs.size)->l≠s.heap.objs.size->Q (.ref s.heap.objs.size) s₂):wpAny (model prog w) A (pyIter (.ref l)) Q E s:=by
  have hlt:l<s.heap.objs.size:=by obtain ⟨o,e,_⟩:=hl;exact Hg e
  refine wpAny_pyIter_tuple hl (h _ rfl ⟨⟨_,Hq _ rfl,rfl,rfl⟩,hl.push _⟩ (λb hb=>?_) (Hm hlt));show b<(s.heap.push _).objs.size;rw[Heap.size_push];rcases Hn.mp hb with rfl | hb
  · exact Nat.lt_succ_self _
  · rw[mem_singleton.mp hb];exact Nat.lt_succ_of_lt hlt
theorem qA {h':Heap}{o':Obj}(hk:∀b o,b∉[s.heap.objs.size]->(s.heap.push o').get? b=some o->h'.get? b=some o):∀b o,s.heap.get? b=some o->h'.get? b=some o:=λb o e =>
  hk b o (λhm=>Hm (Hg e) (mem_singleton.mp hm)) (GZ _ e)
theorem rS {Q:GR->GU->Prop}(hh:A.handled=none)(hl:s.heap.IsTuple l (intItems xs))(hne:0<xs.size)
    (h:∀v h' tk,(intItems xs)[argBest (λi j=>decide (numAt xs i>numAt xs j)) (xs.size - 1)]?=some v->(∀b o,s.heap.get? b=some o->h'.get? b=some o)->Q v { s with heap:=h',toks:=tk }) :
    wpAny (model prog w) A (call (.builtin "max") [.ref l]) Q E s:=by
  refine call_max_walk (mX hl λs₂ e st hfp hlI=>?_);subst e;refine ⟨_,_,_,_,_,_,_,rfl,Walks.tuple (A:=A.in1) hh _ l hlI (intItems xs),st,hfp,by simpa [intItems] using hne,CmpOf.ints_gt (numAt xs) (λ_ _=>intItems_at),λv h' tk hP hk=>?_⟩;exact h v h' tk (by simpa [intItems] using hP) (qA hk)
theorem rT {Q:GR->GU->Prop}(hh:A.handled=none)(hl:s.heap.IsTuple l (intItems xs))(hne:0<xs.size)
    (h:∀v h' tk,(intItems xs)[argBest (λi j=>decide (numAt xs i<numAt xs j)) (xs.size - 1)]?=some v->(∀b o,s.heap.get? b=some o->h'.get? b=some o)->Q v { s with heap:=h',toks:=tk }) :
    wpAny (model prog w) A (call (.builtin "min") [.ref l]) Q E s:=by
  refine call_min_walk (mX hl λs₂ e st hfp hlI=>?_);subst e;refine ⟨_,_,_,_,_,_,_,rfl,Walks.tuple (A:=A.in1) hh _ l hlI (intItems xs),st,hfp,by simpa [intItems] using hne,CmpOf.ints_lt (numAt xs) (λ_ _=>intItems_at),λv h' tk hP hk=>?_⟩;exact h v h' tk (by simpa [intItems] using hP) (qA hk)
end
end PySem
namespace L2
open PySem PySem.Spec PyProof.Rows
section
variable {X:Cx}
theorem uK (hc:X.calm=true):dP X (.builtin "max") (λxs H Q=>∃(p:Addr) (ns:List Int),xs = [.ref p]/\fA X.K H p (ns.map V.int)/\ns≠[]/\∀m:Int,m∈ns->(∀n∈ns,n<=m)->Q (.int m) H):=by
  intro pins s σ H xs us Q I r h;obtain ⟨p,ns,rfl,hp,hne,q⟩:=h;obtain ⟨u,rfl,ru⟩:=vals1 r;cases ru;obtain ⟨its,rv,pl,hz⟩:=I.tuple hp;have hi:IntsAre its ns:=intsAre_of rv;obtain ⟨zs,e⟩:=hi.allInts.items;have e3:zs.toList.map (·.1)=ns:=by rw[<-nums_intItems,<-e];exact hi.numsOf
  have hsz:0<zs.size:=by
    have:ns.length=zs.size:=by rw[<-e3];simp
    have:ns.length≠0:=λz=>hne (length_eq_zero_iff.mp z);lia
  refine rS (I.ok.hd hc) (xs:=zs) (e ▸ pl) hsz λv h' tk hv hk=>?_;obtain ⟨⟨t,rfl⟩,hm⟩:=sM hv;refine ⟨.int _,H,I.kept hk,⟨t,rfl⟩,q _ (e3 ▸ hm) λn hn=>?_⟩;obtain ⟨j,hj,ej⟩:=kX (e3 ▸ hn);rw[<-ej];exact (argBest_gt (numAt zs) (zs.size - 1)).2 j hj
theorem uM (hc:X.calm=true):dP X (.builtin "min") (λxs H Q=>∃(p:Addr) (ns:List Int),xs = [.ref p]/\fA X.K H p (ns.map V.int)/\ns≠[]/\∀m:Int,m∈ns->(∀n∈ns,m<=n)->Q (.int m) H):=by
  intro pins s σ H xs us Q I r h;obtain ⟨p,ns,rfl,hp,hne,q⟩:=h;obtain ⟨u,rfl,ru⟩:=vals1 r;cases ru;obtain ⟨its,rv,pl,hz⟩:=I.tuple hp;have hi:IntsAre its ns:=intsAre_of rv;obtain ⟨zs,e⟩:=hi.allInts.items;have e3:zs.toList.map (·.1)=ns:=by rw[<-nums_intItems,<-e];exact hi.numsOf
  have hsz:0<zs.size:=by
    have:ns.length=zs.size:=by rw[<-e3];simp
    have:ns.length≠0:=λz=>hne (length_eq_zero_iff.mp z);lia
  refine rT (I.ok.hd hc) (xs:=zs) (e ▸ pl) hsz λv h' tk hv hk=>?_;obtain ⟨⟨t,rfl⟩,hm⟩:=sM hv;refine ⟨.int _,H,I.kept hk,⟨t,rfl⟩,q _ (e3 ▸ hm) λn hn=>?_⟩;obtain ⟨j,hj,ej⟩:=kX (e3 ▸ hn);rw[<-ej];exact (argBest_lt (numAt zs) (zs.size - 1)).2 j hj
end
end L2
namespace DL
open PySem L2
noncomputable def Aq:DR:=λds P=>match ds with
  | [.tup xs]=>∃ns:List Int,xs=ns.map D.int/\ns≠[]/\∀m,m∈ns->(∀n∈ns,n<=m)->P (.p (.int m))
  | _=>False
noncomputable def Ar:DR:=λds P=>match ds with
  | [.tup xs]=>∃ns:List Int,xs=ns.map D.int/\ns≠[]/\∀m,m∈ns->(∀n∈ns,m<=n)->P (.p (.int m))
  | _=>False
theorem yF {X:Cx}(hc:X.calm=true):CallD X (.builtin "max") Aq:=by
  refine ⟨_,uK hc,λH G vs ds P Q s r h k=>?_⟩;unfold Aq at h;split at h
  · obtain ⟨ns,rfl,hn,h⟩:=h;obtain ⟨v,rfl,rv⟩:=du r;obtain ⟨a,us,rfl,e,rr⟩:=rv.bL;rw[dJ rr] at e;exact ⟨a,ns,rfl,ah s e,hn,λm h1 h2=>k _ _ H G (h m h1 h2) (Wd.refl s) (.int _)⟩
  · exact h.elim
theorem yG {X:Cx}(hc:X.calm=true):CallD X (.builtin "min") Ar:=by
  refine ⟨_,uM hc,λH G vs ds P Q s r h k=>?_⟩;unfold Ar at h;split at h
  · obtain ⟨ns,rfl,hn,h⟩:=h;obtain ⟨v,rfl,rv⟩:=du r;obtain ⟨a,us,rfl,e,rr⟩:=rv.bL;rw[dJ rr] at e;exact ⟨a,ns,rfl,ah s e,hn,λm h1 h2=>k _ _ H G (h m h1 h2) (Wd.refl s) (.int _)⟩
  · exact h.elim
end DL
namespace L2
open PySem PySem.Spec PyProof.Rows
section
variable {X:Cx} {tg:Expr}
end
end L2
namespace DL
open PySem L2
section
variable {X:Cx} {tg:Expr} {pos:Pos}
end
end DL
namespace WS
open DL
noncomputable abbrev K2:=Int×Int
noncomputable abbrev P5:=Int×Int×Int×Int×Int
noncomputable def Bt:K2:=(-1,-1)
noncomputable def gk (p:P5):K2:=(p.1,p.2.1)
noncomputable def d6 (p:P5):K2:=(p.2.2.1,p.2.2.2.1)
noncomputable def ht (p:P5):Int:=p.2.2.2.2
noncomputable def k4 (p:P5):List Int:=[p.1,p.2.1,p.2.2.1,p.2.2.2.1]
noncomputable def d5 (p:P5):D:=.tup [.int p.1,.int p.2.1,.int p.2.2.1,.int p.2.2.2.1,.int p.2.2.2.2]
noncomputable def Keyed (kvs:cy):Prop:=(kvs.map (·.1)).Nodup
theorem qV (k:K2):aN [] k=none:=rfl
theorem dO (p:K2×Int)(r:cy)(k:K2):aN (p::r) k=if p.1=k then some p.2 else aN r k:=by
  unfold aN;rw[List.find?_cons];by_cases h:p.1=k
  · rw[if_pos h,decide_eq_true h];rfl
  · rw[if_neg h,decide_eq_false h]
theorem qU (a b:cy)(k:K2):aN (a++b) k=(aN a k).or (aN b k):=by
  induction a with
  | nil=>rfl
  | cons p r ih =>
    rw[List.cons_append,dO,dO,ih];split<;>rfl
theorem gy {kvs:cy}{k:K2}:aN kvs k=none↔k∉kvs.map (·.1):=by
  induction kvs with
  | nil=>simp[qV]
  | cons p r ih =>
    rw[dO,map_cons,Hn];by_cases h:p.1=k
    · rw[if_pos h];simp[h]
    · rw[if_neg h,ih];have:¬k=p.1:=λz=>h z.symm;simp[this]
theorem jK {kvs:cy}{k:K2}:(kvs.any λp=>decide (p.1=k))=true↔k∈kvs.map (·.1):=by
  rw[List.any_eq_true,mem_map];constructor
  · rintro ⟨p,h1,h2⟩;exact ⟨p,h1,by simpa using h2⟩
  · rintro ⟨p,h1,h2⟩;exact ⟨p,h1,by simpa using h2⟩
theorem xx (kvs:cy)(k:K2)(v:Int):(kvs.map λp=>if p.1=k then (p.1,v) else p).map (·.1)=kvs.map (·.1):=by
  rw[map_map];refine map_congr_left λp _=>?_;show (if p.1=k then (p.1,v) else p).1=p.1;split<;>rfl
theorem iL (kvs:cy)(k k':K2)(v:Int):aN (putD kvs k v) k'=if k=k' then some v else aN kvs k':=by
  unfold putD;split
  · rename_i h;have hm:=jK.mp h;clear h;induction kvs with
    | nil=>cases hm
    | cons p r ih =>
      rw[map_cons,dO,dO];by_cases e:p.1=k
      · rw[if_pos e];show (if p.1=k' then some v else _)=_;rw[e];by_cases e':k=k'
        · rw[if_pos e',if_pos e']
        · rw[if_neg e',if_neg e',if_neg e'];by_cases hr:k∈r.map (·.1)
          · rw[ih hr,if_neg e']
          · congr 1;conv=>rhs;rw[<-List.map_id r]
            refine map_congr_left λq hq=>?_;rw[if_neg (λz=>hr (mem_map.mpr ⟨q,hq,z⟩))];rfl
      · rw[if_neg e];have hm':k∈r.map (·.1):=by
          rw[map_cons,Hn] at hm;exact hm.resolve_left λz=>e z.symm
        rw[ih hm'];by_cases e':k=k'
        · rw[if_pos e',if_pos e',if_neg (λz=>e (z.trans e'.symm))]
        · rw[if_neg e',if_neg e']
  · rename_i h;have hm:k∉kvs.map (·.1):=λz=>h (jK.mpr z);rw[qU,dO];by_cases e:k=k'
    · rw [if_pos e, if_pos e, gy.mpr (by rw [<- e];exact hm)];rfl
    · rw[if_neg e,if_neg e,qV];cases aN kvs k'<;>rfl
theorem nj {kvs:cy}(h:Keyed kvs)(k:K2)(v:Int):Keyed (putD kvs k v):=by
  unfold putD;split
  · unfold Keyed;rw[xx];exact h
  · rename_i hn;unfold Keyed;rw[map_append,nodup_append];refine ⟨h,by simp,λa ha b hb=>?_⟩;simp only[map_cons,List.map_nil,mem_singleton] at hb;rw[hb];rintro rfl;exact hn (jK.mpr ha)
theorem uo (kvs:cy)(k:K2)(v:Int):(putD kvs k v).length<=kvs.length+1:=by
  unfold putD;split
  · rw[Hh];lia
  · rw[Hu];exact GW _
noncomputable abbrev Q2:=K2×Int
noncomputable def aM (k:K2)(qs:List Q2):Int:=((qs.filter λq=>decide (q.1=k)).map (·.2)).sum
noncomputable def fy (k:K2)(qs:List Q2):Option Int:=if k∈qs.map (·.1) then some (aM k qs) else none
theorem cu (k:K2)(a b:List Q2):aM k (a++b)=aM k a+aM k b:=by
  unfold aM;rw[filter_append,map_append,sum_append]
theorem fX {k:K2}{qs:List Q2}(h:k∉qs.map (·.1)):aM k qs=0:=by
  unfold aM;rw[List.filter_eq_nil_iff.mpr λq hq=>by
    rw[decide_eq_true_eq];exact λe=>h (mem_map.mpr ⟨q,hq,e⟩)]
  rfl
theorem ny (k:K2)(qs:List Q2):(fy k qs).getD 0=aM k qs:=by
  unfold fy;split
  · rfl
  · rename_i h;rw[fX h];rfl
noncomputable def gL (qs:List Q2):cy:=qs.foldl (λkv q=>putD kv q.1 ((aN kv q.1).getD 0+q.2)) []
theorem mm (qs:List Q2)(q:Q2):gL (qs++[q])=putD (gL qs) q.1 ((aN (gL qs) q.1).getD 0+q.2):=by
  unfold gL;rw[List.foldl_append];rfl
theorem iI (k:K2)(q:Q2):aM k [q]=if q.1=k then q.2 else 0:=by
  unfold aM;by_cases h:q.1=k
  · rw [if_pos h, filter_cons, if_pos (by simpa using h)];simp
  · rw [if_neg h, filter_cons, if_neg (by simpa using h)];rfl
theorem sJ:∀qs:List Q2,Keyed (gL qs)/\(gL qs).length<=qs.length/\∀k,aN (gL qs) k=fy k qs:=by
  intro qs;generalize hn:qs.length=n;induction n generalizing qs with
  | zero =>
    obtain rfl:=length_eq_zero_iff.mp hn;exact ⟨.nil,GW _,λk=>rfl⟩
  | succ n ih =>
    obtain ⟨ini,q,rfl⟩ : ∃ini q,qs=ini++[q]:=by
      rcases eq_nil_or_concat qs with h | ⟨l,b,h⟩
      · rw[h] at hn;cases hn
      · exact ⟨l,b,by rw[h,concat_eq_append]⟩
    have hl:ini.length=n:=by rw[Hu] at hn;simp at hn;exact hn
    obtain ⟨h1,h2,h3⟩:=ih ini hl;rw[mm];refine ⟨nj h1 _ _,by have:=uo (gL ini) q.1 ((aN (gL ini) q.1).getD 0+q.2);lia,λk=>?_⟩;rw[iL,h3,ny,h3];unfold fy;rw[map_append];by_cases e:q.1=k
    · rw[if_pos e,if_pos (by rw[<-e];simp),cu,iI,if_pos e,e]
    · rw[if_neg e,cu,iI,if_neg e];have:(k∈ini.map (·.1)++[q].map (·.1))↔k∈ini.map (·.1):=by
        rw[mem_append];exact ⟨λz=>z.resolve_right (by simp;exact λz=>e z.symm),.inl⟩
      by_cases hk:k∈ini.map (·.1)
      · rw[if_pos hk,if_pos (this.mpr hk)];congr 1;lia
      · rw[if_neg hk,if_neg (λz=>hk (this.mp z))]
noncomputable def fI (s:S3):Int:=min s.1 s.2.1
noncomputable def i7 (s:S3):Int:=max s.1 s.2.1
noncomputable def strAt (ss:List S3)(n:Int):Option S3:=if 0<=n then ss[n.toNat]? else none
noncomputable def ao (ss:List S3)(k:K2):Option Int:=match strAt ss k.1 with
  | some s=>if 0<s.2.2/\fI s<=k.2/\k.2<i7 s then some s.2.2 else none
  | none=>none
theorem nq (ss:List S3):ao ss Bt=none:=rfl
theorem dM {α:Type}[DecidableEq α](val:Nat->α):∀n x,x∈aS val n↔∃i,i<n/\val i=x
  | 0,x=>⟨λz=>(nomatch z),by rintro ⟨_,z,_⟩;exact absurd z (Nat.not_lt_zero _)⟩
  | n+1,x=>by
    rw[aS];constructor
    · intro h;by_cases c:val n∈aS val n
      · rw[if_pos c] at h;obtain ⟨i,hi,e⟩:=(dM val n x).mp h;exact ⟨i,by lia,e⟩
      · rw[if_neg c,Hn] at h;rcases h with rfl | h
        · exact ⟨n,by lia,rfl⟩
        · obtain ⟨i,hi,e⟩:=(dM val n x).mp h;exact ⟨i,by lia,e⟩
    · rintro ⟨i,hi,rfl⟩;by_cases c:val n∈aS val n
      · rw[if_pos c];by_cases e:i=n
        · subst e;exact c
        · exact (dM val n _).mpr ⟨i,by lia,rfl⟩
      · rw[if_neg c,Hn];by_cases e:i=n
        · subst e;exact .inl rfl
        · exact .inr ((dM val n _).mpr ⟨i,by lia,rfl⟩)
theorem gX {α:Type}[DecidableEq α](val:Nat->α):∀n,(aS val n).length=n↔∀i j,i<j->j<n->val i≠val j
  | 0=>⟨λ_ i j _ h=>absurd h (Nat.not_lt_zero _),λ_=>rfl⟩
  | n+1=>by
    have hle:=iG val n;rw[aS];constructor
    · intro h i j hij hj e;by_cases c:val n∈aS val n
      · rw[if_pos c] at h;lia
      · rw[if_neg c,length_cons] at h;by_cases ej:j=n
        · subst ej;exact c ((dM val j _).mpr ⟨i,hij,e⟩)
        · exact (gX val n).mp (by lia) i j hij (by lia) e
    · intro h;have c:val n∉aS val n:=λz=>by
        obtain ⟨i,hi,e⟩:=(dM val n _).mp z;exact h i n hi (by lia) e
      rw[if_neg c,length_cons,(gX val n).mpr λi j hij hj=>h i j hij (by lia)]
theorem uS {α:Type}[DecidableEq α][Inhabited α](xs:List α):dist xs=xs.length↔xs.Nodup:=by
  unfold dist;rw[gX];show _↔xs.Pairwise (·≠·);rw[pairwise_iff_getElem];constructor
  · intro h i j hi hj hij;have:=h i j hij hj;rw[getD_eq_getElem?_getD,getD_eq_getElem?_getD,GV hi,GV hj] at this;exact this
  · intro h i j hij hj;have hi:i<xs.length:=by lia
    rw[getD_eq_getElem?_getD,getD_eq_getElem?_getD,GV hi,GV hj];exact h i j hi hj hij
noncomputable def xA (g:Int)(p:P5):Bool:=decide (1<=ht p) && (if gk p=Bt\/d6 p=Bt then decide (gk p≠d6 p) else decide (p.2.1>=p.2.2.2.1+g))
noncomputable def gq (ps:List P5):List Q2:=ps.map λp=>(gk p,ht p)
noncomputable def tq (ps:List P5):List Q2:=ps.map λp=>(d6 p,ht p)
structure Looks (g:Int)(hs cs:List S3)(ps:List P5):Prop where
  may:∀p∈ps,xA g p=true
  eJ:(ps.map k4).Nodup
  rJ:∀k,k≠Bt->fy k (gq ps)=ao hs k
  qX:∀k,k≠Bt->fy k (tq ps)=ao cs k
theorem oy {α:Type}{xs:List α}{e:α->D}(he:∀x y,e x=e y->x=y){g:Tg}{te:DT}{ρ:ar}{Q:B->Prop}(f:α->D)(hz:xs.length<=1000000)(h:∀x∈xs,g.d (e x) ρ λρ'=>te ρ' λb=>some b.val=some (f x))(q:Q (.o (.lst (xs.map f)))):BG (xs.map e) g h9 te ρ Q:=by
  classical
  refine zm (λd=>if h:∃x,e x=d then f h.choose else .non) f (λx _=>?_) hz h q;have hx:∃y,e y=e x:=⟨x,rfl⟩
  show (if h:∃y,e y=e x then f h.choose else .non)=f x;rw[dif_pos hx,he _ _ hx.choose_spec]
theorem ir {α:Type}{xs:List α}{e:α->D}(he:∀x y,e x=e y->x=y){g:Tg}{tc:fD}{te:DT}{ρ:ar}{Q:B->Prop}(f:α->Option D)(hz:xs.length<=1000000)(h:∀x∈xs,g.d (e x) ρ λρ'=>tc ρ' λc=>(c=true->te ρ' λb=>some b.val=f x)/\(c=false->none=f x))(q:Q (.o (.lst (xs.filterMap f)))) :
    BG (xs.map e) g tc te ρ Q:=by
  classical
  refine zk (λd=>if h:∃x,e x=d then f h.choose else none) f (λx _=>?_) hz h q;have hx:∃y,e y=e x:=⟨x,rfl⟩
  show (if h:∃y,e y=e x then f h.choose else none)=f x;rw[dif_pos hx,he _ _ hx.choose_spec]
theorem iT (p q:P5)(h:d5 p=d5 q):p=q:=by
  obtain ⟨a,b,c,d,e⟩:=p;obtain ⟨a',b',c',d',e'⟩:=q;unfold d5 at h;simp only[D.tup.injEq,List.cons.injEq,D.int.injEq,and_true] at h;obtain ⟨rfl,rfl,rfl,rfl,rfl⟩:=h;rfl
theorem xP (a b c d:Int):bh (.tup [.int a,.int b]) (.tup [.int c,.int d])=decide (a=c/\b=d):=by
  simp only[bh,gR];rw[Bool.and_true,Bool.eq_iff_iff,Bool.and_eq_true];simp
theorem tR {a b c d:Int}{Q:B->Prop}(h:Q (.p (.bl (decide (a=c/\b=d))))):EB (.tup [.int a,.int b]) (.tup [.int c,.int d]) Q:=by
  refine ⟨⟨by simp only[iB,cN,dg,iz,Bool.and_true],by simp only[iB,cN,dg,iz,Bool.and_true],by simp only[jT,dF,eP,jR];decide⟩,?_⟩;rw[xP];exact h
theorem sx (ss:List S3)(s:S3)(n:Int):strAt (ss++[s]) n=if n=(ss.length:Int) then some s else strAt ss n:=by
  unfold strAt;by_cases h:0<=n
  · rw[if_pos h,if_pos h];by_cases e:n=(ss.length:Int)
    · rw[if_pos e,e,Int.toNat_natCast,List.getElem?_append_right (GW _)];simp
    · rw[if_neg e];by_cases h2:n.toNat<ss.length
      · rw[List.getElem?_append_left h2]
      · rw[List.getElem?_append_right (by lia),List.getElem?_eq_none (by simp;lia),List.getElem?_eq_none (by lia)]
  · rw[if_neg h,if_neg h,if_neg (by lia)]
theorem jz (ss:List S3)(s:S3)(k:K2):ao (ss++[s]) k=if k.1=(ss.length:Int) then (if 0<s.2.2/\fI s<=k.2/\k.2<i7 s then some s.2.2 else none) else ao ss k:=by
  unfold ao;rw[sx];by_cases e:k.1=(ss.length:Int)
  · rw[if_pos e,if_pos e]
  · rw[if_neg e,if_neg e]
theorem lD {ss:List S3}{k:K2}(h:k.1=(ss.length:Int)):ao ss k=none:=by
  unfold ao strAt;rw[if_pos (by lia),List.getElem?_eq_none (by lia)]
end WS
namespace WS
open DL
noncomputable def bG (ss:List S3)(k:K2):Bool:=match strAt ss k.1 with
  | some s=>decide (fI s<=k.2/\k.2<i7 s)
  | none=>false
noncomputable def jv (g:Int)(hs cs:List S3)(p:P5):Bool:=
  decide (1<=ht p) && (if gk p=Bt then bG cs (d6 p) else (bG hs (gk p) && (decide (d6 p=Bt) || (bG cs (d6 p) && decide (p.2.1 - p.2.2.2.1>=g)))))
noncomputable def nF (ss:List S3)(qs:List Q2):Prop:=∀(i:Nat) s,ss[i]?=some s->∀d,fI s<=d->d<i7 s->aM ((i:Int),d) qs=s.2.2
noncomputable def Pos (ss:List S3):Prop:=∀s∈ss,0<s.2.2
theorem bZ {ss:List S3}{n:Int}{s:S3}(h:strAt ss n=some s):0<=n/\ss[n.toNat]?=some s/\s∈ss:=by
  unfold strAt at h;split at h
  · exact ⟨by assumption,h,Hi h⟩
  · cases h
theorem jn {ss:List S3}(hp:Pos ss){k:K2}:bG ss k=true↔(ao ss k).isSome=true:=by
  unfold bG ao;cases e:strAt ss k.1 with
  | none=>simp
  | some s =>
    have:=hp s (bZ e).2.2;dsimp only;rw[decide_eq_true_eq];constructor
    · intro h;rw[if_pos ⟨this,h⟩];rfl
    · intro h;split at h
      · rename_i z;exact z.2
      · cases h
theorem dD {ss:List S3}{k:K2}{r:Int}(h:ao ss k=some r):∃s,strAt ss k.1=some s/\0<s.2.2/\fI s<=k.2/\k.2<i7 s/\r=s.2.2:=by
  unfold ao at h;cases e:strAt ss k.1 with
  | none=>rw[e] at h;cases h
  | some s =>
    rw[e] at h;dsimp only at h;split at h
    · rename_i z;exact ⟨s,rfl,z.1,z.2.1,z.2.2,(Option.some.inj h).symm⟩
    · cases h
theorem zW {ss:List S3}(hp:Pos ss){i:Nat}{s:S3}{d:Int}(e:ss[i]?=some s)(h1:fI s<=d)(h2:d<i7 s):ao ss ((i:Int),d)=some s.2.2:=by
  unfold ao strAt;rw[if_pos (by lia)];dsimp only;rw[Int.toNat_natCast,e];dsimp only;rw[if_pos ⟨hp s (Hi e),h1,h2⟩]
theorem qR {ss:List S3}{k:K2}(h:k.1<0):bG ss k=false:=by
  unfold bG strAt;rw[if_neg (by lia)]
theorem bB (k:K2)(q:Q2)(qs:List Q2):aM k (q::qs)=(if q.1=k then q.2 else 0)+aM k qs:=by
  rw[<-List.singleton_append,cu,iI]
theorem vI {k:K2}{a b:List Q2}(h:a.Perm b):aM k a=aM k b:=by
  induction h with
  | nil=>rfl
  | cons x _ ih=>rw[bB,bB,ih]
  | swap x y l=>rw[bB,bB,bB,bB];lia
  | trans _ _ h1 h2=>rw[h1,h2]
theorem nz {k:K2}{a b:List Q2}(h:a.Perm b):fy k a=fy k b:=by
  unfold fy;rw[vI h];by_cases c:k∈b.map (·.1)
  · rw[if_pos c,if_pos ((h.map _).mem_iff.mpr c)]
  · rw[if_neg c,if_neg (λz=>c ((h.map _).mem_iff.mp z))]
theorem Looks.perm {g:Int}{hs cs:List S3}{a b:List P5}(L:Looks g hs cs a)(h:b.Perm a):Looks g hs cs b where
  may:=λp hp=>L.may p (h.mem_iff.mp hp)
  eJ:=((h.map k4).nodup_iff).mpr L.eJ
  rJ:=λk hk=>by rw[<-L.rJ k hk];exact nz (h.map _)
  qX:=λk hk=>by rw[<-L.qX k hk];exact nz (h.map _)
theorem lL (f:P5->K2){k:K2}{ps:List P5}{t:P5->Bool}(h:∀p∈ps,f p=k->t p=true):aM k ((ps.filter t).map λp=>(f p,ht p))=aM k (ps.map λp=>(f p,ht p)):=by
  induction ps with
  | nil=>rfl
  | cons p ps ih =>
    have ih:=ih λp hp=>h p (.tail _ hp);rw[filter_cons];by_cases c:t p=true
    · rw[if_pos c,map_cons,map_cons,bB,bB,ih]
    · rw[if_neg c,map_cons,bB,if_neg (λz=>c (h p (.head _) z)),ih];lia
theorem ow {f:P5->K2}{p:P5}{ps:List P5}(h:p∈ps):f p∈(ps.map λp=>(f p,ht p)).map (·.1):=mem_map.mpr ⟨_,mem_map.mpr ⟨p,h,rfl⟩,rfl⟩
theorem vd {g:Int}{hs cs:List S3}(hh:Pos hs)(hc:Pos cs)(ps:List P5) :
    Looks g hs cs ps↔((∀p∈ps,jv g hs cs p=true)/\(ps.map k4).Nodup/\nF cs (tq (ps.filter λp=>decide (p.2.2.1 ≠ -1)))/\nF hs (gq (ps.filter λp=>decide (p.1 ≠ -1)))):=by
  have fT:∀(i:Nat) (d:Int),aM ((i:Int),d) (tq (ps.filter λp=>decide (p.2.2.1 ≠ -1)))=aM ((i:Int),d) (tq ps):=λi d=>lL d6 λp _ e=>by
    have:=congrArg Prod.fst e;rw[decide_eq_true_eq];show (d6 p).1 ≠ -1;rw[this];show (i:Int) ≠ -1;lia
  have fG:∀(i:Nat) (d:Int),aM ((i:Int),d) (gq (ps.filter λp=>decide (p.1 ≠ -1)))=aM ((i:Int),d) (gq ps):=λi d=>lL gk λp _ e=>by
    have:=congrArg Prod.fst e;rw[decide_eq_true_eq];show (gk p).1 ≠ -1;rw[this];show (i:Int) ≠ -1;lia
  constructor
  · intro L;have stG:∀p∈ps,gk p≠Bt->bG hs (gk p)=true:=λp hp hne=>by
      rw[jn hh,<-L.rJ _ hne];unfold fy gq;rw[if_pos (ow hp)];rfl
    have stT:∀p∈ps,d6 p≠Bt->bG cs (d6 p)=true:=λp hp hne=>by
      rw[jn hc,<-L.qX _ hne];unfold fy tq;rw[if_pos (ow hp)];rfl
    have sm:∀{ss:List S3} {qs:List Q2},Pos ss->(∀k,k≠Bt->fy k qs=ao ss k)->∀(i:Nat) s,ss[i]?=some s->∀d,fI s<=d->d<i7 s->aM ((i:Int),d) qs=s.2.2:=λ{ss qs} hp h i s e d h1 h2=>by
      have h3:=h ((i:Int),d) (λz=>by have:=congrArg Prod.fst z;have:(i:Int) = -1:=this;lia);rw[zW hp e h1 h2] at h3;unfold fy at h3;split at h3
      · exact Option.some.inj h3
      · cases h3
    refine ⟨λp hp=>?_,L.eJ,λi s e d h1 h2=>?_,λi s e d h1 h2=>?_⟩
    · have hm:=L.may p hp;unfold xA at hm;rw[Bool.and_eq_true,decide_eq_true_eq] at hm;obtain ⟨m1,m2⟩:=hm;unfold jv;rw[decide_eq_true m1,Bool.true_and];by_cases c:gk p=Bt
      · rw[if_pos c];rw[if_pos (.inl c),decide_eq_true_eq] at m2;exact stT p hp λz=>m2 (c.trans z.symm)
      · rw[if_neg c,stG p hp c,Bool.true_and];by_cases c2:d6 p=Bt
        · rw[decide_eq_true c2,Bool.true_or]
        · rw[if_neg (λz=>z.elim c c2),decide_eq_true_eq] at m2;rw[stT p hp c2,decide_eq_false c2,Bool.false_or,Bool.true_and,decide_eq_true_eq];lia
    · rw[fT];exact sm hc L.qX i s e d h1 h2
    · rw[fG];exact sm hh L.rJ i s e d h1 h2
  · rintro ⟨go,eJ,sT,sG⟩;have rd:∀(f:P5->K2) {ss:List S3},Pos ss->(∀p∈ps,f p≠Bt->bG ss (f p)=true)->(∀(i:Nat) s,ss[i]?=some s->∀d,fI s<=d->d<i7 s->aM ((i:Int),d) (ps.map λp=>(f p,ht p))=s.2.2)->∀k,k≠Bt->fy k (ps.map λp=>(f p,ht p))=ao ss k:=λf ss hp st sm k hk=>by
      unfold fy;split
      · rename_i hm;obtain ⟨q,hq,eq⟩:=mem_map.mp hm;obtain ⟨p,hpp,rfl⟩:=mem_map.mp hq;dsimp only at eq;have h1:=(jn hp).mp (st p hpp (by rw[eq];exact hk));rw[eq] at h1;obtain ⟨r,hr⟩:=Option.isSome_iff_exists.mp h1;obtain ⟨s,e1,_,e2,e3,e4⟩:=dD hr;obtain ⟨z0,z1,_⟩:=bZ e1;rw[hr,e4];have:=sm k.1.toNat s z1 k.2 e2 e3;rw[Int.toNat_of_nonneg z0] at this;rw[show k=(k.1,k.2) from rfl,this]
      · rename_i hm;cases hr:ao ss k with
        | none=>rfl
        | some r =>
          obtain ⟨s,e1,e0,e2,e3,e4⟩:=dD hr;obtain ⟨z0,z1,_⟩:=bZ e1;have:=sm k.1.toNat s z1 k.2 e2 e3;rw[Int.toNat_of_nonneg z0,fX hm] at this;lia
    have gp:∀p∈ps,1<=ht p/\(gk p=Bt->bG cs (d6 p)=true)/\(gk p≠Bt->bG hs (gk p)=true/\(d6 p≠Bt->bG cs (d6 p)=true/\p.2.1 - p.2.2.2.1>=g)):=λp hp=>by
      have h:=go p hp;unfold jv at h;rw[Bool.and_eq_true,decide_eq_true_eq] at h;refine ⟨h.1,λc=>?_,λc=>?_⟩
      · have h2:=h.2;rw[if_pos c] at h2;exact h2
      · have h2:=h.2;rw[if_neg c,Bool.and_eq_true] at h2;refine ⟨h2.1,λc2=>?_⟩;have h3:=h2.2;rw[decide_eq_false c2,Bool.false_or,Bool.and_eq_true,decide_eq_true_eq] at h3;exact h3
    refine ⟨λp hp=>?_,eJ,rd gk hh (λp hp hne=>((gp p hp).2.2 hne).1) λi s e d h1 h2=>by have:=sG i s e d h1 h2;rw[fG] at this;exact this,rd d6 hc (λp hp hne=>?_) λi s e d h1 h2=>by have:=sT i s e d h1 h2;rw[fT] at this;exact this⟩
    · obtain ⟨h1,h2,h3⟩:=gp p hp;have nb:∀{ss:List S3} {k:K2},bG ss k=true->k≠Bt:=λ{ss k} h z=>by
        rw[z,qR (by decide)] at h;cases h
      unfold xA;rw[decide_eq_true h1,Bool.true_and];by_cases c:gk p=Bt
      · rw[if_pos (.inl c),decide_eq_true_eq,c];exact λz=>nb (h2 c) z.symm
      · obtain ⟨h4,h5⟩:=h3 c;by_cases c2:d6 p=Bt
        · rw[if_pos (.inr c2),decide_eq_true_eq,c2];exact c
        · rw[if_neg (λz=>z.elim c c2),decide_eq_true_eq];have:=(h5 c2).2;lia
    · by_cases c:gk p=Bt
      · exact (gp p hp).2.1 c
      · exact (((gp p hp).2.2 c).2 hne).1
theorem ym (f:P5->K2){ps:List P5}(h:∀p∈ps,(f p).1 = -1->f p=Bt):((ps.filter λp=>decide ((f p).1 = -1)).map ht).sum=aM Bt (ps.map λp=>(f p,ht p)):=by
  induction ps with
  | nil=>rfl
  | cons p ps ih =>
    have ih:=ih λp hp=>h p (.tail _ hp);rw[filter_cons,map_cons,bB];by_cases c:(f p).1 = -1
    · rw[if_pos (by simpa using c),if_pos (h p (.head _) c),map_cons,sum_cons,ih]
    · rw [if_neg (by simpa using c), if_neg (λz : f p = Bt => c (by rw [z];rfl)), ih];lia
theorem Looks.gB {g:Int}{hs cs:List S3}{ps:List P5}(L:Looks g hs cs ps):∀p∈ps,(gk p).1 = -1->gk p=Bt:=λp hp e=>by
  refine Classical.byContradiction λc=>?_;have:=L.rJ _ c;unfold fy gq at this;rw[if_pos (ow hp)] at this;obtain ⟨s,e1,_⟩:=dD this.symm;have:=(bZ e1).1;lia
theorem Looks.tB {g:Int}{hs cs:List S3}{ps:List P5}(L:Looks g hs cs ps):∀p∈ps,(d6 p).1 = -1->d6 p=Bt:=λp hp e=>by
  refine Classical.byContradiction λc=>?_;have:=L.qX _ c;unfold fy tq at this;rw[if_pos (ow hp)] at this;obtain ⟨s,e1,_⟩:=dD this.symm;have:=(bZ e1).1;lia
end WS
namespace WS
open DL
theorem iy {α β γ:Type}(f:α->β)(g:α->γ)(h:∀x y,f x=f y->g x=g y):∀xs:List α,(xs.map g).Nodup->(xs.map f).Nodup
  | [],_=>.nil
  | x::xs,hn=>by
    rw[map_cons,nodup_cons] at hn ⊢;refine ⟨λhm=>hn.1 ?_,iy f g h xs hn.2⟩;obtain ⟨y,hy,e⟩:=mem_map.mp hm;exact mem_map.mpr ⟨y,hy,h _ _ e⟩
theorem Ax {p q:P5}(h:k4 p=k4 q):gk p=gk q:=by
  unfold k4 at h;simp only[List.cons.injEq,and_true] at h;unfold gk;rw[h.1,h.2.1]
theorem Ay {p q:P5}(h:k4 p=k4 q):d6 p=d6 q:=by
  unfold k4 at h;simp only[List.cons.injEq,and_true] at h;unfold d6;rw[h.2.2.1,h.2.2.2]
end WS
namespace WS
open DL
theorem xt {g:Int}{hs cs:List S3}{ps:List P5}(may:∀p∈ps,xA g p=true)(eJ:(ps.map k4).Nodup)
    (gB:∀p∈ps,gk p=Bt\/(ao hs (gk p)).isSome=true) (gT:∀k r,ao hs k=some r->aM k (gq ps)=r)
    (tB:∀p∈ps,d6 p=Bt\/(ao cs (d6 p)).isSome=true) (tT:∀k r,ao cs k=some r->aM k (tq ps)=r):Looks g hs cs ps:=by
  have key:∀(f:P5->K2) {ss:List S3},(∀p∈ps,f p=Bt\/(ao ss (f p)).isSome=true)->(∀k r,ao ss k=some r->aM k (ps.map λp=>(f p,ht p))=r)->∀k,k≠Bt->fy k (ps.map λp=>(f p,ht p))=ao ss k:=λf ss hB hT k hk=>by
    unfold fy;split
    · rename_i hm;obtain ⟨q,hq,rfl⟩:=mem_map.mp hm;obtain ⟨p,hp,rfl⟩:=mem_map.mp hq;rcases hB p hp with z | z
      · exact absurd z hk
      · obtain ⟨r,hr⟩:=Option.isSome_iff_exists.mp z;rw[hr,hT _ r hr]
    · rename_i hm;cases hr:ao ss k with
      | none=>rfl
      | some r =>
        have:=hT k r hr;rw[fX hm] at this;obtain ⟨s,_,h0,_,_,e⟩:=dD hr;lia
  exact ⟨may,eJ,key gk gB gT,key d6 tB tT⟩
theorem fo {ss:List S3}{k:K2}(h:(ao ss k).isSome=true):k≠Bt:=λz=>by rw[z,nq] at h;cases h
theorem eB {ss:List S3}{k:K2}(h:(ao ss k).isSome=true):0<=k.1:=by
  obtain ⟨r,hr⟩:=Option.isSome_iff_exists.mp h;obtain ⟨s,e,_⟩:=dD hr;exact (bZ e).1
theorem Bu (a b:List P5):gq (a++b)=gq a++gq b:=map_append
theorem CC (a b:List P5):tq (a++b)=tq a++tq b:=map_append
structure GQ (g:Int)(hs cs:List S3)(ps:List P5)(hk ck:cy):Prop where
  may:∀p∈ps,1<=ht p/\(ao hs (gk p)).isSome=true/\(ao cs (d6 p)).isSome=true/\p.2.1>=p.2.2.2.1+g
  eJ:(ps.map k4).Nodup
  rJ:∀k v,aN hk k=some v->∀r,ao hs k=some r->aM k (gq ps)+v=r
  qX:∀k v,aN ck k=some v->∀r,ao cs k=some r->aM k (tq ps)+v=r
end WS
namespace WS
open DL
noncomputable def iS (g L:Int)(p:P5):Bool:=decide (p.1 ≠ -1/\L<=p.2.1/\(p.2.2.1 = -1\/p.2.2.2.1+g<L)\/p.1 = -1/\p.2.2.2.1+g<L)
end WS
namespace WS
open DL
open L2 (g9)
theorem qF {kvs:cy}{k:K2}{v w:Int}(h:aN kvs k=some v):(putD kvs k w).length=kvs.length:=by
  have hk:k∈kvs.map (·.1):=Classical.byContradiction λz=>by rw[gy.mpr z] at h;cases h
  unfold putD;rw[if_pos (jK.mpr hk),Hh]
theorem eT {α:Type}{l:List α}(h:l.Nodup){i j:Nat}{x:α}(hi:l[i]?=some x)(hj:l[j]?=some x):i=j:=by
  obtain ⟨a,ea⟩:=Hb.mp hi;obtain ⟨b,eb⟩:=Hb.mp hj;rcases Nat.lt_trichotomy i j with c | c | c
  · exact absurd (ea.trans eb.symm) (pairwise_iff_getElem.mp h i j a b c)
  · exact c
  · exact absurd (eb.trans ea.symm) (pairwise_iff_getElem.mp h j i b a c)
structure j8 (ss:List S3)(ks:List K2):Prop where
  eJ:ks.Nodup
  dn:∀(i j:Nat) (a b:K2),i<=j->ks[i]?=some a->ks[j]?=some b->b.2<=a.2
  is:∀k,k∈ks↔(ao ss k).isSome=true
  len:ks.length<=2400
structure Gr (g:Int)(hs cs:List S3)(gs ts:List K2)(t:Nat)(lk:cy)(ps:List P5):Prop where
  tl:t<=gs.length
  ln:lk.length<=2400
  may:∀p∈ps,1<=ht p/\(gk p=Bt\/(gk p∈gs/\p.2.2.2.1+g<=p.2.1))
  eJ:(ps.map k4).Nodup
  rJ:∀(j:Nat) (k:K2),gs[j]?=some k->∃v,aN lk k=some v/\some (aM k (gq ps)+v)=ao hs k/\(j<t->v=0)/\(t<=j->0<v)
  Gs:(∀p∈ps,gk p≠Bt)\/∃L:Nat,L<251/\(∀p∈ps,iS g L p=false)/\∀(j:Nat) (k:K2),t<=j->gs[j]?=some k->k.2<L
structure Gi (g:Int)(hs cs:List S3)(gs ts:List K2)(i t:Nat)(lk:cy)(ps:List P5):Prop where
  gr:Gr g hs cs gs ts t lk ps
  tk:∀p∈ps,∃j,j<i/\ts[j]?=some (d6 p)
  qX:∀(j:Nat) (k:K2),j<i->ts[j]?=some k->some (aM k (tq ps))=ao cs k
  n:ps.length<=t+i
structure Gw (g:Int)(hs cs:List S3)(gs ts:List K2)(i:Nat)(k:K2)(t:Nat)(n:Int)(lk:cy)(ps:List P5):Prop where
  gr:Gr g hs cs gs ts t lk ps
  tk:∀p∈ps,∃j,j<=i/\ts[j]?=some (d6 p)
  qX:∀(j:Nat) (k:K2),j<i->ts[j]?=some k->some (aM k (tq ps))=ao cs k
  n0:0<=n
  nd:some (aM k (tq ps)+n)=ao cs k
  new:n=0\/(ps.length<=t+i/\∀p∈ps,d6 p=k->∃j,j<t/\gs[j]?=some (gk p))
  n1:ps.length<=t+i+1
section
variable {g:Int} {hs cs:List S3} {gs ts:List K2}
theorem Gi.start (sg:j8 hs gs){kvs:cy}(hl:kvs.length<=2400)(hv:∀k,aN kvs k=ao hs k):Gi g hs cs gs ts 0 0 kvs [] where
  gr:=⟨Nat.zero_le _,hl,λp h=>(nomatch h),.nil,λj k hk=>by
    obtain ⟨r,hr⟩:=Option.isSome_iff_exists.mp ((sg.is k).mp (Hi hk));refine ⟨r,by rw[hv,hr],by rw[hr];show some (0+r)=some r;rw[Int.zero_add],λz=>absurd z (Nat.not_lt_zero _),λ_=>?_⟩;obtain ⟨s,_,h0,_,_,e⟩:=dD hr;lia,.inl λp h=>(nomatch h)⟩
  tk:=λp h=>(nomatch h)
  qX:=λj k h=>absurd h (Nat.not_lt_zero _)
  n:=Nat.zero_le _
theorem Gi.take {i t:Nat}{lk:cy}{ps:List P5}(h:Gi g hs cs gs ts i t lk ps)(st:j8 cs ts){k:K2}(hk:ts[i]?=some k){r:Int}(hr:ao cs k=some r):Gw g hs cs gs ts i k t r lk ps where
  gr:=h.gr
  tk:=λp hp=>by
    obtain ⟨j,hj,e⟩:=h.tk p hp;exact ⟨j,by lia,e⟩
  qX:=h.qX
  n0:=by obtain ⟨s,_,h0,_,_,e⟩:=dD hr;lia
  nd:=by
    have no:∀p∈ps,d6 p≠k:=λp hp z=>by
      obtain ⟨j,hj,e⟩:=h.tk p hp;rw[z] at e;have:=eT st.eJ e hk;lia
    have e:aM k (tq ps)=0:=fX λhm=>by
      obtain ⟨q,hq,e⟩:=mem_map.mp hm;obtain ⟨p,hp,rfl⟩:=mem_map.mp hq;exact no p hp e
    rw[e,Int.zero_add,hr]
  new:=.inr ⟨h.n,λp hp z=>by
    obtain ⟨j,hj,e⟩:=h.tk p hp;rw[z] at e;have:=eT st.eJ e hk;lia⟩
  n1:=by have:=h.n;lia
theorem mG {L:Int}{p:P5}(h1:p.1 ≠ -1)(h2:p.2.1<L):iS g L p=false:=by
  unfold iS;rw[decide_eq_false_iff_not];lia
theorem df {α:Type}{P:α->Prop}{l:List α}{x:α}(h:∀y∈l,P y)(hx:P x):∀y∈l++[x],P y:=λy hy=>by
  rcases mem_append.mp hy with z | z
  · exact h y z
  · rw[mem_singleton.mp z];exact hx
theorem t6 {ps:List P5}{p:P5}(h:(ps.map k4).Nodup)(new:∀q∈ps,¬(gk q=gk p/\d6 q=d6 p)):((ps++[p]).map k4).Nodup:=by
  rw[map_append,nodup_append];refine ⟨h,by simp,λu hu w hw=>?_⟩;obtain ⟨q,hq,rfl⟩:=mem_map.mp hu;rw[map_cons,List.map_nil,mem_singleton] at hw;rw[hw];intro e;exact new q hq ⟨Ax e,Ay e⟩
theorem fY (f:P5->K2)(k:K2)(ps:List P5)(p:P5):aM k ((ps++[p]).map λp=>(f p,ht p))=aM k (ps.map λp=>(f p,ht p))+if f p=k then ht p else 0:=by
  rw[map_append,cu];show _+aM k [(f p,ht p)]=_;rw[iI]
theorem Gw.pass {i t:Nat}{k a:K2}{n v:Int}{lk:cy}{ps:List P5}(h:Gw g hs cs gs ts i k t n lk ps)(sg:j8 hs gs)(st:j8 cs ts)(hk:ts[i]?=some k)(n1:0<n)(ha:gs[t]?=some a)(hw:k.2+g<=a.2)(hv:aN lk a=some v){m:Int}(hm:m=if v<n then v else n){t':Nat}(ht':t'=if v - m=0 then t+1 else t) :
    Gw g hs cs gs ts i k t' (n - m) (putD lk a (v - m)) (ps++[(a.1,a.2,k.1,k.2,m)]):=by
  obtain ⟨v',e1,e2,_,e4⟩:=h.gr.rJ t a ha;rw[hv] at e1;cases e1;have v0:=e4 (GW _);have hlt:t<gs.length:=(Hb.mp ha).1;have m1:1<=m:=by rw[hm];split<;>lia
  have mv:m<=v:=by rw[hm];split<;>lia
  have mn:m<=n:=by rw[hm];split<;>lia
  have mor:m=v\/m=n:=by rw[hm];split<;>lia
  have ng:n≠0:=by lia
  obtain ⟨hl,hnew⟩:=h.new.resolve_left ng;have ra:(ao hs a).isSome=true:=(sg.is a).mp (Hi ha);have a0:0<=a.1:=eB ra;have gka:gk (a.1,a.2,k.1,k.2,m)=a:=rfl;have tka:d6 (a.1,a.2,k.1,k.2,m)=k:=rfl;have t2:t<=t'/\t'<=t+1:=by rw[ht'];split<;>lia
  refine ⟨⟨?_,?_,df h.gr.may ⟨m1,.inr ⟨Hi ha,hw⟩⟩,t6 h.gr.eJ λq hq z=>?_,λj b hb=>?_,?_⟩,df h.tk ⟨i,GW _,hk⟩,λj b hj hb=>?_,by lia,?_,?_,?_⟩
  · lia
  · rw[qF hv];exact h.gr.ln
  · obtain ⟨j,hj,e⟩:=hnew q hq z.2;rw[z.1] at e;have:=eT sg.eJ e ha;lia
  · obtain ⟨w,w1,w2,w3,w4⟩:=h.gr.rJ j b hb;have et:aM b (gq (ps++[(a.1,a.2,k.1,k.2,m)]))=aM b (gq ps)+if a=b then m else 0:=fY gk b ps _
    rw[et,iL];by_cases c:a=b
    · subst c;have:=eT sg.eJ hb ha;subst this;rw[hv] at w1;cases w1;refine ⟨v - m,by rw[if_pos rfl],by rw[if_pos rfl,<-w2];congr 1;lia,λz=>?_,λz=>?_⟩
      · rw[ht'] at z;split at z
        · assumption
        · lia
      · rw[ht'] at z;split at z
        · lia
        · lia
    · have hj : j ≠ t := λz => c (by rw [z, ha] at hb;exact Option.some.inj hb);rw[if_neg c,if_neg c];exact ⟨w,w1,by rw[Int.add_zero];exact w2,λz=>w3 (by lia),λz=>w4 (by lia)⟩
  · rcases h.gr.Gs with z | ⟨L,z1,z2,z3⟩
    · exact .inl (df z (fo ra))
    · refine .inr ⟨L,z1,df z2 (mG (by show a.1 ≠ -1;lia) (z3 t a (GW _) ha)),λj b hj hb=>z3 j b (by lia) hb⟩
  · have et:aM b (tq (ps++[(a.1,a.2,k.1,k.2,m)]))=aM b (tq ps)+if k=b then m else 0:=fY d6 b ps _
    have:k≠b:=λz=>by
      rw[<-z] at hb;have:=eT st.eJ hb hk;lia
    rw[et,if_neg this,Int.add_zero];exact h.qX j b hj hb
  · have et:aM k (tq (ps++[(a.1,a.2,k.1,k.2,m)]))=aM k (tq ps)+if k=k then m else 0:=fY d6 k ps _
    rw[et,if_pos rfl,<-h.nd];congr 1;lia
  · by_cases z:n - m=0
    · exact .inl z
    · have : v - m = 0 := by lia
      rw[if_pos this] at ht';refine .inr ⟨by rw[Hu];show ps.length+1<=_;lia,df (λq hq e=>?_) λ_=>⟨t,by lia,ha⟩⟩;obtain ⟨j,hj,e⟩:=hnew q hq e;exact ⟨j,by lia,e⟩
  · rw[Hu];show ps.length+1<=_;lia
theorem Gw.done {i t:Nat}{k:K2}{lk:cy}{ps:List P5}(h:Gw g hs cs gs ts i k t 0 lk ps)(hk:ts[i]?=some k):Gi g hs cs gs ts (i+1) t lk ps where
  gr:=h.gr
  tk:=λp hp=>by
    obtain ⟨j,hj,e⟩:=h.tk p hp;exact ⟨j,by lia,e⟩
  qX:=λj b hj hb=>by
    rcases Nat.lt_or_eq_of_le (Nat.le_of_lt_succ hj) with z | z
    · exact h.qX j b z hb
    · subst z;rw[hk] at hb;cases hb;rw[<-h.nd,Int.add_zero]
  n:=by have:=h.n1;lia
theorem Gw.GB {i t:Nat}{k:K2}{n:Int}{lk:cy}{ps:List P5}(h:Gw g hs cs gs ts i k t n lk ps)(sg:j8 hs gs)(st:j8 cs ts)(hk:ts[i]?=some k)(n1:0<n)(kl:0<=k.2+g)(kh:k.2+g<=250)(hw:∀a,gs[t]?=some a->a.2<k.2+g) :
    Gi g hs cs gs ts (i+1) t lk (ps++[(-1,-1,k.1,k.2,n)]):=by
  have ng:n≠0:=by lia
  obtain ⟨hl,hnew⟩:=h.new.resolve_left ng;have EK:∀q∈gs,q≠Bt:=λq hq=>fo ((sg.is q).mp hq);have rk:(ao cs k).isSome=true:=(st.is k).mp (Hi hk);have k0:0<=k.1:=eB rk;refine ⟨⟨h.gr.tl,h.gr.ln,df h.gr.may ⟨by show 1<=n;lia,.inl rfl⟩,t6 h.gr.eJ λq hq z=>?_,λj b hb=>?_,.inr ⟨(k.2+g).toNat,by lia,df (λp hp=>?_) ?_,λj b hj hb=>?_⟩⟩,df (λp hp=>?_) ⟨i,by lia,hk⟩,λj b hj hb=>?_,?_⟩
  · obtain ⟨j,hj,e⟩:=hnew q hq z.2;rw[z.1] at e;exact EK _ (Hi e) rfl
  · obtain ⟨w,w1,w2,w3⟩:=h.gr.rJ j b hb;have et:aM b (gq (ps++[(-1,-1,k.1,k.2,n)]))=aM b (gq ps)+if Bt=b then n else 0:=fY gk b ps _
    rw[et,if_neg (λz=>EK b (Hi hb) z.symm),Int.add_zero];exact ⟨w,w1,w2,w3⟩
  · obtain ⟨j,hj,e⟩:=h.tk p hp;have:=st.dn j i _ _ hj e hk;have e2:(d6 p).2=p.2.2.2.1:=rfl;have e3:(d6 p).1=p.2.2.1:=rfl;have:=eB ((st.is _).mp (Hi e));unfold iS;rw[decide_eq_false_iff_not,Int.toNat_of_nonneg kl];lia
  · unfold iS;rw[decide_eq_false_iff_not,Int.toNat_of_nonneg kl];dsimp only;lia
  · rw[Int.toNat_of_nonneg kl];obtain ⟨hlt,_⟩:=Hb.mp hb;have ht:gs[t]?=some gs[t]:=GV (by lia);have a1:=hw _ ht;have a2:=sg.dn t j _ _ hj ht hb;lia
  · obtain ⟨j,hj,e⟩:=h.tk p hp;exact ⟨j,by lia,e⟩
  · have et:aM b (tq (ps++[(-1,-1,k.1,k.2,n)]))=aM b (tq ps)+if k=b then n else 0:=fY d6 b ps _
    rw[et];rcases Nat.lt_or_eq_of_le (Nat.le_of_lt_succ hj) with z | z
    · have:k≠b:=λy=>by
        rw[<-y] at hb;have:=eT st.eJ hb hk;lia
      rw[if_neg this,Int.add_zero];exact h.qX j b z hb
    · subst z;rw[hk] at hb;cases hb;rw[if_pos rfl];exact h.nd
  · rw[Hu];show ps.length+1<=_;lia
noncomputable def dw (gs:List K2)(t:Nat)(lk:cy):List P5:=(gs.drop t).map λk=>(k.1,k.2,-1,-1,(aN lk k).getD 0)
noncomputable def Tight (g:Int)(ps:List P5):Prop:=(∀p∈ps,gk p≠Bt)\/∃L:Nat,L<251/\∀p∈ps,iS g L p=false
theorem qK {t:Nat}{lk:cy}{p:P5}(h:p∈dw gs t lk):∃j k,t<=j/\gs[j]?=some k/\p=(k.1,k.2,-1,-1,(aN lk k).getD 0):=by
  obtain ⟨k,hk,rfl⟩:=mem_map.mp h;obtain ⟨j,hj⟩:=mem_iff_getElem?.mp hk;rw[List.getElem?_drop] at hj;exact ⟨t+j,k,by lia,hj,rfl⟩
theorem yd {t:Nat}{lk:cy}(nd:gs.Nodup){k:K2}:aM k (gq (dw gs t lk))=if k∈gs.drop t then (aN lk k).getD 0 else 0:=by
  have lem:∀l:List K2,l.Nodup->aM k (gq (l.map λk=>(k.1,k.2,-1,-1,(aN lk k).getD 0)))=if k∈l then (aN lk k).getD 0 else 0:=λl=>by
    induction l with
    | nil=>intro _;rfl
    | cons a l ih =>
      intro hn;rw[nodup_cons] at hn;have e:gq ((a::l).map λk=>(k.1,k.2,-1,-1,(aN lk k).getD 0))=(a,(aN lk a).getD 0)::gq (l.map λk=>(k.1,k.2,-1,-1,(aN lk k).getD 0)):=rfl;rw[e,bB,ih hn.2];dsimp only;by_cases c:a=k
      · subst c;rw[if_pos rfl,if_neg hn.1,if_pos (.head _)];lia
      · rw[if_neg c];by_cases c2:k∈l
        · rw[if_pos c2,if_pos (.tail _ c2)];lia
        · rw[if_neg c2,if_neg (λz=>(Hn.mp z).elim (λy=>c y.symm) c2)];rfl
  exact lem _ (nd.sublist (List.drop_sublist _ _))
theorem Gi.finish {t:Nat}{lk:cy}{ps:List P5}(h:Gi g hs cs gs ts ts.length t lk ps)(sg:j8 hs gs)(st:j8 cs ts):Looks g hs cs (ps++dw gs t lk)/\Tight g (ps++dw gs t lk)/\(ps++dw gs t lk).length<=gs.length+ts.length:=by
  have rv:∀p∈dw gs t lk,∃k,k∈gs.drop t/\gk p=k/\d6 p=Bt/\1<=ht p/\(ao hs k).isSome=true:=λp hp=>by
    obtain ⟨j,k,hj,hk,rfl⟩:=qK hp;obtain ⟨v,e1,_,_,e4⟩:=h.gr.rJ j k hk;refine ⟨k,?_,rfl,rfl,?_,(sg.is k).mp (Hi hk)⟩
    · refine mem_iff_getElem?.mpr ⟨j - t,?_⟩;rw[List.getElem?_drop,show t+(j - t)=j by lia];exact hk
    · have:=e4 hj;show 1<=(aN lk k).getD 0;rw[e1];show 1<=v;lia
  have gB:∀p∈ps++dw gs t lk,gk p=Bt\/(ao hs (gk p)).isSome=true:=λp hp=>by
    rcases mem_append.mp hp with z | z
    · exact (h.gr.may p z).2.imp id λy=>(sg.is _).mp y.1
    · obtain ⟨k,_,e,_,_,r⟩:=rv p z;rw[e];exact .inr r
  have tB:∀p∈ps,(ao cs (d6 p)).isSome=true:=λp hp=>by
    obtain ⟨j,_,e⟩:=h.tk p hp;exact (st.is _).mp (Hi e)
  refine ⟨xt (λp hp=>?_) ?_ gB (λk r hr=>?_) (λp hp=>?_) λk r hr=>?_,?_,?_⟩
  · unfold xA;rcases mem_append.mp hp with z | z
    · obtain ⟨m1,m2⟩:=h.gr.may p z;have nb:=fo (tB p z);rw[decide_eq_true m1,Bool.true_and];rcases m2 with y | y
      · rw[if_pos (.inl y),decide_eq_true_eq,y];exact λx=>nb x.symm
      · rw[if_neg (λx=>x.elim (fo ((sg.is _).mp y.1)) nb),decide_eq_true_eq];exact y.2
    · obtain ⟨k,_,e,e2,m1,r⟩:=rv p z;rw[decide_eq_true m1,Bool.true_and,if_pos (.inr e2),decide_eq_true_eq,e,e2];exact fo r
  · rw[map_append,nodup_append];refine ⟨h.gr.eJ,iy k4 gk (λ_ _=>Ax) _ ?_,λu hu w hw e=>?_⟩
    · unfold dw;rw[map_map];refine (List.Nodup.sublist (List.drop_sublist t gs) sg.eJ:(gs.drop t).Nodup) |> λz=>?_
      rw[show ((gk∘λk:K2=>(k.1,k.2,-1,-1,(aN lk k).getD 0)):K2->K2)=id from rfl,List.map_id];exact z
    · obtain ⟨p,hp,rfl⟩:=mem_map.mp hu;obtain ⟨q,hq,rfl⟩:=mem_map.mp hw;have h1:=Ay e;obtain ⟨k,_,_,e2,_⟩:=rv q hq;rw[e2] at h1;exact fo (tB p hp) h1
  · have hk : k ∈ gs := (sg.is k).mpr (by rw [hr];rfl);obtain ⟨j,hj⟩:=mem_iff_getElem?.mp hk;obtain ⟨v,e1,e2,e3,_⟩:=h.gr.rJ j k hj;rw[Bu,cu,yd sg.eJ];rw[hr] at e2;have e2:=Option.some.inj e2;rw[e1];show aM k (gq ps)+(if k∈gs.drop t then v else 0)=r;by_cases c:k∈gs.drop t
    · rw[if_pos c];exact e2
    · rw[if_neg c];have:j<t:=Classical.byContradiction λz=>c (mem_iff_getElem?.mpr ⟨j - t,by rw[List.getElem?_drop,show t+(j - t)=j by lia];exact hj⟩);have:=e3 this;lia
  · rcases mem_append.mp hp with z | z
    · exact .inr (tB p z)
    · obtain ⟨k,_,_,e2,_⟩:=rv p z;exact .inl e2
  · have hk : k ∈ ts := (st.is k).mpr (by rw [hr];rfl);obtain ⟨j,hj⟩:=mem_iff_getElem?.mp hk;have e:=h.qX j k (Hb.mp hj).1 hj;rw[hr] at e;rw[CC,cu,fX (qs:=tq (dw gs t lk))]
    · have:=Option.some.inj e;lia
    · intro hm;obtain ⟨q,hq,e⟩:=mem_map.mp hm;obtain ⟨p,hp,rfl⟩:=mem_map.mp hq;obtain ⟨k',_,_,e2,_⟩:=rv p hp;have hb:k=Bt:=e.symm.trans e2;rw[hb,nq] at hr;cases hr
  · rcases h.gr.Gs with z | ⟨L,z1,z2,z3⟩
    · refine .inl λp hp=>?_;rcases mem_append.mp hp with y | y
      · exact z p y
      · obtain ⟨k,_,e,_,_,r⟩:=rv p y;rw[e];exact fo r
    · refine .inr ⟨L,z1,λp hp=>?_⟩;rcases mem_append.mp hp with y | y
      · exact z2 p y
      · obtain ⟨j,k,hj,hk,rfl⟩:=qK y;have:=eB ((sg.is k).mp (Hi hk));exact mG (by show k.1 ≠ -1;lia) (z3 j k hj hk)
  · have:=h.n;have:=h.gr.tl;unfold dw;rw[Hu,Hh,length_drop];lia
end
theorem yi {ss:List S3}{kvs ps:cy}(hk:Keyed kvs)(hl:kvs.length<=2400)(hv:∀k,aN kvs k=ao ss k)(hp:ps.Perm kvs)(hf:g9 ps):j8 ss (ps.map (·.1)) where
  eJ:=(hp.map _).nodup_iff.mpr hk
  dn:=λi j a b hij ha hb=>by
    rw[Hw] at ha hb;obtain ⟨p,hp1,rfl⟩:=Option.map_eq_some_iff.mp ha;obtain ⟨q,hq1,rfl⟩:=Option.map_eq_some_iff.mp hb;obtain ⟨l1,e1⟩:=Hb.mp hp1;obtain ⟨l2,e2⟩:=Hb.mp hq1;rcases Nat.lt_or_eq_of_le hij with z | z
    · have:=pairwise_iff_getElem.mp hf i j l1 l2 z;rw[e1,e2] at this;exact this
    · subst z;rw[<-e1,<-e2];exact Int.le_refl _
  is:=λk=>by
    rw[(hp.map _).mem_iff,<-hv];constructor
    · intro h;cases e:aN kvs k with
      | none=>exact absurd h (gy.mp e)
      | some v=>rfl
    · intro h;refine Classical.byContradiction λz=>?_;rw[gy.mpr z] at h;cases h
  len:=by rw[Hh,hp.length_eq];exact hl
end WS
namespace WS
open DL
open L2 (g9)
theorem jg {α:Type}{R:α->α->Prop}:∀{l1 l2:List α},l1.Perm l2->(∀a∈l1,∀b∈l1,R a b->R b a->a=b)->l1.Pairwise R->l2.Pairwise R->l1=l2
  | [],l2,hp,_,_,_=>hp.nil_eq
  | a::l1,[],hp,_,_,_=>nomatch hp.symm.nil_eq
  | a::l1,b::l2,hp,an,h1,h2=>by
    have ma:a∈b::l2:=hp.mem_iff.mp mem_cons_self;have mb:b∈a::l1:=hp.mem_iff.mpr mem_cons_self;have e:a=b:=by
      rcases Hn.mp ma with z | z
      · exact z
      · rcases Hn.mp mb with y | y
        · exact y.symm
        · exact an a mem_cons_self b mb ((List.pairwise_cons.mp h1).1 b y) ((List.pairwise_cons.mp h2).1 a z)
    subst e;rw[jg (List.perm_cons a |>.mp hp) (λx hx y hy=>an x (Hv _ hx) y (Hv _ hy)) (List.pairwise_cons.mp h1).2 (List.pairwise_cons.mp h2).2]
theorem jC {kvs p q:cy}(kn:Keyed kvs)(hp:p.Perm kvs)(fp:g9 p)(sp:L2.j8 kvs p)(hq:q.Perm kvs)(fq:g9 q)(sq:L2.j8 kvs q):p=q:=by
  refine jg (R:=λx y=>y.1.2<=x.1.2/\∀i j:Nat,kvs[i]?=some x->kvs[j]?=some y->x.1.2=y.1.2->i<=j) (hp.trans hq.symm) (λa ha b hb h1 h2=>?_) (List.Pairwise.and (R:=λx y:(Int×Int)×Int=>y.1.2<=x.1.2) fp sp) (List.Pairwise.and (R:=λx y:(Int×Int)×Int=>y.1.2<=x.1.2) fq sq);obtain ⟨i,hi⟩:=mem_iff_getElem?.mp (hp.mem_iff.mp ha);obtain ⟨j,hj⟩:=mem_iff_getElem?.mp (hp.mem_iff.mp hb);have e:a.1.2=b.1.2:=Int.le_antisymm h2.1 h1.1;have e2:=Nat.le_antisymm (h1.2 i j hi hj e) (h2.2 j i hj hi e.symm);subst e2;rw[hi] at hj;exact Option.some.inj hj
theorem qg:∀{a b:List Int},a.length=b.length->Tim.c0 a b=false->Tim.c0 b a=false->a=b
  | [],[],_,_,_=>rfl
  | x::a,y::b,hl,h1,h2=>by
    rw[Tim.kR] at h1 h2;by_cases e:x=y
    · subst e;rw[if_pos rfl] at h1 h2;rw[qg (by simpa using hl) h1 h2]
    · rw[if_neg e] at h1;rw[if_neg (λz=>e z.symm)] at h2;have:=of_decide_eq_false h1;have:=of_decide_eq_false h2;lia
theorem kT {c:Nat}{l1 l2:List (List Int)}(hp:l1.Perm l2)(hl:∀x∈l1,x.length=c)(h1:j6 l1)(h2:j6 l2):l1=l2:=
  jg hp (λa ha b hb x y=>qg ((hl a ha).trans (hl b hb).symm) y x) h1 h2
noncomputable def ye (kvs:cy)(i:Nat)(s:S3):Nat->cy
  | 0=>kvs
  | j+1=>putD (ye kvs i s j) ((i:Int),fI s+(j:Int)) s.2.2
noncomputable def bu (ss:List S3):Nat->cy
  | 0=>[]
  | i+1=>match ss[i]? with
    | some s=>if 0<s.2.2 then ye (bu ss i) i s (i7 s - fI s).toNat else bu ss i
    | none=>bu ss i
inductive gC {α:Type}(R:α->α->Prop)(a:α):α->Prop where
  | refl:gC R a a
  | step {b c:α}:gC R a b->R b c->gC R a c
theorem vE {α:Type}{R:α->α->Prop}(fn:∀a b c,R a b->R a c->b=c){a b:α}(h:gC R a b):∀{c:α},gC R a c->gC R b c\/gC R c b:=by
  induction h with
  | refl=>exact λt=>.inl t
  | @step x y s r ih =>
    intro c t;rcases ih t with z | z
    · -- from x to c
      have key:∀{c:α},gC R x c->c=x\/gC R y c:=λ{c} w=>by
        induction w with
        | refl=>exact .inl rfl
        | step s2 r2 ih2 =>
          rcases ih2 with e | e
          · subst e;rw[fn _ _ _ r2 r];exact .inr .refl
          · exact .inr (e.step r2)
      rcases key z with e | e
      · subst e;exact .inr (.step .refl r)
      · exact .inl e
    · exact .inr (z.step r)
theorem qQ {α:Type}{R:α->α->Prop}{a b:α}(st:∀c,¬R a c)(h:gC R a b):a=b:=by
  have key:∀{b:α},gC R a b->b=a:=λ{b} w=>by
    induction w with
    | refl=>rfl
    | step _ r ih=>subst ih;exact absurd r (st _)
  exact (key h).symm
theorem vF {α:Type}{R:α->α->Prop}(fn:∀a b c,R a b->R a c->b=c){a b c:α}(h1:gC R a b)(s1:∀x,¬R b x)(h2:gC R a c)(s2:∀x,¬R c x):b=c:=by
  rcases vE fn h1 h2 with z | z
  · exact qQ s1 z
  · exact (qQ s2 z).symm
noncomputable abbrev CZ:=Nat×Int×cy×List P5
noncomputable def W1 (g:Int)(gs:List K2)(k:K2)(a b:CZ):Prop:=∃(x:K2) (v m:Int),0<a.2.1/\gs[a.1]?=some x/\k.2+g<=x.2/\aN a.2.2.1 x=some v/\m=(if v<a.2.1 then v else a.2.1) /\
  b=(if v - m=0 then a.1+1 else a.1,a.2.1 - m,putD a.2.2.1 x (v - m),a.2.2.2++[(x.1,x.2,k.1,k.2,m)])
theorem W1.fn {g:Int}{gs:List K2}{k:K2}(a b c:CZ)(h1:W1 g gs k a b)(h2:W1 g gs k a c):b=c:=by
  obtain ⟨x,v,m,_,e1,_,e2,rfl,rfl⟩:=h1;obtain ⟨y,w,n,_,e3,_,e4,rfl,rfl⟩:=h2;rw[e1] at e3;cases e3;rw[e2] at e4;cases e4;rfl
noncomputable def Stop (g:Int)(gs:List K2)(k:K2)(a:CZ):Prop:=a.2.1=0\/∀x,gs[a.1]?=some x->x.2<k.2+g
theorem Stop.no {g:Int}{gs:List K2}{k:K2}{a:CZ}(h:Stop g gs k a)(b:CZ):¬W1 g gs k a b:= by
  rintro ⟨x,v,m,h0,e1,h1,_⟩;rcases h with z | z
  · lia
  · have:=z x e1;lia
noncomputable abbrev CY:=Nat×cy×List P5
noncomputable def EA (g:Int)(gs:List K2)(ck:cy)(k:K2)(a b:CY):Prop:=∃(r n:Int) (qs:List P5),aN ck k=some r/\gC (W1 g gs k) (a.1,r,a.2.1,a.2.2) (b.1,n,b.2.1,qs)/\Stop g gs k (b.1,n,b.2.1,qs)/\b.2.2=if 0<n then qs++[(-1,-1,k.1,k.2,n)] else qs
theorem EA.fn {g:Int}{gs:List K2}{ck:cy}{k:K2}{a b c:CY}(h1:EA g gs ck k a b)(h2:EA g gs ck k a c):b=c:=by
  obtain ⟨r,n,qs,e1,s1,p1,t1⟩:=h1;obtain ⟨r',n',qs',e2,s2,p2,t2⟩:=h2;rw[e1] at e2;cases e2;have:=vF W1.fn s1 p1.no s2 p2.no;simp only[Prod.mk.injEq] at this;obtain ⟨h1,rfl,h2,rfl⟩:=this;exact Prod.ext h1 (Prod.ext h2 (t1.trans t2.symm))
inductive Os (g:Int)(gs:List K2)(ck hk:cy)(ts:List K2):Nat->CY->Prop where
  | zero:Os g gs ck hk ts 0 (0,hk,[])
  | succ {i:Nat} {k:K2} {a b:CY}:Os g gs ck hk ts i a->ts[i]?=some k->EA g gs ck k a b->Os g gs ck hk ts (i+1) b
theorem Os.uniq {g:Int}{gs:List K2}{ck hk:cy}{ts:List K2}:∀{i:Nat} {a b:CY},Os g gs ck hk ts i a->Os g gs ck hk ts i b->a=b
  | 0,_,_,.zero,.zero=>rfl
  | i+1,_,_,.succ o1 e1 t1,.succ o2 e2 t2=>by
    have e:=Os.uniq o1 o2;subst e;rw[e1] at e2;cases e2;exact t1.fn t2
end WS
set_option maxHeartbeats 4000000
namespace WS
open PySem L2 DL
local macro_rules | `(tactic| walk_at "rs1")=>do let ns:=("Bj wu Bi tF Bd yN tH tG nR yK Ba yJ Bb we eE dC mK dI Bc yL Bl pS wx wa Bh nU yM yI EC wc uP jt wA Bf pH C8 CK C9 jO tE Be h9 bp dput cx Br B.val bY Tg.d putN wI rA rB eG tO ic dr qW Dc List.map List.length sZ tu tj pD pE pF pG pP pJ pK sV pQ pR tD pM pO pN mN tZ t4 wz ux uy uz tI qO qP mH mJ mI wq pL sU sS wg wy sW v9 sR rp nS nQ wj nO wB".splitOn " ").toArray.map λs=>Lean.mkIdent s.toName;`(tactic| dsimp only[$[$ns:ident],*])
local macro_rules | `(tactic| walk_at "rsx")=>`(tactic| set_option simprocs false in simp only[Fj,Fl,Fm,Fo,Fp,Dl])
local macro_rules | `(tactic| walk_at "rs")=>`(tactic| repeat (first | walk_at "rs1" | walk_at "rsx"))
local macro_rules | `(tactic| walk_at "v") => `(tactic| first | exact Or.inl rfl | exact Or.inr (Or.inl rfl) | exact Or.inr (Or.inr rfl))
local macro_rules | `(tactic| walk_at "rs2")=>do let ns:=("wu Bi tF Bd yN tH tG nR yK Ba yJ Bb we eE dC mK dI Bc yL Bl pS wx wa Bh nU yM yI EC wc uP jt wA Bf pH C8 CK C9 jO tE Be h9 bp dput cx Br B.val bY Tg.d putN wI rA rB eG tO ic dr qW Dc List.map List.length sZ tu tj pD pE pF pG pP pJ pK sV pQ pR tD pM pO pN mN tZ t4 wz ux uy uz tI qO qP mH mJ mI wq pL sU sS wg wy sW v9 sR rp nS nQ wj nO wB".splitOn " ").toArray.map λs=>Lean.mkIdent s.toName;`(tactic| dsimp only[$[$ns:ident],*])
noncomputable def top (i:Nat):Stmt:=PySem.Challenge.pw_warmshare_k14_a_told_sharing_is_good.main.body.getD i (.Pass ⟨0,0,0,0⟩)
structure sE (K:Frag)(mg:Str->Option GR):Prop where
  j9:mg "len" = none
  jM:mg "range" = none
  mw:mg "min" = none
  vW:mg "sum" = none
  pq:mg "enumerate" = none
  vV:mg "max" = none
  ke:mg "sorted" = none
  kd:mg "list" = none
  C2:mg "set" = none
  dA:mg "isinstance" = none
  C1:mg "int" = none
  A3:mg "bool" = none
  yD:mg "tuple" = none
  pZ:CT K mg "BOUGHT" (-1) (-1)
noncomputable abbrev cQ:Stmt:=top 7
theorem dh:aX ["script","k","step","found","cell"] ["script","k"] (af cQ):=⟨rfl,rfl,rfl,by decide +kernel,rfl,by decide +kernel,by decide +kernel⟩
noncomputable abbrev bT:Stmt:=top 8
theorem eL:aX ["number","low","wide","most","one","rate"] ["number","low","wide","most"] (af bT):=⟨rfl,rfl,rfl,by decide +kernel,rfl,by decide +kernel,by decide +kernel⟩
noncomputable abbrev bP:Stmt:=top 9
theorem av:aX ["script","number","low","wide","gap","counts","most","streams","k","cell","hots"] ["script"] (af bP):=⟨rfl,rfl,rfl,by decide +kernel,rfl,by decide +kernel,by decide +kernel⟩
noncomputable abbrev bj:Stmt:=top 3
theorem bA:aX ["streams","rates","number","stream","degree"] ["streams"] (af bj):=⟨rfl,rfl,rfl,by decide +kernel,rfl,by decide +kernel,by decide +kernel⟩
noncomputable abbrev aU:Stmt:=top 4
theorem jk:aX ["steps"] ["steps"] (af aU):=⟨rfl,rfl,rfl,by decide +kernel,rfl,by decide +kernel,by decide +kernel⟩
noncomputable abbrev ba:Stmt:=top 5
theorem iF:aX ["gap","giver","taker"] ["gap","giver","taker"] (af ba):=⟨rfl,rfl,rfl,by decide +kernel,rfl,by decide +kernel,by decide +kernel⟩
noncomputable abbrev dZ:Stmt:=top 2
theorem bo:aX ["works","left","wanted","givers","passes","turn","taker","need","giver","heat"] ["works"] (af dZ):=⟨rfl,rfl,rfl,by decide +kernel,rfl,by decide +kernel,by decide +kernel⟩
noncomputable abbrev cU:Stmt:=top 12
theorem br:aX ["streams","passes","place","sums","one","key","number","start","goal","rate","degree"] ["streams","passes","place"] (af cU):=⟨rfl,rfl,rfl,by decide +kernel,rfl,by decide +kernel,by decide +kernel⟩
noncomputable abbrev bJ:Stmt:=top 10
theorem cH:aX ["streams","number","degree","start","goal","rate"] ["streams","number","degree"] (af bJ):=⟨rfl,rfl,rfl,by decide +kernel,rfl,by decide +kernel,by decide +kernel⟩
noncomputable abbrev cR:Stmt:=top 11
theorem cq:aX ["works","one","giver","at","taker","into","heat"] ["works","one"] (af cR):=⟨rfl,rfl,rfl,by decide +kernel,rfl,by decide +kernel,by decide +kernel⟩
noncomputable abbrev aL:Stmt:=top 13
theorem cY:aX ["works","passes","one","heat","cold"] ["works","passes"] (af aL):=⟨rfl,rfl,rfl,by decide +kernel,rfl,by decide +kernel,by decide +kernel⟩
noncomputable abbrev cn:Stmt:=top 14
theorem oT:aX ["found"] ["found"] (af cn):=⟨rfl,rfl,rfl,by decide +kernel,rfl,by decide +kernel,by decide +kernel⟩
noncomputable abbrev gK:Stmt:=top 15
theorem jj:aX ["script","works","handed","found","one","kept"] ["script"] (af gK):=⟨rfl,rfl,rfl,by decide +kernel,rfl,by decide +kernel,by decide +kernel⟩
noncomputable abbrev zS:Str:="warmest_first" ++ ".<locals>." ++ "<lambda>"
section
variable {Pt:Addr} {P:Hj} {w:Hs} {K:Frag} {mg:Str->Option GR} {base:Heap} {f:Addr} {fd:FuncData}
theorem mulR {i j:Int}(h : -(2 ^ 64)<j/\j<2 ^ 64):qY i j:=.inr h
theorem mulL {i j:Int}(h : -(2 ^ 64)<i/\i<2 ^ 64):qY i j:=.inl h
noncomputable def d3 (x:S3):D:=.tup [.int x.1,.int x.2.1,.int x.2.2]
noncomputable def dW (g:Int)(hs cs:List S3):D:=.tup [.int g,.lst (hs.map d3),.lst (cs.map d3)]
theorem ud:∀l:List S3,fP (l.map d3)=true
  | []=>dg
  | x::l=>by rw[map_cons,cN,ud l,show bE (d3 x)=true by unfold d3;simp only[iB,cN,dg,iz,Bool.and_true]];rfl
theorem nZ:∀l:List S3,e9 (l.map d3)<=1
  | []=>by rw[List.map_nil,eP];exact Nat.zero_le _
  | x::l=>by
    have h:=nZ l;have e:dep (d3 x)=1:=by unfold d3;simp only[jT,dF,eP,jR];rfl
    rw[map_cons,dF,e];lia
theorem ja (g:Int)(hs cs:List S3):bE (dW g hs cs)=true:=by
  unfold dW;simp only[iB,cN,dg,iz,iA,ud,Bool.and_true]
theorem wG (g:Int)(hs cs:List S3):dep (dW g hs cs)<=3:=by
  have h1:=nZ hs;have h2:=nZ cs;unfold dW;simp only[jT,dF,eP,jR,jS];lia
theorem Gn {g:Int}{hs cs:List S3}{P:B->Prop}(h:P (.p (.bl true))):EB (dW g hs cs) (dW g hs cs) P:=by
  refine ⟨⟨ja _ _ _,ja _ _ _,by have:=wG g hs cs;lia⟩,?_⟩;rw[eZ _ (ja _ _ _)];exact h
structure sI (g:Int)(hs cs:List S3):Prop where
  g0:0<=g
  g1:g<=50
  nh:hs.length<=12
  nc:cs.length<=12
  EF:∀x∈hs,Aj x
  yH:∀x∈cs,j5 x
theorem bR {t1 u:fz}{E:g8}{ρ:ar}(C:ar->Prop)(tail:∀ρ,C ρ->u E ρ)(head:∀N:ar->Prop,(∀ρ,C ρ->N ρ)->t1 { E with nx:=N } ρ):Bj t1 u E ρ:=head _ tail
theorem A9 (p q:S3)(h:d3 p=d3 q):p=q:=by
  obtain ⟨a,b,c⟩:=p;obtain ⟨a',b',c'⟩:=q;unfold d3 at h;simp only[D.tup.injEq,List.cons.injEq,D.int.injEq,and_true] at h;obtain ⟨rfl,rfl,rfl⟩:=h;rfl
theorem jW:∀l:List P5,fP (l.map d5)=true
  | []=>dg
  | x::l=>by rw[map_cons,cN,jW l,show bE (d5 x)=true by unfold d5;simp only[iB,cN,dg,iz,Bool.and_true]];rfl
theorem jQ:∀l:List P5,e9 (l.map d5)<=1
  | []=>by rw[List.map_nil,eP];exact Nat.zero_le _
  | x::l=>by
    have h:=jQ l;have e:dep (d5 x)=1:=by unfold d5;simp only[jT,dF,eP,jR];rfl
    rw[map_cons,dF,e];lia
noncomputable def cP:DR:=λds P=>∃g a b c d:Int,ds = [.int g,.tup [.int a,.int b],.tup [.int c,.int d]]/\P (.p (.bl (decide (b>=d+g))))
theorem iC (T:sE K mg)(F:mh K "is_warm_enough" "is_warm_enough" ba f fd):cw P w K mg base g7 1 f fd ["gap","giver","taker"] (gu K cP):=by
  refine yr F iF (λds Q h=>by obtain ⟨g,a,b,c,d,rfl,q⟩:=h;rfl) λcdv A outer s H E hr=>⟨_,(aj (aY (iV xG (aO (dv 1) ab) (au aQ (aO (dv 2) ab) (dv 0)) (aA _)))),λds Q h=>?_⟩
  obtain ⟨g,a,b,c,d,rfl,q⟩:=h;walk_at "rs";exact q
structure A0 (ss:List S3):Prop where
  n:ss.length<=12
  w:∀s∈ss,0<=fI s/\fI s<=i7 s/\i7 s<=200
theorem so {hs:List S3}(h:∀s∈hs,Aj s)(n:hs.length<=12):A0 hs:=⟨n,λs hs=>by
  have a:=(h s hs).lo;have b:=(h s hs).lt;have c:=(h s hs).hi;unfold fI i7;lia⟩
theorem oX {cs:List S3}(h:∀s∈cs,j5 s)(n:cs.length<=12):A0 cs:=⟨n,λs hs=>by
  have a:=(h s hs).lo;have b:=(h s hs).lt;have c:=(h s hs).hi;unfold fI i7;lia⟩
noncomputable def dm:DR:=λds P=>∃ss:List S3,ds = [.lst (ss.map d3)]/\A0 ss/\∀kvs:cy,Keyed kvs->kvs.length<=2400->(∀k,aN kvs k=ao ss k)->kvs=bu ss ss.length->P (.o (.dct kvs))
theorem jb (T:sE K mg)(F:mh K "rates_by_step" "rates_by_step" bj f fd):cw P w K mg base g7 1 f fd ["streams"] (gu K dm):=by
  refine yr F bA (λds Q h=>by obtain ⟨ss,rfl,ok,q⟩:=h;rfl) λcdv A outer s H E hr=>⟨_,(ae (iW (i:=1) bA.nd rfl (Or.inl rfl) tJ)
      (ae (kD (g:=(.t [2,3])) PassesOwn.never rfl (n6 (by rfl) T.pq (aa (dv 0) ag)) (ll rfl (aV (ax (i:=2) bA.nd rfl (Or.inl rfl)) (aV (ax (i:=3) bA.nd rfl (Or.inl rfl)) iE))) (aj (cD (aJ xH (aO (dv 3) ab) ab (aA _)) (aj (jU (g:=(.n 4)) PassesOwn.never rfl (pU (by rfl) T.jM (aa (aI (yG rfl) (by rfl) T.mw boot_min (aa (eO (dv 3) (bS ab) (bS ab)) ag)) (aa (aI (yF rfl) (by rfl) T.vV boot_max (aa (eO (dv 3) (bS ab) (bS ab)) ag)) ag))) (ax (i:=4) bA.nd rfl (Or.inl rfl)) (aj (yT (i:=1) hr rfl (by walk_at "v") (dv 2) (dv 4) (aO (dv 3) ab))))) bg)))
      (aj (yW 1)))),λds Q h=>?_⟩
  obtain ⟨ss,rfl,ok,q⟩:=h;walk_at "rs";have sl:sizeLine=16777216:=sizeLine_eq;refine dB (λi ρ=>∃kvs a2 a3 a4,ρ = [some (.p (.lst (ss.map d3))),some (.o (.dct kvs)),a2,a3,a4]/\Keyed kvs/\kvs.length<=200*i/\(∀k,aN kvs k=ao (ss.take i) k)/\kvs=bu ss i) ⟨[],none,none,none,rfl,.nil,GW _,λk=>by
    rw[List.take_zero];unfold ao strAt;split<;>first | rfl | (rename_i h;split at h<;>cases h),rfl⟩ ?_ ?_
  · rintro i x ρ hx ⟨kvs,a2,a3,a4,rfl,hk,hl,hv,hrn⟩;obtain ⟨y,hy,rfl⟩:=fb hx;rw[Hw] at hy;cases es:ss[i]? with
    | none=>rw[es] at hy;cases hy
    | some s =>
    rw[es] at hy;cases hy;have hi:=(Hb.mp es).1;have hn:=ok.n;have hw:=ok.w s (Hi es);have tl:(ss.take i).length=i:=by rw[length_take];lia
    repeat (first | dsimp only[d3] | walk_at "rs1" | walk_at "rsx")
    refine ⟨λh0=>⟨by decide,⟨[s.1,s.2.1],rfl,by simp,λm hm hle=>⟨by decide,[s.1,s.2.1],rfl,by simp,λM hM hge=>?_⟩⟩⟩,λh0=>?_⟩
    · have em:m=fI s:=by
        unfold fI;have h1:=hle s.1 (.head _);have h2:=hle s.2.1 (.tail _ (.head _));simp only[Hn,List.not_mem_nil,or_false] at hm;lia
      have eM:M=i7 s:=by
        unfold i7;have h1:=hge s.1 (.head _);have h2:=hge s.2.1 (.tail _ (.head _));simp only[Hn,List.not_mem_nil,or_false] at hM;lia
      subst em;subst eM;rw[decide_eq_true_eq] at h0;walk_at "rs";refine ⟨⟨by lia,by lia,by lia,by lia⟩,?_⟩;refine dB (λj ρ=>∃kvs' a4,ρ = [some (.p (.lst (ss.map d3))),some (.o (.dct kvs')),some (.p (.int ((0+i:Nat):Int))),some (.p (.tup [.int s.1,.int s.2.1,.int s.2.2])),a4]/\Keyed kvs'/\kvs'.length<=200*i+j/\(∀k:K2,aN kvs' k=if k.1=(i:Int)/\fI s<=k.2/\k.2<fI s+(j:Nat) then some s.2.2 else ao (ss.take i) k)/\kvs'=ye kvs i s j) ⟨kvs,a4,rfl,hk,hl,λk=>by rw[if_neg (by lia)];exact hv k,rfl⟩ ?_ ?_
      · rintro j y ρ hy ⟨kvs',a4',rfl,hk',hl',hv',hr'⟩;obtain ⟨hj,rfl⟩:=cW hy;walk_at "rs";refine ⟨by lia,_,_,rfl,nj hk' _ _,by have:=uo kvs' (((0+i:Nat):Int),fI s+(j:Nat)) s.2.2;lia,λk=>?_,by rw[hr',Nat.zero_add];rfl⟩;rw[iL,hv'];obtain ⟨k1,k2'⟩:=k;dsimp only;by_cases c:((0+i:Nat):Int)=k1/\fI s+(j:Nat)=k2'
        · rw[if_pos (by rw[c.1,c.2]),if_pos (by lia)]
        · rw [if_neg (by rw [Prod.mk.injEq];exact c)];by_cases c2:k1=(i:Int)/\fI s<=k2'/\k2'<fI s+(j:Nat)
          · rw[if_pos c2,if_pos (by lia)]
          · rw[if_neg c2,if_neg (by lia)]
      · rintro ρ ⟨kvs',a4',rfl,hk',hl',hv',hr'⟩;rw[d7] at hl' hv' hr';refine ⟨kvs',_,_,_,rfl,hk',by lia,λk=>?_,by rw[hr',hrn];show _=match ss[i]? with | some s=>if 0<s.2.2 then ye (bu ss i) i s (i7 s - fI s).toNat else bu ss i | none=>bu ss i;rw[es];exact (if_pos h0).symm⟩;rw[hv',WS.take_snoc es,jz,tl];by_cases c:k.1=(i:Int)
        · rw[if_pos c];by_cases c2:fI s<=k.2/\k.2<i7 s
          · rw[if_pos ⟨c,c2.1,by lia⟩,if_pos ⟨h0,c2⟩]
          · rw[if_neg (by lia),if_neg (λz=>c2 z.2),lD (by rw[tl];exact c)]
        · rw[if_neg (λz=>c z.1),if_neg c]
    · rw[decide_eq_false_iff_not] at h0;refine ⟨kvs,_,_,_,rfl,hk,by lia,λk=>?_,by rw[hrn];show _=match ss[i]? with | some s=>if 0<s.2.2 then ye (bu ss i) i s (i7 s - fI s).toNat else bu ss i | none=>bu ss i;rw[es];exact (if_neg h0).symm⟩;rw[hv,WS.take_snoc es,jz,tl];by_cases c:k.1=(i:Int)
      · rw[if_pos c,if_neg (λz=>h0 z.1),lD (by rw[tl];exact c)]
      · rw[if_neg c]
  · rintro ρ ⟨kvs,a2,a3,a4,rfl,hk,hl,hv,hrn⟩;rw[fc,Hh] at *;rw[List.take_length] at hv;walk_at "rs";have:=ok.n;exact q kvs hk (by lia) hv hrn
noncomputable def e8 (k:K2):D:=.tup [.int k.1,.int k.2]
noncomputable def l5 (p:P5):List Int:=[p.1,p.2.1,p.2.2.1,p.2.2.2.1,p.2.2.2.2]
theorem flat_keys:∀ks:List K2,(ks.map e8).all D.flat=true
  | []=>rfl
  | k::ks=>by rw[map_cons,List.all_cons,flat_keys ks];rfl
theorem rG:∀ps:List P5,(ps.map d5).all D.flat=true
  | []=>rfl
  | k::ks=>by rw[map_cons,List.all_cons,rG ks];rfl
noncomputable def dq:DR:=λds P=>∃kvs:cy,ds = [.dct kvs]/\Keyed kvs/\∀ps:cy,ps.Perm kvs->g9 ps->L2.j8 kvs ps->P (.o (.lst ((ps.map (·.1)).map e8)))
theorem jd (kb:K.In base)(hBl:bV mg base)(T:sE K mg)(F:AS K "warmest_first" "warmest_first" aU f fd Pt):cw P w K mg base g7 1 f fd ["steps"] (jJ K Pt zS dq):=by
  refine Fy F jk (λds Q h=>by obtain ⟨kvs,rfl,kn,q⟩:=h;rfl) λcdv A outer s H E hr hT hC=>⟨_,(aj (aY (wD (x:="step") (by rfl) T.ke (by rfl) T.kd rfl (hr.mono (by decide)) rfl hC kb hBl hT rfl rfl (λ_ _ _ _ _=>rfl) rfl rfl rfl (by decide) rfl (by decide) (aa (dv 0) ag)))),λds Q h=>?_⟩
  obtain ⟨kvs,rfl,kn,q⟩:=h;walk_at "rs";refine ⟨kn,λps hp hf hst=>?_⟩;have:=q ps hp hf hst;rw[map_map] at this;exact this
noncomputable def Told (g:Int)(hs cs:List S3)(ps:List P5):Prop:=Keyed (bu hs hs.length)/\Keyed (bu cs cs.length)/\∃(hp cp:cy) (t:Nat) (lk:cy) (qs:List P5),hp.Perm (bu hs hs.length)/\g9 hp/\L2.j8 (bu hs hs.length) hp/\cp.Perm (bu cs cs.length)/\g9 cp/\L2.j8 (bu cs cs.length) cp /\
  Os g (hp.map (·.1)) (bu cs cs.length) (bu hs hs.length) (cp.map (·.1)) (cp.map (·.1)).length (t,lk,qs)/\ps.Perm (qs++dw (hp.map (·.1)) t lk)/\j6 (ps.map l5)
theorem rO (p q:P5)(h:l5 p=l5 q):p=q:=by
  unfold l5 at h;simp only[List.cons.injEq,and_true] at h;exact Prod.ext h.1 (Prod.ext h.2.1 (Prod.ext h.2.2.1 (Prod.ext h.2.2.2.1 h.2.2.2.2)))
theorem Told.uniq {g:Int}{hs cs:List S3}{p q:List P5}(h1:Told g hs cs p)(h2:Told g hs cs q):p=q:=by
  obtain ⟨kh,kc,hp,cp,t,lk,qs,a1,a2,a3,a4,a5,a6,o,pp,lp⟩:=h1;obtain ⟨_,_,hp',cp',t',lk',qs',b1,b2,b3,b4,b5,b6,o',pp',lp'⟩:=h2;obtain rfl:=jC kh a1 a2 a3 b1 b2 b3;obtain rfl:=jC kc a4 a5 a6 b4 b5 b6;have:=o.uniq o';simp only[Prod.mk.injEq] at this;obtain ⟨rfl,rfl,rfl⟩:=this;have e:=kT (c:=5) ((pp.trans pp'.symm).map l5) (λx hx=>by obtain ⟨y,_,rfl⟩:=mem_map.mp hx;rfl) lp lp';exact (List.map_inj_right (rO · · ·)).mp e
noncomputable def lC:DR:=λds P=>∃g hs cs,ds = [dW g hs cs]/\sI g hs cs/\∀ps:List P5,Looks g hs cs ps->j6 (ps.map l5)->ps.length<=4800->Told g hs cs ps->P (.o (.lst (ps.map d5)))
noncomputable def GF (n:Nat)(ρ:ar):Nat:=match bp ρ 5,bp ρ 7 with
  | some (.p (.int t)),some (.p (.int m))=>2*(n - t.toNat)+(if 0<m then 1 else 0)
  | _,_=>0
theorem vk (T:sE K mg)(F_rates_by_step:Fn P w K mg base "rates_by_step" 1 ["streams"] (gu K dm))(F_warmest_first:Fn P w K mg base "warmest_first" 1 ["steps"] (jJ K Pt zS dq))(F_is_warm_enough:Fn P w K mg base "is_warm_enough" 1 ["gap","giver","taker"] (gu K cP))(F:mh K "shared" "shared" dZ f fd):cw P w K mg base g7 2 f fd ["works"] (jJ K Pt zS lC):=by
  refine DH F bo (λds Q h=>by obtain ⟨g,hs,cs,rfl,ok,q⟩:=h;rfl) λcdv A outer s H E hr hT=>⟨_,(ae (iW (i:=1) bo.nd rfl (Or.inr rfl) (bN F_rates_by_step (hr.mono (by decide)) (by rfl) (aa (aO (dv 0) ab) ag)))
      (ae (aC (i:=2) bo.nd rfl (Or.inl rfl) (bN F_rates_by_step (hr.mono (by decide)) (by rfl) (aa (aO (dv 0) ab) ag)))
      (ae (tQ (i:=3) bo.nd rfl (Or.inl rfl) (nV hT F_warmest_first (hr.mono (by decide)) (by rfl) (aa (dv 1) ag)))
      (ae (iW (i:=4) bo.nd rfl (Or.inl rfl) (gN ag))
      (ae (aC (i:=5) bo.nd rfl (Or.inl rfl) ab)
      (ae (kD (g:=(.n 6)) PassesOwn.never rfl (cC (nV hT F_warmest_first (hr.mono (by decide)) (by rfl) (aa (dv 2) ag))) (ax (i:=6) bo.nd rfl (Or.inl rfl)) (ae (aC (i:=7) bo.nd rfl (Or.inl rfl) (jP hr (dv 2) (dv 6)))
      (ae (wL PassesOwn.never (DW.dt (og (aJ xH (dv 7) ab (aA _)) (og (aJ ue (dv 5) (aI iR (by rfl) T.j9 PySem.boot_len (aa (dv 3) ag)) (aA _)) (om (iZ (bN F_is_warm_enough (hr.mono (by decide)) (by rfl) (aa (aO (dv 0) ab) (aa (aO (dv 3) (dv 5)) (aa (dv 6) ag))))))))) (ae (aC (i:=8) bo.nd rfl (Or.inl rfl) (aO (dv 3) (dv 5)))
      (ae (yX (i:=9) bo.nd rfl (Or.inl rfl) (aI (h8 rfl) (by rfl) T.mw boot_min (aa (dv 7) (aa (jP hr (dv 1) (dv 8)) ag))))
      (ae (oe (i:=4) rfl (by walk_at "v") (au aQ (au aQ (dv 8) (dv 6)) (bO (aa (dv 9) ag))))
      (ae (wJ (i:=7) bo.nd rfl (Or.inl rfl) (dv 9) xg)
      (ae (yS (zO (pv 1) (dv 8).pe (get_dict (mV hr)) (dv 9).pe xg (set_dict (mV hr))))
      (aj (cD (aJ fQ (jP hr (dv 1) (dv 8)) ab (aA _)) (aj (wJ (i:=5) bo.nd rfl (Or.inl rfl) ab Bv)) bg))))))))
      (aj (cD (aJ xH (dv 7) ab (aA _)) (aj (oe (i:=4) rfl (by walk_at "v") (au aQ (yQ (dv 6) T.pZ (by rfl)) (bO (aa (dv 7) ag))))) bg)))))
      (ae (yU (i:=4) rfl (by walk_at "v") (ky (g:=(.n 0)) (tc:=h9) (te:=(mK _ (sR _ _ (eE 0)) (wA (jt (mK pL (eE 1) (eE 0)) uP)))) (sc0:=af dZ) (N0:=["works","left","wanted","givers","passes","turn","taker","need","giver","heat"]) ["giver","left"] [none,some 1] rfl (cC (eO (dv 3) (bS (dv 5)) ig)) (λ_ _ _ _ _=>(ax (i:=0) (show (["giver","left"]:List Str).Nodup by decide +kernel) rfl (Or.inl rfl))) (λ_ _ _ _ _=>kC) (λ_ _ _ _ _=>(au aQ (yR (dv 0) T.pZ (by rfl)) (bO (aa (jP hr (dv 1) (dv 0)) ag))))))
      (aj (aY (aI pz (by rfl) T.ke boot_sorted (aa (dv 4) ag))))))))))),λds Q h=>?_⟩
  obtain ⟨g,hs,cs,rfl,ok,q⟩:=h;have sl:sizeLine=16777216:=sizeLine_eq;have oh:=so ok.EF ok.nh;have oc:=oX ok.yH ok.nc;refine bR (λρ=>∃hk:cy,Keyed hk/\hk.length<=2400/\(∀k,aN hk k=ao hs k)/\hk=bu hs hs.length/\ρ = [some (.p (dW g hs cs)),some (.o (.dct hk)),none,none,none,none,none,none,none,none]) ?_ λN hN=>?_;rotate_left
  · repeat (first | dsimp only[dW] | walk_at "rs1" | walk_at "rsx")
    exact ⟨hs,rfl,oh,λkvs hk hl hv hr=>hN _ ⟨kvs,hk,hl,hv,hr,rfl⟩⟩
  rintro ρ ⟨hk,kh,lh,vh,rh,rfl⟩;refine bR (λρ=>∃ck:cy,Keyed ck/\ck.length<=2400/\(∀k,aN ck k=ao cs k)/\ck=bu cs cs.length/\ρ = [some (.p (dW g hs cs)),some (.o (.dct hk)),some (.p (.dct ck)),none,none,none,none,none,none,none]) ?_ λN hN=>?_;rotate_left
  · repeat (first | dsimp only[dW] | walk_at "rs1" | walk_at "rsx")
    exact ⟨cs,rfl,oc,λkvs hk hl hv hr=>hN _ ⟨kvs,hk,hl,hv,hr,rfl⟩⟩
  rintro ρ ⟨ck,kc,lc,vc,rc,rfl⟩;refine bR (λρ=>∃(gs:List K2) (gp:cy),j8 hs gs/\gp.Perm hk/\g9 gp/\L2.j8 hk gp/\gs=gp.map (·.1)/\ρ = [some (.p (dW g hs cs)),some (.o (.dct hk)),some (.p (.dct ck)),some (.p (.lst (gs.map e8))),none,none,none,none,none,none]) ?_ λN hN=>?_;rotate_left
  · walk_at "rs";exact ⟨hk,rfl,kh,λps hp hf hst=>⟨flat_keys _,hN _ ⟨_,ps,yi kh lh vh hp hf,hp,hf,hst,rfl,rfl⟩⟩⟩
  rintro ρ ⟨gs,gp,sg,gp1,gp2,gp3,gp4,rfl⟩;refine bR (λρ=>ρ = [some (.p (dW g hs cs)),some (.o (.dct hk)),some (.p (.dct ck)),some (.p (.lst (gs.map e8))),some (.o (.lst [])),none,none,none,none,none]) ?_ λN hN=>?_;rotate_left
  · walk_at "rs";exact hN _ rfl
  rintro ρ rfl;refine bR (λρ=>ρ = [some (.p (dW g hs cs)),some (.o (.dct hk)),some (.p (.dct ck)),some (.p (.lst (gs.map e8))),some (.o (.lst [])),some (.p (.int 0)),none,none,none,none]) ?_ λN hN=>?_;rotate_left
  · walk_at "rs";exact hN _ rfl
  rintro ρ rfl;have lg:=sg.len;refine bR (λρ=>∃(ts:List K2) (t:Nat) (lk:cy) (ps:List P5) (a6 a7 a8 a9:Option B),j8 cs ts/\(∃cp:cy,cp.Perm ck/\g9 cp/\L2.j8 ck cp/\ts=cp.map (·.1))/\Os g gs ck hk ts ts.length (t,lk,ps)/\Gi g hs cs gs ts ts.length t lk ps/\ρ = [some (.p (dW g hs cs)),some (.o (.dct lk)),some (.p (.dct ck)),some (.p (.lst (gs.map e8))),some (.o (.lst (ps.map d5))),some (.p (.int (t:Nat))),a6,a7,a8,a9]) ?_ λN hN=>?_;rotate_left
  · repeat (first | walk_at "rs2" | walk_at "rsx")
    refine ⟨ck,rfl,kc,λcp hp hf hst=>?_⟩;have st:=yi kc lc vc hp hf;have cpx:∃cp':cy,cp'.Perm ck/\g9 cp'/\L2.j8 ck cp'/\cp.map (·.1)=cp'.map (·.1):=⟨cp,hp,hf,hst,rfl⟩
    generalize cp.map (·.1)=ts at st cpx;have lt:=st.len;refine dB (λi ρ=>∃(t:Nat) (lk:cy) (ps:List P5) (a6 a7 a8 a9:Option B),Os g gs ck hk ts i (t,lk,ps)/\Gi g hs cs gs ts i t lk ps/\ρ = [some (.p (dW g hs cs)),some (.o (.dct lk)),some (.p (.dct ck)),some (.p (.lst (gs.map e8))),some (.o (.lst (ps.map d5))),some (.p (.int (t:Nat))),a6,a7,a8,a9]) ⟨0,hk,[],none,none,none,none,.zero,Gi.start sg lh vh,rfl⟩ ?_ ?_
    · rintro i x ρ hx ⟨t0,lk0,ps0,a6,a7,a8,a9,O,G,rfl⟩;rw[Hw] at hx;obtain ⟨k,hk1,rfl⟩:=Option.map_eq_some_iff.mp hx;have hi:i<ts.length:=(Hb.mp hk1).1;obtain ⟨r,hr⟩:=Option.isSome_iff_exists.mp ((st.is k).mp (Hi hk1));have kb:0<=k.2+g/\k.2+g<=250:=by
        obtain ⟨s,h1,h2,h3,h4,_⟩:=dD hr;have:=oc.w s (bZ h1).2.2;have:=ok.g0;have:=ok.g1;lia
      have G1:=G.take st hk1 hr;have hv:aN ck (k.1,k.2)=some r:=(vc k).trans hr;dsimp only[Tg.d,dput];refine bR (λρ=>ρ = [some (.p (dW g hs cs)),some (.o (.dct lk0)),some (.p (.dct ck)),some (.p (.lst (gs.map e8))),some (.o (.lst (ps0.map d5))),some (.p (.int (t0:Nat))),some (.p (e8 k)),some (.p (.int r)),a8,a9]) ?_ λN hN=>?_;rotate_left
      · repeat (first | dsimp only[e8] | walk_at "rs1" | walk_at "rsx")
        exact ⟨r,hv,hN _ rfl⟩
      rintro ρ rfl;refine bR (λρ=>∃(t:Nat) (n:Int) (lk:cy) (ps:List P5) (a8 a9:Option B),gC (W1 g gs k) (t0,r,lk0,ps0) (t,n,lk,ps)/\Gw g hs cs gs ts i k t n lk ps/\(n=0\/∀a,gs[t]?=some a->a.2<k.2+g)/\ρ = [some (.p (dW g hs cs)),some (.o (.dct lk)),some (.p (.dct ck)),some (.p (.lst (gs.map e8))),some (.o (.lst (ps.map d5))),some (.p (.int (t:Nat))),some (.p (e8 k)),some (.p (.int n)),a8,a9]) ?_ λN hN=>?_;rotate_left
      · unfold wC;refine ⟨λρ=>∃(t:Nat) (n:Int) (lk:cy) (ps:List P5) (a8 a9:Option B),gC (W1 g gs k) (t0,r,lk0,ps0) (t,n,lk,ps)/\Gw g hs cs gs ts i k t n lk ps/\ρ = [some (.p (dW g hs cs)),some (.o (.dct lk)),some (.p (.dct ck)),some (.p (.lst (gs.map e8))),some (.o (.lst (ps.map d5))),some (.p (.int (t:Nat))),some (.p (e8 k)),some (.p (.int n)),a8,a9],GF gs.length,⟨t0,r,lk0,ps0,a8,a9,.refl,G1,rfl⟩,?_⟩;clear G G1;rintro ρ ⟨t,n,lk,ps,a8,a9,S,G,rfl⟩;repeat (first | walk_at "rs2" | walk_at "rsx")
        rw[Hh];refine ⟨λh1=>⟨λh2=>?_,λh2=>⟨λz=>(nomatch z),λ_=>hN _ ⟨t,n,lk,ps,a8,a9,S,G,.inr λa ha=>?_,rfl⟩⟩⟩,λh1=>⟨λz=>(nomatch z),λ_=>hN _ ⟨t,n,lk,ps,a8,a9,S,G,.inl ?_,rfl⟩⟩⟩;rotate_left
        · have:=(Hb.mp ha).1;have:=of_decide_eq_false h2;lia
        · have:=of_decide_eq_false h1;have:=G.n0;lia
        have n1:=of_decide_eq_true h1;have t1:t<gs.length:=by
          have:=of_decide_eq_true h2;lia
        have ha:=GV t1;generalize gs[t]=a at ha;have g1:fE (gs.map e8) ((t:Nat):Int)=some (e8 a):=rj ha;obtain ⟨v,hv1,_⟩:=G.gr.rJ t a ha;have hv2:aN lk (a.1,a.2)=some v:=hv1;have llk:=G.gr.ln;have lps:=G.n1;repeat (first | dsimp only[dW] | walk_at "rs2" | walk_at "rsx" | set_option simprocs false in simp only[g1])
        refine ⟨g,a.1,a.2,k.1,k.2,rfl,?_⟩;repeat (first | walk_at "rs2" | walk_at "rsx")
        refine ⟨λh3=>?_,λh3=>hN _ ⟨t,n,lk,ps,a8,a9,S,G,.inr λb hb=>?_,rfl⟩⟩;rotate_left
        · rw[ha] at hb;cases hb;have:=of_decide_eq_false h3;lia
        have hw:=of_decide_eq_true h3;refine bR (λρ=>ρ = [some (.p (dW g hs cs)),some (.o (.dct lk)),some (.p (.dct ck)),some (.p (.lst (gs.map e8))),some (.o (.lst (ps.map d5))),some (.p (.int (t:Nat))),some (.p (e8 k)),some (.p (.int n)),some (.p (e8 a)),a9]) ?_ λN hN=>?_;rotate_left
        · repeat (first | walk_at "rs1" | walk_at "rsx" | set_option simprocs false in simp only[g1])
          exact hN _ rfl
        rintro ρ rfl;obtain ⟨m,hm⟩ : ∃m,m=if v<n then v else n:=⟨_,rfl⟩
        refine bR (λρ=>ρ = [some (.p (dW g hs cs)),some (.o (.dct lk)),some (.p (.dct ck)),some (.p (.lst (gs.map e8))),some (.o (.lst (ps.map d5))),some (.p (.int (t:Nat))),some (.p (e8 k)),some (.p (.int n)),some (.p (e8 a)),some (.p (.int m))]) ?_ λN hN=>?_;rotate_left
        · repeat (first | dsimp only[e8] | walk_at "rs1" | walk_at "rsx")
          exact ⟨v,hv2,rfl,hN _ (by rw[hm];rfl)⟩
        rintro ρ rfl;refine bR (λρ=>ρ = [some (.p (dW g hs cs)),some (.o (.dct lk)),some (.p (.dct ck)),some (.p (.lst (gs.map e8))),some (.o (.lst ((ps++[(a.1,a.2,k.1,k.2,m)]).map d5))),some (.p (.int (t:Nat))),some (.p (e8 k)),some (.p (.int n)),some (.p (e8 a)),some (.p (.int m))]) ?_ λN hN=>?_;rotate_left
        · repeat (first | dsimp only[e8] | walk_at "rs1" | walk_at "rsx")
          exact ⟨(λz=>nomatch z),(λz=>nomatch z),by rw[sl];show 4<=16777216;decide,(λz=>nomatch z),(λz=>nomatch z),by rw[sl];show 5<=16777216;decide,by rw[Hh];lia,hN _ (by rw[map_append];rfl)⟩
        rintro ρ rfl;refine bR (λρ=>ρ = [some (.p (dW g hs cs)),some (.o (.dct lk)),some (.p (.dct ck)),some (.p (.lst (gs.map e8))),some (.o (.lst ((ps++[(a.1,a.2,k.1,k.2,m)]).map d5))),some (.p (.int (t:Nat))),some (.p (e8 k)),some (.p (.int (n - m))),some (.p (e8 a)),some (.p (.int m))]) ?_ λN hN=>?_;rotate_left
        · walk_at "rs";exact hN _ rfl
        rintro ρ rfl;refine bR (λρ=>ρ = [some (.p (dW g hs cs)),some (.o (.dct (putD lk a (v - m)))),some (.p (.dct ck)),some (.p (.lst (gs.map e8))),some (.o (.lst ((ps++[(a.1,a.2,k.1,k.2,m)]).map d5))),some (.p (.int (t:Nat))),some (.p (e8 k)),some (.p (.int (n - m))),some (.p (e8 a)),some (.p (.int m))]) ?_ λN hN=>?_;rotate_left
        · repeat (first | dsimp only[e8] | walk_at "rs1" | walk_at "rsx")
          exact ⟨v,hv2,by lia,hN _ rfl⟩
        rintro ρ rfl;have hv3:aN (putD lk a (v - m)) (a.1,a.2)=some (v - m):=by rw[iL,if_pos rfl]
        have mor:0<m/\(m=v\/m=n)/\m<=n:=by
          obtain ⟨_,_,_,_,v0⟩:=G.gr.rJ t a ha;rename_i w hw' _ _;rw[hv1] at hw';cases hw';have:=v0 (GW _);rw[hm];split<;>lia
        repeat (first | dsimp only[e8] | walk_at "rs1" | walk_at "rsx")
        refine ⟨v - m,hv3,λh4=>⟨⟨t+1,n - m,_,_,_,_,S.step ⟨a,v,m,n1,ha,hw,hv1,hm,by rw[if_pos (of_decide_eq_true h4)]⟩,G.pass sg st hk1 n1 ha hw hv1 hm (by rw[if_pos (of_decide_eq_true h4)]),rfl⟩,?_⟩,λh4=>⟨⟨t,n - m,_,_,_,_,S.step ⟨a,v,m,n1,ha,hw,hv1,hm,by rw[if_neg (of_decide_eq_false h4)]⟩,G.pass sg st hk1 n1 ha hw hv1 hm (by rw[if_neg (of_decide_eq_false h4)]),rfl⟩,?_⟩⟩
        · show 2*(gs.length - ((t:Int)+1).toNat)+(if 0<n - m then 1 else 0)<2*(gs.length - ((t:Nat):Int).toNat)+(if 0<n then 1 else 0)
          rw[if_pos n1];split<;>lia
        · have:=of_decide_eq_false h4;show 2*(gs.length - ((t:Nat):Int).toNat)+(if 0<n - m then 1 else 0)<2*(gs.length - ((t:Nat):Int).toNat)+(if 0<n then 1 else 0)
          rw[if_neg (by lia),if_pos n1];lia
      rintro ρ ⟨t,n,lk,ps,a8,a9,S,G,hn,rfl⟩;have hlp:=G.n1;have htl:=G.gr.tl;repeat (first | dsimp only[e8] | walk_at "rs1" | walk_at "rsx")
      refine ⟨λh=>⟨(λz=>nomatch z),by rw[sl];show 4<=16777216;decide,(λz=>nomatch z),(λz=>nomatch z),by rw[sl];show 5<=16777216;decide,by rw[Hh];lia,?_⟩,λh=>?_⟩
      · have h0:=of_decide_eq_true h;have B:=G.GB sg st hk1 h0 kb.1 kb.2 (hn.resolve_left (by lia));exact ⟨t,lk,_,_,_,_,_,O.succ hk1 ⟨r,n,ps,hv,S,hn,(if_pos h0).symm⟩,B,by rw[map_append];rfl⟩
      · have h0:n=0:=by
          have:=of_decide_eq_false h;have:=G.n0;lia
        subst h0;exact ⟨t,lk,ps,_,_,_,_,O.succ hk1 ⟨r,0,ps,hv,S,hn,(if_neg (by decide)).symm⟩,G.done hk1,rfl⟩
    · rintro ρ ⟨t,lk,ps,a6,a7,a8,a9,O,G,rfl⟩;rw[Hh] at G O;exact hN _ ⟨ts,t,lk,ps,a6,a7,a8,a9,st,cpx,O,G,rfl⟩
  rintro ρ ⟨ts,t,lk,ps,a6,a7,a8,a9,st,⟨cp,cp1,cp2,cp3,cp4⟩,O,G,rfl⟩;obtain ⟨Z,ti,ln⟩:=G.finish sg st;have ls:=st.len;have lp:=G.n;have tl:=G.gr.tl;refine bR (λρ=>ρ = [some (.p (dW g hs cs)),some (.o (.dct lk)),some (.p (.dct ck)),some (.p (.lst (gs.map e8))),some (.o (.lst ((ps++dw gs t lk).map d5))),some (.p (.int (t:Nat))),a6,a7,a8,a9]) ?_ λN hN=>?_;rotate_left
  · walk_at "rs";rw[pC,<-map_drop];refine oy (λx y e=>?_) (λk=>d5 (k.1,k.2,-1,-1,(aN lk k).getD 0)) (by rw[length_drop];lia) (λk hk2=>?_) ?_
    · unfold e8 at e;simp only[D.tup.injEq,List.cons.injEq,D.int.injEq,and_true] at e;exact Prod.ext e.1 e.2
    · obtain ⟨j,hj⟩:=mem_iff_getElem?.mp (mem_of_mem_drop hk2);obtain ⟨v,hv,_⟩:=G.gr.rJ j k hj;have hv2:aN lk (k.1,k.2)=some v:=hv;repeat (first | dsimp only[e8] | walk_at "rs1" | walk_at "rsx")
      refine ⟨(λz=>nomatch z),by rw[sl];show 4<=16777216;decide,v,hv2,(λz=>nomatch z),(λz=>nomatch z),by rw[sl];show 5<=16777216;decide,?_⟩;rw[hv];rfl
    have e:(gs.drop t).map (λk=>d5 (k.1,k.2,-1,-1,(aN lk k).getD 0))=(dw gs t lk).map d5:=by unfold dw;rw[map_map];rfl
    rw[e];refine ⟨rG _,?_,?_⟩
    · rw[Hh,Hh];rw[Hu] at ln;lia
    · rw[<-map_append];exact hN _ rfl
  rintro ρ rfl;walk_at "rs";have nd5:((ps++dw gs t lk).map l5).Nodup:=pairwise_map.mpr ((pairwise_map.mp Z.eJ).imp λ{a b} z e=>z (by rw[rO _ _ e]));refine ⟨(ps++dw gs t lk).map l5,5,by rw[map_map];rfl,nd5,by decide,λns hn=>?_,λmss hp hu=>?_⟩
  · obtain ⟨p,_,rfl⟩:=mem_map.mp hn;rfl
  · obtain ⟨qs,hq,rfl⟩:=fS hp _ rfl;rw[map_map];refine q qs (Z.perm hq) hu (by rw[hq.length_eq];lia) ⟨by rw[<-rh];exact kh,by rw[<-rc];exact kc,gp,cp,t,lk,ps,?_⟩;rw[<-rh,<-rc,<-gp4,<-cp4];exact ⟨gp1,gp2,gp3,cp1,cp2,cp3,O,hq,hu⟩
noncomputable def gS:DR:=λds P=>∃(ns:List Int) (k:Int),ds = [.scr ns,.int k]/\ns.length<=63/\(0<=k/\k<=1000)/\∀z:Int,0<=z->P (.p (.int z))
theorem qx (T:sE K mg)(F:mh K "_law_draw" "_law_draw" cQ f fd):cw P w K mg base g7 1 f fd ["script","k"] (gu K gS):=by
  refine yr F dh (λds Q h=>by obtain ⟨ns,k,rfl,hl,⟨hk,hk2⟩,q⟩:=h;rfl) λcdv A outer s H E hr=>⟨_,(ae (aC (i:=2) dh.nd rfl (Or.inl rfl) (au aQ ab (au cF (aI iR (by rfl) T.j9 PySem.boot_len (aa (dv 0) ag)) ab)))
      (ae (aC (i:=3) dh.nd rfl (Or.inl rfl) (au aQ (au eV ab (dv 1)) ab))
      (ae (kD (g:=(.n 4)) PassesOwn.never rfl (cC (mM (dv 0) (bS (au bz (dv 1) (dv 2))) ig (bS (dv 2)))) (ax (i:=4) dh.nd rfl (Or.inl rfl)) (aj (aC (i:=3) dh.nd rfl (Or.inl rfl) (au bz (au aQ (au eV (dv 3) (au aQ (au eV ab (dv 1)) ab)) (dv 4)) ab))))
      (aj (aY (au bz (au eV (dv 3) (au aQ (au aQ (au bz (au cF (dv 3) ab) ab) (au eV ab (dv 1))) ab)) ab)))))),λds Q h=>?_⟩
  obtain ⟨ns,k,rfl,hl,⟨hk,hk2⟩,q⟩:=h;walk_at "rs";refine ⟨⟨by decide,by decide⟩,mulL (by decide),by lia,λz=>by have:=Option.some.inj z;lia,?_⟩;refine dB (λi ρ=>∃(f:Int) (a4:Option B),0<=f/\ρ = [some (B.p (D.scr ns)),some (B.p (D.int k)),some (B.p (D.int (1+(ns.length:Int) / 8))),some (B.p (D.int f)),a4]) ⟨_,_,by lia,rfl⟩ ?_ ?_
  · rintro i x ρ hx ⟨f,a4,hf,rfl⟩;rw[Hw] at hx;obtain ⟨c,hc,rfl⟩:=Option.map_eq_some_iff.mp hx;walk_at "rs";exact ⟨mulL (by decide),mulR (by lia),by decide,_,_,Int.emod_nonneg _ (by decide),rfl⟩
  · rintro ρ ⟨f,a4,hf,rfl⟩;walk_at "rs";exact ⟨⟨by decide,by decide⟩,by decide,mulL (by decide),mulR (by lia),by decide,q _ (Int.emod_nonneg _ (by decide))⟩
noncomputable def fm:DR:=λds P=>∃n low wide most:Int,ds = [.int n,.int low,.int wide,.int most]/\0<=low/\(wide=6/\low<20\/wide=100/\low<=1)/\1<=most/\most<=1000000000/\∀x:S3,j5 x->P (.p (d3 x))
theorem lY (T:sE K mg)(F:mh K "_law_stream" "_law_stream" bT f fd):cw P w K mg base g7 1 f fd ["number","low","wide","most"] (gu K fm):=by
  refine yr F eL (λds Q h=>by obtain ⟨n,low,wide,most,rfl,h0,hw,hm,hM,q⟩:=h;rfl) λcdv A outer s H E hr=>⟨_,(ae (aC (i:=4) eL.nd rfl (Or.inl rfl) (au aQ (dv 1) (au bz (dv 0) (dv 2))))
      (ae (aC (i:=5) eL.nd rfl (Or.inl rfl) (au aQ ab (au bz (au eV (au cF (dv 0) ab) ab) (dv 3))))
      (ae (cD (DW.dt (og (aJ fQ (dv 2) ab (aA _)) (om (aJ fQ (au bz (au cF (dv 0) ab) ab) ab (aA _))))) (aj (aY (bO (aa (dv 4) (aa ab (aa (dv 5) ag)))))) bg)
      (aj (aY (bO (aa (dv 4) (aa (au aQ (au aQ (dv 4) ab) (au bz (au cF (dv 0) ab) (dv 2))) (aa (dv 5) ag))))))))),λds Q h=>?_⟩
  obtain ⟨n,low,wide,most,rfl,h0,hw,hm,hM,q⟩:=h;walk_at "rs";have r1:=Int.emod_nonneg (n / 10000*1009) (b:=most) (by lia);have r2:=Int.emod_lt_of_pos (n / 10000*1009) (b:=most) (by lia);refine ⟨by lia,⟨by decide,by decide⟩,mulR (by decide),by lia,λhw1=>⟨⟨by decide,by decide⟩,by decide,λ_=>?_,λ_=>⟨⟨by decide,by decide⟩,by lia,?_⟩⟩,λhw1=>⟨λz=>(nomatch z),λ_=>⟨⟨by decide,by decide⟩,by lia,?_⟩⟩⟩
  · rw[decide_eq_true_eq] at hw1;subst hw1;exact q (low+n % 100,200,1+n / 10000*1009 % most) ⟨by dsimp only;lia,by dsimp only;lia,by dsimp only;lia,by dsimp only;lia,by dsimp only;lia⟩
  · rw[decide_eq_true_eq] at hw1;subst hw1;exact q (low+n % 100,low+n % 100+1+n / 100 % 100,1+n / 10000*1009 % most) ⟨by dsimp only;lia,by dsimp only;lia,by dsimp only;lia,by dsimp only;lia,by dsimp only;lia⟩
  · rw[decide_eq_false_iff_not] at hw1;obtain ⟨rfl,hw⟩ : wide=6/\low<20:=by lia
    exact q (low+n % 6,low+n % 6+1+n / 100 % 6,1+n / 10000*1009 % most) ⟨by dsimp only;lia,by dsimp only;lia,by dsimp only;lia,by dsimp only;lia,by dsimp only;lia⟩
noncomputable def fV:DR:=λds P=>∃ns:List Int,ds = [.scr ns]/\ns.length<=63/\∀g hs cs,sI g hs cs->P (.p (dW g hs cs))
theorem oJ (T:sE K mg)(F_law_draw:Fn P w K mg base "_law_draw" 1 ["script","k"] (gu K gS))(F_law_stream:Fn P w K mg base "_law_stream" 1 ["number","low","wide","most"] (gu K fm))(F:mh K "_law_works" "_law_works" bP f fd):cw P w K mg base g7 2 f fd ["script"] (gu K fV):=by
  refine yr F av (λds Q h=>by obtain ⟨ns,rfl,hl,q⟩:=h;rfl) λcdv A outer s H E hr=>⟨_,(ae (aC (i:=1) av.nd rfl (Or.inl rfl) (bN F_law_draw (hr.mono (by decide)) (by rfl) (aa (dv 0) (aa ab ag))))
      (ae (aC (i:=2) av.nd rfl (Or.inl rfl) (au bz (dv 1) ab))
      (ae (aC (i:=3) av.nd rfl (Or.inl rfl) ab)
      (ae (cD (aJ fQ (au bz (au cF (dv 1) ab) ab) ab (aA _)) (ae (aC (i:=2) av.nd rfl (Or.inl rfl) (au bz (au cF (dv 1) ab) ab))
      (aj (aC (i:=3) av.nd rfl (Or.inl rfl) ab))) bg)
      (ae (aC (i:=4) av.nd rfl (Or.inl rfl) (au bz (bN F_law_draw (hr.mono (by decide)) (by rfl) (aa (dv 0) (aa ab ag))) ab))
      (ae (cD (aJ fQ (au bz (au cF (bN F_law_draw (hr.mono (by decide)) (by rfl) (aa (dv 0) (aa ab ag))) ab) ab) ab (aA _)) (aj (aC (i:=4) av.nd rfl (Or.inl rfl) (au bz (au cF (bN F_law_draw (hr.mono (by decide)) (by rfl) (aa (dv 0) (aa ab ag))) ab) ab))) bg)
      (ae (cD (DW.dt (og (aJ fQ (dv 3) ab (aA _)) (om (aJ fQ (au bz (au cF (dv 1) ab) ab) ab (aA _))))) (aj (aC (i:=4) av.nd rfl (Or.inl rfl) ab)) bg)
      (ae (aC (i:=5) av.nd rfl (Or.inl rfl) (gN (aa (au bz (bN F_law_draw (hr.mono (by decide)) (by rfl) (aa (dv 0) (aa ab ag))) ab) (aa (au bz (bN F_law_draw (hr.mono (by decide)) (by rfl) (aa (dv 0) (aa ab ag))) ab) ag))))
      (ae (cD (aJ fQ (dv 3) ab (aA _)) (aj (aC (i:=5) av.nd rfl (Or.inl rfl) (gN (aa (aI (h8 rfl) (by rfl) T.mw boot_min (aa ab (aa (aO (dv 5) ab) ag))) (aa (aI (h8 rfl) (by rfl) T.mw boot_min (aa ab (aa (aO (dv 5) ab) ag))) ag))))) (aj (cD (aJ fQ (au bz (au cF (bN F_law_draw (hr.mono (by decide)) (by rfl) (aa (dv 0) (aa ab ag))) ab) ab) ab (aA _)) (aj (aC (i:=5) av.nd rfl (Or.inl rfl) (gN (aa ab (aa (au aQ ab (au bz (bN F_law_draw (hr.mono (by decide)) (by rfl) (aa (dv 0) (aa ab ag))) ab)) ag))))) bg)))
      (ae (aC (i:=6) av.nd rfl (Or.inl rfl) (aO (gN (aa ab (aa (au BL ab ab) ag))) (au bz (bN F_law_draw (hr.mono (by decide)) (by rfl) (aa (dv 0) (aa ab ag))) ab)))
      (ae (iW (i:=7) av.nd rfl (Or.inl rfl) (gN ag))
      (ae (jU (g:=(.n 8)) PassesOwn.never rfl (pT (by rfl) T.jM (aa (au aQ (aO (dv 5) ab) (aO (dv 5) ab)) ag)) (ax (i:=8) av.nd rfl (Or.inl rfl)) (ae (aC (i:=9) av.nd rfl (Or.inl rfl) (au aQ (aI (rn rfl) (by rfl) T.vW boot_sum (aa (mM (dv 0) (bS (dv 8)) (bS ab) (bS ab)) ag)) (bN F_law_draw (hr.mono (by decide)) (by rfl) (aa (dv 0) (aa (au aQ ab (dv 8)) ag)))))
      (aj (oe (i:=7) rfl (by walk_at "v") (bN F_law_stream (hr.mono (by decide)) (by rfl) (aa (dv 9) (aa (dv 2) (aa (dv 3) (aa (dv 6) ag)))))))))
      (ae (rD (i:=10) av.nd rfl (Or.inl rfl) (g:=(.t [0,1,2])) (tc:=h9) (te:=(wA (jt (eE 1) (jt (eE 0) (jt (eE 2) uP))))) (sc0:=af bP) (N0:=["script","number","low","wide","gap","counts","most","streams","k","cell","hots"]) ["start","goal","rate"] [none,none,none] rfl (cC (eO (dv 7) ig (bS (aO (dv 5) ab)))) (λ_ _ _ _ _=>(ll rfl (aV (ax (i:=0) (show (["start","goal","rate"]:List Str).Nodup by decide +kernel) rfl (Or.inl rfl)) (aV (ax (i:=1) (show (["start","goal","rate"]:List Str).Nodup by decide +kernel) rfl (Or.inl rfl)) (aV (ax (i:=2) (show (["start","goal","rate"]:List Str).Nodup by decide +kernel) rfl (Or.inl rfl)) iE))))) (λ_ _ _ _ _=>kC) (λ_ _ _ _ _=>(bO (aa (dv 1) (aa (dv 0) (aa (dv 2) ag))))))
      (aj (aY (bO (aa (dv 4) (aa (dv 10) (aa (eO (dv 7) (bS (aO (dv 5) ab)) ig) ag))))))))))))))))))),λds Q h=>?_⟩
  obtain ⟨ns,rfl,hl,q⟩:=h;refine bR (λρ=>∃n:Int,0<=n/\ρ = [some (B.p (D.scr ns)),some (B.p (D.int n)),none,none,none,none,none,none,none,none,none]) ?_ λN hN=>?_;rotate_left
  · walk_at "rs";exact ⟨ns,0,rfl,hl,⟨by decide,by decide⟩,λz hz=>hN _ ⟨z,hz,rfl⟩⟩
  rintro ρ ⟨n,hn,rfl⟩;refine bR (λρ=>ρ = [some (B.p (D.scr ns)),some (B.p (D.int n)),some (B.p (D.int (n % 20))),none,none,none,none,none,none,none,none]) ?_ λN hN=>?_;rotate_left
  · walk_at "rs";exact ⟨by decide,hN _ rfl⟩
  rintro ρ rfl;refine bR (λρ=>ρ = [some (B.p (D.scr ns)),some (B.p (D.int n)),some (B.p (D.int (n % 20))),some (B.p (D.int 6)),none,none,none,none,none,none,none]) ?_ λN hN=>?_;rotate_left
  · walk_at "rs";exact hN _ rfl
  rintro ρ rfl;refine bR (λρ=>∃low wide:Int,0<=low/\(wide=6/\low<20\/wide=100/\low<=1)/\ρ = [some (B.p (D.scr ns)),some (B.p (D.int n)),some (B.p (D.int low)),some (B.p (D.int wide)),none,none,none,none,none,none,none]) ?_ λN hN=>?_;rotate_left
  · walk_at "rs";exact ⟨⟨by decide,by decide⟩,by decide,λ_=>⟨⟨by decide,by decide⟩,by decide,hN _ ⟨_,_,by lia,.inr ⟨rfl,by lia⟩,rfl⟩⟩,λ_=>hN _ ⟨_,_,by lia,.inl ⟨rfl,by lia⟩,rfl⟩⟩
  rintro ρ ⟨low,wide,h0,hw,rfl⟩;refine bR (λρ=>∃g:Int,(0<=g/\g<=50)/\ρ = [some (B.p (D.scr ns)),some (B.p (D.int n)),some (B.p (D.int low)),some (B.p (D.int wide)),some (B.p (D.int g)),none,none,none,none,none,none]) ?_ λN hN=>?_;rotate_left
  · walk_at "rs";refine ⟨ns,1,rfl,hl,⟨by decide,by decide⟩,λz hz=>?_⟩;walk_at "rs";exact ⟨by decide,hN _ ⟨_,⟨by lia,by lia⟩,rfl⟩⟩
  rintro ρ ⟨g,hg,rfl⟩;refine bR (λρ=>∃g:Int,(0<=g/\g<=50)/\ρ = [some (B.p (D.scr ns)),some (B.p (D.int n)),some (B.p (D.int low)),some (B.p (D.int wide)),some (B.p (D.int g)),none,none,none,none,none,none]) ?_ λN hN=>?_;rotate_left
  · walk_at "rs";refine ⟨ns,1,rfl,hl,⟨by decide,by decide⟩,λz hz=>?_⟩;walk_at "rs";refine ⟨⟨by decide,by decide⟩,by decide,λ_=>⟨ns,1,rfl,hl,⟨by decide,by decide⟩,λz hz=>?_⟩,λ_=>hN _ ⟨g,hg,rfl⟩⟩;walk_at "rs";exact ⟨⟨by decide,by decide⟩,by decide,hN _ ⟨_,⟨by lia,by lia⟩,rfl⟩⟩
  clear hg g;rintro ρ ⟨g,hg,rfl⟩;refine bR (λρ=>∃g:Int,(0<=g/\g<=50)/\ρ = [some (B.p (D.scr ns)),some (B.p (D.int n)),some (B.p (D.int low)),some (B.p (D.int wide)),some (B.p (D.int g)),none,none,none,none,none,none]) ?_ λN hN=>?_;rotate_left
  · walk_at "rs";exact ⟨λ_=>⟨⟨by decide,by decide⟩,by decide,λ_=>hN _ ⟨50,⟨by decide,by decide⟩,rfl⟩,λ_=>hN _ ⟨g,hg,rfl⟩⟩,λ_=>⟨λz=>(nomatch z),λ_=>hN _ ⟨g,hg,rfl⟩⟩⟩
  clear hg g;rintro ρ ⟨g,hg,rfl⟩;refine bR (λρ=>∃a b:Int,(0<=a/\a<=12/\0<=b/\b<=12)/\ρ = [some (B.p (D.scr ns)),some (B.p (D.int n)),some (B.p (D.int low)),some (B.p (D.int wide)),some (B.p (D.int g)),some (B.p (D.lst [D.int a,D.int b])),none,none,none,none,none]) ?_ λN hN=>?_;rotate_left
  · walk_at "rs";refine ⟨ns,2,rfl,hl,⟨by decide,by decide⟩,λz hz=>?_⟩;walk_at "rs";refine ⟨by decide,ns,3,rfl,hl,⟨by decide,by decide⟩,λy hy=>?_⟩;walk_at "rs";exact ⟨by decide,hN _ ⟨_,_,⟨by lia,by lia,by lia,by lia⟩,rfl⟩⟩
  rintro ρ ⟨a,b,hab,rfl⟩;refine bR (λρ=>∃a b:Int,(0<=a/\a<=12/\0<=b/\b<=12)/\ρ = [some (B.p (D.scr ns)),some (B.p (D.int n)),some (B.p (D.int low)),some (B.p (D.int wide)),some (B.p (D.int g)),some (B.p (D.lst [D.int a,D.int b])),none,none,none,none,none]) ?_ λN hN=>?_;rotate_left
  · walk_at "rs";refine ⟨λ_=>?_,λ_=>⟨ns,2,rfl,hl,⟨by decide,by decide⟩,λz hz=>?_⟩⟩
    · refine hN _ ⟨_,_,⟨?_,?_,?_,?_⟩,rfl⟩<;>split<;>lia
    · walk_at "rs";refine ⟨⟨by decide,by decide⟩,by decide,λ_=>⟨ns,3,rfl,hl,⟨by decide,by decide⟩,λy hy=>?_⟩,λ_=>hN _ ⟨a,b,hab,rfl⟩⟩;walk_at "rs";exact ⟨by decide,hN _ ⟨_,_,⟨by lia,by lia,by lia,by lia⟩,rfl⟩⟩
  clear hab a b;rintro ρ ⟨a,b,⟨ha,ha2,hb,hb2⟩,rfl⟩;refine bR (λρ=>∃m:Int,(1<=m/\m<=1000000000)/\ρ = [some (B.p (D.scr ns)),some (B.p (D.int n)),some (B.p (D.int low)),some (B.p (D.int wide)),some (B.p (D.int g)),some (B.p (D.lst [D.int a,D.int b])),some (B.p (D.int m)),none,none,none,none]) ?_ λN hN=>?_;rotate_left
  · walk_at "rs";refine ⟨⟨by decide,by decide,by decide⟩,ns,4,rfl,hl,⟨by decide,by decide⟩,λz hz=>?_⟩;walk_at "rs";refine ⟨by decide,?_⟩;have:z % 2=0\/z % 2=1:=by lia
    rcases this with e | e<;>rw[e]
    · exact ⟨_,rfl,hN _ ⟨4,⟨by decide,by decide⟩,rfl⟩⟩
    · exact ⟨_,rfl,hN _ ⟨_,⟨by decide,by decide⟩,rfl⟩⟩
  rintro ρ ⟨m,hm,rfl⟩;refine bR (λρ=>ρ = [some (B.p (D.scr ns)),some (B.p (D.int n)),some (B.p (D.int low)),some (B.p (D.int wide)),some (B.p (D.int g)),some (B.p (D.lst [D.int a,D.int b])),some (B.p (D.int m)),some (B.o (D.lst [])),none,none,none]) ?_ λN hN=>?_;rotate_left
  · walk_at "rs";exact hN _ rfl
  rintro ρ rfl;have sl:sizeLine=16777216:=sizeLine_eq;refine bR (λρ=>∃(ss:List S3) (a8 a9:Option B),(∀s∈ss,j5 s)/\ss.length=(a+b).toNat/\ρ = [some (B.p (D.scr ns)),some (B.p (D.int n)),some (B.p (D.int low)),some (B.p (D.int wide)),some (B.p (D.int g)),some (B.p (D.lst [D.int a,D.int b])),some (B.p (D.int m)),some (B.o (D.lst (ss.map d3))),a8,a9,none]) ?_ λN hN=>?_;rotate_left
  · walk_at "rs";refine ⟨⟨by lia,by lia⟩,?_⟩;refine dB (λi ρ=>∃(ss:List S3) (a8 a9:Option B),(∀s∈ss,j5 s)/\ss.length=i/\ρ = [some (B.p (D.scr ns)),some (B.p (D.int n)),some (B.p (D.int low)),some (B.p (D.int wide)),some (B.p (D.int g)),some (B.p (D.lst [D.int a,D.int b])),some (B.p (D.int m)),some (B.o (D.lst (ss.map d3))),a8,a9,none]) ⟨[],none,none,λs h=>(nomatch h),rfl,rfl⟩ ?_ ?_
    · rintro i x ρ hx ⟨ss,a8,a9,hs,hlen,rfl⟩;obtain ⟨hi,rfl⟩:=cW hx;rw[Int.zero_add];walk_at "rs";refine ⟨λz=>(by have:=Option.some.inj z;lia),yO ?_⟩;walk_at "rs";refine ⟨ns,20+(i:Int),rfl,hl,⟨by lia,by lia⟩,λz hz=>?_⟩;walk_at "rs";refine ⟨_,low,wide,m,rfl,h0,hw,hm.1,hm.2,λs ho=>?_⟩;walk_at "rs";rw[Hh];refine ⟨by lia,ss++[s],_,_,λt ht=>?_,by rw[Hu,hlen];rfl,by rw[map_append];rfl⟩;rcases mem_append.mp ht with ht | ht
      · exact hs t ht
      · rw[mem_singleton.mp ht];exact ho
    · rintro ρ ⟨ss,a8,a9,hs,hlen,rfl⟩;rw[d7] at hlen;exact hN _ ⟨ss,a8,a9,hs,hlen,rfl⟩
  rintro ρ ⟨ss,a8,a9,hs,hlen,rfl⟩;obtain ⟨k,rfl⟩ : ∃k:Nat,a=(k:Int):=⟨a.toNat,(Int.toNat_of_nonneg ha).symm⟩
  walk_at "rs";rw[A8,<-map_take];refine oy A9 (λs=>d3 (s.2.1,s.1,s.2.2)) (by rw[length_take];lia) (λs _=>?_) ?_
  · repeat (first | dsimp only[d3] | walk_at "rs1" | walk_at "rsx")
  walk_at "rs";rw[pC,<-map_drop];have e:=q g ((ss.take k).map λs=>(s.2.1,s.1,s.2.2)) (ss.drop k) ⟨hg.1,hg.2,by rw[Hh,length_take];lia,by rw[length_drop];lia,λs h=>by
    obtain ⟨t,ht,rfl⟩:=mem_map.mp h;obtain ⟨o1,o2,o3,o4,o5⟩:=hs t (mem_of_mem_take ht);exact ⟨o1,o2,o3,o4,o5⟩,λs h=>hs s (mem_of_mem_drop h)⟩
  unfold dW at e;rw[map_map] at e;exact e
theorem EJ {ps:List P5}{Q:B->Prop}(h:Q (.p (.bl (!ps.isEmpty)))):Dd (.lst (ps.map d5)) (.lst []) Q:=by
  refine ⟨⟨by rw[iA];exact jW ps,by rw[iA,dg],by rw[jS];have:=jQ ps;lia⟩,?_⟩;have e:bh (.lst (ps.map d5)) (.lst [])=ps.isEmpty:=by
    unfold bh;cases ps with
    | nil=>rfl
    | cons p r=>exact lj (by simp)
  rw[e];exact h
noncomputable def eK:DR:=λds P=>∃(ss:List S3) (n d:Int),ds = [.lst (ss.map d3),.int n,.int d]/\P (.p (.bl (bG ss (n,d))))
theorem kY (T:sE K mg)(F:mh K "_law_is_step" "_law_is_step" bJ f fd):cw P w K mg base g7 1 f fd ["streams","number","degree"] (gu K eK):=by
  refine yr F cH (λds Q h=>by obtain ⟨ss,n,d,rfl,q⟩:=h;rfl) λcdv A outer s H E hr=>⟨_,(ae (cD (DW.dt (mQ (aJ ue (dv 1) ab (aA _)) (kF (aJ xG (dv 1) (aI iR (by rfl) T.j9 PySem.boot_len (aa (dv 0) ag)) (aA _))))) (aj (aY mL)) bg)
      (ae (rC (g:=(.t [3,4,5])) (aO (dv 0) (dv 1)) (ll rfl (aV (ax (i:=3) cH.nd rfl (Or.inl rfl)) (aV (ax (i:=4) cH.nd rfl (Or.inl rfl)) (aV (ax (i:=5) cH.nd rfl (Or.inl rfl)) iE)))))
      (aj (aY (rq (iV DG (aI (h8 rfl) (by rfl) T.mw boot_min (aa (dv 3) (aa (dv 4) ag))) (dv 2) (aA _)) (nY (iV ue (dv 2) (aI (sP rfl) (by rfl) T.vV boot_max (aa (dv 3) (aa (dv 4) ag))) (aA _)))))))),λds Q h=>?_⟩
  obtain ⟨ss,n,d,rfl,q⟩:=h;walk_at "rs";refine ⟨λh=>⟨λ_=>?_,λz=>nomatch z⟩,λh=>⟨λh2=>?_,λh2=>?_⟩⟩
  · rw[decide_eq_true_eq] at h;rw[qR (k:=(n,d)) h] at q;exact q
  · rw[decide_eq_false_iff_not] at h;rw[decide_eq_true_eq,Hh] at h2;have e:bG ss (n,d)=false:=by
      unfold bG strAt;rw[if_pos (show 0<=(n,d).1 by show 0<=n;lia),List.getElem?_eq_none (show ss.length<=(n,d).1.toNat by show ss.length<=n.toNat;lia)]
    rw[e] at q;exact q
  · rw[decide_eq_false_iff_not] at h h2;rw[Hh] at h2;have hlt:n.toNat<ss.length:=by lia
    have ec:=GV hlt;generalize ss[n.toNat]=s at ec;have en:((n.toNat:Nat):Int)=n:=Int.toNat_of_nonneg (by lia);have g1:fE (ss.map d3) n=some (d3 s):=by rw[<-en];exact rj ec
    have e:bG ss (n,d)=decide (fI s<=d/\d<i7 s):=by
      unfold bG strAt;rw[if_pos (show 0<=(n,d).1 by show 0<=n;lia),show ss[(n,d).1.toNat]?=some s from ec]
    rw[e] at q;refine ⟨d3 s,g1,?_⟩;have m1:(if s.2.1<s.1 then s.2.1 else s.1)=fI s:=by unfold fI;split<;>lia
    have m2:(if s.2.1>s.1 then s.2.1 else s.1)=i7 s:=by unfold i7;split<;>lia
    repeat (first | dsimp only[d3] | walk_at "rs1" | walk_at "rsx")
    rw[m1,m2];refine ⟨λh3=>?_,λh3=>?_⟩
    · rw[decide_eq_true_eq] at h3;rw[show decide (fI s<=d/\d<i7 s)=decide (d<i7 s) by rw[decide_eq_decide];exact ⟨λz=>z.2,λz=>⟨h3,z⟩⟩] at q;exact q
    · rw[decide_eq_false_iff_not] at h3;rw[decide_eq_false (λz=>h3 z.1)] at q;exact q
noncomputable def gU:DR:=λds P=>∃(g:Int) (hs cs:List S3) (p:P5),ds = [dW g hs cs,d5 p]/\P (.p (.bl (jv g hs cs p)))
theorem qy (T:sE K mg)(F_law_is_step:Fn P w K mg base "_law_is_step" 1 ["streams","number","degree"] (gu K eK))(F:mh K "_law_goes" "_law_goes" cR f fd):cw P w K mg base g7 2 f fd ["works","one"] (gu K gU):=by
  refine yr F cq (λds Q h=>by obtain ⟨g,hs,cs,p,rfl,q⟩:=h;rfl) λcdv A outer s H E hr=>⟨_,(ae (rC (g:=(.t [2,3,4,5,6])) (dv 1) (ll rfl (aV (ax (i:=2) cq.nd rfl (Or.inl rfl)) (aV (ax (i:=3) cq.nd rfl (Or.inl rfl)) (aV (ax (i:=4) cq.nd rfl (Or.inl rfl)) (aV (ax (i:=5) cq.nd rfl (Or.inl rfl)) (aV (ax (i:=6) cq.nd rfl (Or.inl rfl)) iE)))))))
      (ae (cD (aJ ue (dv 6) ab (aA _)) (aj (aY mL)) bg)
      (ae (cD (aJ (rV hr) (bO (aa (dv 2) (aa (dv 3) ag))) (bO (aa (eF ab) (aa (eF ab) ag))) (aA _)) (aj (aY (bN F_law_is_step (hr.mono (by decide)) (by rfl) (aa (aO (dv 0) ab) (aa (dv 4) (aa (dv 5) ag)))))) bg)
      (ae (cD (kE (iZ (bN F_law_is_step (hr.mono (by decide)) (by rfl) (aa (aO (dv 0) ab) (aa (dv 2) (aa (dv 3) ag)))))) (aj (aY mL)) bg)
      (aj (aY (Df (iV (rV hr) (bO (aa (dv 4) (aa (dv 5) ag))) (bO (aa (eF ab) (aa (eF ab) ag))) (aA _)) (nY (rq (bN F_law_is_step (hr.mono (by decide)) (by rfl) (aa (aO (dv 0) ab) (aa (dv 4) (aa (dv 5) ag)))) (nY (iV xG (au BN (dv 3) (dv 5)) (aO (dv 0) ab) (aA _)))))))))))),λds Q h=>?_⟩
  obtain ⟨g,hs,cs,p,rfl,q⟩:=h;repeat (first | dsimp only[dW,d5] | walk_at "rs1" | walk_at "rsx")
  have e2:(gk p=Bt)↔(p.1 = -1/\p.2.1 = -1):=by unfold gk Bt;rw[Prod.mk.injEq]
  have e3:(d6 p=Bt)↔(p.2.2.1 = -1/\p.2.2.2.1 = -1):=by unfold d6 Bt;rw[Prod.mk.injEq]
  refine ⟨λh=>?_,λh=>tR ?_⟩
  · rw[decide_eq_true_eq] at h;have e:jv g hs cs p=false:=by
      unfold jv;rw[decide_eq_false (show ¬1<=ht p by show ¬1<=p.2.2.2.2;lia),Bool.false_and]
    rw[e] at q;exact q
  · rw[decide_eq_false_iff_not] at h;unfold jv at q;rw[decide_eq_true (show 1<=ht p by show 1<=p.2.2.2.2;lia),Bool.true_and] at q;walk_at "rs";refine ⟨λc=>⟨cs,_,_,rfl,?_⟩,λc=>⟨hs,_,_,rfl,?_⟩⟩
    · rw[decide_eq_true_eq] at c;rw[if_pos (e2.mpr c)] at q;exact q
    · rw[decide_eq_false_iff_not] at c;rw[if_neg (λz=>c (e2.mp z))] at q;walk_at "rs";refine ⟨λc1=>?_,λc1=>tR ?_⟩
      · rw[Bool.not_eq_true'] at c1;rw[show bG hs (gk p)=false from c1,Bool.false_and] at q;exact q
      · rw[Bool.not_eq_false'] at c1;rw[show bG hs (gk p)=true from c1,Bool.true_and] at q;walk_at "rs";refine ⟨λc2=>?_,λc2=>⟨cs,_,_,rfl,?_⟩⟩
        · rw[decide_eq_true_eq] at c2;rw[decide_eq_true (e3.mpr c2),Bool.true_or] at q;exact q
        · rw[decide_eq_false_iff_not] at c2;rw[decide_eq_false (λz=>c2 (e3.mp z)),Bool.false_or] at q;walk_at "rs";refine ⟨λc3=>?_,λc3=>?_⟩
          · rw[show bG cs (d6 p)=true from c3,Bool.true_and] at q;exact q
          · rw[show bG cs (d6 p)=false from c3,Bool.false_and] at q;exact q
noncomputable def ff (b:Bool):P5->K2:=if b then gk else d6
noncomputable def gW:DR:=λds P=>∃(ss:List S3) (ps:List P5) (b:Bool),ds = [.lst (ss.map d3),.lst (ps.map d5),.int (if b then 0 else 2)]/\ss.length<=12/\(∀s∈ss,0<=fI s/\i7 s<=200)/\ps.length<=9995 /\
  (nF ss (ps.map λp=>(ff b p,ht p))->∀z:Int,P (.p (.int z)))/\(¬nF ss (ps.map λp=>(ff b p,ht p))->P (.p .non))
theorem qz (T:sE K mg)(F:mh K "_law_sums" "_law_sums" cU f fd):cw P w K mg base g7 1 f fd ["streams","passes","place"] (gu K gW):=by
  refine yr F br (λds Q h=>by obtain ⟨ss,ps,b,rfl,hn,hw,hl,q1,q2⟩:=h;rfl) λcdv A outer s H E hr=>⟨_,(ae (iW (i:=3) br.nd rfl (Or.inl rfl) tJ)
      (ae (kD (g:=(.n 4)) PassesOwn.never rfl (cC (dv 1)) (ax (i:=4) br.nd rfl (Or.inl rfl)) (ae (aC (i:=5) br.nd rfl (Or.inl rfl) (bO (aa (aO (dv 4) (dv 2)) (aa (aO (dv 4) (au aQ (dv 2) ab)) ag))))
      (aj (wK (i:=3) hr rfl (by walk_at "v") (dv 5) (au aQ (nW hr (dv 3) (dv 5) ab ⟨rfl,rfl,rfl,rfl⟩) (aO (dv 4) ab))))))
      (ae (jU (g:=(.n 6)) PassesOwn.never rfl (pT (by rfl) T.jM (aa (aI iR (by rfl) T.j9 PySem.boot_len (aa (dv 0) ag)) ag)) (ax (i:=6) br.nd rfl (Or.inl rfl)) (ae (rC (g:=(.t [7,8,9])) (aO (dv 0) (dv 6)) (ll rfl (aV (ax (i:=7) br.nd rfl (Or.inl rfl)) (aV (ax (i:=8) br.nd rfl (Or.inl rfl)) (aV (ax (i:=9) br.nd rfl (Or.inl rfl)) iE)))))
      (aj (jU (g:=(.n 10)) PassesOwn.never rfl (pU (by rfl) T.jM (aa (aI (h8 rfl) (by rfl) T.mw boot_min (aa (dv 7) (aa (dv 8) ag))) (aa (aI (sP rfl) (by rfl) T.vV boot_max (aa (dv 7) (aa (dv 8) ag))) ag))) (ax (i:=10) br.nd rfl (Or.inl rfl)) (aj (cD (aJ qw (nW hr (dv 3) (bO (aa (dv 6) (aa (dv 10) ag))) ab ⟨rfl,rfl,rfl,rfl⟩) (dv 9) (aA _)) (aj (aY gO)) bg))))))
      (aj (aY (nW hr (dv 3) (bO (aa (eF ab) (aa (eF ab) ag))) ab ⟨rfl,rfl,rfl,rfl⟩)))))),λds Q h=>?_⟩
  obtain ⟨ss,ps,b,rfl,hn,hw,hl,q1,q2⟩:=h;walk_at "rs";have sl:sizeLine=16777216:=sizeLine_eq;have key:∀(i:Nat) p,ps[i]?=some p->gL ((ps.map λp=>(ff b p,ht p)).take (i+1))=putD (gL ((ps.map λp=>(ff b p,ht p)).take i)) (ff b p) ((aN (gL ((ps.map λp=>(ff b p,ht p)).take i)) (ff b p)).getD 0+ht p):=λi p e=>by
    rw[WS.take_snoc (show (ps.map λp=>(ff b p,ht p))[i]?=some (ff b p,ht p) by rw[Hw,e];rfl),mm]
  refine dB (λi ρ=>∃a4 a5,ρ = [some (.p (.lst (ss.map d3))),some (.p (.lst (ps.map d5))),some (.p (.int (if b=true then 0 else 2))),some (.o (.dct (gL ((ps.map λp=>(ff b p,ht p)).take i)))),a4,a5,none,none,none,none,none]) ⟨none,none,rfl⟩ ?_ ?_
  · rintro i x ρ hx ⟨a4,a5,rfl⟩;rw[Hw] at hx;obtain ⟨p,hp,rfl⟩:=Option.map_eq_some_iff.mp hx;have hn2:=(sJ ((ps.map λp=>(ff b p,ht p)).take i)).2.1;rw[length_take,Hh] at hn2;have k2:=key i p hp;have g1:fE [D.int p.1,D.int p.2.1,D.int p.2.2.1,D.int p.2.2.2.1,D.int p.2.2.2.2] (if b=true then 0 else 2)=some (.int (ff b p).1):=by cases b<;>rfl
    have g2:fE [D.int p.1,D.int p.2.1,D.int p.2.2.1,D.int p.2.2.2.1,D.int p.2.2.2.2] ((if b=true then 0 else 2)+1)=some (.int (ff b p).2):=by cases b<;>rfl
    repeat (first | dsimp only[d5] | walk_at "rs1" | walk_at "rsx" | set_option simprocs false in simp only[g1,g2])
    rw[k2];exact ⟨by lia,_,_,rfl⟩
  · rintro ρ ⟨a4,a5,rfl⟩;rw[Hh,<-Hh (λp=>(ff b p,ht p)),List.take_length];have va:=(sJ (ps.map λp=>(ff b p,ht p))).2.2;walk_at "rs";rw[Hh];refine ⟨⟨by lia,by lia⟩,?_⟩;refine dB (λi ρ=>(∀j s,j<i->ss[j]?=some s->∀d,fI s<=d->d<i7 s->aM ((j:Int),d) (ps.map λp=>(ff b p,ht p))=s.2.2)/\∃a6 a7 a8 a9 a10,ρ = [some (.p (.lst (ss.map d3))),some (.p (.lst (ps.map d5))),some (.p (.int (if b=true then 0 else 2))),some (.o (.dct (gL (ps.map λp=>(ff b p,ht p))))),a4,a5,a6,a7,a8,a9,a10]) ⟨λj s h=>absurd h (Nat.not_lt_zero _),_,_,_,_,_,rfl⟩ ?_ ?_
    · rintro i x ρ hx ⟨hd,a6,a7,a8,a9,a10,rfl⟩;obtain ⟨hi,rfl⟩:=cW hx;rw[Int.zero_add];have hi':i<ss.length:=by lia
      have ec:=GV hi';have hw':=hw _ (List.getElem_mem hi');generalize ss[i]=s at ec hw';have g1:fE (ss.map d3) ((i:Nat):Int)=some (d3 s):=rj ec;have m1:(if s.2.1<s.1 then s.2.1 else s.1)=fI s:=by unfold fI;split<;>lia
      have m2:(if s.2.1>s.1 then s.2.1 else s.1)=i7 s:=by unfold i7;split<;>lia
      repeat (first | dsimp only[d3] | walk_at "rs1" | walk_at "rsx" | set_option simprocs false in simp only[g1])
      rw[m1,m2];refine ⟨⟨by lia,by lia,by lia,by lia⟩,?_⟩;refine dB (λm ρ=>(∀d,fI s<=d->d<fI s+(m:Int)->aM ((i:Int),d) (ps.map λp=>(ff b p,ht p))=s.2.2)/\∃a10,ρ = [some (.p (.lst (ss.map d3))),some (.p (.lst (ps.map d5))),some (.p (.int (if b=true then 0 else 2))),some (.o (.dct (gL (ps.map λp=>(ff b p,ht p))))),a4,a5,some (.p (.int (i:Nat))),some (.p (.int s.1)),some (.p (.int s.2.1)),some (.p (.int s.2.2)),a10]) ⟨λd h1 h2=>absurd h1 (by lia),_,rfl⟩ ?_ ?_
      · rintro m y ρ hy ⟨hm,a10',rfl⟩;obtain ⟨hm',rfl⟩:=cW hy;walk_at "rs";rw[va,ny];refine ⟨λh=>q2 λS=>?_,λh=>⟨λd h1 h2=>?_,_,rfl⟩⟩
        · have := S i s ec (fI s + (m : Int)) (by lia) (by lia);rw[this] at h;simp at h
        · by_cases c:d=fI s+(m:Int)
          · subst c;simpa using h
          · exact hm d h1 (by lia)
      · rintro ρ ⟨hm,a10',rfl⟩;rw[d7] at hm;refine ⟨λj s' hj e d h1 h2=>?_,_,_,_,_,_,rfl⟩;by_cases c:j=i
        · subst c;rw[ec] at e;cases e;exact hm d h1 (by lia)
        · exact hd j s' (by lia) e d h1 h2
    · rintro ρ ⟨hd,a6,a7,a8,a9,a10,rfl⟩;rw[d7] at hd;walk_at "rs";exact q1 (λi s e d h1 h2=>hd i s (by have:=(Hb.mp e).1;lia) e d h1 h2) _
noncomputable def fj:DR:=λds P=>∃(g:Int) (hs cs:List S3) (ps:List P5),ds = [dW g hs cs,.lst (ps.map d5)]/\sI g hs cs/\ps.length<=9995 /\
  (Looks g hs cs ps->P (.p (.tup [.int (aM Bt (gq ps)),.int (aM Bt (tq ps))])))/\(¬Looks g hs cs ps->P (.p .non))
theorem lX (T:sE K mg)(F_law_sums:Fn P w K mg base "_law_sums" 1 ["streams","passes","place"] (gu K gW))(F_law_goes:Fn P w K mg base "_law_goes" 2 ["works","one"] (gu K gU))(F:mh K "_law_bought" "_law_bought" aL f fd):cw P w K mg base g7 3 f fd ["works","passes"] (gu K fj):=by
  refine yr F cY (λds Q h=>by obtain ⟨g,hs,cs,ps,rfl,ok,hl,q1,q2⟩:=h;rfl) λcdv A outer s H E hr=>⟨_,(ae (kD (g:=(.n 2)) PassesOwn.never rfl (cC (dv 1)) (ax (i:=2) cY.nd rfl (Or.inl rfl)) (aj (cD (kE (iZ (bN F_law_goes (hr.mono (by decide)) (by rfl) (aa (dv 0) (aa (dv 2) ag))))) (aj (aY gO)) bg)))
      (ae (cD (aJ qw (uQ hr rfl (by rfl) T.j9 (by rfl) T.C2 (aa (ky (g:=(.n 0)) (tc:=h9) (te:=(E5 (eE 0) jO (tE (dC _)))) (sc0:=af aL) (N0:=["works","passes","one","heat","cold"]) ["one"] [none] rfl (cC (dv 1)) (λ_ _ _ _ _=>(ax (i:=0) (show (["one"]:List Str).Nodup by decide +kernel) rfl (Or.inl rfl))) (λ_ _ _ _ _=>kC) (λ_ _ _ _ _=>(eO (dv 0) ig (bS ab)))) ag)) (aI iR (by rfl) T.j9 PySem.boot_len (aa (dv 1) ag)) (aA _)) (aj (aY gO)) bg)
      (ae (aC (i:=3) cY.nd rfl (Or.inl rfl) (bN F_law_sums (hr.mono (by decide)) (by rfl) (aa (aO (dv 0) ab) (aa (ky (g:=(.n 0)) (tc:=(nU (mK _ (mK wk (eE 0) (dC _)) (Bl pS (dC _))))) (te:=(eE 0)) (sc0:=af aL) (N0:=["works","passes","one","heat","cold"]) ["one"] [none] rfl (cC (dv 1)) (λ_ _ _ _ _=>(ax (i:=0) (show (["one"]:List Str).Nodup by decide +kernel) rfl (Or.inl rfl))) (λ_ _ _ _ _=>(fK (aJ qw (aO (dv 0) ab) (eF ab) (aA _)))) (λ_ _ _ _ _=>(dv 0))) (aa ab ag)))))
      (ae (aC (i:=4) cY.nd rfl (Or.inl rfl) (bN F_law_sums (hr.mono (by decide)) (by rfl) (aa (aO (dv 0) ab) (aa (ky (g:=(.n 0)) (tc:=(nU (mK _ (mK wk (eE 0) (dC _)) (Bl pS (dC _))))) (te:=(eE 0)) (sc0:=af aL) (N0:=["works","passes","one","heat","cold"]) ["one"] [none] rfl (cC (dv 1)) (λ_ _ _ _ _=>(ax (i:=0) (show (["one"]:List Str).Nodup by decide +kernel) rfl (Or.inl rfl))) (λ_ _ _ _ _=>(fK (aJ qw (aO (dv 0) ab) (eF ab) (aA _)))) (λ_ _ _ _ _=>(dv 0))) (aa ab ag)))))
      (ae (cD (DW.dt (mQ (aJ rW (dv 3) gO (aA _)) (kF (aJ rW (dv 4) gO (aA _))))) (aj (aY gO)) bg)
      (aj (aY (bO (aa (aI (rn rfl) (by rfl) T.vW boot_sum (aa (ky (g:=(.n 0)) (tc:=(nU (mK _ (mK wk (eE 0) (dC _)) (Bl pS (dC _))))) (te:=(mK wk (eE 0) (dC _))) (sc0:=af aL) (N0:=["works","passes","one","heat","cold"]) ["one"] [none] rfl (cC (dv 1)) (λ_ _ _ _ _=>(ax (i:=0) (show (["one"]:List Str).Nodup by decide +kernel) rfl (Or.inl rfl))) (λ_ _ _ _ _=>(fK (aJ fQ (aO (dv 0) ab) (eF ab) (aA _)))) (λ_ _ _ _ _=>(aO (dv 0) ab))) ag)) (aa (aI (rn rfl) (by rfl) T.vW boot_sum (aa (ky (g:=(.n 0)) (tc:=(nU (mK _ (mK wk (eE 0) (dC _)) (Bl pS (dC _))))) (te:=(mK wk (eE 0) (dC _))) (sc0:=af aL) (N0:=["works","passes","one","heat","cold"]) ["one"] [none] rfl (cC (dv 1)) (λ_ _ _ _ _=>(ax (i:=0) (show (["one"]:List Str).Nodup by decide +kernel) rfl (Or.inl rfl))) (λ_ _ _ _ _=>(fK (aJ fQ (aO (dv 0) ab) (eF ab) (aA _)))) (λ_ _ _ _ _=>(aO (dv 0) ab))) ag)) ag)))))))))),λds Q h=>?_⟩
  obtain ⟨g,hs,cs,ps,rfl,ok,hl,q1,q2⟩:=h;repeat (first | dsimp only[dW] | walk_at "rs1" | walk_at "rsx")
  have sh:=so ok.EF ok.nh;have sc:=oX ok.yH ok.nc;have ph:Pos hs:=λs h=>by have:=(ok.EF s h).r0;lia
  have pc:Pos cs:=λs h=>by have:=(ok.yH s h).r0;lia
  have iff:=vd (g:=g) ph pc ps;have nh:=ok.nh;have nc:=ok.nc;refine dB (λi ρ=>(∀p∈ps.take i,jv g hs cs p=true)/\∃a2,ρ = [some (.p (dW g hs cs)),some (.p (.lst (ps.map d5))),a2,none,none]) ⟨λp h=>(by rw[List.take_zero] at h;cases h),_,rfl⟩ ?_ ?_
  · rintro i x ρ hx ⟨hd,a2,rfl⟩;rw[Hw] at hx;obtain ⟨p,hp,rfl⟩:=Option.map_eq_some_iff.mp hx;walk_at "rs";refine ⟨g,hs,cs,p,rfl,?_⟩;walk_at "rs";refine ⟨λh=>q2 λL=>?_,λh=>⟨λp' hp'=>?_,_,rfl⟩⟩
    · rw[(iff.mp L).1 p (Hi hp)] at h;cases h
    · rw[WS.take_snoc hp] at hp';rcases mem_append.mp hp' with z | z
      · exact hd p' z
      · rw[mem_singleton.mp z];simpa using h
  · rintro ρ ⟨hd,a2,rfl⟩;rw[Hh,List.take_length] at hd;repeat (first | dsimp only[dW] | walk_at "rs1" | walk_at "rsx")
    refine oy iT (λp=>tupI (k4 p)) (by lia) (λp _=>?_) ?_
    · repeat (first | dsimp only[d5] | walk_at "rs1" | walk_at "rsx")
      exact ⟨by decide,rfl⟩
    refine ⟨ps.map k4,by rw[map_map];rfl,by rw[Hh];exact hl,?_⟩;have hdf:=uS (ps.map k4);rw[Hh] at hdf ⊢;refine ⟨λh=>q2 λL=>?_,λh=>?_⟩
    · rw[hdf.mpr L.eJ] at h;simp at h
    have eJ:(ps.map k4).Nodup:=hdf.mp (by simp at h;lia);have fl:∀t:P5->Bool,(ps.filter t).length<=9995:=λt=>by have:=List.length_filter_le t ps;lia
    refine ir iT (λp=>if p.2.2.1 ≠ -1 then some (d5 p) else none) (by lia) (λp _=>?_) ?_
    · repeat (first | dsimp only[d5] | walk_at "rs1" | walk_at "rsx")
      refine ⟨λh=>?_,λh=>?_⟩
      · rw[if_pos (by simpa using h)]
      · rw[if_neg (by simpa using h)]
    rw[bI (λp:P5=>p.2.2.1 ≠ -1) d5];refine ⟨cs,ps.filter λp=>decide (p.2.2.1 ≠ -1),false,rfl,nc,λs h=>⟨(sc.w s h).1,(sc.w s h).2.2⟩,fl _,λS z=>?_,λS=>?_⟩
    · walk_at "rs";refine ir iT (λp=>if p.1 ≠ -1 then some (d5 p) else none) (by lia) (λp _=>?_) ?_
      · repeat (first | dsimp only[d5] | walk_at "rs1" | walk_at "rsx")
        refine ⟨λh=>?_,λh=>?_⟩
        · rw[if_pos (by simpa using h)]
        · rw[if_neg (by simpa using h)]
      rw[bI (λp:P5=>p.1 ≠ -1) d5];refine ⟨hs,ps.filter λp=>decide (p.1 ≠ -1),true,rfl,nh,λs h=>⟨(sh.w s h).1,(sh.w s h).2.2⟩,fl _,λS2 z2=>?_,λS2=>?_⟩
      · have L:Looks g hs cs ps:=iff.mpr ⟨hd,eJ,S,S2⟩;walk_at "rs";refine ⟨λz=>(nomatch z),λ_=>⟨λz=>(nomatch z),λ_=>?_⟩⟩;refine ir iT (λp=>if p.1 = -1 then some (.int (ht p)) else none) (by lia) (λp _=>?_) ?_
        · repeat (first | dsimp only[d5] | walk_at "rs1" | walk_at "rsx")
          refine ⟨λh=>?_,λh=>?_⟩
          · rw [if_pos (by simpa using h)];rfl
          · rw[if_neg (by simpa using h)]
        rw[bI (λp:P5=>p.1 = -1) λp=>D.int (ht p)];refine ⟨(ps.filter λp=>decide (p.1 = -1)).map ht,by rw[map_map];rfl,?_⟩;walk_at "rs";refine ir iT (λp=>if p.2.2.1 = -1 then some (.int (ht p)) else none) (by lia) (λp _=>?_) ?_
        · repeat (first | dsimp only[d5] | walk_at "rs1" | walk_at "rsx")
          refine ⟨λh=>?_,λh=>?_⟩
          · rw [if_pos (by simpa using h)];rfl
          · rw[if_neg (by simpa using h)]
        rw[bI (λp:P5=>p.2.2.1 = -1) λp=>D.int (ht p)];refine ⟨(ps.filter λp=>decide (p.2.2.1 = -1)).map ht,by rw[map_map];rfl,?_⟩;walk_at "rs";rw[show ((ps.filter λp=>decide (p.1 = -1)).map ht).sum=aM Bt (gq ps) from ym gk L.gB,show ((ps.filter λp=>decide (p.2.2.1 = -1)).map ht).sum=aM Bt (tq ps) from ym d6 L.tB];exact q1 L
      · walk_at "rs";refine ⟨λz=>(nomatch z),λ_=>⟨λ_=>?_,λz=>(nomatch z)⟩⟩;exact q2 λL=>S2 (iff.mp L).2.2.2
    · walk_at "rs";refine ir iT (λp=>if p.1 ≠ -1 then some (d5 p) else none) (by lia) (λp _=>?_) ?_
      · repeat (first | dsimp only[d5] | walk_at "rs1" | walk_at "rsx")
        refine ⟨λh=>?_,λh=>?_⟩
        · rw[if_pos (by simpa using h)]
        · rw[if_neg (by simpa using h)]
      rw[bI (λp:P5=>p.1 ≠ -1) d5];have nL:¬Looks g hs cs ps:=λL=>S (iff.mp L).2.2.1;refine ⟨hs,ps.filter λp=>decide (p.1 ≠ -1),true,rfl,nh,λs h=>⟨(sh.w s h).1,(sh.w s h).2.2⟩,fl _,λS2 z2=>?_,λS2=>?_⟩
      · walk_at "rs";exact ⟨λ_=>⟨λ_=>q2 nL,λz=>(nomatch z)⟩,λz=>(nomatch z)⟩
      · walk_at "rs";exact ⟨λ_=>⟨λ_=>q2 nL,λz=>(nomatch z)⟩,λz=>(nomatch z)⟩
noncomputable def fU:DR:=λds P=>∃n:Int,ds = [.int n]/\P (.p (.bl true))
theorem oI (T:sE K mg)(F:mh K "_law_whole" "_law_whole" cn f fd):cw P w K mg base g7 1 f fd ["found"] (gu K fU):=by
  refine yr F oT (λds Q h=>by obtain ⟨n,rfl,q⟩:=h;rfl) λcdv A outer s H E hr=>⟨_,(aj (aY (rq (nX (T:="int") (by simp) (by rfl) T.dA (dv 0) (jX (v:=.ty "int") (by rfl) T.C1 boot_int rfl)) (nY (Bn (nX (T:="bool") (by simp) (by rfl) T.dA (dv 0) (jX (v:=.ty "bool") (by rfl) T.A3 boot_bool rfl))))))),λds Q h=>?_⟩
  obtain ⟨n,rfl,q⟩:=h;walk_at "rs";exact ⟨λ_=>q,λz=>(nomatch z)⟩
theorem DF {g:Int}{hs cs:List S3}{Q:B->Prop}(h:Q (.p (.bl false))):Dd (dW g hs cs) (dW g hs cs) Q:=by
  refine ⟨⟨ja g hs cs,ja g hs cs,by have:=wG g hs cs;lia⟩,?_⟩;rw[eZ _ (ja g hs cs)];exact h
theorem DD {ps:List P5}{Q:B->Prop}(h:Q (.p (.bl false))):Dd (.lst (ps.map d5)) (.lst (ps.map d5)) Q:=by
  have n5:bE (.lst (ps.map d5))=true:=by rw[iA];exact jW ps
  refine ⟨⟨n5,n5,by rw[jS];have:=jQ ps;lia⟩,?_⟩;rw[eZ _ n5];exact h
theorem Dk {ps:List P5}{Q:B->Prop}(h:Q (.p (.bl true))):EB (.lst (ps.map d5)) (.lst (ps.map d5)) Q:=by
  have n5:bE (.lst (ps.map d5))=true:=by rw[iA];exact jW ps
  refine ⟨⟨n5,n5,by rw[jS];have:=jQ ps;lia⟩,?_⟩;rw[eZ _ n5];exact h
noncomputable def ya:DR:=λds P=>∃ns:List Int,ds = [.scr ns]/\ns.length<=63/\P (.p (.bl true))
theorem BO (T:sE K mg)(F_law_works:Fn P w K mg base "_law_works" 2 ["script"] (gu K fV))(F_shared:Fn P w K mg base "shared" 2 ["works"] (jJ K Pt zS lC))(F_law_bought:Fn P w K mg base "_law_bought" 3 ["works","passes"] (gu K fj))(F_law_whole:Fn P w K mg base "_law_whole" 1 ["found"] (gu K fU))(F:mh K "law" "law" gK f fd):cw P w K mg base g7 4 f fd ["script"] (jJ K Pt zS ya):=by
  refine DH F jj (λds Q h=>by obtain ⟨ns,rfl,hl,q⟩:=h;rfl) λcdv A outer s H E hr hT=>⟨_,(ae (aC (i:=1) jj.nd rfl (Or.inl rfl) (bN F_law_works (hr.mono (by decide)) (by rfl) (aa (dv 0) ag)))
      (ae (aC (i:=2) jj.nd rfl (Or.inl rfl) (bO (aa (aO (dv 1) ab) (aa (iU nJ (by rfl) T.kd boot_list (aa (aO (dv 1) ab) ag)) (aa (iU nJ (by rfl) T.kd boot_list (aa (aO (dv 1) ab) ag)) ag)))))
      (ae (iW (i:=3) jj.nd rfl (Or.inl rfl) (nV hT F_shared (hr.mono (by decide)) (by rfl) (aa (dv 2) ag)))
      (ae (cD (DW.dt (mQ (kE (iZ (nX (T:="list") (by simp) (by rfl) T.dA (dv 3) (jX (v:=.ty "list") (by rfl) T.kd boot_list rfl)))) (kF (aJ (rX hr) (dv 2) (dv 1) (aA _))))) (aj (aY mL)) bg)
      (ae (yV (i:=3) (m:=4) PassesOwn.never rfl rfl (by walk_at "v") (ax (i:=4) jj.nd rfl (Or.inl rfl)) (DW.dt (mQ (kE (iZ (nX (T:="tuple") (by simp) (by rfl) T.dA (dv 4) (jX (v:=.ty "tuple") (by rfl) T.yD boot_tuple rfl)))) (mQ (aJ qw (aI iR (by rfl) T.j9 PySem.boot_len (aa (dv 4) ag)) ab (aA _)) (kF (aJ (rX hr) (ky (g:=(.n 0)) (tc:=(yM (nU (pH _ (jt (eE 0) uP))))) (te:=(eE 0)) (sc0:=af gK) (N0:=["script","works","handed","found","one","kept"]) ["part"] [none] rfl (Bo (dv 4)) (λ_ _ _ _ _=>(ax (i:=0) (show (["part"]:List Str).Nodup by decide +kernel) rfl (Or.inl rfl))) (λ_ _ _ _ _=>(fK (kE (iZ (bN F_law_whole (hr.mono (by decide)) (by rfl) (aa (dv 0) ag)))))) (λ_ _ _ _ _=>(dv 0))) (gN ag) (aA _)))))) (aj (aY mL)))
      (ae (cD (DW.dt (mQ (aJ (rX hr) (dv 3) (aI pz (by rfl) T.ke boot_sorted (aa (dv 3) ag)) (aA _)) (kF (aJ rW (bN F_law_bought (hr.mono (by decide)) (by rfl) (aa (dv 1) (aa (dv 3) ag))) gO (aA _))))) (aj (aY mL)) bg)
      (ae (tQ (i:=5) jj.nd rfl (Or.inl rfl) (iU nJ (by rfl) T.kd boot_list (aa (dv 3) ag)))
      (ae (oe (i:=3) rfl (by walk_at "v") (bO (aa ab (aa ab (aa ab (aa ab (aa ab ag)))))))
      (aj (aY (iV (rV hr) (nV hT F_shared (hr.mono (by decide)) (by rfl) (aa (dv 2) ag)) (dv 5) (aA _)))))))))))),λds Q h=>?_⟩
  obtain ⟨ns,rfl,hl,q⟩:=h;refine bR (λρ=>∃g hs cs,sI g hs cs/\ρ = [some (B.p (D.scr ns)),some (B.p (dW g hs cs)),none,none,none,none]) ?_ λN hN=>?_;rotate_left
  · walk_at "rs";exact ⟨ns,rfl,hl,λg hs cs ok=>hN _ ⟨g,hs,cs,ok,rfl⟩⟩
  rintro ρ ⟨g,hs,cs,ok,rfl⟩;have sh:=so ok.EF ok.nh;have sc:=oX ok.yH ok.nc;have sl:sizeLine=16777216:=sizeLine_eq;refine bR (λρ=>ρ = [some (B.p (D.scr ns)),some (B.p (dW g hs cs)),some (B.p (dW g hs cs)),none,none,none]) ?_ λN hN=>?_;rotate_left
  · repeat (first | dsimp only[dW] | walk_at "rs1" | walk_at "rsx")
    exact hN _ rfl
  rintro ρ rfl;refine bR (λρ=>∃ps:List P5,Looks g hs cs ps/\ps.length<=4800/\j6 (ps.map l5)/\Told g hs cs ps/\ρ = [some (B.p (D.scr ns)),some (B.p (dW g hs cs)),some (B.p (dW g hs cs)),some (.o (.lst (ps.map d5))),none,none]) ?_ λN hN=>?_;rotate_left
  · walk_at "rs";exact ⟨g,hs,cs,rfl,ok,λps L lx hp tl=>hN _ ⟨ps,L,hp,lx,tl,rfl⟩⟩
  rintro ρ ⟨ps,L,hp,lx,tl,rfl⟩;refine bR (λρ=>ρ = [some (B.p (D.scr ns)),some (B.p (dW g hs cs)),some (B.p (dW g hs cs)),some (.o (.lst (ps.map d5))),none,none]) ?_ λN hN=>?_;rotate_left
  · walk_at "rs";refine ⟨λz=>(nomatch z),λ_=>DF ?_⟩;walk_at "rs";exact ⟨λz=>(nomatch z),λ_=>hN _ rfl⟩
  rintro ρ rfl;refine bR (λρ=>∃y:Option B,ρ = [some (B.p (D.scr ns)),some (B.p (dW g hs cs)),some (B.p (dW g hs cs)),some (.o (.lst (ps.map d5))),y,none]) ?_ λN hN=>?_;rotate_left
  · refine ⟨ps.map d5, rfl, λρ' d hρ hd => ?_, by decide, λρ' hρ => ?_⟩
    · obtain ⟨p,_,rfl⟩:=mem_map.mp hd;obtain ⟨y,rfl⟩ : ∃y:Option B,ρ' = [some (B.p (D.scr ns)),some (B.p (dW g hs cs)),some (B.p (dW g hs cs)),some (.o (.lst (ps.map d5))),y,none]:=by
        rcases hρ with rfl | ⟨d',rfl⟩
        · exact ⟨_,rfl⟩
        · exact ⟨_,rfl⟩
      dsimp only[dput,cx];repeat (first | dsimp only[d5] | walk_at "rs1" | walk_at "rsx")
      refine ⟨λz=>(nomatch z),λ_=>⟨λz=>(nomatch z),λ_=>rP (λ_=>none) (Nat.le_of_ble_eq_true rfl) (λx hx=>?_) ?_⟩⟩
      · obtain ⟨n,rfl⟩ : ∃n:Int,x=.int n:=by
          simp only[Hn,List.not_mem_nil,or_false] at hx;rcases hx with rfl | rfl | rfl | rfl | rfl<;>exact ⟨_,rfl⟩
        walk_at "rs";refine ⟨n,rfl,?_⟩;walk_at "rs";exact ⟨λz=>(nomatch z),λ_=>trivial⟩
      · show Dd (.lst []) (.lst []) _;refine ⟨⟨by decide +kernel,by decide +kernel,by decide +kernel⟩,?_⟩;rw[eZ _ (by decide +kernel)];rfl
    · rcases hρ with rfl | ⟨d',rfl⟩
      · exact hN _ ⟨_,rfl⟩
      · exact hN _ ⟨_,rfl⟩
  rintro ρ ⟨y,rfl⟩;refine bR (λρ=>ρ = [some (B.p (D.scr ns)),some (B.p (dW g hs cs)),some (B.p (dW g hs cs)),some (.o (.lst (ps.map d5))),y,none]) ?_ λN hN=>?_;rotate_left
  · walk_at "rs";have nd5:(ps.map l5).Nodup:=pairwise_map.mpr ((pairwise_map.mp L.eJ).imp λ{a b} z e=>z (by rw[rO _ _ e]));refine ⟨ps.map l5,5,by rw[map_map];rfl,nd5,by decide,λns hn=>?_,λmss hp' hu=>?_⟩
    · obtain ⟨p,_,rfl⟩:=mem_map.mp hn;rfl
    · have e := kT (c := 5) hp' (λx hx => by obtain ⟨y, _, rfl⟩ := mem_map.mp (hp'.mem_iff.mp hx);rfl) hu lx;subst e;rw[map_map];refine DD ?_;walk_at "rs";refine ⟨λz=>(nomatch z),λ_=>⟨g,hs,cs,ps,rfl,ok,by lia,λ_=>?_,λnL=>absurd L nL⟩⟩;walk_at "rs";exact ⟨λz=>(nomatch z),λ_=>hN _ rfl⟩
  rintro ρ rfl;refine bR (λρ=>ρ = [some (B.p (D.scr ns)),some (B.p (dW g hs cs)),some (B.p (dW g hs cs)),some (.o (.lst (ps.map d5))),y,some (.p (.lst (ps.map d5)))]) ?_ λN hN=>?_;rotate_left
  · walk_at "rs";exact ⟨rG _,hN _ rfl⟩
  rintro ρ rfl;refine bR (λρ=>∃b:Option B,ρ = [some (B.p (D.scr ns)),some (B.p (dW g hs cs)),some (B.p (dW g hs cs)),b,y,some (.p (.lst (ps.map d5)))]) ?_ λN hN=>?_;rotate_left
  · walk_at "rs";exact ⟨by rw[Hh];lia,hN _ ⟨_,rfl⟩⟩
  rintro ρ ⟨b,rfl⟩;walk_at "rs";refine ⟨g,hs,cs,rfl,ok,λqs L2 lx2 hp2 tl2=>?_⟩;obtain rfl:=tl.uniq tl2;exact Dk q
end
end WS
namespace WS
open PySem L2 DL
theorem gj {α:Type}{P:List α->Prop}(h:∀x0,P [x0]):∀us:List α,us.length=1->P us:=λus hl=>match us,hl with | [x0],_=>h x0
theorem oG {α:Type}{P:List α->Prop}(h:∀x0 x1,P [x0,x1]):∀us:List α,us.length=2->P us:=λus hl=>match us,hl with | [x0,x1],_=>h x0 x1
theorem oH {α:Type}{P:List α->Prop}(h:∀x0 x1 x2,P [x0,x1,x2]):∀us:List α,us.length=3->P us:=λus hl=>match us,hl with | [x0,x1,x2],_=>h x0 x1 x2
theorem zD {α:Type}{P:List α->Prop}(h:∀x0 x1 x2 x3,P [x0,x1,x2,x3]):∀us:List α,us.length=4->P us:=λus hl=>match us,hl with | [x0,x1,x2,x3],_=>h x0 x1 x2 x3
theorem all_mk {l:PySem.W.OpenLaw}{w:Hs}{K:Frag}{h:Heap}{mg:Str->Option GR}{fa:Addr}(X:K.In h)(G:h.Ns mainGlobals mg)(hfa:mg "law" = some (.ref fa))
    {f1:Addr} {od1 an1:Option Addr} {sl1:Array (Option GR)} {oc1 kV1 dc1 pm1 cd1 ct1:GR}
    {f2:Addr} {od2 an2:Option Addr} {sl2:Array (Option GR)} {oc2 kV2 dc2 pm2 cd2 ct2:GR}
    {f3:Addr} {od3 an3:Option Addr} {sl3:Array (Option GR)} {oc3 kV3 dc3 pm3 cd3 ct3:GR}
    {f4:Addr} {od4 an4:Option Addr} {sl4:Array (Option GR)} {oc4 kV4 dc4 pm4 cd4 ct4:GR}
    {f5:Addr} {od5 an5:Option Addr} {sl5:Array (Option GR)} {oc5 kV5 dc5 pm5 cd5 ct5:GR}
    {f6:Addr} {od6 an6:Option Addr} {sl6:Array (Option GR)} {oc6 kV6 dc6 pm6 cd6 ct6:GR}
    {f7:Addr} {od7 an7:Option Addr} {sl7:Array (Option GR)} {oc7 kV7 dc7 pm7 cd7 ct7:GR}
    {f8:Addr} {od8 an8:Option Addr} {sl8:Array (Option GR)} {oc8 kV8 dc8 pm8 cd8 ct8:GR}
    {f9:Addr} {od9 an9:Option Addr} {sl9:Array (Option GR)} {oc9 kV9 dc9 pm9 cd9 ct9:GR}
    {f10:Addr} {od10 an10:Option Addr} {sl10:Array (Option GR)} {oc10 kV10 dc10 pm10 cd10 ct10:GR}
    {f11:Addr} {od11 an11:Option Addr} {sl11:Array (Option GR)} {oc11 kV11 dc11 pm11 cd11 ct11:GR}
    {f12:Addr} {od12 an12:Option Addr} {sl12:Array (Option GR)} {oc12 kV12 dc12 pm12 cd12 ct12:GR}
    {f13:Addr} {od13 an13:Option Addr} {sl13:Array (Option GR)} {oc13 kV13 dc13 pm13 cd13 ct13:GR}
    {bt1:Addr} {bo1:Option Addr} {bu1 bv1:Tok} {bn1:Nat} {bs1:Array (Option GR)}
    {Pt mc:Addr}
    (a1:nsIn K mainGlobals "_law_draw" = some (some (.ref f1))) (l1:K.lookup f1=some ⟨oc1,od1,.func (fnOf "_law_draw" "_law_draw" (aP cQ) (aF cQ) (af cQ) .none kV1 dc1 pm1 an1 cd1 ct1),sl1⟩) (c1:codeIn K cd1 "_law_draw" = true) (k1:keepIn K (.ref f1)=true)
    (a2:nsIn K mainGlobals "_law_stream" = some (some (.ref f2))) (l2:K.lookup f2=some ⟨oc2,od2,.func (fnOf "_law_stream" "_law_stream" (aP bT) (aF bT) (af bT) .none kV2 dc2 pm2 an2 cd2 ct2),sl2⟩) (c2:codeIn K cd2 "_law_stream" = true) (k2:keepIn K (.ref f2)=true)
    (a3:nsIn K mainGlobals "_law_works" = some (some (.ref f3))) (l3:K.lookup f3=some ⟨oc3,od3,.func (fnOf "_law_works" "_law_works" (aP bP) (aF bP) (af bP) .none kV3 dc3 pm3 an3 cd3 ct3),sl3⟩) (c3:codeIn K cd3 "_law_works" = true) (k3:keepIn K (.ref f3)=true)
    (a4:nsIn K mainGlobals "rates_by_step" = some (some (.ref f4))) (l4:K.lookup f4=some ⟨oc4,od4,.func (fnOf "rates_by_step" "rates_by_step" (aP bj) (aF bj) (af bj) .none kV4 dc4 pm4 an4 cd4 ct4),sl4⟩) (c4:codeIn K cd4 "rates_by_step" = true) (k4:keepIn K (.ref f4)=true)
    (a5:nsIn K mainGlobals "warmest_first" = some (some (.ref f5))) (l5:K.lookup f5=some ⟨oc5,od5,.func (fnOf "warmest_first" "warmest_first" (aP aU) (aF aU) (af aU) .none kV5 dc5 pm5 an5 cd5 ct5),sl5⟩) (c5:codeIn K cd5 "warmest_first" = true) (k5:keepIn K (.ref f5)=true)
    (a6:nsIn K mainGlobals "is_warm_enough" = some (some (.ref f6))) (l6:K.lookup f6=some ⟨oc6,od6,.func (fnOf "is_warm_enough" "is_warm_enough" (aP ba) (aF ba) (af ba) .none kV6 dc6 pm6 an6 cd6 ct6),sl6⟩) (c6:codeIn K cd6 "is_warm_enough" = true) (k6:keepIn K (.ref f6)=true)
    (a7:nsIn K mainGlobals "shared" = some (some (.ref f7))) (l7:K.lookup f7=some ⟨oc7,od7,.func (fnOf "shared" "shared" (aP dZ) (aF dZ) (af dZ) .none kV7 dc7 pm7 an7 cd7 ct7),sl7⟩) (c7:codeIn K cd7 "shared" = true) (k7:keepIn K (.ref f7)=true)
    (a8:nsIn K mainGlobals "_law_sums" = some (some (.ref f8))) (l8:K.lookup f8=some ⟨oc8,od8,.func (fnOf "_law_sums" "_law_sums" (aP cU) (aF cU) (af cU) .none kV8 dc8 pm8 an8 cd8 ct8),sl8⟩) (c8:codeIn K cd8 "_law_sums" = true) (k8:keepIn K (.ref f8)=true)
    (a9:nsIn K mainGlobals "_law_is_step" = some (some (.ref f9))) (l9:K.lookup f9=some ⟨oc9,od9,.func (fnOf "_law_is_step" "_law_is_step" (aP bJ) (aF bJ) (af bJ) .none kV9 dc9 pm9 an9 cd9 ct9),sl9⟩) (c9:codeIn K cd9 "_law_is_step" = true) (k9:keepIn K (.ref f9)=true)
    (a10:nsIn K mainGlobals "_law_goes" = some (some (.ref f10))) (l10:K.lookup f10=some ⟨oc10,od10,.func (fnOf "_law_goes" "_law_goes" (aP cR) (aF cR) (af cR) .none kV10 dc10 pm10 an10 cd10 ct10),sl10⟩) (c10:codeIn K cd10 "_law_goes" = true) (k10:keepIn K (.ref f10)=true)
    (a11:nsIn K mainGlobals "_law_bought" = some (some (.ref f11))) (l11:K.lookup f11=some ⟨oc11,od11,.func (fnOf "_law_bought" "_law_bought" (aP aL) (aF aL) (af aL) .none kV11 dc11 pm11 an11 cd11 ct11),sl11⟩) (c11:codeIn K cd11 "_law_bought" = true) (k11:keepIn K (.ref f11)=true)
    (a12:nsIn K mainGlobals "_law_whole" = some (some (.ref f12))) (l12:K.lookup f12=some ⟨oc12,od12,.func (fnOf "_law_whole" "_law_whole" (aP cn) (aF cn) (af cn) .none kV12 dc12 pm12 an12 cd12 ct12),sl12⟩) (c12:codeIn K cd12 "_law_whole" = true) (k12:keepIn K (.ref f12)=true)
    (a13:nsIn K mainGlobals "law" = some (some (.ref f13))) (l13:K.lookup f13=some ⟨oc13,od13,.func (fnOf "law" "law" (aP gK) (aF gK) (af gK) .none kV13 dc13 pm13 an13 cd13 ct13),sl13⟩) (c13:codeIn K cd13 "law" = true) (k13:keepIn K (.ref f13)=true)
    (z1:nsIn K mainGlobals "len" = some none)
    (z2:nsIn K mainGlobals "range" = some none)
    (z3:nsIn K mainGlobals "min" = some none)
    (z4:nsIn K mainGlobals "sum" = some none)
    (z5:nsIn K mainGlobals "enumerate" = some none)
    (z6:nsIn K mainGlobals "max" = some none)
    (z7:nsIn K mainGlobals "sorted" = some none)
    (z8:nsIn K mainGlobals "list" = some none)
    (z9:nsIn K mainGlobals "set" = some none)
    (z10:nsIn K mainGlobals "isinstance" = some none)
    (z11:nsIn K mainGlobals "int" = some none)
    (z12:nsIn K mainGlobals "bool" = some none)
    (z13:nsIn K mainGlobals "tuple" = some none)
    (yt1:nsIn K mainGlobals "BOUGHT" = some (some (.ref bt1))) (yl1:K.lookup bt1=some ⟨.type "tuple",bo1,.seq #[.int (-1) bu1,.int (-1) bv1] bn1,bs1⟩)
    (m1:cd5=.ref mc) (m2:PySem.W.codeHdIn K mc Pt=true) (m3:K.lookup Pt=none)
    : ∃(fd:FuncData) (c:Addr),K.lookup Pt=none/\PySem.W.codeHdIn K c Pt=true/\(∀(s:GU) (v:GR),BindsTo s fd ⟨[v],[]⟩ [("script",v)])/\∀base:Heap,K.In base->base.Ns mainGlobals mg->bV mg base->cw l.prog w K mg base g7 4 fa fd ["script"] (oW K Pt zS):=by
  have e:=hfa.symm.trans (mg_of X G a13);cases e;have F1:=cM (st:=cQ) l1 c1 k1;have b1:=F1.binds (ps:=["script","k"]) λ_ _ _ _ _ _=>oG λ_ _=>rfl;have F2:=cM (st:=bT) l2 c2 k2;have b2:=F2.binds (ps:=["number","low","wide","most"]) λ_ _ _ _ _ _=>zD λ_ _ _ _=>rfl;have F3:=cM (st:=bP) l3 c3 k3;have b3:=F3.binds (ps:=["script"]) λ_ _ _ _ _ _=>gj λ_=>rfl;have F4:=cM (st:=bj) l4 c4 k4;have b4:=F4.binds (ps:=["streams"]) λ_ _ _ _ _ _=>gj λ_=>rfl;have F5:=cM (st:=aU) l5 c5 k5;have b5:=F5.binds (ps:=["steps"]) λ_ _ _ _ _ _=>gj λ_=>rfl;have F6:=cM (st:=ba) l6 c6 k6;have b6:=F6.binds (ps:=["gap","giver","taker"]) λ_ _ _ _ _ _=>oH λ_ _ _=>rfl;have F7:=cM (st:=dZ) l7 c7 k7;have b7:=F7.binds (ps:=["works"]) λ_ _ _ _ _ _=>gj λ_=>rfl;have F8:=cM (st:=cU) l8 c8 k8;have b8:=F8.binds (ps:=["streams","passes","place"]) λ_ _ _ _ _ _=>oH λ_ _ _=>rfl;have F9:=cM (st:=bJ) l9 c9 k9;have b9:=F9.binds (ps:=["streams","number","degree"]) λ_ _ _ _ _ _=>oH λ_ _ _=>rfl;have F10:=cM (st:=cR) l10 c10 k10;have b10:=F10.binds (ps:=["works","one"]) λ_ _ _ _ _ _=>oG λ_ _=>rfl;have F11:=cM (st:=aL) l11 c11 k11;have b11:=F11.binds (ps:=["works","passes"]) λ_ _ _ _ _ _=>oG λ_ _=>rfl;have F12:=cM (st:=cn) l12 c12 k12;have b12:=F12.binds (ps:=["found"]) λ_ _ _ _ _ _=>gj λ_=>rfl;have F13:=cM (st:=gK) l13 c13 k13;have b13:=F13.binds (ps:=["script"]) λ_ _ _ _ _ _=>gj λ_=>rfl;have T:sE K mg:=⟨mg_none_of X G z1,mg_none_of X G z2,mg_none_of X G z3,mg_none_of X G z4,mg_none_of X G z5,mg_none_of X G z6,mg_none_of X G z7,mg_none_of X G z8,mg_none_of X G z9,mg_none_of X G z10,mg_none_of X G z11,mg_none_of X G z12,mg_none_of X G z13,⟨_,mg_of X G yt1,λH=>.inr ⟨_,_,_,yl1,rfl,rfl,e6 (by show 2<=1000;decide),.cons ⟨_,rfl⟩ (.cons ⟨_,rfl⟩ .nil)⟩⟩⟩
  subst m1;have FC:=y4 (st:=aU) l5 c5 m2;have G1:∀base:Heap,K.In base/\bV mg base->Fn l.prog w K mg base "_law_draw" 1 ["script","k"] (gu K gS):=λbase B=>fB F1 (mg_of X G a1) b1 (qx T F1);have G2:∀base:Heap,K.In base/\bV mg base->Fn l.prog w K mg base "_law_stream" 1 ["number","low","wide","most"] (gu K fm):=λbase B=>fB F2 (mg_of X G a2) b2 (lY T F2);have G3:∀base:Heap,K.In base/\bV mg base->Fn l.prog w K mg base "_law_works" 2 ["script"] (gu K fV):=λbase B=>fB F3 (mg_of X G a3) b3 (oJ T (G1 base B) (G2 base B) F3);have G4:∀base:Heap,K.In base/\bV mg base->Fn l.prog w K mg base "rates_by_step" 1 ["streams"] (gu K dm):=λbase B=>fB F4 (mg_of X G a4) b4 (jb T F4);have G5:∀base:Heap,K.In base/\bV mg base->Fn l.prog w K mg base "warmest_first" 1 ["steps"] (jJ K Pt zS dq):=λbase B=>fB F5 (mg_of X G a5) b5 (jd B.1 B.2 T FC);have G6:∀base:Heap,K.In base/\bV mg base->Fn l.prog w K mg base "is_warm_enough" 1 ["gap","giver","taker"] (gu K cP):=λbase B=>fB F6 (mg_of X G a6) b6 (iC T F6);have G7:∀base:Heap,K.In base/\bV mg base->Fn l.prog w K mg base "shared" 2 ["works"] (jJ K Pt zS lC):=λbase B=>fB F7 (mg_of X G a7) b7 (vk T (G4 base B) (G5 base B) (G6 base B) F7);have G8:∀base:Heap,K.In base/\bV mg base->Fn l.prog w K mg base "_law_sums" 1 ["streams","passes","place"] (gu K gW):=λbase B=>fB F8 (mg_of X G a8) b8 (qz T F8);have G9:∀base:Heap,K.In base/\bV mg base->Fn l.prog w K mg base "_law_is_step" 1 ["streams","number","degree"] (gu K eK):=λbase B=>fB F9 (mg_of X G a9) b9 (kY T F9);have G10:∀base:Heap,K.In base/\bV mg base->Fn l.prog w K mg base "_law_goes" 2 ["works","one"] (gu K gU):=λbase B=>fB F10 (mg_of X G a10) b10 (qy T (G9 base B) F10);have G11:∀base:Heap,K.In base/\bV mg base->Fn l.prog w K mg base "_law_bought" 3 ["works","passes"] (gu K fj):=λbase B=>fB F11 (mg_of X G a11) b11 (lX T (G8 base B) (G10 base B) F11);have G12:∀base:Heap,K.In base/\bV mg base->Fn l.prog w K mg base "_law_whole" 1 ["found"] (gu K fU):=λbase B=>fB F12 (mg_of X G a12) b12 (oI T F12);exact ⟨fnOf "law" "law" (aP gK) (aF gK) (af gK) .none kV13 dc13 pm13 an13 cd13 ct13,_,m3,m2,λs v=>.of_eq rfl,λbase kb _ B=>(λB=>zj (BO T (G3 base B) (G7 base B) (G11 base B) (G12 base B) F13)) ⟨kb,B⟩⟩
end WS
open PySem PySem.W PyProof.Rows
set_option maxRecDepth 100000 in
set_option maxHeartbeats 0 in
theorem PySem.Challenge.cw_warmshare_k14_a_told_sharing_is_good_holds : PySem.Challenge.rw_warmshare_k14_a_told_sharing_is_good.Holds := by
  w_on;o_law;k_head;(case hw=>w_witness2)
  k_fill
  refine DL.yn (l:=PySem.Challenge.rw_warmshare_k14_a_told_sharing_is_good) (k:=4) (x:="script") (qn:=WS.zS) rfl rfl ⟨rfl,by decide,by decide,rfl⟩ (λw h Y=>⟨PySem.W.km_in_of Y,PySem.W.km_tabs_of Y _ (mem_singleton.mpr rfl)⟩) ?F
  case F =>
    intro w mg fa h KX G hmg
    refine' WS.all_mk KX G hmg ?a1 ?l1 ?c1 ?k1 ?a2 ?l2 ?c2 ?k2 ?a3 ?l3 ?c3 ?k3 ?a4 ?l4 ?c4 ?k4 ?a5 ?l5 ?c5 ?k5 ?a6 ?l6 ?c6 ?k6 ?a7 ?l7 ?c7 ?k7 ?a8 ?l8 ?c8 ?k8 ?a9 ?l9 ?c9 ?k9 ?a10 ?l10 ?c10 ?k10 ?a11 ?l11 ?c11 ?k11 ?a12 ?l12 ?c12 ?k12 ?a13 ?l13 ?c13 ?k13 ?z1 ?z2 ?z3 ?z4 ?z5 ?z6 ?z7 ?z8 ?z9 ?z10 ?z11 ?z12 ?z13 ?yt1 ?yl1 ?m1 ?m2 ?m3
    (case a1=>k_is)
    (case l1=>k_is)
    (case c1=>k_is)
    (case k1=>k_is)
    (case a2=>k_is)
    (case l2=>k_is)
    (case c2=>k_is)
    (case k2=>k_is)
    (case a3=>k_is)
    (case l3=>k_is)
    (case c3=>k_is)
    (case k3=>k_is)
    (case a4=>k_is)
    (case l4=>k_is)
    (case c4=>k_is)
    (case k4=>k_is)
    (case a5=>k_is)
    (case l5=>k_is)
    (case c5=>k_is)
    (case k5=>k_is)
    (case a6=>k_is)
    (case l6=>k_is)
    (case c6=>k_is)
    (case k6=>k_is)
    (case a7=>k_is)
    (case l7=>k_is)
    (case c7=>k_is)
    (case k7=>k_is)
    (case a8=>k_is)
    (case l8=>k_is)
    (case c8=>k_is)
    (case k8=>k_is)
    (case a9=>k_is)
    (case l9=>k_is)
    (case c9=>k_is)
    (case k9=>k_is)
    (case a10=>k_is)
    (case l10=>k_is)
    (case c10=>k_is)
    (case k10=>k_is)
    (case a11=>k_is)
    (case l11=>k_is)
    (case c11=>k_is)
    (case k11=>k_is)
    (case a12=>k_is)
    (case l12=>k_is)
    (case c12=>k_is)
    (case k12=>k_is)
    (case a13=>k_is)
    (case l13=>k_is)
    (case c13=>k_is)
    (case k13=>k_is)
    (case z1=>k_is)
    (case z2=>k_is)
    (case z3=>k_is)
    (case z4=>k_is)
    (case z5=>k_is)
    (case z6=>k_is)
    (case z7=>k_is)
    (case z8=>k_is)
    (case z9=>k_is)
    (case z10=>k_is)
    (case z11=>k_is)
    (case z12=>k_is)
    (case z13=>k_is)
    (case yt1=>k_is)
    (case yl1=>k_is)
    (case m1=>rfl)
    (case m2=>kernel_rfl)
    (case m3=>kernel_rfl)
#print axioms PySem.Challenge.cw_warmshare_k14_a_told_sharing_is_good_holds