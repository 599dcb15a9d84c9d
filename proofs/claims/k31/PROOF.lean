import PyProof.Rows.All
import Wide.All
import OpenK.AllK
import Wide.FinOn
import Lean
import PyProof.EqAt
import PyProof.EqKinds
import PyProof.TupleCall
import KE.KTryMore
import PyProof.DictItems
import KE.KPairComp
import PySem.Challenge.RW_warmshare_k31_least_told
open PySem.W (Frag nsIn fnOf keepIn codeIn kia_one mg_of mg_none_of kitx_list instObj methodObj lookIn kitx_dict plainGet isFn kitOne kitx_tuple cellsFrom_some tabObj codeHd_of_K)
open PyProof.Rows (boot_bool boot_enumerate boot_int boot_isinstance boot_list boot_max boot_min boot_sum boot_tuple)
open List (length_map mem_map map_cons map_append length_append mem_append length_cons map_map length_take append_assoc mem_range filter_cons mem_singleton length_drop nodup_cons length_range filter_append sum_cons sum_append nodup_append getElem?_map getElem?_eq_getElem mem_of_getElem? mem_cons_of_mem mem_cons_self size_toArray filterMap_cons take_append_drop pairwise_append mem_append_left mem_append_right mem_of_mem_take mem_of_mem_drop perm_append_comm pairwise_map getD_eq_getElem?_getD map_congr_left filter_sublist map_take map_drop take_of_length_le drop_eq_getElem_cons map_set pairwise_iff_getElem mem_iff_getElem? length_set lookup_cons nodup_range append_nil length_eq_zero_iff eq_nil_or_concat concat_eq_append)
open Array (length_toList)
theorem aZa (h:True:=by rfl):True:=h
theorem aZb (h:True:=by decide):True:=h
theorem aZc (h:True:=by intro _;rfl):True:=h
theorem aZd (h:True:=by first | exact .inl rfl | exact .inr rfl | assumption):True:=h
theorem aZe (h:True:=by decide +kernel):True:=h
theorem aZf (h:True:=by first | exact Or.inl rfl | exact Or.inr (Or.inl rfl) | exact Or.inr (Or.inr rfl)):True:=h
theorem aZg (h:True:=by first | exact .inl rfl | exact .inr rfl):True:=h
theorem aZh (h:True:=by exact Nat.le_of_ble_eq_true rfl):True:=h
set_option maxHeartbeats 4000000
set_option bootstrap.genMatcherCode false
set_option tactic.hygienic false
set_option genSizeOfSpec false
noncomputable section
set_option Elab.async false
set_option linter.all false
set_option maxRecDepth 100000
namespace L2
open PySem PySem.Spec PyProof.Rows
noncomputable abbrev Key := Sum Int Str
noncomputable def mf : Key -> Value -> Bool
  | .inl k, v => Value.isInt k v
  | .inr x, v => Value.isStrOf x v
noncomputable def DM (w : World):Key -> Int
  | .inl k => hashInt k
  | .inr x => hashStr w x
theorem bK : ∀ {k : Key} {v : Value}, mf k v = true -> (∃ i t, k = Sum.inl i /\ v = Value.int i t) \/ (∃ x t, k = Sum.inr x /\ v = Value.str x t)
  | .inl i, v, h => by
    obtain ⟨t, e⟩ := Value.isInt_shape (k := i) (v := v) h;exact .inl ⟨i, t, rfl, e⟩
  | .inr x, v, h => by
    obtain ⟨t, e⟩ := Value.isStrOf_shape (x := x) (v := v) h;exact .inr ⟨x, t, rfl, e⟩
theorem u7 (i : Int)(t : Tok):mf (.inl i) (.int i t) = true := by simp [mf, Value.isInt]
theorem u9 (x : Str)(t : Tok):mf (.inr x) (.str x t) = true := by simp [mf, Value.isStrOf]
theorem AG (a b : Int):decide ((Sum.inl a : Key) = Sum.inl b) = (a == b) := by
  by_cases e : a = b
  · subst e;simp
  · have h : ¬ (Sum.inl a : Key) = Sum.inl b := λq => e (Sum.inl.inj q);rw [decide_eq_false h];exact (beq_eq_false_iff_ne.mpr e).symm
theorem AJ (a b : Str):decide ((Sum.inr a : Key) = Sum.inr b) = decide (a = b) := by
  by_cases e : a = b
  · subst e;simp
  · have h : ¬ (Sum.inr a : Key) = Sum.inr b := λq => e (Sum.inr.inj q);rw [decide_eq_false h, decide_eq_false e]
theorem AH (a : Int)(b : Str):decide ((Sum.inl a : Key) = Sum.inr b) = false := decide_eq_false (λq => nomatch q)
theorem AI (a : Str)(b : Int):decide ((Sum.inr a : Key) = Sum.inl b) = false := decide_eq_false (λq => nomatch q)
noncomputable def bc (prog : Program)(w : World):PySem.KeyKind prog w Key where
  is := mf
  hash := DM w
  inj := λv a b ha hb => by
    rcases bK ha with ⟨i, t, rfl, rfl⟩ | ⟨x, t, rfl, rfl⟩
    · rcases bK hb with ⟨j, u, rfl, e⟩ | ⟨y, u, rfl, e⟩
      · injection e with e1 _;rw [e1]
      · exact nomatch e
    · rcases bK hb with ⟨j, u, rfl, e⟩ | ⟨y, u, rfl, e⟩
      · exact nomatch e
      · injection e with e1 _;rw [e1]
  byValue := λk v h => by
    rcases bK h with ⟨i, t, rfl, rfl⟩ | ⟨x, t, rfl, rfl⟩ <;> rfl
  pyHash := λhv h => by
    rcases bK hv with ⟨i, t, rfl, rfl⟩ | ⟨x, t, rfl, rfl⟩
    · exact wpAny_pyHash_int h
    · exact wpAny_pyHash_str h
  eqBool := λhu hv h => by
    rcases bK hu with ⟨i, t, rfl, rfl⟩ | ⟨x, t, rfl, rfl⟩
    · rcases bK hv with ⟨j, u, rfl, rfl⟩ | ⟨y, u, rfl, rfl⟩
      · rw [AG] at h;exact wpAny_eqBool_int h
      · rw [AH] at h;exact SeqAt.EqAt.int_str i t y u _ _ _ _ h
    · rcases bK hv with ⟨j, u, rfl, rfl⟩ | ⟨y, u, rfl, rfl⟩
      · rw [AI] at h;exact SeqAt.EqAt.str_int x t j u _ _ _ _ h
      · rw [AJ] at h;exact wpAny_eqBool_str h
  «strs» := λk x t v h => by
    rcases bK h with ⟨i, u, rfl, e⟩ | ⟨y, u, rfl, e⟩
    · exact nomatch e
    · injection e with e1 _
      subst e1;cases v <;> rfl
theorem qT (prog : Program)(w : World)(i : Int)(t : Tok):(bc prog w).is (.inl i) (.int i t) = true := u7 i t
theorem qU (prog : Program)(w : World)(x : Str)(t : Tok):(bc prog w).is (.inr x) (.str x t) = true := u9 x t
end L2
namespace L2
open PySem PySem.Spec PyProof.Rows
inductive V where
  | non | bl (b : Bool) | int (i : Int) | str (x : Str) | byt (b : Array UInt8) | flt (b : UInt64) | ref (a : Addr) | ty (n : String)
  deriving DecidableEq
noncomputable def RelV : V -> Value -> Prop
  | .non, u => u = Value.none
  | .bl b, u => u = Value.bool b
  | .int i, u => ∃ t, u = Value.int i t
  | .str x, u => ∃ t, u = Value.str x t
  | .byt b, u => ∃ t, u = Value.bytes b t
  | .flt b, u => ∃ t, u = Value.float b t
  | .ref a, u => u = Value.ref a
  | .ty n, u => u = Value.type n
noncomputable abbrev Vals : List V -> List Value -> Prop := Paired RelV
theorem Vals.length {xs : List V}{us : List Value}(r : Vals xs us):xs.length = us.length := Paired.length r
theorem Vals.get : ∀ {xs : List V} {us : List Value} {i : Nat} {x : V}, Vals xs us -> xs[i]? = some x -> ∃ u, us[i]? = some u /\ RelV x u
  | _, _, _, _, .nil, e => by simp at e
  | _, _, 0, _, .cons r _, e => by simp at e;subst e;exact ⟨_, rfl, r⟩
  | _, _, i + 1, x, .cons _ t, e => by
    obtain ⟨u, h1, h2⟩ := Vals.get (i := i) (x := x) t (by simpa using e);exact ⟨u, by simpa using h1, h2⟩
theorem Vals.set {x : V}{u : Value}(r : RelV x u):∀ {xs : List V} {us : List Value} (i : Nat), Vals xs us -> Vals (xs.set i x) (us.set i u)
  | _, _, _, .nil => .nil
  | _, _, 0, .cons _ t => .cons r t
  | _, _, i + 1, .cons q t => .cons q (Vals.set r i t)
theorem Vals.append : ∀ {xs ys : List V} {us ws : List Value}, Vals xs us -> Vals ys ws -> Vals (xs ++ ys) (us ++ ws)
  | _, _, _, _, .nil, s => s
  | _, _, _, _, .cons r t, s => .cons r (Vals.append t s)
theorem Vals.take : ∀ {xs : List V} {us : List Value} (n : Nat), Vals xs us -> Vals (xs.take n) (us.take n)
  | _, _, 0, _ => .nil
  | _, _, _ + 1, .nil => .nil
  | _, _, n + 1, .cons r t => .cons r (Vals.take n t)
theorem Vals.drop : ∀ {xs : List V} {us : List Value} (n : Nat), Vals xs us -> Vals (xs.drop n) (us.drop n)
  | _, _, 0, r => r
  | _, _, _ + 1, .nil => .nil
  | _, _, n + 1, .cons _ t => Vals.drop n t
noncomputable def jh : Option V -> Option Value -> Prop
  | some v, some u => RelV v u
  | none, none => True
  | _, _ => False
noncomputable def KV {κ : Type}:List (κ × V) -> List (κ × Value) -> Prop := Paired λ(p : κ × V) (q : κ × Value) => p.1 = q.1 /\ RelV p.2 q.2
noncomputable def kV : Key -> V
  | .inl i => .int i
  | .inr x => .str x
inductive HO where
  | lst (xs : List V)
  | tup (xs : List V)
  | dK (kvs : List (Key × V)) | dT (kvs : List (List Key × V))
  | set (S : Int -> Bool) (n : Nat)
  | ins (C dx : Addr) (fs : List (Str × V))
  | own (x : Addr)
  | xd (fs : List (Str × V))
  | met (f x : Addr)
  | rng (lo hi : Int)
  | bR (o : Obj) (u : HO)
  | tbl (ps : Array Value)
  | ext (φ : Heap -> Prop)
noncomputable abbrev Hp := Addr -> Option HO
noncomputable def upd (H : Hp)(a : Addr)(o : HO):Hp := λb => if b = a then some o else H b
theorem ah {H : Hp}{a : Addr}{o : HO}:upd H a o a = some o := by unfold upd;rw [if_pos rfl]
theorem af {H : Hp}{a b : Addr}{o : HO}(h : b ≠ a):upd H a o b = H b := by unfold upd;rw [if_neg h]
theorem ix {H : Hp}{a b : Addr}{o u : HO}(h : H a = some o)(h' : H b = some u)(d : o ≠ u):a ≠ b := by
  intro e;subst e;rw [h] at h';exact d (Option.some.inj h')
theorem aH {H : Hp}{a b : Addr}{o : HO}(h : H a = some o)(h' : H b = none):a ≠ b := by
  intro e;subst e;rw [h] at h';cases h'
section
variable (P : Program) (w : World)
noncomputable def bI (H : Hp)(h : Heap)(a : Addr):HO -> Prop
  | .lst xs => xs.length <= sizeLine /\ ∃ (its : List Value) (n : Nat), Vals xs its /\ h.get? a = some { cls := .type "list", data := .seq its.toArray n }
  | .tup xs => xs.length <= sizeLine /\ ∃ its : List Value, Vals xs its /\ IsTup h a its.toArray
  | .dK kvs => kvs.length <= sizeLine /\ (a == sysModules) = false /\ ∃ vs, KV kvs vs /\ h.DictOf (bc P w) a vs
  | .dT kvs => kvs.length <= sizeLine /\ (a == sysModules) = false /\ ∃ xs : List (List Key × Addr × Value),
      Paired (λ(p : List Key × V) (q : List Key × Addr × Value) => p.1 = q.1 /\ H q.2.1 = some (.tup (p.1.map kV)) /\ RelV p.2 q.2.2) kvs xs /\
      ∃ o es ep, h.get? a = some o /\ o.ExactDict /\ o.data = .dict es ep /\ es.toList = xs.map (entryOfKey (tupleKind (bc P w))) /\ (xs.map (·.1)).Nodup
  | .set S n => h.SetOf (intKind P w) a S n
  | .ins C dx fs => H dx = some (.own a) /\ fs.length <= 1000 /\ dx ≠ a /\ h.get? a = some (instObj C dx) /\
      ∃ mA, h.Ns1 dx mA /\ (∀ f, jh (fs.lookup f) (mA f)) /\ PySem.Within mA (fs.map (·.1))
  | .own _ => ∃ o, h.get? a = some o
  | .xd fs => ∃ mA, h.Ns1 a mA /\ ∀ f, jh (fs.lookup f) (mA f)
  | .rng lo hi => ∃ t u v, h.get? a = some { cls := .type "range", data := .fields #[.int lo t, .int hi u, .int 1 v] }
  | .bR o u => h.get? a = some o /\ bI H h a u
  | .tbl ps => h.get? a = some { cls := .none, data := .fields ps }
  | .met f x => h.get? a = some (methodObj (.ref f) (.ref x))
  | .ext φ => φ h /\ (∃ o, h.get? a = some o) /\ ∀ h1 h2 : Heap, φ h1 -> (∀ o, h1.get? a = some o -> h2.get? a = some o) -> φ h2
noncomputable def hJ (H : Hp)(h : Heap):Prop := ∀ a o, H a = some o -> bI P w H h a o
end
section
variable {P : Program} {w : World} {H H' : Hp} {h h' : Heap} {a : Addr} {o : HO}
theorem bI.lt (x : bI P w H h a o):a < h.objs.size := by
  cases o with
  | lst xs => obtain ⟨_, _, _, _, e⟩ := x;exact Heap.lt_size e
  | tup xs => obtain ⟨_, _, _, p⟩ := x;exact p.lt
  | dK kvs => obtain ⟨_, _, _, _, o, _, _, e, _⟩ := x;exact Heap.lt_size e
  | dT kvs => obtain ⟨_, _, _, _, o, _, _, e, _⟩ := x;exact Heap.lt_size e
  | set S n => obtain ⟨o, _, _, _, e, _⟩ := x;exact Heap.lt_size e
  | ins C dx fs => obtain ⟨_, _, _, e, _⟩ := x;exact Heap.lt_size e
  | own y => obtain ⟨_, e⟩ := x;exact Heap.lt_size e
  | xd fs => obtain ⟨_, ⟨_, _, _, e, _⟩, _⟩ := x;exact Heap.lt_size e
  | rng lo hi => obtain ⟨_, _, _, e⟩ := x;exact Heap.lt_size e
  | bR ob u => obtain ⟨e, _⟩ := x;exact Heap.lt_size e
  | tbl ps => exact Heap.lt_size (show h.get? a = some _ from x)
  | met f y => exact Heap.lt_size (show h.get? a = some _ from x)
  | ext φ => obtain ⟨_, ⟨_, e⟩, _⟩ := x;exact Heap.lt_size e
theorem Paired.yN {α β : Type}{F G : α -> β -> Prop}:∀ {l₁ : List α} {l₂ : List β}, Paired F l₁ l₂ -> (∀ a b, F a b -> G a b) -> Paired G l₁ l₂
  | _, _, .nil, _ => .nil
  | _, _, .cons r t, f => .cons (f _ _ r) (Paired.yN t f)
theorem Paired.imp' {α β : Type}{F G : α -> β -> Prop}(f : ∀ a b, F a b -> G a b){l₁ : List α}{l₂ : List β}(r : Paired F l₁ l₂):Paired G l₁ l₂ := Paired.yN r f
theorem bI.fe (x : bI P w H h a o)(k : ∀ b u, (b = a \/ H b = some (.own a)) -> h.get? b = some u -> h'.get? b = some u)
    (ho : ∀ b, H b = some (.own a) -> H' b = some (.own a)) (ht : ∀ b xs, H b = some (.tup xs) -> H' b = some (.tup xs)):bI P w H' h' a o := by
  induction o with
  | lst xs => obtain ⟨z, its, n, r, e⟩ := x;exact ⟨z, its, n, r, k _ _ (.inl rfl) e⟩
  | tup xs => obtain ⟨z, its, r, ob, e, c⟩ := x;exact ⟨z, its, r, ob, k _ _ (.inl rfl) e, c⟩
  | dK kvs => obtain ⟨z, y, vs, r, ob, es, ep, e, c⟩ := x;exact ⟨z, y, vs, r, ob, es, ep, k _ _ (.inl rfl) e, c⟩
  | dT kvs =>
    obtain ⟨z, y, xs, r, ob, es, ep, e, c⟩ := x;exact ⟨z, y, xs, Paired.yN r λp q z => ⟨z.1, ht _ _ z.2.1, z.2.2⟩, ob, es, ep, k _ _ (.inl rfl) e, c⟩
  | set S n => obtain ⟨ob, es, ep, t, e, c⟩ := x;exact ⟨ob, es, ep, t, k _ _ (.inl rfl) e, c⟩
  | ins C dx fs =>
    obtain ⟨d, z, ne, e, mA, ⟨od, es, ep, e2, c⟩, r⟩ := x;exact ⟨ho _ d, z, ne, k _ _ (.inl rfl) e, mA, ⟨od, es, ep, k _ _ (.inr d) e2, c⟩, r⟩
  | own y => obtain ⟨ob, e⟩ := x;exact ⟨ob, k _ _ (.inl rfl) e⟩
  | xd fs => obtain ⟨mA, ⟨od, es, ep, e, c⟩, r⟩ := x;exact ⟨mA, ⟨od, es, ep, k _ _ (.inl rfl) e, c⟩, r⟩
  | rng lo hi => obtain ⟨t, u, v, e⟩ := x;exact ⟨t, u, v, k _ _ (.inl rfl) e⟩
  | bR ob u ih => obtain ⟨e, q⟩ := x;exact ⟨k _ _ (.inl rfl) e, ih q⟩
  | tbl ps =>
    have e : h.get? a = some { cls := .none, data := .fields ps } := x;show h'.get? a = some { cls := .none, data := .fields ps };exact k a _ (.inl rfl) e
  | met f y =>
    have e : h.get? a = some (methodObj (.ref f) (.ref y)) := x;show h'.get? a = some (methodObj (.ref f) (.ref y));exact k a _ (.inl rfl) e
  | ext φ => obtain ⟨p, ⟨o, e⟩, st⟩ := x;exact ⟨st _ _ p λo q => k _ _ (.inl rfl) q, ⟨o, k _ _ (.inl rfl) e⟩, st⟩
theorem hJ.lt (x : hJ P w H h)(e : H a = some o):a < h.objs.size := (x a o e).lt
theorem hJ.fresh (x : hJ P w H h)(e : h.objs.size <= a):H a = none := by
  cases q : H a with
  | none => rfl
  | some u => exact absurd (Nat.lt_of_lt_of_le (x.lt q) e) (Nat.lt_irrefl _)
theorem hJ.kept (x : hJ P w H h)(k : ∀ b u, h.get? b = some u -> h'.get? b = some u):hJ P w H h' := λa o e =>
  (x a o e).fe (λb u _ q => k b u q) (λ_ q => q) λ_ _ q => q
theorem hJ.laid (x : hJ P w H h)(k : ∀ b u, h.get? b = some u -> h'.get? b = some u)(hp : h.objs.size <= a)(new : bI P w (upd H a o) h' a o):hJ P w (upd H a o) h' := λb u e => by
  have hn := x.fresh hp;by_cases hb : b = a
  · subst hb;rw [ah] at e;cases e;exact new
  · rw [af hb] at e;exact (x b u e).fe (λc v _ q => k c v q) (λc q => by rw [af (aH q hn)];exact q) λc xs q => by rw [af (aH q hn)];exact q
end
noncomputable def Rd (H : Hp)(a : Addr)(u : HO):Prop := H a = some u \/ ∃ o, H a = some (.bR o u)
theorem Rd.ok {P : Program}{w : World}{H : Hp}{h : Heap}{a : Addr}{u : HO}(r : Rd H a u)(x : hJ P w H h):bI P w H h a u := by
  rcases r with r | ⟨o, r⟩
  · exact x a u r
  · obtain ⟨_, q⟩ := x a _ r;exact q
noncomputable def BF : Option HO -> Prop
  | some (.lst _) => True
  | some (.dK _) => True
  | some (.dT _) => True
  | some (.set _ _) => True
  | some (.ins _ _ _) => True
  | some (.ext _) => True
  | _ => False
section
variable {P : Program} {w : World} {H : Hp} {h h' : Heap} {x e : Addr} {o' : HO}
theorem hJ.write (ok : hJ P w H h)(mu : BF (H x))(he : e = x \/ H e = some (.own x))(k : ∀ b u, b ≠ e -> h.get? b = some u -> h'.get? b = some u)(heo : ∃ u, h'.get? e = some u)
    (new : bI P w (upd H x o') h' x o'):hJ P w (upd H x o') h' := λb u q => by
  have nown : ∀ c y, H c = some (.own y) -> c ≠ x := λc y r z => by subst z;rw [r] at mu;exact mu
  have ntup : ∀ c xs, H c = some (.tup xs) -> c ≠ x := λc xs r z => by subst z;rw [r] at mu;exact mu
  by_cases hb : b = x
  · subst hb;rw [ah] at q;cases q;exact new
  · rw [af hb] at q;by_cases hbe : b = e
    · have q' : H b = some (.own x) := by
        rcases he with z | z
        · exact absurd (hbe.trans z) hb
        · rw [hbe];exact z
      rw [q] at q';cases q';obtain ⟨v, hv⟩ := heo;exact ⟨v, by rw [hbe];exact hv⟩
    · refine (ok b u q).fe (λc v hc r => k c v ?_ r) (λc r => by rw [af (nown c b r)];exact r) λc xs r => by rw [af (ntup c xs r)];exact r
      rcases hc with rfl | hc
      · exact hbe
      · rintro rfl;rcases he with z | z
        · exact nown c b hc z
        · rw [hc] at z;cases z;exact hb rfl
end
structure Un (fs ex : List Addr)(H H' : Hp)(h h' : Heap):Prop where
  keep : ∀ b o, h.get? b = some o -> H b = none -> b ∉ fs -> b ∉ ex -> h'.get? b = some o
  slot : ∀ b o, h.get? b = some o -> H b = none -> b ∈ fs -> b ∉ ex -> ∃ sl, h'.get? b = some { o with slots := sl }
  free : ∀ b o, h.get? b = some o -> H b = none -> b ∉ ex -> H' b = none
  there : ∀ b o, h.get? b = some o -> b ∉ ex -> ∃ o', h'.get? b = some o'
  iK : ∀ b xs, H b = some (.tup xs) -> H' b = some (.tup xs)
  gS : ∀ b o u, H b = some (.bR o u) -> H' b = some (.bR o u)
  iJ : ∀ b ps, H b = some (.tbl ps) -> ∃ more, H' b = some (.tbl (ps ++ more))
section
variable {fs fs' ex ex' : List Addr} {H H1 H2 : Hp} {h h1 h2 h' : Heap} {a x e : Addr} {o : HO}
theorem Un.any (u : Un fs ex H H1 h h1){b : Addr}{ob : Obj}(q : h.get? b = some ob)(n : H b = none)(hx : b ∉ ex):∃ sl, h1.get? b = some { ob with slots := sl } := by
  by_cases hb : b ∈ fs
  · exact u.slot b ob q n hb hx
  · exact ⟨ob.slots, u.keep b ob q n hb hx⟩
theorem Un.trans (a : Un fs ex H H1 h h1)(b : Un fs ex H1 H2 h1 h2):Un fs ex H H2 h h2 where
  keep := λc ob q n hc hx => b.keep c ob (a.keep c ob q n hc hx) (a.free c ob q n hx) hc hx
  slot := λc ob q n hc hx => by
    obtain ⟨sl, e1⟩ := a.slot c ob q n hc hx;obtain ⟨sl', e2⟩ := b.slot c _ e1 (a.free c ob q n hx) hc hx;exact ⟨sl', e2⟩
  free := λc ob q n hx => by
    obtain ⟨o', e1⟩ := a.there c ob q hx;exact b.free c o' e1 (a.free c ob q n hx) hx
  there := λc ob q hx => by
    obtain ⟨o', e1⟩ := a.there c ob q hx;exact b.there c o' e1 hx
  iK := λc xs q => b.iK c xs (a.iK c xs q)
  gS := λc ob xs q => b.gS c ob xs (a.gS c ob xs q)
  iJ := λc ps q => by
    obtain ⟨m1, e1⟩ := a.iJ c ps q;obtain ⟨m2, e2⟩ := b.iJ c _ e1;exact ⟨m1 ++ m2, by rw [e2, Array.append_assoc]⟩
theorem Un.kept (k : ∀ b u, h.get? b = some u -> h'.get? b = some u):Un fs ex H H h h' :=
  ⟨λb ob q _ _ _ => k b ob q, λb ob q _ _ _ => ⟨ob.slots, k b ob q⟩, λ_ _ _ n _ => n, λb ob q _ => ⟨ob, k b ob q⟩, λ_ _ q => q, λ_ _ _ q => q, λ_ ps q => ⟨#[], by rw [q];simp⟩⟩
theorem Un.refl : Un fs ex H H h h := Un.kept λ_ _ q => q
theorem Un.laid (k : ∀ b u, h.get? b = some u -> h'.get? b = some u)(hp : h.objs.size <= a)(hn : H a = none):Un fs ex H (upd H a o) h h' where
  keep := λb u q _ _ _ => k b u q
  slot := λb u q _ _ _ => ⟨u.slots, k b u q⟩
  free := λb u q n _ => by rw [af (Nat.ne_of_lt (Nat.lt_of_lt_of_le (Heap.lt_size q) hp))];exact n
  there := λb u q _ => ⟨u, k b u q⟩
  iK := λb xs q => by rw [af (aH q hn)];exact q
  gS := λb u xs q => by rw [af (aH q hn)];exact q
  iJ := λb ps q => ⟨#[], by rw [af (aH q hn), q];simp⟩
theorem Un.write (mu : BF (H x))(he : e = x \/ H e = some (.own x))(k : ∀ b u, b ≠ e -> h.get? b = some u -> h'.get? b = some u)(heo : ∃ u, h'.get? e = some u):Un fs ex H (upd H x o) h h' := by
  have hx : ∀ b, H b = none -> b ≠ x := λb n z => by subst z;rw [n] at mu;exact mu
  have hb : ∀ b, H b = none -> b ≠ e := λb n z => by
    subst z;rcases he with r | r
    · exact hx b n r
    · rw [n] at r;cases r
  have hm : ∀ b u, H b = some u -> ¬ BF (some u) -> b ≠ x := λb u q nm z => by subst z;rw [q] at mu;exact nm mu
  refine ⟨λb u q n _ _ => k b u (hb b n) q, λb u q n _ _ => ⟨u.slots, k b u (hb b n) q⟩, λb u q n _ => by rw [af (hx b n)];exact n, λb u q _ => ?_,
    λb xs q => by rw [af (hm b _ q λz => z)];exact q, λb u xs q => by rw [af (hm b _ q λz => z)];exact q, λb ps q => ⟨#[], by rw [af (hm b _ q λz => z), q];simp⟩⟩
  by_cases hbe : b = e
  · subst hbe;exact heo
  · exact ⟨u, k b u hbe q⟩
theorem Un.mono (u : Un fs ex H H1 h h1)(hs : ∀ b ∈ fs, b ∈ fs')(hx : ∀ b ∈ ex, b ∈ ex'):Un fs' ex' H H1 h h1 :=
  ⟨λb ob q n hb he => u.keep b ob q n (λz => hb (hs b z)) λz => he (hx b z), λ_ _ q n _ he => u.any q n λz => he (hx _ z), λb ob q n he => u.free b ob q n λz => he (hx b z), λb ob q he => u.there b ob q λz => he (hx b z), u.iK, u.gS, u.iJ⟩
end
noncomputable def zw (h : Heap)(H : Hp):List Addr := (List.range h.objs.size).filter λa => (H a).isSome
noncomputable def oR (h : Heap)(H : Hp):Heap := PySem.W.hideAll h (zw h H)
theorem uU (h : Heap)(H : Hp):(oR h H).objs.size = h.objs.size := PySem.W.hideAll_size _ _
theorem wF {h : Heap}{H : Hp}{b : Addr}{o : Obj}(e : h.get? b = some o)(n : H b = none):(oR h H).get? b = some o :=
  PySem.W.hideAll_get _ e λhm => by
    have q : (H b).isSome = true := (List.mem_filter.mp hm).2;rw [n] at q;simp at q
theorem yR {h : Heap}{H : Hp}{b : Addr}{o : Obj}(e : (oR h H).get? b = some o):h.get? b = some o /\ H b = none := by
  have e' : h.get? b = some o := PySem.W.of_hideAll (zw h H) e;refine ⟨e', ?_⟩;cases q : H b with
  | none => rfl
  | some x =>
    have hm : b ∈ zw h H := List.mem_filter.mpr ⟨mem_range.mpr (Heap.lt_size e'), by simp [q]⟩;have z : (oR h H).get? b = none := PySem.W.hideAll_none (zw h H) hm;rw [z] at e;cases e
noncomputable def yf (g h : Heap)(L : Addr):List (Addr × Obj) := (List.range h.objs.size).filterMap λa => if a = L \/ (g.get? a).isSome = true then none else (h.get? a).map λo => (a, o)
noncomputable def rest (g h : Heap)(L d : Addr):List (Addr × Obj) := (yf g h L).filter λp => decide (p.1 ≠ d)
end L2
namespace L2
open PySem PySem.Spec PyProof.Rows
structure Mod (K : Frag)(mg : Str -> Option Value)(base : Heap):Prop where
  AK : K.In base
  glob : base.Ns mainGlobals mg
  blt : ∃ mb, base.Ns builtinsNs mb /\ ∀ x : Str, x ≠ "__name__" -> mb x = bootBuiltins x
  nolimit : base.NoLimit
structure Cx where
  prog : Program
  w : World
  K : Frag
  mg : Str -> Option Value
  base : Heap
  A : Around
  N : List Str
  s₀ : Shared
  H₀ : Hp
  env : Env
  outer : List Env
  stack : List Env
  ex : List Addr
  fn : Str -> Bool
  calm : Bool
  pn : List (Addr × Obj)
  xe : Value -> Shared -> Prop
noncomputable def jm (l : List Env):List Addr := l.filterMap (·.frame)
noncomputable abbrev Cx.fs (X : Cx):List Addr := jm X.outer
noncomputable def Ag (sc : Scope)(x : Str):Prop := sc.names.lookup x = some .local \/ sc.names.lookup x = some .cell \/ sc.names.lookup x = some .free
noncomputable def Loc (sc : Scope)(x : Str):Prop := sc.names.lookup x = some .local \/ sc.names.lookup x = some .cell
noncomputable def Look (env : Env)(h : Heap)(m : Str -> Option Value)(x : Str)(u : Value):Prop :=
  (env.kindOf x = some .local /\ m x = some u) \/ ((env.kindOf x = some .cell \/ env.kindOf x = some .free) /\ ∃ c, env.cells.lookup x = some c /\ h.IsCell c (some u))
structure Cx.Ok (X : Cx):Prop where
  mod : Mod X.K X.mg X.base
  kind : X.env.scope.kind = .function
  glob : X.env.globals = mainGlobals
  blt : X.env.builtins = builtinsNs
  above : X.s₀.heap.objs.size <= X.env.locals
  inj : ∀ x y c, X.env.cells.lookup x = some c -> X.env.cells.lookup y = some c -> x = y
  has : ∀ x, (X.env.kindOf x = some .cell \/ X.env.kindOf x = some .free) -> ∃ c, X.env.cells.lookup x = some c
  Bw : ∀ x c, X.fn x = true -> X.env.cells.lookup x = some c -> X.s₀.heap.objs.size <= c
  hd : X.calm = true -> X.A.handled = none
  frames : X.A.frames = some X.stack
  CG : X.stack = X.outer \/ (X.stack = X.env :: X.outer /\ X.env.frame = some X.env.locals)
  BX : ∀ b ∈ X.ex, b ≠ X.env.locals /\ ∀ x c, X.env.cells.lookup x = some c -> c ≠ b
  bs : ∀ b o, X.base.get? b = some o -> X.s₀.heap.get? b = some o /\ X.H₀ b = none
  xZ : X.base.objs.size <= X.s₀.heap.objs.size
  ve : ∀ b o, X.base.get? b = some o -> b ∉ X.ex
  uR : ∀ b ∈ X.ex, b ∉ X.fs
  jK : X.s₀.heap.FunFrames X.base X.outer
  zI : ∀ b ∈ X.fs, X.H₀ b = none
structure Inv (X : Cx)(pins : List (Addr × Obj))(σ : List (Option V))(H : Hp)(s : Shared):Prop where
  ok : X.Ok
  os : s.os = X.s₀.os
  bare : AllBare s.gens
  base : Un X.fs X.ex X.H₀ H X.s₀.heap s.heap
  loc : ∃ m, s.heap.Ns X.env.locals m /\ ∀ (i : Nat) (x : Str) (v : V), X.N[i]? = some x -> σ[i]? = some (some v) -> Ag X.env.scope x -> ∃ u, RelV v u /\ Look X.env s.heap m x u
  cell : ∀ x c, X.env.cells.lookup x = some c -> ∃ v, s.heap.IsCell c v
  free : H X.env.locals = none
  fM : ∀ x c, X.env.cells.lookup x = some c -> H c = none
  pin : ∀ p ∈ X.pn ++ pins, s.heap.get? p.1 = some p.2 /\ H p.1 = none /\ p.1 ≠ X.env.locals /\ p.1 ∉ X.fs /\ ∀ v, p.2.data ≠ .cell v
  aX : hJ X.prog X.w H s.heap
  len : σ.length = X.N.length
section
variable {X : Cx} {pins : List (Addr × Obj)} {σ : List (Option V)} {H H' : Hp} {s : Shared} {h' : Heap}
theorem Cx.Ok.DN (ok : X.Ok){b : Addr}{o : Obj}(e : X.base.get? b = some o):b ∉ X.fs := λhb => by
  have := (ok.jK.mem hb).1;rw [e] at this;cases this
theorem Inv.bs (I : Inv X pins σ H s):∀ b o, X.base.get? b = some o -> s.heap.get? b = some o /\ H b = none := λb o e =>
  ⟨I.base.keep b o (I.ok.bs b o e).1 (I.ok.bs b o e).2 (I.ok.DN e) (I.ok.ve b o e), I.base.free b o (I.ok.bs b o e).1 (I.ok.bs b o e).2 (I.ok.ve b o e)⟩
theorem Inv.bk (I : Inv X pins σ H s):∀ b o, X.base.get? b = some o -> s.heap.get? b = some o := λb o e => (I.bs b o e).1
theorem Inv.mod (I : Inv X pins σ H s):Mod X.K X.mg X.base := I.ok.mod
theorem Inv.iY (I : Inv X pins σ H s):X.K.In s.heap := I.ok.mod.AK.keeps I.bk
theorem Inv.lt (I : Inv X pins σ H s):X.env.locals < s.heap.objs.size := let ⟨_, hn, _⟩ := I.loc;hn.lt
theorem Inv.sz (I : Inv X pins σ H s):X.s₀.heap.objs.size <= s.heap.objs.size := Nat.le_trans I.ok.above (Nat.le_of_lt I.lt)
theorem Inv.DP (I : Inv X pins σ H s){a : Addr}(h : s.heap.objs.size <= a):a ∉ X.fs := λhb => by
  obtain ⟨_, o, ho, _⟩ := I.ok.jK.mem hb;exact absurd (Nat.lt_of_lt_of_le (Heap.lt_size ho) (Nat.le_trans I.sz h)) (Nat.lt_irrefl _)
theorem Inv.Ao (I : Inv X pins σ H s):∀ x c, X.env.cells.lookup x = some c -> c ≠ X.env.locals := λx c e z => by
  obtain ⟨v, o, ho, hd⟩ := I.cell x c e;obtain ⟨m, ⟨o', es, ep, ho', hd', _⟩, _⟩ := I.loc;rw [z, ho'] at ho;cases ho;rw [hd'] at hd;cases hd
theorem Inv.jK (I : Inv X pins σ H s):s.heap.FunFrames X.base X.outer := by
  have all : ∀ (l : List Env), (∀ b ∈ jm l, b ∈ X.fs) -> X.s₀.heap.FunFrames X.base l -> s.heap.FunFrames X.base l := by
    intro l;induction l with
    | nil => intro _ _;trivial
    | cons env r ih =>
      intro hs hl;obtain ⟨hk, ⟨L, o, hf, hn, ho, hd⟩, hr⟩ := hl;have hL : L ∈ X.fs := hs L (by unfold jm;rw [filterMap_cons, hf];exact mem_cons_self);obtain ⟨sl, e⟩ := I.base.slot L o ho (I.ok.zI L hL) hL λz => I.ok.uR L z hL;exact ⟨hk, ⟨L, _, hf, hn, e, hd⟩, ih (λb hb => hs b (by unfold jm;rw [filterMap_cons, hf];exact mem_cons_of_mem _ hb)) hr⟩
  exact all X.outer (λ_ hb => hb) I.ok.jK
theorem Inv.stack (I : Inv X pins σ H s):s.heap.FunFrames X.base X.stack := by
  rcases I.ok.CG with e | ⟨e, hf⟩
  · rw [e];exact I.jK
  · rw [e];obtain ⟨m, hn, _⟩ := I.loc;refine .cons (by rw [I.ok.kind];decide) hf hn ?_ I.jK;exact Heap.get?_none_of_le (Nat.le_trans I.ok.xZ I.ok.above)
theorem Inv.sH (I : Inv X pins σ H s):∀ b ∈ jm X.stack, b ∈ X.env.locals :: X.fs := λb hb => by
  rcases I.ok.CG with e | ⟨e, hf⟩
  · rw [e] at hb;exact mem_cons_of_mem _ hb
  · rw [e] at hb;unfold jm at hb;rw [filterMap_cons, hf] at hb;exact hb
theorem Inv.pJ (I : Inv X pins σ H s):∀ b ∈ jm X.stack, H b = none := λb hb => by
  rcases List.mem_cons.mp (I.sH b hb) with e | hb
  · rw [e];exact I.free
  · obtain ⟨_, o, ho, _⟩ := I.ok.jK.mem hb;exact I.base.free b o ho (I.ok.zI b hb) λz => I.ok.uR b z hb
theorem Inv.step {g' : Array GenState}{t' : Nat}{d' : Drawn}{ch : List Addr}(I : Inv X pins σ H s)
    (hch : ∀ b ∈ ch, (b ∈ X.ex \/ X.s₀.heap.objs.size <= b) /\ b ≠ X.env.locals /\ (∀ x c, X.env.cells.lookup x = some c -> c ≠ b) /\ ∀ p ∈ X.pn ++ pins, p.1 ≠ b)
    (keep : ∀ b o, b ≠ X.env.locals -> b ∉ X.fs -> b ∉ ch -> s.heap.get? b = some o -> H b = none -> h'.get? b = some o)
    (slot : ∀ b o, b ≠ X.env.locals -> b ∈ X.fs -> b ∉ ch -> s.heap.get? b = some o -> H b = none -> ∃ sl, h'.get? b = some { o with slots := sl }) (free : ∀ b o, b ∉ ch -> s.heap.get? b = some o -> H b = none -> H' b = none)
    (there : ∀ b o, b ∉ ch -> s.heap.get? b = some o -> ∃ o', h'.get? b = some o')
    (iK : ∀ b xs, H b = some (.tup xs) -> H' b = some (.tup xs)) (gS : ∀ b o u, H b = some (.bR o u) -> H' b = some (.bR o u)) (iJ : ∀ b ps, H b = some (.tbl ps) -> ∃ more, H' b = some (.tbl (ps ++ more)))
    (ns : ∀ m, s.heap.Ns X.env.locals m -> h'.Ns X.env.locals m) (aX : hJ X.prog X.w H' h') (hg : AllBare g') :
    Inv X pins σ H' { s with heap := h', gens := g', drawn := d', toks := t' } := by
  have BA : ∀ b o, X.s₀.heap.get? b = some o -> b ≠ X.env.locals := λb o e => Nat.ne_of_lt (Nat.lt_of_lt_of_le (Heap.lt_size e) I.ok.above);have neC : ∀ b o, X.s₀.heap.get? b = some o -> b ∉ X.ex -> b ∉ ch := λb o e hx hb => by
    rcases (hch b hb).1 with z | z
    · exact hx z
    · exact absurd (Nat.lt_of_lt_of_le (Heap.lt_size e) z) (Nat.lt_irrefl _)
  have cellK : ∀ x c, X.env.cells.lookup x = some c -> ∀ v, s.heap.IsCell c v -> h'.IsCell c v := by
    rintro x c e v ⟨o, ho, hd⟩;have nch : c ∉ ch := λz => (hch c z).2.2.1 x c e rfl;by_cases hc : c ∈ X.fs
    · obtain ⟨sl, q⟩ := slot c o (I.Ao x c e) hc nch ho (I.fM x c e);exact ⟨_, q, hd⟩
    · exact ⟨o, keep c o (I.Ao x c e) hc nch ho (I.fM x c e), hd⟩
  refine ⟨I.ok, I.os, hg, ⟨λb o e n hb hx => ?_, λb o e n hb hx => ?_, λb o e n hx => ?_, λb o e hx => ?_, λb xs e => iK b xs (I.base.iK b xs e), λb o xs e => gS b o xs (I.base.gS b o xs e), λb ps e => ?_⟩, ?_, λx c e => ?_, ?_, λx c e => ?_, λp hp => ?_, aX, I.len⟩
  · exact keep b o (BA b o e) hb (neC b o e hx) (I.base.keep b o e n hb hx) (I.base.free b o e n hx)
  · obtain ⟨sl, e1⟩ := I.base.slot b o e n hb hx;obtain ⟨sl', e2⟩ := slot b _ (BA b o e) hb (neC b o e hx) e1 (I.base.free b o e n hx);exact ⟨sl', e2⟩
  · obtain ⟨o', e1⟩ := I.base.there b o e hx;exact free b o' (neC b o e hx) e1 (I.base.free b o e n hx)
  · obtain ⟨o', e1⟩ := I.base.there b o e hx;exact there b o' (neC b o e hx) e1
  · obtain ⟨m1, e1⟩ := I.base.iJ b ps e;obtain ⟨m2, e2⟩ := iJ b _ e1;exact ⟨m1 ++ m2, by rw [e2, Array.append_assoc]⟩
  · obtain ⟨m, hn, hl⟩ := I.loc;refine ⟨m, ns m hn, λi x v e1 e2 e3 => ?_⟩;obtain ⟨u, r, l⟩ := hl i x v e1 e2 e3;refine ⟨u, r, ?_⟩;rcases l with l | ⟨k, c, e, z⟩
    · exact .inl l
    · exact .inr ⟨k, c, e, cellK x c e _ z⟩
  · obtain ⟨v, z⟩ := I.cell x c e;exact ⟨v, cellK x c e v z⟩
  · obtain ⟨m, ⟨o, _, _, ho, _⟩, _⟩ := I.loc;exact free _ o (λz => (hch _ z).2.1 rfl) ho I.free
  · obtain ⟨v, o, ho, hd⟩ := I.cell x c e;exact free c o (λz => (hch c z).2.2.1 x c e rfl) ho (I.fM x c e)
  · obtain ⟨e, n, ne, nf, d⟩ := I.pin p hp;have nch : p.1 ∉ ch := λz => (hch p.1 z).2.2.2 p hp rfl;exact ⟨keep p.1 p.2 ne nf nch e n, free p.1 p.2 nch e n, ne, nf, d⟩
theorem Inv.un {t' : Nat}(I : Inv X pins σ H s)(u : Un X.fs [] H H' s.heap h')(aX : hJ X.prog X.w H' h'):Inv X pins σ H' { s with heap := h', toks := t' } := by
  obtain ⟨m, ⟨o, es, ep, ho, r⟩, _⟩ := id I.loc;obtain ⟨sl, hL⟩ := u.any ho I.free (by simp);exact I.step (g' := s.gens) (d' := s.drawn) (ch := []) (λ_ z => nomatch z) (λb o _ hb _ e n => u.keep b o e n hb (by simp)) (λb o _ hb _ e n => u.slot b o e n hb (by simp)) (λb o _ e n => u.free b o e n (by simp)) (λb o _ e => u.there b o e (by simp)) u.iK u.gS u.iJ (λm' hm => by
    obtain ⟨o', es', ep', ho', r'⟩ := hm;rw [ho] at ho';cases ho';exact ⟨_, es', ep', hL, r'⟩) aX I.bare
theorem Inv.call {g' : Array GenState}{t' : Nat}{d' : Drawn}{ch : List Addr}(I : Inv X pins σ H s)(u : Un (jm X.stack) ch H H' s.heap h')(aX : hJ X.prog X.w H' h')(hg : AllBare g')
    (hch : ∀ b ∈ ch, (b ∈ X.ex \/ X.s₀.heap.objs.size <= b) /\ b ≠ X.env.locals /\ (∀ x c, X.env.cells.lookup x = some c -> c ≠ b) /\ ∀ p ∈ X.pn ++ pins, p.1 ≠ b) :
    Inv X pins σ H' { s with heap := h', gens := g', drawn := d', toks := t' } := by
  obtain ⟨m, ⟨o, es, ep, ho, r⟩, _⟩ := id I.loc;obtain ⟨sl, hL⟩ := u.any ho I.free λz => (hch _ z).2.1 rfl;exact I.step (ch := ch) hch (λb o hL hb hc e n => u.keep b o e n (λz => (List.mem_cons.mp (I.sH b z)).elim hL hb) hc) (λb o _ _ hc e n => u.any e n hc) (λb o hc e n => u.free b o e n hc) (λb o hc e => u.there b o e hc) u.iK u.gS u.iJ (λm' hm => by
    obtain ⟨o', es', ep', ho', r'⟩ := hm;rw [ho] at ho';cases ho';exact ⟨_, es', ep', hL, r'⟩) aX hg
theorem Inv.turned {t' : Nat}{it : Addr}(I : Inv X pins σ H s)(k : ∀ b o, b ≠ it -> s.heap.get? b = some o -> h'.get? b = some o)(hn : H it = none)(hL : it ≠ X.env.locals)
    (h1 : it ∈ X.ex \/ X.s₀.heap.objs.size <= it) (h2 : ∀ x c, X.env.cells.lookup x = some c -> c ≠ it) (h3 : ∀ p ∈ X.pn ++ pins, p.1 ≠ it):Inv X pins σ H { s with heap := h', toks := t' } := by
  have nit : ∀ b u, H b = some u -> b ≠ it := λb u e z => by rw [z, hn] at e;cases e
  refine I.step (g' := s.gens) (d' := s.drawn) (ch := [it]) (λb hb => ?_) (λb o _ _ hc e _ => k b o (λz => hc (by simp [z])) e) (λb o _ _ hc e _ => ⟨o.slots, k b o (λz => hc (by simp [z])) e⟩) (λ_ _ _ _ n => n)
    (λb o hc e => ⟨o, k b o (λz => hc (by simp [z])) e⟩) (λ_ _ e => e) (λ_ _ _ e => e) (λb ps e => ⟨#[], by rw [e];simp⟩) (λm hm => ?_) (λb u e => ?_) I.bare
  · have e : b = it := by simpa using hb
    subst e;exact ⟨h1, hL, h2, h3⟩
  · obtain ⟨o, es, ep, ho, r⟩ := hm;exact ⟨o, es, ep, k _ o (Ne.symm hL) ho, r⟩
  · refine (I.aX b u e).fe (λc v hc q => k c v ?_ q) (λ_ q => q) λ_ _ q => q;rcases hc with z | z
    · rw [z];exact nit b u e
    · exact nit c _ z
theorem Inv.tok (I : Inv X pins σ H s)(t : Nat):Inv X pins σ H { s with toks := t } := I.un (h' := s.heap) (t' := t) Un.refl I.aX
theorem Inv.kept {t' : Nat}(I : Inv X pins σ H s)(k : ∀ b u, s.heap.get? b = some u -> h'.get? b = some u):Inv X pins σ H { s with heap := h', toks := t' } := I.un (Un.kept k) (I.aX.kept k)
theorem Inv.laid {a : Addr}{o : HO}{t' : Nat}(I : Inv X pins σ H s)(k : ∀ b u, s.heap.get? b = some u -> h'.get? b = some u)(hp : s.heap.objs.size <= a)(new : bI X.prog X.w (upd H a o) h' a o) :
    Inv X pins σ (upd H a o) { s with heap := h', toks := t' } := I.un (Un.laid k hp (I.aX.fresh hp)) (I.aX.laid k hp new)
theorem Inv.write {x e : Addr}{o : HO}{t' : Nat}(I : Inv X pins σ H s)(mu : BF (H x))(he : e = x \/ H e = some (.own x))(k : ∀ b u, b ≠ e -> s.heap.get? b = some u -> h'.get? b = some u)(heo : ∃ u, h'.get? e = some u)
    (new : bI X.prog X.w (upd H x o) h' x o):Inv X pins σ (upd H x o) { s with heap := h', toks := t' } := I.un (Un.write mu he k heo) (I.aX.write mu he k heo new)
theorem Inv.ud {pins' : List (Addr × Obj)}(I : Inv X pins σ H s)(h : ∀ p ∈ pins', s.heap.get? p.1 = some p.2 /\ H p.1 = none /\ p.1 ≠ X.env.locals /\ p.1 ∉ X.fs /\ ∀ v, p.2.data ≠ .cell v):Inv X pins' σ H s :=
  ⟨I.ok, I.os, I.bare, I.base, I.loc, I.cell, I.free, I.fM, λp hp => (mem_append.mp hp).elim (λz => I.pin p (mem_append_left _ z)) (h p), I.aX, I.len⟩
theorem qW {N : List Str}(hN : N.Nodup){i j : Nat}{x : Str}(a : N[i]? = some x)(b : N[j]? = some x):i = j := by
  obtain ⟨h1, e1⟩ := List.getElem?_eq_some_iff.mp a;obtain ⟨h2, e2⟩ := List.getElem?_eq_some_iff.mp b;exact (List.getElem_inj hN).mp (e1.trans e2.symm)
theorem oa {M : Model}{A : Around}{E : Value -> Shared -> Prop}{i : Nat}{x : Str}{v : V}{u : Value}{Q : Unit -> Shared -> Prop}(I : Inv X pins σ H s)(hN : X.N.Nodup)(hi : X.N[i]? = some x)(hx : Loc X.env.scope x)(r : RelV v u)
    (h : ∀ s', Inv X pins (σ.set i (some v)) H s' -> (∃ a, Heap.SameBut a s.heap s'.heap /\ (a = X.env.locals \/ X.env.cells.lookup x = some a)) -> Q () s') (hf :autoParam (X.fn x = true \/ X.env.scope.names.lookup x = some .local) aZd._auto_1):wpAny M A (storeName X.env x u) Q E s := by
  obtain ⟨m, hn, hl⟩ := id I.loc;have hcls : (X.env.scope.kind == .class || (X.env.scope.kind == .module && X.env.locals != X.env.globals)) = false := by rw [I.ok.kind];rfl
  have hiσ : i < σ.length := by rw [I.len];exact (List.getElem?_eq_some_iff.mp hi).1
  have Ao := I.Ao;have tracked : ∀ {a : Addr} {h' : Heap}, (∃ o, s.heap.get? a = some o /\ H a = none) -> Heap.SameBut a s.heap h' -> hJ X.prog X.w H h' := λ{a h'} ha hs b ob e => by
    obtain ⟨_, _, hfree⟩ := ha;refine (I.aX b ob e).fe (λc w' hc q => (hs.2 c ?_).trans q) (λ_ q => q) λ_ _ q => q;rintro rfl;rcases hc with rfl | hc
    · rw [hfree] at e;cases e
    · rw [hfree] at hc;cases hc
  rcases hx with hk | hk
  · refine wpAny_storeName_local hk hn (λh' hn' hs => ?_) hcls;obtain ⟨oL, _, _, hoL, _⟩ := id hn;refine h _ ⟨I.ok, I.os, I.bare, ⟨λb o e n hb hx => ?_, λb o e n hb hx => ?_, I.base.free, λb o e hx => ?_, I.base.iK, I.base.gS, I.base.iJ⟩, ⟨_, hn', λj y v' e1 e2 e3 => ?_⟩, λy c e => ?_, I.free, I.fM, λp hp => ?_, tracked ⟨oL, hoL, I.free⟩ hs, by simpa using I.len⟩ ⟨_, hs, .inl rfl⟩
    · exact (hs.2 b (Nat.ne_of_lt (Nat.lt_of_lt_of_le (Heap.lt_size e) I.ok.above))).trans (I.base.keep b o e n hb hx)
    · obtain ⟨sl, e1⟩ := I.base.slot b o e n hb hx;exact ⟨sl, (hs.2 b (Nat.ne_of_lt (Nat.lt_of_lt_of_le (Heap.lt_size e) I.ok.above))).trans e1⟩
    · obtain ⟨o', e1⟩ := I.base.there b o e hx;exact ⟨o', (hs.2 b (Nat.ne_of_lt (Nat.lt_of_lt_of_le (Heap.lt_size e) I.ok.above))).trans e1⟩
    · by_cases hj : j = i
      · subst hj;rw [hi] at e1;cases e1;rw [List.getElem?_set_self hiσ] at e2;cases e2;exact ⟨u, r, .inl ⟨hk, by simp⟩⟩
      · rw [List.getElem?_set_ne (Ne.symm hj)] at e2;obtain ⟨u', r', q⟩ := hl j y v' e1 e2 e3;refine ⟨u', r', ?_⟩;rcases q with ⟨k, e⟩ | ⟨k, c, e, z⟩
        · refine .inl ⟨k, ?_⟩;have : y ≠ x := λe => hj (qW hN e1 (e ▸ hi));simp [this, e]
        · exact .inr ⟨k, c, e, z.sameBut hs (Ao y c e)⟩
    · obtain ⟨w', z⟩ := I.cell y c e;exact ⟨w', z.sameBut hs (Ao y c e)⟩
    · obtain ⟨e, n, ne, nf, d⟩ := I.pin p hp;exact ⟨(hs.2 p.1 ne).trans e, n, ne, nf, d⟩
  · have hfn : X.fn x = true := by
      rcases hf with z | z
      · exact z
      · rw [z] at hk;cases hk
    obtain ⟨c, hc⟩ := I.ok.has x (.inl hk);obtain ⟨w', z⟩ := I.cell x c hc;refine wpAny_storeName_cell I.ok.kind hk hc z (λh' hc' hs => ?_);obtain ⟨oc, hoc, hocd⟩ := id z;refine h { s with heap := h' } ⟨I.ok, I.os, I.bare, ⟨λb o e n hb hx => ?_, λb o e n hb hx => ?_, I.base.free, λb o e hx => ?_, I.base.iK, I.base.gS, I.base.iJ⟩, ⟨m, hn.sameBut hs (Ne.symm (Ao x c hc)), λj y v' e1 e2 e3 => ?_⟩, λy c' e => ?_, I.free, I.fM, λp hp => ?_, tracked ⟨oc, hoc, I.fM x c hc⟩ hs, by simpa using I.len⟩ ⟨c, hs, .inr hc⟩
    · exact (hs.2 b (Nat.ne_of_lt (Nat.lt_of_lt_of_le (Heap.lt_size e) (I.ok.Bw x c hfn hc)))).trans (I.base.keep b o e n hb hx)
    · obtain ⟨sl, e1⟩ := I.base.slot b o e n hb hx;exact ⟨sl, (hs.2 b (Nat.ne_of_lt (Nat.lt_of_lt_of_le (Heap.lt_size e) (I.ok.Bw x c hfn hc)))).trans e1⟩
    · obtain ⟨o', e1⟩ := I.base.there b o e hx;exact ⟨o', (hs.2 b (Nat.ne_of_lt (Nat.lt_of_lt_of_le (Heap.lt_size e) (I.ok.Bw x c hfn hc)))).trans e1⟩
    · by_cases hj : j = i
      · subst hj;rw [hi] at e1;cases e1;rw [List.getElem?_set_self hiσ] at e2;cases e2;exact ⟨u, r, .inr ⟨.inl hk, c, hc, hc'⟩⟩
      · rw [List.getElem?_set_ne (Ne.symm hj)] at e2;obtain ⟨u', r', q⟩ := hl j y v' e1 e2 e3;refine ⟨u', r', ?_⟩;rcases q with q | ⟨k, c', e, z'⟩
        · exact .inl q
        · refine .inr ⟨k, c', e, z'.sameBut hs ?_⟩;rintro rfl;exact hj (qW hN e1 (I.ok.inj _ _ _ e hc ▸ hi))
    · by_cases hcc : c' = c
      · subst hcc;exact ⟨_, hc'⟩
      · obtain ⟨w2, z2⟩ := I.cell y c' e;exact ⟨w2, z2.sameBut hs hcc⟩
    · obtain ⟨e, n, ne, nf, d⟩ := I.pin p hp;refine ⟨(hs.2 p.1 ?_).trans e, n, ne, nf, d⟩;intro q;rw [q, hoc] at e;have q' : oc = p.2 := Option.some.inj e;exact d w' (by rw [<- q'];exact hocd)
theorem rC {M : Model}{A : Around}{E : Value -> Shared -> Prop}{i : Nat}{x : Str}{v : V}{u : Value}{Q : Unit -> Shared -> Prop}(I : Inv X pins σ H s)(hN : X.N.Nodup)(hi : X.N[i]? = some x)(hx : Loc X.env.scope x)(r : RelV v u)
    (h : ∀ s', Inv X pins (σ.set i (some v)) H s' -> Q () s') (hf :autoParam (X.fn x = true \/ X.env.scope.names.lookup x = some .local) aZd._auto_1):wpAny M A (storeName X.env x u) Q E s :=
  oa I hN hi hx r (λs' I' _ => h s' I') hf
theorem Inv.zE {s' : Shared}{ch : List Addr}(I : Inv X pins σ H s)(ho : s'.os = s.os)(u : Un (jm X.stack) ch H H' s.heap s'.heap)(aX : hJ X.prog X.w H' s'.heap)(hg : AllBare s'.gens)
    (hch : ∀ b ∈ ch, (b ∈ X.ex \/ X.s₀.heap.objs.size <= b) /\ b ≠ X.env.locals /\ (∀ x c, X.env.cells.lookup x = some c -> c ≠ b) /\ ∀ p ∈ X.pn ++ pins, p.1 ≠ b):Inv X pins σ H' s' := by
  obtain ⟨h', g', d', t', o'⟩ := s';have e : o' = s.os := ho;subst e;exact I.call (g' := g') (t' := t') (d' := d') u aX hg hch
end
noncomputable abbrev XK := Value -> Option Addr -> Hp -> Prop
noncomputable abbrev St := List (Option V)
noncomputable abbrev VK := V -> Hp -> Prop
noncomputable abbrev TE := St -> Hp -> VK -> Prop
noncomputable abbrev TT := St -> Hp -> (Bool -> Hp -> Prop) -> Prop
noncomputable abbrev TA := St -> Hp -> (List V -> Hp -> Prop) -> Prop
structure Ends where
  nx : St -> Hp -> Prop
  rt : VK
  bk : St -> Hp -> Prop := λ_ _ => False
  ct : St -> Hp -> Prop := λ_ _ => False
noncomputable abbrev TS := Ends -> St -> Hp -> Prop
noncomputable def EP (X : Cx)(pins : List (Addr × Obj))(σ : St)(Q : VK)(u : Value)(s' : Shared):Prop := ∃ v H', Inv X pins σ H' s' /\ RelV v u /\ Q v H'
noncomputable def TP (X : Cx)(pins : List (Addr × Obj))(σ : St)(Q : Bool -> Hp -> Prop)(b : Bool)(s' : Shared):Prop := ∃ H', Inv X pins σ H' s' /\ Q b H'
noncomputable def AP (X : Cx)(pins : List (Addr × Obj))(σ : St)(Q : List V -> Hp -> Prop)(us : List Value)(s' : Shared):Prop := ∃ vs H', Inv X pins σ H' s' /\ Vals vs us /\ Q vs H'
noncomputable def SP (X : Cx)(pins : List (Addr × Obj))(D : Ends)(f : Flow)(s' : Shared):Prop :=
  match f with
  | .next => ∃ σ' H', Inv X pins σ' H' s' /\ D.nx σ' H'
  | .brk => ∃ σ' H', Inv X pins σ' H' s' /\ D.bk σ' H'
  | .cont => ∃ σ' H', Inv X pins σ' H' s' /\ D.ct σ' H'
  | .ret u => ∃ v σ' H', Inv X pins σ' H' s' /\ RelV v u /\ D.rt v H'
noncomputable def PE (X : Cx)(e : Expr)(t : TE):Prop :=
  ∀ (pins : List (Addr × Obj)) (s : Shared) (σ : St) (H : Hp) (Q : VK), Inv X pins σ H s -> t σ H Q -> wpAny (model X.prog X.w) X.A (eval e X.env) (EP X pins σ Q) X.xe s
noncomputable def PT (X : Cx)(e : Expr)(t : TT):Prop :=
  ∀ (pins : List (Addr × Obj)) (s : Shared) (σ : St) (H : Hp) (Q : Bool -> Hp -> Prop), Inv X pins σ H s -> t σ H Q -> wpAny (model X.prog X.w) X.A (isTrue e X.env (eval e X.env)) (TP X pins σ Q) X.xe s
noncomputable def PW (X : Cx)(e : Expr)(t : TT):Prop :=
  ∀ (whole : Sem Value) (pins : List (Addr × Obj)) (s : Shared) (σ : St) (H : Hp) (Q : Bool -> Hp -> Prop), Inv X pins σ H s -> t σ H Q -> wpAny (model X.prog X.w) X.A (isTrue e X.env whole) (TP X pins σ Q) X.xe s
theorem PW.pt {X : Cx}{e : Expr}{t : TT}(h : PW X e t):PT X e t := h _
noncomputable def PA (X : Cx)(es : List Expr)(t : TA):Prop :=
  ∀ (pos : Pos) (pins : List (Addr × Obj)) (s : Shared) (σ : St) (H : Hp) (Q : List V -> Hp -> Prop), Inv X pins σ H s -> t σ H Q -> wpAny (model X.prog X.w) X.A (spliced (backTo pos (starEach es X.env))) (AP X pins σ Q) X.xe s
noncomputable def PS (X : Cx)(st : Stmt)(t : TS):Prop :=
  ∀ (pins : List (Addr × Obj)) (s : Shared) (σ : St) (H : Hp) (D : Ends), Inv X pins σ H s -> t D σ H -> wpAny (model X.prog X.w) X.A (exec st X.env) (SP X pins D) X.xe s
noncomputable def lF (X : Cx)(st : List Stmt)(t : TS):Prop :=
  ∀ (pins : List (Addr × Obj)) (s : Shared) (σ : St) (H : Hp) (D : Ends), Inv X pins σ H s -> t D σ H -> wpAny (model X.prog X.w) X.A (execs st X.env) (SP X pins D) X.xe s
theorem cm {α : Type}{t : Sem α}{Q Q' : α -> Shared -> Prop}{M : Model}{A : Around}{E : Value -> Shared -> Prop}{s : Shared}(h : wpAny M A t Q E s)(hQ : ∀ a s, Q a s -> Q' a s):wpAny M A t Q' E s := wpAny_mono h hQ λ_ _ x => x
end L2
namespace L2
open PySem PySem.Spec PyProof.Rows
section
variable {X : Cx}
theorem bin {a b : Expr}{ta tb : TE}(ha : PE X a ta)(hb : PE X b tb){pins : List (Addr × Obj)}{s : Shared}{σ : St}{H : Hp}{R : V -> V -> Hp -> Prop}(I : Inv X pins σ H s)(h : ta σ H λx H1 => tb σ H1 λy H2 => R x y H2)
    {α : Type} {Q : α -> Shared -> Prop} {f : Value -> Value -> Sem α}
    (hf : ∀ v u s2 x y H2, Inv X pins σ H2 s2 -> RelV x v -> RelV y u -> R x y H2 -> wpAny (model X.prog X.w) X.A (f v u) Q X.xe s2) :
    wpAny (model X.prog X.w) X.A (eval a X.env) (λv s₁ => wpAny (model X.prog X.w) X.A (eval b X.env) (λu s₂ => wpAny (model X.prog X.w) X.A (f v u) Q X.xe s₂) X.xe s₁) X.xe s := by
  refine cm (ha pins s σ H _ I h) ?_;rintro v s1 ⟨x, H1, I1, r1, q1⟩;refine cm (hb pins s1 σ H1 _ I1 q1) ?_;rintro u s2 ⟨y, H2, I2, r2, q2⟩;exact hf v u s2 x y H2 I2 r1 r2 q2
noncomputable def zu (i : Nat):TE := λσ H Q => ∃ v, σ[i]? = some (some v) /\ Q v H
noncomputable def tC (v : V):TE := λ_ H Q => Q v H
theorem mv {i : Nat}{x : Str}{pos : Pos}(hN : X.N[i]? = some x)(hv : Ag X.env.scope x)(hd :autoParam ((x == ("__debug__" : Str)) = false) aZb._auto_1)(hcd :autoParam ((x == ("__classdict__" : Str)) = false) aZb._auto_1):PE X (.Name x pos) (zu i) := by
  intro pins s σ H Q I h;obtain ⟨v, e, h⟩ := h;obtain ⟨m, hn, hl⟩ := I.loc;obtain ⟨u, r, l⟩ := hl i x v hN e hv;have fin : EP X pins σ Q u s := ⟨v, H, I, r, h⟩
  rcases l with ⟨hk, hm⟩ | ⟨hk, c, hc, hcell⟩
  · exact wpAny_Name (wpAny_loadName_local I.ok.kind hk hn hm fin) hd
  · rcases hk with hk | hk
    · exact wpAny_Name (wpAny_loadName_cell I.ok.kind hk hc hcell fin) hd
    · exact wpAny_Name (wpAny_loadName_free I.ok.kind hk hc hcell fin hcd) hd
theorem cf {i j pos}:PE X (.Constant (.int i) j pos) (tC (.int i)) := λ_ _ _ H _ I h => wpAny_Constant_int ⟨.int i, H, I.tok _, ⟨_, rfl⟩, h⟩
theorem nY {b j pos}:PE X (.Constant (.bool b) j pos) (tC (.bl b)) := λ_ _ _ H _ I h => Constant_bool ⟨.bl b, H, I, rfl, h⟩
theorem A2 {j pos}:PE X (.Constant .none j pos) (tC .non) := λ_ _ _ H _ I h => Constant_none ⟨.non, H, I, rfl, h⟩
theorem ki {x j pos}:PE X (.Constant (.str x) j pos) (tC (.str x)) := λ_ _ _ H _ I h => Calls.Constant_str ⟨.str x, H, I.tok _, ⟨_, rfl⟩, h⟩
noncomputable def Gl (X : Cx)(x : Str):Prop := X.env.kindOf x = some .globalImplicit
theorem jN {E : Value -> Shared -> Prop}{pins : List (Addr × Obj)}{s : Shared}{σ : St}{H : Hp}{x : Str}{u : Value}{pos : Pos}{Q : Value -> Shared -> Prop}(I : Inv X pins σ H s)(hg : Gl X x)(hm : X.mg x = some u)(h : Q u s)
    (hd :autoParam ((x == ("__debug__" : Str)) = false) aZb._auto_1):wpAny (model X.prog X.w) X.A (eval (.Name x pos) X.env) Q E s :=
  Calls.Name_function_global I.ok.kind hg (Calls.loadGlobal_global (by rw [I.ok.glob];exact I.mod.glob.keeps I.bk) hm h) hd
theorem mi {E : Value -> Shared -> Prop}{pins : List (Addr × Obj)}{s : Shared}{σ : St}{H : Hp}{x : Str}{u : Value}{pos : Pos}{Q : Value -> Shared -> Prop}(I : Inv X pins σ H s)(hg : Gl X x)(hm : X.mg x = none)(hv : bootBuiltins x = some u)(h : Q u s)
    (hn :autoParam (x ≠ "__name__") aZb._auto_1) (hd :autoParam ((x == ("__debug__" : Str)) = false) aZb._auto_1):wpAny (model X.prog X.w) X.A (eval (.Name x pos) X.env) Q E s := by
  obtain ⟨mb, h1, h2⟩ := I.mod.blt;exact Calls.Name_function_global I.ok.kind hg (Calls.loadGlobal_builtin (by rw [I.ok.glob];exact I.mod.glob.keeps I.bk) hm (by rw [I.ok.blt];exact h1.keeps I.bk) ((h2 x hn).trans hv) h) hd
theorem y0 {x : Str}{v : V}{u : Value}{pos : Pos}(hg : Gl X x)(hm : X.mg x = some u)(r : RelV v u)(hd :autoParam ((x == ("__debug__" : Str)) = false) aZb._auto_1):PE X (.Name x pos) (tC v) :=
  λ_ _ _ H _ I h => jN I hg hm ⟨v, H, I, r, h⟩ hd
theorem o9 {x : Str}{v : V}{u : Value}{pos : Pos}(hg : Gl X x)(hm : X.mg x = none)(hv : bootBuiltins x = some u)(r : RelV v u)(hn :autoParam (x ≠ "__name__") aZb._auto_1)(hd :autoParam ((x == ("__debug__" : Str)) = false) aZb._auto_1):PE X (.Name x pos) (tC v) :=
  λ_ _ _ H _ I h => mi I hg hm hv ⟨v, H, I, r, h⟩ hn hd
variable {a b : Expr} {ta tb : TE} {pos : Pos}
noncomputable def PC (X : Cx)(op : CmpOp)(a b : Expr)(t : TE):Prop :=
  ∀ (pins : List (Addr × Obj)) (s : Shared) (σ : St) (H : Hp) (Q : VK), Inv X pins σ H s -> t σ H Q ->
    wpAny (model X.prog X.w) X.A (eval a X.env) (λv s₁ => wpAny (model X.prog X.w) X.A (eval b X.env) (λu s₂ => wpAny (model X.prog X.w) X.A (compareOp op v u) (EP X pins σ Q) X.xe s₂) X.xe s₁) X.xe s
theorem wO (b : Expr){op : CmpOp}(h : op ≠ .In)(h2 : op ≠ .NotIn):behindInMarks op b = false := by
  have e1 : (op == CmpOp.In) = false := by cases op <;> first | rfl | exact absurd rfl h
  have e2 : (op == CmpOp.NotIn) = false := by cases op <;> first | rfl | exact absurd rfl h2
  cases b <;> simp [behindInMarks, e1, e2]
noncomputable def tB (t : TE):TT := λσ H Q => t σ H λx H1 => ∃ c, x = .bl c /\ Q c H1
theorem xx {op : CmpOp}{t : TE}(h : PC X op a b t)(h1 : behindInMarks op b = false := by first | exact wO _ (by decide) (by decide) | rfl):PT X (.Compare a [op] [b] pos) (tB t) := by
  intro pins s σ H Q I hw;refine wpAny_isTrue_Compare1 (cm (h pins s σ H _ I hw) λv s1 h1 => cm h1 λu s2 h2 => cm h2 ?_) h1;rintro c s3 ⟨x, H1, I1, r1, q1⟩;obtain ⟨d, rfl, q⟩ := q1;cases r1;exact wpAny_truthy_bool ⟨H1, I1, q⟩
theorem pz {e : Expr}{t : TE}(h : PE X e t)(he :autoParam (∀ whole, isTrue e X.env whole = (do let v <- whole;standAt e.pos;holding [v] (truthy v))) aZc._auto_1):PT X e (tB t) := by
  intro pins s σ H Q I hw;refine isTrue_plain (cm (h pins s σ H _ I hw) ?_) (he _);rintro v s1 ⟨x, H1, I1, r1, q1⟩;obtain ⟨d, rfl, q⟩ := q1;cases r1;exact wpAny_truthy_bool ⟨H1, I1, q⟩
variable {tA tB' : TT} {rest : List Expr}
noncomputable def CI (t u : TT):TT := λσ H Q => t σ H λc H1 => if c = true then u σ H1 Q else Q false H1
noncomputable def Es (t u : TT):TT := λσ H Q => t σ H λc H1 => if c = true then Q true H1 else u σ H1 Q
noncomputable def Ee (t : TT):TT := λσ H Q => t σ H λc H1 => Q (!c) H1
theorem uf (ha : PT X a tA):PW X (.BoolOp .And [a] pos) tA := by
  intro wh pins s σ H Q I h;refine isTrue_and (cm (ha pins s σ H Q I h) λc s1 e => ?_);cases c with
  | true => exact isTrue_and_nil e
  | false => exact e
theorem Ba (ha : PT X a tA):PW X (.BoolOp .Or [a] pos) tA := by
  intro wh pins s σ H Q I h;refine isTrue_or (cm (ha pins s σ H Q I h) λc s1 e => ?_);cases c with
  | false => exact isTrue_or_nil e
  | true => exact e
theorem xB (ha : PT X a tA)(hb : PW X (.BoolOp .And (b :: rest) pos) tB'):PW X (.BoolOp .And (a :: b :: rest) pos) (CI tA tB') := by
  intro wh pins s σ H Q I h;refine isTrue_and (cm (ha pins s σ H _ I h) ?_);rintro c s1 ⟨H1, I1, q1⟩;cases c with
  | true => exact hb wh pins s1 σ H1 Q I1 q1
  | false => exact ⟨H1, I1, q1⟩
theorem Cp (ha : PT X a tA)(hb : PW X (.BoolOp .Or (b :: rest) pos) tB'):PW X (.BoolOp .Or (a :: b :: rest) pos) (Es tA tB') := by
  intro wh pins s σ H Q I h;refine isTrue_or (cm (ha pins s σ H _ I h) ?_);rintro c s1 ⟨H1, I1, q1⟩;cases c with
  | true => exact ⟨H1, I1, q1⟩
  | false => exact hb wh pins s1 σ H1 Q I1 q1
theorem pq (ha : PT X a tA):PT X (.UnaryOp .Not a pos) (Ee tA) := by
  intro pins s σ H Q I h;exact isTrue_not (ha pins s σ H (λc H1 => Q (!c) H1) I h)
noncomputable def CJ (ta tb : TE):TE := λσ H Q => ta σ H λx H1 => ∃ c, x = .bl c /\ if c = true then tb σ H1 Q else Q (.bl false) H1
noncomputable def zY (ta : TE):TE := λσ H Q => ta σ H λx H1 => ∃ c, x = .bl c /\ Q (.bl (!c)) H1
theorem A3 {op}{t : TE}(h : PE X a t):PE X (.BoolOp op [a] pos) t := λpins s σ H Q I hw => BoolOp_one (h pins s σ H Q I hw)
theorem A0 (ha : PE X a ta)(hb : PE X (.BoolOp .And (b :: rest) pos) tb):PE X (.BoolOp .And (a :: b :: rest) pos) (CJ ta tb) := by
  intro pins s σ H Q I h;refine BoolOp_and (cm (ha pins s σ H _ I h) ?_);rintro v s1 ⟨x, H1, I1, r1, q1⟩;obtain ⟨c, rfl, q1⟩ := q1;cases r1;refine wpAny_truthy_bool ?_;cases c with
  | true => exact hb pins s1 σ H1 Q I1 q1
  | false => exact ⟨.bl false, H1, I1, rfl, q1⟩
theorem xi (ha : PE X a ta):PE X (.UnaryOp .Not a pos) (zY ta) := by
  intro pins s σ H Q I h;refine UnaryOp_ (cm (ha pins s σ H _ I h) ?_);rintro v s1 ⟨x, H1, I1, r1, q1⟩;obtain ⟨c, rfl, q1⟩ := q1;cases r1;exact not_of (wpAny_truthy_bool ⟨.bl (!c), H1, I1, rfl, q1⟩)
end
end L2
namespace L2
open PySem PySem.Spec PyProof.Rows
noncomputable def dD (K : Frag)(H : Hp)(a : Addr)(xs : List V):Prop :=
  Rd H a (.lst xs) \/
    ∃ (o : Obj) (its : Array Value) (n : Nat), K.lookup a = some o /\ o.cls = .type "list" /\ o.dict = none /\ o.data = .seq its n /\ its.size <= sizeLine /\ Vals xs its.toList
noncomputable def mM (K : Frag)(H : Hp)(a : Addr)(xs : List V):Prop :=
  Rd H a (.tup xs) \/
    ∃ (o : Obj) (its : Array Value) (n : Nat), K.lookup a = some o /\ o.cls = .type "tuple" /\ o.data = .seq its n /\ its.size <= sizeLine /\ Vals xs its.toList
noncomputable def Dr : Value -> Option V
  | .none => some .non
  | .bool b => some (.bl b)
  | .int i _ => some (.int i)
  | .str x _ => some (.str x)
  | .bytes b _ => some (.byt b)
  | .float b _ => some (.flt b)
  | .ref a => some (.ref a)
  | .type n => some (.ty n)
  | _ => none
theorem RelV.abs {x : V}{u : Value}(r : RelV x u):Dr u = some x := by
  cases x with
  | non => cases r;rfl
  | bl _ => cases r;rfl
  | int _ => obtain ⟨t, rfl⟩ := r;rfl
  | str _ => obtain ⟨t, rfl⟩ := r;rfl
  | byt _ => obtain ⟨t, rfl⟩ := r;rfl
  | flt _ => obtain ⟨t, rfl⟩ := r;rfl
  | ref _ => cases r;rfl
  | ty _ => cases r;rfl
theorem RelV.inj {x y : V}{u : Value}(r : RelV x u)(q : RelV y u):x = y := Option.some.inj (r.abs.symm.trans q.abs)
theorem Vals.inj : ∀ {xs ys : List V} {us : List Value}, Vals xs us -> Vals ys us -> xs = ys
  | _, _, _, .nil, .nil => rfl
  | _, _, _, .cons r t, .cons r' t' => by rw [r.inj r', Vals.inj t t']
section
variable {X : Cx} {pins : List (Addr × Obj)} {σ : St} {H : Hp} {s : Shared} {a : Addr} {xs ys : List V}
theorem dD.of {K : Frag}(h : H a = some (.lst xs)):dD K H a xs := .inl (.inl h)
theorem mM.of {K : Frag}(h : H a = some (.tup xs)):mM K H a xs := .inl (.inl h)
theorem Inv.list (I : Inv X pins σ H s)(h : dD X.K H a xs):∃ its : List Value, Vals xs its /\ PlainL s.heap a its.toArray /\ xs.length <= sizeLine := by
  rcases h with h | ⟨o, its, n, hk, hc, hd, hs, hz, r⟩
  · obtain ⟨z, its, n, r, e⟩ := h.ok I.aX;exact ⟨its, r, ⟨_, n, e, rfl, rfl, rfl⟩, z⟩
  · refine ⟨its.toList, r, ⟨o, n, I.iY a o hk, hc, hd, by simpa using hs⟩, ?_⟩;have e := r.length;simp only [length_toList] at e;lia
theorem Inv.tuple (I : Inv X pins σ H s)(h : mM X.K H a xs):∃ its : List Value, Vals xs its /\ IsTup s.heap a its.toArray /\ xs.length <= sizeLine := by
  rcases h with h | ⟨o, its, n, hk, hc, hs, hz, r⟩
  · obtain ⟨z, its, r, p⟩ := h.ok I.aX;exact ⟨its, r, p, z⟩
  · refine ⟨its.toList, r, ⟨o, I.iY a o hk, hc, n, by simpa using hs⟩, ?_⟩;have e := r.length;simp only [length_toList] at e;lia
theorem Inv.wK (I : Inv X pins σ H s)(h : dD X.K H a xs)(h' : dD X.K H a ys):xs = ys := by
  obtain ⟨its, r, ⟨o, n, e, _, _, d⟩, _⟩ := I.list h;obtain ⟨its', r', ⟨o', n', e', _, _, d'⟩, _⟩ := I.list h';rw [e] at e';cases e';rw [d] at d';injection d' with d1 _
  have : its = its' := by simpa using congrArg Array.toList d1
  subst this;exact r.inj r'
theorem Inv.vn (I : Inv X pins σ H s)(h : mM X.K H a xs)(h' : mM X.K H a ys):xs = ys := by
  obtain ⟨its, r, ⟨o, e, _, n, d⟩, _⟩ := I.tuple h;obtain ⟨its', r', ⟨o', e', _, n', d'⟩, _⟩ := I.tuple h';rw [e] at e';cases e';rw [d] at d';injection d' with d1 _
  have : its = its' := by simpa using congrArg Array.toList d1
  subst this;exact r.inj r'
end
noncomputable abbrev Cx.kA (X : Cx)(E : Value -> Shared -> Prop):Cx := { X with xe := E }
noncomputable abbrev Cx.zR (X : Cx):Cx := X.kA λ_ _ => False
theorem Cx.Ok.kA {X : Cx}(ok : X.Ok)(E : Value -> Shared -> Prop):(X.kA E).Ok :=
  ⟨ok.mod, ok.kind, ok.glob, ok.blt, ok.above, ok.inj, ok.has, ok.Bw, ok.hd, ok.frames, ok.CG, ok.BX, ok.bs, ok.xZ, ok.ve, ok.uR, ok.jK, ok.zI⟩
theorem Cx.Ok.fD {X : Cx}{E : Value -> Shared -> Prop}(ok : (X.kA E).Ok):X.Ok :=
  ⟨ok.mod, ok.kind, ok.glob, ok.blt, ok.above, ok.inj, ok.has, ok.Bw, ok.hd, ok.frames, ok.CG, ok.BX, ok.bs, ok.xZ, ok.ve, ok.uR, ok.jK, ok.zI⟩
section
variable {X : Cx} {pins : List (Addr × Obj)} {σ : St} {H : Hp} {s : Shared} {E : Value -> Shared -> Prop}
theorem Inv.kA (I : Inv X pins σ H s)(E : Value -> Shared -> Prop):Inv (X.kA E) pins σ H s := ⟨I.ok.kA E, I.os, I.bare, I.base, I.loc, I.cell, I.free, I.fM, I.pin, I.aX, I.len⟩
theorem Inv.fD (I : Inv (X.kA E) pins σ H s):Inv X pins σ H s := ⟨I.ok.fD, I.os, I.bare, I.base, I.loc, I.cell, I.free, I.fM, I.pin, I.aX, I.len⟩
theorem SP.fD {D : Ends}{f : Flow}{s' : Shared}(h : SP (X.kA E) pins D f s'):SP X pins D f s' := by
  cases f with
  | next => obtain ⟨σ', H', I, q⟩ := h;exact ⟨σ', H', I.fD, q⟩
  | brk => obtain ⟨σ', H', I, q⟩ := h;exact ⟨σ', H', I.fD, q⟩
  | cont => obtain ⟨σ', H', I, q⟩ := h;exact ⟨σ', H', I.fD, q⟩
  | ret u => obtain ⟨v, σ', H', I, r, q⟩ := h;exact ⟨v, σ', H', I.fD, r, q⟩
theorem lF.zR {st : List Stmt}{t : TS}(h : lF X.zR st t):lF X st t := λpins s σ H D I hw =>
  wpAny_mono (h pins s σ H D (I.kA _) hw) (λ_ _ q => q.fD) λ_ _ z => False.elim z
end
section
variable {X : Cx} {st : Stmt} {rest : List Stmt} {t u : TS} {e : Expr} {te : TE} {pos : Pos}
noncomputable def CQ : TS := λD σ H => D.nx σ H
noncomputable def Bo (t u : TS):TS := λD σ H => t { D with nx := u D } σ H
theorem fq : lF X [] CQ := λ_ _ σ H _ I h => wpAny_execs_nil ⟨σ, H, I, h⟩
theorem aw (h1 : PS X st t)(h2 : lF X rest u):lF X (st :: rest) (Bo t u) := by
  intro pins s σ H D I h;refine wpAny_execs_cons (cm (h1 pins s σ H { D with nx := u D } I h) λf s1 q => ?_);cases f with
  | next =>
    obtain ⟨σ', H', I', q⟩ := q;exact h2 pins s1 σ' H' D I' q
  | ret v => exact q
  | brk => exact q
  | cont => exact q
theorem aM (h1 : PS X st t):lF X [st] t := by
  intro pins s σ H D I h;refine wpAny_execs_cons (cm (h1 pins s σ H D I h) λf s1 q => ?_);cases f with
  | next => exact wpAny_execs_nil q
  | ret v => exact q
  | brk => exact q
  | cont => exact q
theorem Inv.quiet {pins : List (Addr × Obj)}{σ : St}{H : Hp}{s : Shared}(I : Inv X pins σ H s):interactive X.env = false := by simp [interactive, I.ok.kind]
noncomputable def CL (te : TE):TS := λD σ H => te σ H λ_ H1 => D.nx σ H1
theorem dZ (he : PE X e te)(hs :autoParam (swapsWith e none pos.line X.env = pure false) aZa._auto_1):PS X (.Expr e pos) (CL te) := by
  intro pins s σ H D I h;exact wpAny_Expr_any (cm (he pins s σ H _ I h) (by rintro v s1 ⟨x, H1, I1, r1, q1⟩;exact ⟨σ, H1, I1, q1⟩)) I.quiet hs
noncomputable def CV (te : TE):TS := λD σ H => te σ H D.rt
theorem eE (he : PE X e te):PS X (.Return (some e) pos) (CV te) := by
  intro pins s σ H D I h;exact wpAny_Return_some (cm (he pins s σ H _ I h) (by rintro v s1 ⟨x, H1, I1, r1, q1⟩;exact ⟨x, σ, H1, I1, r1, q1⟩))
noncomputable def CN (c : TT)(t u : TS):TS := λD σ H => c σ H λb H1 => if b = true then t D σ H1 else u D σ H1
theorem gB {c : Expr}{a b : List Stmt}{tc : TT}(hc : PT X c tc)(ha : lF X a t)(hb : lF X b u):PS X (.If c a b pos) (CN tc t u) := by
  intro pins s σ H D I h;refine wpAny_If (cm (hc pins s σ H _ I h) ?_);rintro d s1 ⟨H1, I1, q1⟩;cases d with
  | true => exact ha pins s1 σ H1 D I1 q1
  | false => exact hb pins s1 σ H1 D I1 q1
end
noncomputable abbrev TG := V -> St -> Hp -> (St -> Hp -> Prop) -> Prop
noncomputable abbrev zA := List V -> St -> Hp -> (St -> Hp -> Prop) -> Prop
noncomputable def PG (X : Cx)(target : Expr)(t : TG):Prop :=
  ∀ (pins : List (Addr × Obj)) (s : Shared) (σ : St) (H : Hp) (v : V) (u : Value) (Q : St -> Hp -> Prop), Inv X pins σ H s -> RelV v u -> t v σ H Q ->
    wpAny (model X.prog X.w) X.A (assign target X.env u) (λ_ s' => ∃ σ' H', Inv X pins σ' H' s' /\ Q σ' H') X.xe s
noncomputable def C5 (X : Cx)(ts : List Expr)(t : zA):Prop :=
  ∀ (pins : List (Addr × Obj)) (s : Shared) (σ : St) (H : Hp) (vs : List V) (us : List Value) (Q : St -> Hp -> Prop), Inv X pins σ H s -> Vals vs us -> t vs σ H Q ->
    wpAny (model X.prog X.w) X.A (assignInOrder ((assignEach ts X.env).map (·.2)) us) (λ_ s' => ∃ σ' H', Inv X pins σ' H' s' /\ Q σ' H') X.xe s
section
variable {X : Cx} {pos : Pos}
noncomputable def qJ (i : Nat):TG := λv σ H Q => Q (σ.set i (some v)) H
theorem aS {i : Nat}{x : Str}(hN : X.N.Nodup)(hi : X.N[i]? = some x)(hx : Loc X.env.scope x)(hf :autoParam (X.fn x = true \/ X.env.scope.names.lookup x = some .local) aZd._auto_1):PG X (.Name x pos) (qJ i) := by
  intro pins s σ H v u Q I r h;exact wpAny_assign_Name (rC I hN hi hx r (λs' I' => ⟨_, H, I', h⟩) hf)
noncomputable def BZ : zA := λvs σ H Q => vs = [] /\ Q σ H
noncomputable def zJ (t : TG)(u : zA):zA := λvs σ H Q => ∃ v r, vs = v :: r /\ t v σ H λσ' H' => u r σ' H' Q
theorem fo : C5 X [] BZ := by
  intro pins s σ H vs us Q I r h;obtain ⟨e, h⟩ := h;subst e;cases r;exact assignInOrder_nil ⟨σ, H, I, h⟩
theorem aR {e : Expr}{es : List Expr}{t : TG}{u : zA}(h1 : PG X e t)(h2 : C5 X es u)
    (hs :autoParam ((assignEach (e :: es) X.env).map (·.2) = assign e X.env :: (assignEach es X.env).map (·.2)) aZa._auto_1):C5 X (e :: es) (zJ t u) := by
  intro pins s σ H vs us Q I r h;obtain ⟨v, vr, e1, h⟩ := h;subst e1;cases r with
  | cons r rr =>
    rw [hs];refine assignInOrder_cons (cm (h1 pins s σ H _ _ _ I r h) ?_);rintro _ s1 ⟨σ1, H1, I1, q1⟩;exact h2 pins s1 σ1 H1 _ _ Q I1 rr q1
noncomputable def Bk (te : TE)(g : TG):TS := λD σ H => te σ H λx H1 => g x σ H1 D.nx
theorem xq {tg e : Expr}{te : TE}{g : TG}(he : PE X e te)(hg : PG X tg g)(hs :autoParam (swapsWithSole [tg] e pos.line X.env = pure false) aZa._auto_1)(hw :autoParam (swappedStores [tg] e X.env = pure none) aZa._auto_1)
    (h1 :autoParam ((assignEach [tg] X.env).map (·.2) = [assign tg X.env]) aZa._auto_1):PS X (.Assign [tg] e pos) (Bk te g) := by
  intro pins s σ H D I h;refine wpAny_Assign_stores (cm (he pins s σ H _ I h) ?_) hs hw;rintro v s1 ⟨x, H1, I1, r1, q1⟩;rw [h1];exact cm (hg pins s1 σ H1 x v _ I1 r1 q1) λ_ s2 q => q
theorem df {i : Nat}{x : Str}{e : Expr}{te : TE}{pos' : Pos}(hN : X.N.Nodup)(hi : X.N[i]? = some x)(hx : Loc X.env.scope x)(he : PE X e te)(hs :autoParam (swapsWith e (some (.Name x pos')) pos.line X.env = pure false) aZa._auto_1)(hf :autoParam (X.fn x = true \/ X.env.scope.names.lookup x = some .local) aZd._auto_1) :
    PS X (.Assign [.Name x pos'] e pos) (Bk te (qJ i)) := by
  intro pins s σ H D I h;refine wpAny_Assign_Name (cm (he pins s σ H _ I h) ?_) hs;rintro v s1 ⟨y, H1, I1, r1, q1⟩;exact rC I1 hN hi hx r1 (λs2 I2 => ⟨_, H1, I2, q1⟩) hf
end
section
variable {X : Cx} {pos : Pos}
end
structure It where
  go : Nat -> Hp -> Prop
  ux : Nat -> Hp -> V -> Hp -> Prop
  stop : Nat -> Hp -> Prop
noncomputable def jw (X : Cx)(pins : List (Addr × Obj))(H : Hp)(b : Addr):Prop :=
  H b = none /\ b ≠ X.env.locals /\ b ∉ X.fs /\ (b ∈ X.ex \/ X.s₀.heap.objs.size <= b) /\ (∀ x c, X.env.cells.lookup x = some c -> c ≠ b) /\ ∀ p ∈ X.pn ++ pins, p.1 ≠ b
theorem Inv.wz {X : Cx}{pins : List (Addr × Obj)}{σ : St}{H H' : Hp}{s : Shared}{b : Addr}(I : Inv X pins σ H s)(hb : s.heap.objs.size <= b)(hn : H' b = none):jw X pins H' b := by
  refine ⟨hn, Nat.ne_of_gt (Nat.lt_of_lt_of_le I.lt hb), I.DP hb, .inr (Nat.le_trans I.sz hb), λx c e z => ?_, λp hp z => ?_⟩
  · obtain ⟨v, q⟩ := I.cell x c e;exact absurd (Nat.lt_of_lt_of_le q.lt (by rw [z];exact hb)) (Nat.lt_irrefl _)
  · exact absurd (Nat.lt_of_lt_of_le (Heap.lt_size (I.pin p hp).1) (by rw [z];exact hb)) (Nat.lt_irrefl _)
structure Turn (P : Program)(w : World)(K : Frag)(tg : Expr)(J : It)(fp : List Addr)(it : Addr)(tn : Nat -> Heap -> Prop):Prop where
  mem : it ∈ fp
  obj : ∀ i h, tn i h -> ∀ b ∈ fp, ∃ o, h.get? b = some o /\ ∀ v, o.data ≠ .cell v
  keep : ∀ i h h', tn i h -> (∀ b ∈ fp, ∀ o, h.get? b = some o -> h'.get? b = some o) -> tn i h'
  item : ∀ (X : Cx), X.prog = P -> X.w = w -> X.K = K -> X.calm = true -> ∀ (i : Nat) (pins : List (Addr × Obj)) (s : Shared) (σ : St) (H : Hp) (E : Value -> Shared -> Prop), Inv X pins σ H s -> (∀ b ∈ fp, jw X pins H b) -> tn i s.heap -> J.go i H ->
    wpAny (model P w) X.A (pyNext (.ref it)) (λr s1 => ∃ u, r = some u /\
      wpAny (model P w) X.A (letOwnedTupleGo tg (.ref it) u) (λ_ s2 => ∃ x H', Inv X pins σ H' s2 /\ RelV x u /\ J.ux i H x H' /\ tn (i + 1) s2.heap /\ ∀ b ∈ fp, H' b = none) E s1) E s
  done : ∀ (X : Cx), X.prog = P -> X.w = w -> X.K = K -> X.calm = true -> ∀ (i : Nat) (pins : List (Addr × Obj)) (s : Shared) (σ : St) (H : Hp) (E : Value -> Shared -> Prop), Inv X pins σ H s -> (∀ b ∈ fp, jw X pins H b) -> tn i s.heap -> J.stop i H ->
    wpAny (model P w) X.A (pyNext (.ref it)) (λr s1 => r = none /\ Inv X pins σ H s1) E s
  self : ∀ (A : Around) (i : Nat) (s : Shared) (Q : Value -> Shared -> Prop) (E : Value -> Shared -> Prop), tn i s.heap -> Q (.ref it) s -> wpAny (model P w) A (pyIter (.ref it)) Q E s
noncomputable abbrev TI := St -> Hp -> (It -> Hp -> Prop) -> Prop
noncomputable def El (X : Cx)(pins : List (Addr × Obj))(σ : St)(tg : Expr)(R : It -> Hp -> Prop)(itv : Value)(s2 : Shared):Prop :=
  ∃ (it : Addr) (fp : List Addr) (tn : Nat -> Heap -> Prop) (J : It) (H' : Hp), itv = .ref it /\ Inv X pins σ H' s2 /\ Turn X.prog X.w X.K tg J fp it tn /\ tn 0 s2.heap /\ (∀ b ∈ fp, jw X pins H' b) /\ R J H'
noncomputable def PI (X : Cx)(tg iter : Expr)(wi : TI):Prop :=
  ∀ (pins : List (Addr × Obj)) (s : Shared) (σ : St) (H : Hp) (R : It -> Hp -> Prop), Inv X pins σ H s -> wi σ H R ->
    wpAny (model X.prog X.w) X.A (eval iter X.env) (λv s1 => wpAny (model X.prog X.w) X.A (pyIter v) (El X pins σ tg R) X.xe s1) X.xe s
theorem zK {M : Model}{A : Around}{E : Value -> Shared -> Prop}{s : Shared}{tg : Expr}{it : Addr}{u : Value}{o : Obj}{n : String}{vs : Array Value}{Q : Unit -> Shared -> Prop}(ho : s.heap.get? it = some o)(hc : o.cls = .type n)(hd : o.data = .fields vs)
    (hn : ["enumerate", "zip", "dict_itemiterator", "dict_reverseitemiterator", "odict_iterator", "itertools.zip_longest", "itertools.pairwise"].contains n = false) (hQ : Q () s):wpAny M A (letOwnedTupleGo tg (.ref it) u) Q E s := by
  unfold letOwnedTupleGo;cases tg <;> first
    | exact wpAny_pure hQ
    | (cases u <;> first
        | exact wpAny_pure hQ
        | (refine wpAny_bind (wpAny_load ho ?_)
           rw [hc, hd];show wpAny M A (if (["enumerate", "zip", "dict_itemiterator", "dict_reverseitemiterator", "odict_iterator", "itertools.zip_longest", "itertools.pairwise"].contains n && vs[0]? == some (rawInt _)) = true then _ else _) Q E s;rw [if_neg (by intro h;rw [hn, Bool.false_and] at h;cases h)];exact wpAny_pure hQ))
noncomputable def Dk (K : Frag)(a : Addr):It :=
  ⟨λi H => ∃ xs x, dD K H a xs /\ xs[i]? = some x, λi H x H' => H' = H /\ ∀ xs, dD K H a xs -> xs[i]? = some x, λi H => ∃ xs, dD K H a xs /\ xs.length <= i⟩
noncomputable def C1 (lo : Int)(n : Nat):It := ⟨λi _ => i < n, λi H x H' => H' = H /\ x = .int (lo + i), λi _ => n <= i⟩
theorem vp {P : Program}{w : World}{K : Frag}{tg : Expr}(a it : Addr):Turn P w K tg (Dk K a) [it] it (λi h => h.IsListIter it a i) where
  mem := by simp
  obj := λi h st b hb => by
    have e : b = it := by simpa using hb
    subst e;obtain ⟨o, e, c, d⟩ := st;exact ⟨o, e, λv z => by rw [d] at z;cases z⟩
  keep := λi h h' st k => st.at λo e => k it (by simp) o e
  item := by
    intro X hP hw hK hc i pins s σ H E I hf st hg;subst hP hw hK;obtain ⟨xs, x, hq, hx⟩ := hg;obtain ⟨its, rv, p, hz⟩ := I.list hq;obtain ⟨u, hu, ru⟩ := rv.get hx;obtain ⟨f0, f1, f2, f3, f4, f5⟩ := hf it (by simp);refine wpAny_pyNext_list_item st p.isList (x := u) (by simpa using hu) λh' st' sb => ?_;have I1 : Inv X pins σ H { s with heap := h' } := I.turned (t' := s.toks) (λb o hb e => (sb.2 b hb).trans e) f0 f1 f3 f4 f5;obtain ⟨o, e, c, d⟩ := id st';exact ⟨u, rfl, zK (s := { s with heap := h' }) e c d (by decide) ⟨x, H, I1, ru, ⟨rfl, λys hy => by rw [I.wK hy hq];exact hx⟩, st', λb hb => (hf b hb).1⟩⟩
  done := by
    intro X hP hw hK hc i pins s σ H E I hf st hg;subst hP hw hK;obtain ⟨xs, hq, hx⟩ := hg;obtain ⟨its, rv, p, hz⟩ := I.list hq;obtain ⟨f0, f1, f2, f3, f4, f5⟩ := hf it (by simp);have hl := rv.length;exact wpAny_pyNext_list_end (I.ok.hd hc) st p.isList (by simp;lia) λh' eb => ⟨rfl, I.turned (t' := s.toks) (λb o hb e => eb b o hb e) f0 f1 f3 f4 f5⟩
  self := λ_ _ _ _ _ st h => wpAny_pyIter_listiter st h
theorem sL {P : Program}{w : World}{K : Frag}{tg : Expr}(it : Addr)(lo : Int)(n : Nat):Turn P w K tg (C1 lo n) [it] it (λi h => IsRangeIter h it (lo + (i : Nat) * 1) ((n : Int) - (i : Nat)) 1) where
  mem := by simp
  obj := λi h st b hb => by
    have e : b = it := by simpa using hb
    subst e;exact ⟨_, st, λv z => by
      have z' : Data.fields _ = Data.cell v := z;cases z'⟩
  keep := λi h h' st k => k it (by simp) _ st
  item := by
    intro X hP hw hK hc i pins s σ H E I hf st hg;subst hP hw hK;obtain ⟨f0, f1, f2, f3, f4, f5⟩ := hf it (by simp);have W := Walks.range (prog := X.prog) (w := X.w) (I.ok.hd hc) it lo 1 n;refine W.item i s _ _ hg st λv h' tk hv st' kk => ?_;obtain ⟨t, rfl⟩ := hv;have I1 : Inv X pins σ H { s with heap := h', toks := tk } := I.turned (λb o hb e => kk b o (by simpa using hb) e) f0 f1 f3 f4 f5;refine ⟨_, rfl, zK (s := { s with heap := h', toks := tk }) (n := "range_iterator") st' rfl rfl (by decide) ⟨.int (lo + i), H, I1, ⟨t, ?_⟩, ⟨rfl, rfl⟩, st', λb hb => (hf b hb).1⟩⟩;rw [Int.mul_one]
  done := by
    intro X hP hw hK hc i pins s σ H E I hf st hg;subst hP hw hK;obtain ⟨f0, f1, f2, f3, f4, f5⟩ := hf it (by simp);exact wpAny_pyNext_range_end (I.ok.hd hc) st (by have : n <= i := hg;lia) λh' eb => ⟨rfl, I.turned (t' := s.toks) (λb o hb e => eb b o hb e) f0 f1 f3 f4 f5⟩
  self := λ_ _ _ _ _ st h => wpAny_pyIter_rangeiter st h
end L2
namespace L2
open PySem PySem.Spec PyProof.Rows
section
variable {X : Cx} {tg : Expr}
noncomputable def B3 (K : Frag)(tl : TE):TI := λσ H R => tl σ H λx H1 => ∃ a, x = .ref a /\ (∃ xs, dD K H1 a xs) /\ R (Dk K a) H1
theorem zd {l : Expr}{tl : TE}(hl : PE X l tl):PI X tg l (B3 X.K tl) := by
  intro pins s σ H R I h;refine cm (hl pins s σ H _ I h) ?_;rintro v s1 ⟨x, H1, I1, r1, q1⟩;obtain ⟨a, e, ⟨xs, hq⟩, q⟩ := q1;subst e;cases r1;obtain ⟨its, rv, p, hz⟩ := I1.list hq;refine wpAny_pyIter_list p.isList ?_;refine ⟨s1.heap.objs.size, [s1.heap.objs.size], _, _, H1, rfl, I1.kept (t' := s1.toks) λb o e => Heap.get?_push_of_some _ e, vp a _, ⟨_, Heap.get?_push_size _ rfl, rfl, rfl⟩, λb hb => ?_, q⟩;have e : b = s1.heap.objs.size := by simpa using hb
  subst e;exact I1.wz (Nat.le_refl _) (I1.aX.fresh (Nat.le_refl _))
theorem xF {pins : List (Addr × Obj)}{σ : St}{H : Hp}{s : Shared}{R : It -> Hp -> Prop}{E : Value -> Shared -> Prop}{lo hi : Int}{t u v : Tok}{tk : Nat}(I : Inv X pins σ H s)(h1 : -(2 ^ 62) <= lo)(h2 : lo < 2 ^ 62)(h3 : -(2 ^ 62) <= hi)(h4 : hi < 2 ^ 62)
    (q : R (C1 lo (hi - lo).toNat) H):wpAny (model X.prog X.w) X.A (pyIter (.ref s.heap.objs.size)) (El X pins σ tg R) E { s with heap := s.heap.push { cls := .type "range", data := .fields #[.int lo t, .int hi u, .int 1 v] }, toks := tk } := by
  refine wpAny_pyIter_range (IsRange.new ..) (small_one h1 h2 h3 h4) ?_;have I1 : Inv X pins σ H { s with heap := s.heap.push { cls := .type "range", data := .fields #[.int lo t, .int hi u, .int 1 v] }, toks := tk } := I.kept λb o e => Heap.get?_push_of_some _ e;refine ⟨(s.heap.push { cls := .type "range", data := .fields #[.int lo t, .int hi u, .int 1 v] }).objs.size, [(s.heap.push { cls := .type "range", data := .fields #[.int lo t, .int hi u, .int 1 v] }).objs.size], _, _, H, rfl,
    I1.kept (t' := tk) λb o e => Heap.get?_push_of_some _ e, sL _ lo (hi - lo).toNat, ?_, λb hb => ?_, q⟩
  · have e1 : lo + ((0 : Nat):Int) * 1 = lo := by simp
    have e2 : (((hi - lo).toNat : Nat):Int) - ((0 : Nat):Int) = Builtin.Range.rangeSize lo hi 1 := by rw [rangeSize_one];split <;> lia
    show IsRangeIter _ _ (lo + ((0 : Nat):Int) * 1) ((((hi - lo).toNat : Nat):Int) - ((0 : Nat):Int)) 1;rw [e1, e2];exact Heap.get?_push_size _ rfl
  · have e : b = (s.heap.push { cls := .type "range", data := .fields #[.int lo t, .int hi u, .int 1 v] }).objs.size := by simpa using hb
    subst e;exact I1.wz (Nat.le_refl _) (I1.aX.fresh (Nat.le_refl _))
noncomputable def B4 (ta : TA):TI := λσ H R => ta σ H λvs H1 => ∃ j : Int, vs = [.int j] /\ -(2 ^ 62) <= j /\ j < 2 ^ 62 /\ R (C1 0 j.toNat) H1
theorem vg {a : Expr}{ta : TA}{p pos : Pos}(hg : Gl X "range")(hm : X.mg "range" = none)(ha : PA X [a] ta)(hs :autoParam (starEach [a] X.env = [(false, eval a X.env)]) aZa._auto_1):PI X tg (.Call (.Name "range" p) [a] [] pos) (B4 ta) := by
  intro pins s σ H R I h;refine Call_ (mi I hg hm boot_range (PyProof.Rows.callWith_type1 (cm (ha pos pins s σ H _ I h) ?_) hs rfl));rintro us s1 ⟨vs, H1, I1, r1, q1⟩;obtain ⟨j, e, q1, q2, q⟩ := q1;subst e;cases r1 with
  | cons r rr =>
    cases rr;obtain ⟨t, rfl⟩ := r;exact call_range_1 (xF I1 (by lia) (by lia) q1 q2 (by simpa using q))
noncomputable def Eb (wi : TI)(g : TG)(tb : TS):TS := λD σ H => wi σ H λJ H1 => ∃ W : Nat -> Nat -> St -> Hp -> Prop, (∃ m, W 0 m σ H1) /\ ∀ i m σ H, W i m σ H ->
  (J.stop i H /\ D.nx σ H) \/ (J.go i H /\ ∃ N : St -> Hp -> Prop, (∀ σ' H', N σ' H' -> ∃ m', m' < m /\ W (i + 1) m' σ' H') /\ ∀ x H', J.ux i H x H' -> g x σ H' λσ2 H2 => tb { D with nx := N, ct := N, bk := D.nx } σ2 H2)
noncomputable def my (fp : List Addr)(h : Heap):List (Addr × Obj) := fp.filterMap λb => (h.get? b).map λo => (b, o)
theorem gU {fp : List Addr}{h : Heap}{b : Addr}{o : Obj}(hb : b ∈ fp)(e : h.get? b = some o):(b, o) ∈ my fp h := List.mem_filterMap.mpr ⟨b, hb, by rw [e];rfl⟩
theorem vf {fp : List Addr}{h : Heap}{p : Addr × Obj}(hp : p ∈ my fp h):p.1 ∈ fp /\ h.get? p.1 = some p.2 := by
  obtain ⟨b, hb, e⟩ := List.mem_filterMap.mp hp;cases q : h.get? b with
  | none => rw [q] at e;cases e
  | some o =>
    rw [q] at e;have e' : (b, o) = p := Option.some.inj e;subst e';exact ⟨hb, q⟩
theorem Inv.pinned {pins : List (Addr × Obj)}{σ : St}{H : Hp}{s : Shared}{fp : List Addr}(I : Inv X pins σ H s)(hf : ∀ b ∈ fp, jw X pins H b)(ho : ∀ b ∈ fp, ∃ o, s.heap.get? b = some o /\ ∀ v, o.data ≠ .cell v):Inv X (pins ++ my fp s.heap) σ H s :=
  I.ud λp hp => (mem_append.mp hp).elim (λz => I.pin p (mem_append_right _ z)) λz => by
    obtain ⟨hb, e⟩ := vf z;obtain ⟨f0, f1, f2, _⟩ := hf p.1 hb;obtain ⟨o, e', d⟩ := ho p.1 hb;rw [e] at e';cases e';exact ⟨e, f0, f1, f2, d⟩
theorem Inv.jY {pins pl : List (Addr × Obj)}{σ : St}{H : Hp}{s : Shared}(I : Inv X (pins ++ pl) σ H s):Inv X pins σ H s := I.ud λp hp => I.pin p (mem_append_right _ (mem_append_left _ hp))
theorem xr {iter : Expr}{body : List Stmt}{wi : TI}{g : TG}{tb : TS}{pos : Pos}(hp : PassesOwn (model X.prog X.w) X.A X.env X.xe)(hc : X.calm = true)(hi : PI X tg iter wi)(hg : PG X tg g)(hb : lF X body tb)
    (hs :autoParam (∀ x, foldedSetIterable iter X.env x = pure x) aZc._auto_1):PS X (.For tg iter body [] pos) (Eb wi g tb) := by
  intro pins s σ H D I h;refine wpAny_For (cm (hi pins s σ H _ I h) λv s1 h1 => cm h1 λitv s2 h2 => ?_) hs;obtain ⟨it, fp, tn, J, H2, e, I2, T, st2, f2, W, ⟨m0, w0⟩, turn⟩ := h2;subst e;have stat : ∀ {H' : Hp}, (∀ b ∈ fp, H' b = none) -> ∀ b ∈ fp, jw X pins H' b := λhn b hb => ⟨hn b hb, (f2 b hb).2⟩
  refine codeAny_forLoop_any (λn s' => ∃ i σ' H', Inv X pins σ' H' s' /\ tn i s'.heap /\ (∀ b ∈ fp, H' b = none) /\ W i n σ' H') ?_ m0 ⟨0, σ, H2, I2, st2, λb hb => (f2 b hb).1, w0⟩;rintro n s3 ⟨i, σ3, H3, I3, st3, fr3, w3⟩;rcases turn i n σ3 H3 w3 with ⟨stop, qn⟩ | ⟨go, N, hN, step⟩
  · refine wpAny_passesOwn hp (cm (T.done X rfl rfl rfl hc i pins s3 σ3 H3 X.xe I3 (stat fr3) st3 stop) ?_);rintro r s4 ⟨hr, I4⟩;subst hr;exact wpAny_execs_nil ⟨σ3, H3, I4, qn⟩
  · refine wpAny_passesOwn hp (cm (T.item X rfl rfl rfl hc i pins s3 σ3 H3 X.xe I3 (stat fr3) st3 go) ?_);rintro r s4 ⟨u, hr, h4⟩;subst hr;refine wpAny_passesOwn hp (cm h4 ?_);rintro _ s5 ⟨x, H5, I5, r5, y5, st5, fr5⟩;have I5' := I5.pinned (stat fr5) (T.obj _ _ st5);refine wpAny_passesOwn hp (cm (hg _ s5 σ3 H5 x u _ I5' r5 (step x H5 y5)) ?_);rintro _ s6 ⟨σ6, H6, I6, q6⟩;refine wpAny_passesOwn hp (cm (hb _ s6 σ6 H6 _ I6 q6) λf s7 q7 => ?_);have again : ∀ {σ7 : St} {H7 : Hp}, Inv X (pins ++ my fp s5.heap) σ7 H7 s7 -> N σ7 H7 -> ∃ m, m < n /\ ∃ i σ' H', Inv X pins σ' H' s7 /\ tn i s7.heap /\ (∀ b ∈ fp, H' b = none) /\ W i m σ' H' := λ{σ7 H7} I7 n7 => by
      obtain ⟨m', hm, w7⟩ := hN σ7 H7 n7;refine ⟨m', hm, i + 1, σ7, H7, I7.jY, T.keep _ _ _ st5 λb hb o e => (I7.pin (b, o) (mem_append_right _ (mem_append_right _ (gU hb e)))).1, λb hb => ?_, w7⟩;obtain ⟨o, e, d⟩ := T.obj _ _ st5 b hb;exact (I7.pin (b, o) (mem_append_right _ (mem_append_right _ (gU hb e)))).2.1
    cases f with
    | next => obtain ⟨σ7, H7, I7, n7⟩ := q7;exact again I7 n7
    | cont => obtain ⟨σ7, H7, I7, n7⟩ := q7;exact again I7 n7
    | brk => obtain ⟨σ7, H7, I7, q7⟩ := q7;exact ⟨σ7, H7, I7.jY, q7⟩
    | ret v => obtain ⟨x7, σ7, H7, I7, r7, q7⟩ := q7;exact ⟨x7, σ7, H7, I7.jY, r7, q7⟩
end
end L2
namespace L2
open PySem PySem.Spec PyProof.Rows
noncomputable abbrev R2 := V -> V -> Hp -> VK -> Prop
noncomputable def i9 (X : Cx)(f : Value -> Value -> Sem Value)(r : R2):Prop :=
  ∀ (pins : List (Addr × Obj)) (s : Shared) (σ : St) (H : Hp) (x y : V) (v u : Value) (Q : VK), Inv X pins σ H s -> RelV x v -> RelV y u -> r x y H Q ->
    wpAny (model X.prog X.w) X.A (f v u) (EP X pins σ Q) X.xe s
noncomputable def Dq (X : Cx)(f : Value -> Sem Value)(r : V -> Hp -> VK -> Prop):Prop :=
  ∀ (pins : List (Addr × Obj)) (s : Shared) (σ : St) (H : Hp) (x : V) (v : Value) (Q : VK), Inv X pins σ H s -> RelV x v -> r x H Q ->
    wpAny (model X.prog X.w) X.A (f v) (EP X pins σ Q) X.xe s
noncomputable def fI (X : Cx)(f : Value)(r : List V -> Hp -> VK -> Prop):Prop :=
  ∀ (pins : List (Addr × Obj)) (s : Shared) (σ : St) (H : Hp) (xs : List V) (us : List Value) (Q : VK), Inv X pins σ H s -> Vals xs us -> r xs H Q ->
    wpAny (model X.prog X.w) X.A (call f us) (EP X pins σ Q) X.xe s
noncomputable def Dm (X : Cx)(r : V -> Hp -> (Bool -> Hp -> Prop) -> Prop):Prop :=
  ∀ (pins : List (Addr × Obj)) (s : Shared) (σ : St) (H : Hp) (x : V) (v : Value) (Q : Bool -> Hp -> Prop), Inv X pins σ H s -> RelV x v -> r x H Q ->
    wpAny (model X.prog X.w) X.A (truthy v) (TP X pins σ Q) X.xe s
noncomputable def CT (r : R2)(ta tb : TE):TE := λσ H Q => ta σ H λx H1 => tb σ H1 λy H2 => r x y H2 Q
noncomputable def EC (r : V -> Hp -> VK -> Prop)(ta : TE):TE := λσ H Q => ta σ H λx H1 => r x H1 Q
noncomputable def rI (C : Int -> Int -> Prop)(g : Int -> Int -> V):R2 := λx y H Q => ∃ i j, x = .int i /\ y = .int j /\ C i j /\ Q (g i j) H
noncomputable def zj (g : Int -> Int -> V):R2 := λx y H Q => ∃ i j, x = .int i /\ y = .int j /\ Q (g i j) H
noncomputable def rU (g : Int -> V):V -> Hp -> VK -> Prop := λx H Q => ∃ i, x = .int i /\ Q (g i) H
section
variable {X : Cx} {a b c : Expr} {ta tb tc : TE} {pos : Pos}
theorem Aj (ha : PE X a ta)(hb : PE X b tb){pins : List (Addr × Obj)}{s : Shared}{σ : St}{H : Hp}{R : V -> V -> Hp -> Prop}(I : Inv X pins σ H s)
    (h : ta σ H λx H1 => tb σ H1 λy H2 => R x y H2) {Q : Value -> Shared -> Prop} {f : Value -> Value -> Sem Value}
    (hf : ∀ v u s2 x y H2, Inv X pins σ H2 s2 -> RelV x v -> RelV y u -> R x y H2 -> wpAny (model X.prog X.w) X.A (f v u) Q X.xe s2) :
    wpAny (model X.prog X.w) X.A (eval a X.env) (λv s₁ => wpAny (model X.prog X.w) X.A (eval b X.env) (λu s₂ => wpAny (model X.prog X.w) X.A (f v u) Q X.xe s₂) X.xe s₁) X.xe s := by
  refine cm (ha pins s σ H _ I h) ?_;rintro v s1 ⟨x, H1, I1, r1, q1⟩;refine cm (hb pins s1 σ H1 _ I1 q1) ?_;rintro u s2 ⟨y, H2, I2, r2, q2⟩;exact hf v u s2 x y H2 I2 r1 r2 q2
theorem zV {op : Operator}{r : R2}(ho : i9 X (binaryOp op) r)(ha : PE X a ta)(hb : PE X b tb):PE X (.BinOp a op b pos) (CT r ta tb) := by
  intro pins s σ H Q I h;exact wpAny_BinOp (Aj ha hb I h λv u s2 x y H2 I2 rx ry q => ho pins s2 σ H2 x y v u Q I2 rx ry q)
theorem Cn {op : UnaryOp}{r : V -> Hp -> VK -> Prop}(ho : Dq X (unaryOp op) r)(ha : PE X a ta):PE X (.UnaryOp op a pos) (EC r ta) := by
  intro pins s σ H Q I h;exact UnaryOp_ (cm (ha pins s σ H _ I h) (by rintro v s1 ⟨x, H1, I1, r1, q1⟩;exact ho pins s1 σ H1 x v Q I1 r1 q1))
theorem Dd {f : Value -> Value -> Sem Value}{C : Int -> Int -> Prop}{g : Int -> Int -> Int}
    (rule : ∀ (i j : Int) (t u : Tok) (s : Shared) (Q : Value -> Shared -> Prop) (E : Value -> Shared -> Prop), C i j -> Q (.int (g i j) s.toks) { s with toks := s.toks + 1 } -> wpAny (model X.prog X.w) X.A (f (.int i t) (.int j u)) Q E s) :
    i9 X f (rI C λi j => .int (g i j)) := by
  intro pins s σ H x y v u Q I rx ry h;obtain ⟨i, j, rfl, rfl, hc, q⟩ := h;obtain ⟨t, rfl⟩ := rx;obtain ⟨t', rfl⟩ := ry;exact rule i j t t' s _ _ hc ⟨.int (g i j), H, I.tok _, ⟨_, rfl⟩, q⟩
theorem Ce {f : Value -> Value -> Sem Value}{g : Int -> Int -> Int}
    (rule : ∀ (i j : Int) (t u : Tok) (s : Shared) (Q : Value -> Shared -> Prop) (E : Value -> Shared -> Prop), Q (.int (g i j) s.toks) { s with toks := s.toks + 1 } -> wpAny (model X.prog X.w) X.A (f (.int i t) (.int j u)) Q E s) :
    i9 X f (zj λi j => .int (g i j)) := by
  intro pins s σ H x y v u Q I rx ry h;obtain ⟨i, j, rfl, rfl, q⟩ := h;obtain ⟨t, rfl⟩ := rx;obtain ⟨t', rfl⟩ := ry;exact rule i j t t' s _ _ ⟨.int (g i j), H, I.tok _, ⟨_, rfl⟩, q⟩
theorem yU {f : Value -> Value -> Sem Value}{g : Int -> Int -> Bool}
    (rule : ∀ (i j : Int) (t u : Tok) (s : Shared) (Q : Value -> Shared -> Prop) (E : Value -> Shared -> Prop), Q (.bool (g i j)) s -> wpAny (model X.prog X.w) X.A (f (.int i t) (.int j u)) Q E s) :
    i9 X f (zj λi j => .bl (g i j)) := by
  intro pins s σ H x y v u Q I rx ry h;obtain ⟨i, j, rfl, rfl, q⟩ := h;obtain ⟨t, rfl⟩ := rx;obtain ⟨t', rfl⟩ := ry;exact rule i j t t' s _ _ ⟨.bl (g i j), H, I, rfl, q⟩
noncomputable def BB (i j : Int):Prop := 0 < j /\ j < 1073741824
noncomputable def Aa (i j : Int):Prop := 0 <= j /\ j <= 1000000 /\ i.natAbs < 2 ^ 64
noncomputable def pY (i j : Int):Prop := (-(2 ^ 64) < i /\ i < 2 ^ 64) \/ (-(2 ^ 64) < j /\ j < 2 ^ 64)
theorem pY.ok {i j : Int}(h : pY i j):IntMulOk i j := by
  rcases h with ⟨h1, h2⟩ | ⟨h1, h2⟩
  · exact .of_left (intBits_le_64 h1 h2)
  · exact .of_right (intBits_le_64 h1 h2)
theorem wY : i9 X (binaryOp .Add) (zj λi j => .int (i + j)) := Ce λ_ _ _ _ _ _ _ q => add_int q
theorem AZ : i9 X (binaryOp .Sub) (zj λi j => .int (i - j)) := Ce λ_ _ _ _ _ _ _ q => sub_int q
theorem AV : i9 X (binaryOp .Mult) (rI pY λi j => .int (i * j)) := Dd λ_ _ _ _ _ _ _ hc q => mul_int q hc.ok
theorem yW : i9 X (binaryOp .FloorDiv) (rI BB λi j => .int (i / j)) := Dd λi j _ _ _ _ _ hc q => by
  have h1 : (0 : Int) < j := hc.1;have h2 : j < 1073741824 := hc.2;exact floordiv_int (by lia) (by rw [Int.fdiv_eq_ediv_of_nonneg i (by lia)];exact q) (.inl (PyProof.noPylong_small (by lia)))
theorem AU : i9 X (binaryOp .Mod) (rI (λ_ j => 0 < j) λi j => .int (i % j)) := Dd λi j _ _ _ _ _ hc q => by
  have h1 : (0 : Int) < j := hc;exact mod_int' (by lia) (by rw [Int.fmod_eq_emod_of_nonneg i (by lia)];exact q)
theorem AX : i9 X (binaryOp .Pow) (rI Aa λi j => .int (i ^ j.toNat)) := Dd λ_ _ _ _ _ _ _ hc q => pow_int_small hc.1 hc.2.1 hc.2.2 q
theorem EE {f : Value -> Sem Value}{g : Int -> Int}
    (rule : ∀ (i : Int) (t : Tok) (s : Shared) (Q : Value -> Shared -> Prop) (E : Value -> Shared -> Prop), Q (.int (g i) s.toks) { s with toks := s.toks + 1 } -> wpAny (model X.prog X.w) X.A (f (.int i t)) Q E s) :
    Dq X f (rU λi => .int (g i)) := by
  intro pins s σ H x v Q I rx h;obtain ⟨i, rfl, q⟩ := h;obtain ⟨t, rfl⟩ := rx;exact rule i t s _ _ ⟨.int (g i), H, I.tok _, ⟨_, rfl⟩, q⟩
theorem Br : Dq X (unaryOp .USub) (rU λi => .int (-i)) := EE λ_ _ _ _ _ q => neg_int q
end
noncomputable def CD : V -> V -> Bool
  | .non, .non => true | .non, .int _ => true | .int _, .non => true | .non, .bl _ => true | .bl _, .non => true | .non, .str _ => true | .str _, .non => true
  | .int _, .int _ => true | .bl _, .bl _ => true | .str _, .str _ => true | .byt _, .byt _ => true
  | .int _, .str _ => true | .str _, .int _ => true | .bl _, .str _ => true | .str _, .bl _ => true
  | _, _ => false
noncomputable def Ey : R2 := λx y H Q => CD x y = true /\ Q (.bl (decide (x = y))) H
noncomputable def Ez : R2 := λx y H Q => CD x y = true /\ Q (.bl (!decide (x = y))) H
theorem tE {i j : Int}:decide (V.int i = V.int j) = (i == j) := by
  rw [Bool.eq_iff_iff];simp
theorem vZ {i j : Bool}:decide (V.bl i = V.bl j) = (i == j) := by
  rw [Bool.eq_iff_iff];simp
theorem tF {i j : Str}:decide (V.str i = V.str j) = (i == j) := by
  rw [Bool.eq_iff_iff];simp
theorem tD {i j : Array UInt8}:decide (V.byt i = V.byt j) = (i.toList == j.toList) := by
  rw [Bool.eq_iff_iff];cases i;cases j;simp
section
variable {X : Cx} {a b c : Expr} {ta tb tc : TE} {pos : Pos}
theorem aV {pins : List (Addr × Obj)}{σ : St}{H : Hp}{s : Shared}{Q : VK}{k k' : Bool}(I : Inv X pins σ H s)(q : Q (.bl k) H)(e : k = k'):EP X pins σ Q (.bool k') s := by
  subst e;exact ⟨.bl k, H, I, rfl, q⟩
theorem jd : i9 X (compareOp .Eq) Ey := by
  intro pins s σ H x y v u Q I rx ry h;obtain ⟨hs, q⟩ := h;cases x with
  | non =>
    cases rx;cases y with
    | non => cases ry;exact PySem.EqNone.eq_none_none (aV I q (by simp))
    | bl j => cases ry;exact PySem.EqNone.eq_none_bool (aV I q (by simp))
    | int j => obtain ⟨t', rfl⟩ := ry;exact PySem.EqNone.eq_none_int (aV I q (by simp))
    | str j => obtain ⟨t', rfl⟩ := ry;exact PySem.EqNone.eq_none_str (aV I q (by simp))
    | _ => exact absurd (show false = true from hs) Bool.false_ne_true
  | bl i =>
    cases rx;cases y with
    | non => cases ry;exact PySem.EqNone.eq_bool_none (aV I q (by simp))
    | bl j => cases ry;exact eq_bool (aV I q vZ)
    | str j => obtain ⟨t', rfl⟩ := ry;exact PySem.EqMixed.eq_bool_str (aV I q (by simp))
    | _ => exact absurd (show false = true from hs) Bool.false_ne_true
  | int i =>
    obtain ⟨t, rfl⟩ := rx;cases y with
    | non => cases ry;exact PySem.EqNone.eq_int_none (aV I q (by simp))
    | int j => obtain ⟨t', rfl⟩ := ry;exact eq_int (aV I q tE)
    | str j => obtain ⟨t', rfl⟩ := ry;exact PySem.EqMixed.eq_int_str (aV I q (by simp))
    | _ => exact absurd (show false = true from hs) Bool.false_ne_true
  | str i =>
    obtain ⟨t, rfl⟩ := rx;cases y with
    | non => cases ry;exact PySem.EqNone.eq_str_none (aV I q (by simp))
    | bl j => cases ry;exact PySem.EqMixed.eq_str_bool (aV I q (by simp))
    | int j => obtain ⟨t', rfl⟩ := ry;exact PySem.EqMixed.eq_str_int (aV I q (by simp))
    | str j => obtain ⟨t', rfl⟩ := ry;exact eq_str (aV I q tF)
    | _ => exact absurd (show false = true from hs) Bool.false_ne_true
  | byt i =>
    obtain ⟨t, rfl⟩ := rx;cases y with
    | byt j => obtain ⟨t', rfl⟩ := ry;exact PySem.W.eq_bytes (aV I q tD)
    | _ => exact absurd (show false = true from hs) Bool.false_ne_true
  | _ => cases y <;> exact absurd (show false = true from hs) Bool.false_ne_true
theorem Cj : i9 X (compareOp .NotEq) Ez := by
  intro pins s σ H x y v u Q I rx ry h;obtain ⟨hs, q⟩ := h;cases x with
  | non =>
    cases rx;cases y with
    | non => cases ry;exact PySem.EqNone.ne_none_none (aV I q (by simp))
    | bl j => cases ry;exact PySem.EqNone.ne_none_bool (aV I q (by simp))
    | int j => obtain ⟨t', rfl⟩ := ry;exact PySem.EqNone.ne_none_int (aV I q (by simp))
    | str j => obtain ⟨t', rfl⟩ := ry;exact PySem.EqNone.ne_none_str (aV I q (by simp))
    | _ => exact absurd (show false = true from hs) Bool.false_ne_true
  | bl i =>
    cases rx;cases y with
    | non => cases ry;exact PySem.EqNone.ne_bool_none (aV I q (by simp))
    | bl j => cases ry;exact ne_bool (aV I q (congrArg not vZ))
    | str j => obtain ⟨t', rfl⟩ := ry;exact PySem.EqMixed.ne_bool_str (aV I q (by simp))
    | _ => exact absurd (show false = true from hs) Bool.false_ne_true
  | int i =>
    obtain ⟨t, rfl⟩ := rx;cases y with
    | non => cases ry;exact PySem.EqNone.ne_int_none (aV I q (by simp))
    | int j => obtain ⟨t', rfl⟩ := ry;exact ne_int (aV I q (congrArg not tE))
    | str j => obtain ⟨t', rfl⟩ := ry;exact PySem.EqMixed.ne_int_str (aV I q (by simp))
    | _ => exact absurd (show false = true from hs) Bool.false_ne_true
  | str i =>
    obtain ⟨t, rfl⟩ := rx;cases y with
    | non => cases ry;exact PySem.EqNone.ne_str_none (aV I q (by simp))
    | bl j => cases ry;exact PySem.EqMixed.ne_str_bool (aV I q (by simp))
    | int j => obtain ⟨t', rfl⟩ := ry;exact PySem.EqMixed.ne_str_int (aV I q (by simp))
    | str j => obtain ⟨t', rfl⟩ := ry;exact ne_str (aV I q (congrArg not tF))
    | _ => exact absurd (show false = true from hs) Bool.false_ne_true
  | byt i =>
    obtain ⟨t, rfl⟩ := rx;cases y with
    | byt j => obtain ⟨t', rfl⟩ := ry;exact PySem.W.ne_bytes (aV I q (congrArg not tD))
    | _ => exact absurd (show false = true from hs) Bool.false_ne_true
  | _ => cases y <;> exact absurd (show false = true from hs) Bool.false_ne_true
theorem zU : i9 X (compareOp .Lt) (zj λi j => .bl (decide (i < j))) := yU λ_ _ _ _ _ _ _ q => lt_int q
theorem Ci : i9 X (compareOp .LtE) (zj λi j => .bl (decide (i <= j))) := yU λ_ _ _ _ _ _ _ q => le_int q
theorem Cg : i9 X (compareOp .Gt) (zj λi j => .bl (decide (j < i))) := yU λ_ _ _ _ _ _ _ q => gt_int q
theorem Cf : i9 X (compareOp .GtE) (zj λi j => .bl (decide (j <= i))) := yU λ_ _ _ _ _ _ _ q => ge_int q
theorem yX : i9 X (compareOp .IsNot) (λx y H Q => y = .non /\ Q (.bl (!decide (x = .non))) H) := by
  intro pins s σ H x y v u Q I rx ry h;obtain ⟨rfl, q⟩ := h;cases ry;refine isnot_none_gen (aV I q ?_);cases x <;> first
    | (cases rx;rfl)
    | (obtain ⟨t, rfl⟩ := rx;rfl)
theorem i9.or {f : Value -> Value -> Sem Value}{r r' : R2}(h : i9 X f r)(h' : i9 X f r'):i9 X f (λx y H Q => r x y H Q \/ r' x y H Q) := by
  intro pins s σ H x y v u Q I rx ry q;rcases q with q | q
  · exact h pins s σ H x y v u Q I rx ry q
  · exact h' pins s σ H x y v u Q I rx ry q
theorem aQ (b : Expr){op : CmpOp}(h :autoParam (op ≠ .In) aZb._auto_1)(h2 :autoParam (op ≠ .NotIn) aZb._auto_1):behindInMarks op b = false := by
  have e1 : (op == CmpOp.In) = false := by cases op <;> first | rfl | exact absurd rfl h
  have e2 : (op == CmpOp.NotIn) = false := by cases op <;> first | rfl | exact absurd rfl h2
  cases b <;> simp [behindInMarks, e1, e2]
theorem yZ {op : CmpOp}{r : R2}(ho : i9 X (compareOp op) r)(ha : PE X a ta)(hb : PE X b tb)(hm : behindInMarks op b = false):PE X (.Compare a [op] [b] pos) (CT r ta tb) := by
  intro pins s σ H Q I h;exact wpAny_Compare1 (Aj ha hb I h λv u s2 x y H2 I2 rx ry q => ho pins s2 σ H2 x y v u Q I2 rx ry q) hm
noncomputable def CW (t : TE):TT := λσ H Q => t σ H λx H' => ∃ k, x = .bl k /\ Q k H'
theorem eF {op : CmpOp}{r : R2}(ho : i9 X (compareOp op) r)(ha : PE X a ta)(hb : PE X b tb)(hm : behindInMarks op b = false):PT X (.Compare a [op] [b] pos) (CW (CT r ta tb)) := by
  intro pins s σ H Q I h;refine wpAny_isTrue_Compare1 (cm (ha pins s σ H _ I h) λv s1 ⟨x, H1, I1, r1, q1⟩ => cm (hb pins s1 σ H1 _ I1 q1) λu s2 ⟨y, H2, I2, r2, q2⟩ =>
    cm (ho pins s2 σ H2 x y v u _ I2 r1 r2 q2) λc s3 ⟨z, H3, I3, r3, k, e, q3⟩ => ?_) hm
  subst e;cases r3;exact wpAny_truthy_bool ⟨H3, I3, q3⟩
noncomputable def Dp (K : Frag)(x : V)(H : Hp)(k : Bool):Prop :=
  match x with
  | .non => k = false
  | .bl b => k = b
  | .int i => k = (i != 0)
  | .str y => y.length <= sizeLine /\ k = ((y.length : Int) != 0)
  | .byt y => y.size <= sizeLine /\ k = ((y.size : Int) != 0)
  | .ref p => (∃ xs, dD K H p xs /\ k = !xs.isEmpty) \/ (∃ xs, mM K H p xs /\ k = !xs.isEmpty) \/ ∃ kvs, H p = some (.dK kvs) /\ k = !kvs.isEmpty
  | _ => False
theorem r6 {κ : Type}{kvs : List (κ × V)}{vs : List (κ × Value)}(r : KV kvs vs):(!vs.isEmpty) = !kvs.isEmpty := by
  cases r <;> rfl
theorem ma {xs : List V}{its : List Value}(r : Vals xs its):(!its.toArray.isEmpty) = !xs.isEmpty := by
  cases r <;> simp
theorem mj : (sizeLine : Nat) < 2 ^ 63 := by rw [sizeLine_eq];decide
theorem Eg : Dm X (λx H Q => ∃ k, Dp X.K x H k /\ Q k H) := by
  intro pins s σ H x v Q I rx h;obtain ⟨k, e, q⟩ := h;have hl := mj;have hs : sizeLine = 16777216 := sizeLine_eq;cases x with
  | non =>
    cases rx;have e' : k = false := e;subst e';exact truthy_none ⟨H, I, q⟩
  | bl b =>
    cases rx;have e' : k = b := e;subst e';exact wpAny_truthy_bool ⟨H, I, q⟩
  | int i =>
    obtain ⟨t, rfl⟩ := rx;have e' : k = (i != 0) := e;subst e';exact PySem.P.truthy_int ⟨H, I, q⟩
  | str y =>
    obtain ⟨t, rfl⟩ := rx;obtain ⟨hy, e'⟩ : y.length <= sizeLine /\ k = ((y.length : Int) != 0) := e;subst e';exact PySem.P.truthy_str (by lia) ⟨H, I.tok _, q⟩
  | byt y =>
    obtain ⟨t, rfl⟩ := rx;obtain ⟨hy, e'⟩ : y.size <= sizeLine /\ k = ((y.size : Int) != 0) := e;subst e';exact PySem.W.truthy_bytes (by lia) ⟨H, I.tok _, q⟩
  | ref p =>
    cases rx;have e' : (∃ xs, dD X.K H p xs /\ k = !xs.isEmpty) \/ (∃ xs, mM X.K H p xs /\ k = !xs.isEmpty) \/ ∃ kvs, H p = some (.dK kvs) /\ k = !kvs.isEmpty := e;rcases e' with ⟨xs, hx, e'⟩ | ⟨xs, hx, e'⟩ | ⟨kvs, hx, e'⟩
    · subst e';obtain ⟨its, r, pl, hz⟩ := I.list hx;have hlen := r.length;exact wpAny_truthy_list pl.isList (by simp only [size_toArray];lia) ⟨H, I.tok _, by rw [ma r];exact q⟩
    · subst e';obtain ⟨its, r, pl, hz⟩ := I.tuple hx;have hlen := r.length;exact truthy_tuple pl (by simp only [size_toArray];lia) ⟨H, I.tok _, by rw [ma r];exact q⟩
    · subst e';obtain ⟨hz, hS, vs, r, m⟩ : kvs.length <= sizeLine /\ (p == sysModules) = false /\ ∃ vs, KV kvs vs /\ s.heap.DictOf (bc X.prog X.w) p vs := I.aX p _ hx;have hlen : kvs.length = vs.length := Paired.length r;exact wpAny_truthy_dict hS m (by lia) ⟨H, I.tok _, by rw [r6 r];exact q⟩
  | _ => exact (show False from e).elim
theorem sx : i9 X (binaryOp .Add) (λx y H Q => ∃ i j, x = .str i /\ y = .str j /\ i.length + j.length <= sizeLine /\ Q (.str (i ++ j)) H) := by
  intro pins s σ H x y v u Q I rx ry h;obtain ⟨i, j, rfl, rfl, hz, q⟩ := h;obtain ⟨t, rfl⟩ := rx;obtain ⟨t', rfl⟩ := ry;exact add_str (λt' tk => ⟨.str (i ++ j), H, I.tok _, ⟨_, rfl⟩, q⟩) hz
theorem vals1 {x : V}{us : List Value}(r : Vals [x] us):∃ u, us = [u] /\ RelV x u := by
  cases r with
  | cons r1 r2 => cases r2;exact ⟨_, rfl, r1⟩
theorem vals2 {x y : V}{us : List Value}(r : Vals [x, y] us):∃ u w', us = [u, w'] /\ RelV x u /\ RelV y w' := by
  cases r with
  | cons r1 r2 =>
    cases r2 with
    | cons r3 r4 => cases r4;exact ⟨_, _, rfl, r1, r3⟩
theorem uD (hc : X.calm = true):fI X (.builtin "max") (λxs H Q => ∃ i j, xs = [.int i, .int j] /\ Q (.int (if j > i then j else i)) H) := by
  intro pins s σ H xs us Q I r h;obtain ⟨i, j, rfl, q⟩ := h;obtain ⟨u, w', rfl, ⟨t, rfl⟩, ⟨t', rfl⟩⟩ := vals2 r;refine max_two_ints (I.ok.hd hc) λh' tk k => ⟨_, H, I.kept k, ?_, q⟩
  by_cases hj : j > i
  · rw [if_pos hj, if_pos hj];exact ⟨_, rfl⟩
  · rw [if_neg hj, if_neg hj];exact ⟨_, rfl⟩
theorem uF (hc : X.calm = true):fI X (.builtin "min") (λxs H Q => ∃ i j, xs = [.int i, .int j] /\ Q (.int (if j < i then j else i)) H) := by
  intro pins s σ H xs us Q I r h;obtain ⟨i, j, rfl, q⟩ := h;obtain ⟨u, w', rfl, ⟨t, rfl⟩, ⟨t', rfl⟩⟩ := vals2 r;refine min_two_ints (I.ok.hd hc) λh' tk k => ⟨_, H, I.kept k, ?_, q⟩
  by_cases hj : j < i
  · rw [if_pos hj, if_pos hj];exact ⟨_, rfl⟩
  · rw [if_neg hj, if_neg hj];exact ⟨_, rfl⟩
theorem uA : fI X (.type "int") (λxs H Q => (∃ i, xs = [.int i] /\ Q (.int i) H) \/ ∃ k, xs = [.bl k] /\ Q (.int (if k then 1 else 0)) H) := by
  intro pins s σ H xs us Q I r h;rcases h with ⟨i, rfl, q⟩ | ⟨k, rfl, q⟩
  · obtain ⟨u, rfl, t, rfl⟩ := vals1 r;exact call_int_int ⟨.int i, H, I, ⟨_, rfl⟩, q⟩
  · obtain ⟨u, rfl, r1⟩ := vals1 r;cases r1;exact call_int_bool ⟨.int (if k then 1 else 0), H, I.tok _, ⟨_, rfl⟩, q⟩
noncomputable def BE (K : Frag)(x : V)(H : Hp)(n : Nat):Prop :=
  match x with
  | .str y => y.length <= sizeLine /\ n = y.length
  | .byt y => y.size <= sizeLine /\ n = y.size
  | .ref p => (∃ xs, dD K H p xs /\ n = xs.length) \/ ∃ xs, mM K H p xs /\ n = xs.length
  | _ => False
theorem vM : fI X (.builtin "len") (λxs H Q => ∃ x n, xs = [x] /\ BE X.K x H n /\ Q (.int n) H) := by
  intro pins s σ H xs us Q I r h;obtain ⟨x, n, rfl, e, q⟩ := h;obtain ⟨u, rfl, rx⟩ := vals1 r;have hl := mj;have hs : sizeLine = 16777216 := sizeLine_eq;cases x with
  | str y =>
    obtain ⟨t, rfl⟩ := rx;obtain ⟨hy, e'⟩ : y.length <= sizeLine /\ n = y.length := e;subst e';exact len_str (by lia) ⟨.int _, H, I.tok _, ⟨_, rfl⟩, q⟩
  | byt y =>
    obtain ⟨t, rfl⟩ := rx;obtain ⟨hy, e'⟩ : y.size <= sizeLine /\ n = y.size := e;subst e';exact PySem.W.len_bytes (by lia) ⟨.int _, H, I.tok _, ⟨_, rfl⟩, q⟩
  | ref p =>
    cases rx;have e' : (∃ xs, dD X.K H p xs /\ n = xs.length) \/ ∃ xs, mM X.K H p xs /\ n = xs.length := e;rcases e' with ⟨xs, hx, e'⟩ | ⟨xs, hx, e'⟩
    · subst e';obtain ⟨its, r', pl, hz⟩ := I.list hx;have hlen := r'.length;exact Calls.call_len_list pl.isList (by simp only [size_toArray];lia) ⟨.int xs.length, H, I.tok _, ⟨_, by simp only [size_toArray];rw [hlen]⟩, q⟩
    · subst e';obtain ⟨its, r', pl, hz⟩ := I.tuple hx;have hlen := r'.length;exact len_tuple pl (by simp only [size_toArray];lia) ⟨.int xs.length, H, I.tok _, ⟨_, by simp only [size_toArray];rw [hlen]⟩, q⟩
  | _ => exact (show False from e).elim
end
end L2
namespace L2
open PySem PySem.Spec PyProof.Rows
structure rM (h : Heap)(x dx C : Addr)(mA : Str -> Option Value):Prop where
  obj : h.get? x = some (instObj C dx)
  ns : h.Ns1 dx mA
  ne : dx ≠ x
set_option tactic.hygienic true in
theorem vb {h : Heap}{dx : Addr}{mA : Str -> Option Value}(n : h.Ns1 dx mA):∃ od, h.get? dx = some od /\ ∀ name, lookIn name od = some (mA name) := by
  obtain ⟨o, es, ep, ho, hd, hk, _, hm⟩ := n;refine ⟨o, ho, λname => ?_⟩;have e := hm name;unfold nsFind findBy at e;rw [<- Array.find?_toList] at e;unfold lookIn;rw [hd];dsimp only;split
  · rename_i y q;rw [q] at e;exact congrArg some e
  · rename_i q;rw [q] at e;have a : es.toList.any (·.refKey) = false := by
      rw [List.any_eq_false];intro y hy;obtain ⟨z, t, hkey⟩ := hk y (Array.mem_toList_iff.mp hy);simp [DictEntry.refKey, hkey]
    have a' : ¬ es.toList.any (·.refKey) = true := by rw [a];exact Bool.false_ne_true
    rw [if_neg a'];exact congrArg some e
theorem rM.look {h : Heap}{x dx C : Addr}{mA : Str -> Option Value}(I : rM h x dx C mA):∃ od, PySem.W.InstAt h x (instObj C dx) C (some od) /\ ∀ name, lookIn name od = some (mA name) :=
  let ⟨od, ho, hl⟩ := vb I.ns
  ⟨od, ⟨I.obj, rfl, rfl, ho⟩, hl⟩
section
variable {prog : Program} {w : World} {A : Around} {E : Value -> Shared -> Prop} {s : Shared} {K : Frag} {x dx C f : Addr} {mA : Str -> Option Value} {name : Str} {v : Value}
theorem get_map {expr : Bool}{Q : Value -> Shared -> Prop}(X : K.In s.heap)(I : rM s.heap x dx C mA)(hg : plainGet K C name = true)(hh : PySem.W.hasDictIn K C = true)
    (ha : PySem.W.findIn K (.ref C) name = some none) (hv : mA name = some v) (hv' : PySem.W.handedIn v = true) (h : Q v { s with toks := s.toks + 1 }) :
    wpAny (model prog w) A (getAttr (.ref x) name expr) Q E s := by
  obtain ⟨od, J, hl⟩ := I.look;exact PySem.W.get_value X J (PySem.W.plainGet_of hg).1 (PySem.W.findObj_own hh ha rfl (by rw [hl, hv])) hv' h
theorem wC {pl : Sem Bool}{Q : Value × List Value -> Shared -> Prop}(X : K.In s.heap)(I : rM s.heap x dx C mA)(hg : plainGet K C name = true)
    (hf : PySem.W.findIn K (.ref C) name = some (some (.ref f))) (ht : isFn K (.ref f) = true) (hv : mA name = none) (h : Q (.ref f, [.ref x]) s) :
    wpAny (model prog w) A (getMethod (.ref x) name pl) Q E s := by
  obtain ⟨od, J, hl⟩ := I.look;exact PySem.W.method_fn X J (PySem.W.plainGet_of hg).1 (PySem.W.plainGet_of hg).2 hf (beq_iff_eq.mp ht) (by show (lookIn name od).map (·.isSome) = some false;rw [hl, hv];rfl) h
theorem zq {ns : List Str}{Q : Unit -> Shared -> Prop}(X : K.In s.heap)(I : rM s.heap x dx C mA)
    (hs : PySem.W.findIn K (.ref C) "__setattr__" = some (some (.builtin "object.__setattr__"))) (hp : PySem.W.plainOver K C = true) (ht : PySem.W.takerIn K C name = some none) (hh : PySem.W.hasDictIn K C = true)
    (hw : PySem.Within mA ns) (hsz : ns.length <= sizeLine)
    (h : ∀ h', rM h' x dx C (λy => if y = name then some v else mA y) -> Heap.SameBut dx s.heap h' -> Q () { s with heap := h', toks := s.toks + 2 }) :
    wpAny (model prog w) A (setAttr (.ref x) name v) Q E s := by
  obtain ⟨od, J, hl⟩ := I.look;refine PySem.W.set_plain X J hs (PySem.W.osa_open (s := { s with toks := s.toks + 1 }) (r := none) X J hp ht λb => ?_);obtain ⟨cd, hc, hd'⟩ := PySem.W.any_some hh;have hx : s.heap.get? x = some ⟨.ref C, some dx, .plain, #[]⟩ := I.obj;refine wpAny_bind (wpAny_pure (wpAny_bind (wpAny_bind (wpAny_loadPart hx (wpAny_bind (PySem.W.Looks.here (s := { s with toks := s.toks + 1 }) (PySem.W.looks_clsIn X hc) ?_))))));rw [hd'];refine wpAny_pure (a := some dx) (wpAny_bind (wpAny_pure (wpAny_bind ?_)));refine wpAny_nsSet1 (s := { s with toks := s.toks + 1 }) I.ns λh' hn2 hs2 => ?_;obtain ⟨oD, esD, epD, hoD, hdD, hcD⟩ := hn2.count (PySem.Within.cons name v hw);refine wpAny_bind (wpAny_lookBehind hoD (by rw [hdD];exact pastItsLine_dict (Nat.le_trans hcD (by rw [length_cons];lia))) ?_);exact wpAny_pure (h _ ⟨(hs2.2 _ (Ne.symm I.ne)).trans I.obj, hn2, I.ne⟩ hs2)
theorem wL {R : Result -> Shared -> Prop}{vs : List Value}{kw : List (Str × Value)}(X : K.In s.heap)(hm : PySem.W.makesIn K C = true)
    (hi : PySem.W.findIn K (.ref C) "__init__" = some (some (.ref f))) (hf : PySem.W.typeIn K (.ref f) = some (.type "function"))
    (h : codeAny (model prog w) (A.under (.builtin "type.__call__" ⟨.ref C :: vs, kw⟩)) (.call (.ref f) ⟨.ref (s.heap.objs.size + 1) :: vs, kw⟩) (PySem.W.InitBack (s.heap.objs.size + 1) R)
      { s with heap := (s.heap.push PySem.W.emptyDict).push (instObj C s.heap.objs.size) }) :
    codeAny (model prog w) A (.call (.ref C) ⟨vs, kw⟩) R s := by
  obtain ⟨hh, g, d, t, os⟩ := s;exact PySem.W.make_core (PySem.W.makes_of X hm) (PySem.W.looks_findIn X hi) (λself => PySem.W.bind_fn X self hf) (.inl rfl) h
end
noncomputable def gc (f : Str)(v : V):List (Str × V) -> List (Str × V)
  | [] => [(f, v)]
  | (g, x) :: r => if g = f then (g, v) :: r else (g, x) :: gc f v r
theorem kG (f g : Str)(v : V):∀ fs : List (Str × V), (gc f v fs).lookup g = if g = f then some v else fs.lookup g
  | [] => by
    show List.lookup g [(f, v)] = _;by_cases h : g = f
    · have hb : (g == f) = true := beq_iff_eq.mpr h;simp only [List.lookup, hb, if_pos h]
    · have hb : (g == f) = false := beq_eq_false_iff_ne.mpr h;simp only [List.lookup, hb, if_neg h]
  | (k, x) :: r => by
    have ih := kG f g v r;rw [show gc f v ((k, x) :: r) = (if k = f then (k, v) :: r else (k, x) :: gc f v r) from rfl];by_cases hk : k = f
    · rw [if_pos hk];by_cases h : g = k
      · have hb : (g == k) = true := beq_iff_eq.mpr h;simp only [List.lookup, hb, if_pos (h.trans hk)]
      · have hb : (g == k) = false := beq_eq_false_iff_ne.mpr h;simp only [List.lookup, hb, if_neg (λe : g = f => h (e.trans hk.symm))]
    · rw [if_neg hk];by_cases h : g = k
      · have hb : (g == k) = true := beq_iff_eq.mpr h;simp only [List.lookup, hb, if_neg (λe : g = f => hk (h.symm.trans e))]
      · have hb : (g == k) = false := beq_eq_false_iff_ne.mpr h;simp only [List.lookup, hb];exact ih
theorem j6 (f : Str)(v : V):∀ fs : List (Str × V), f ∈ (gc f v fs).map (·.1) /\ ∀ g, g ∈ fs.map (·.1) -> g ∈ (gc f v fs).map (·.1)
  | [] => ⟨by simp [gc], λg h => by simp at h⟩
  | (k, x) :: r => by
    obtain ⟨i1, i2⟩ := j6 f v r;rw [show gc f v ((k, x) :: r) = (if k = f then (k, v) :: r else (k, x) :: gc f v r) from rfl];by_cases hk : k = f
    · rw [if_pos hk];subst hk;exact ⟨by simp, λg h => by simpa using h⟩
    · rw [if_neg hk];refine ⟨?_, λg h => ?_⟩
      · rw [map_cons];exact mem_cons_of_mem _ i1
      · rw [map_cons] at h ⊢;rcases List.mem_cons.mp h with e | e
        · exact List.mem_cons.mpr (.inl e)
        · exact mem_cons_of_mem _ (i2 g e)
theorem kE (f : Str)(v : V):∀ fs : List (Str × V), (gc f v fs).length <= fs.length + 1
  | [] => by simp [gc]
  | (k, x) :: r => by
    have ih := kE f v r;rw [show gc f v ((k, x) :: r) = (if k = f then (k, v) :: r else (k, x) :: gc f v r) from rfl];by_cases hk : k = f
    · rw [if_pos hk, length_cons, length_cons];lia
    · rw [if_neg hk, length_cons, length_cons];lia
theorem jh.some_of {v : V}{o : Option Value}(r : jh (some v) o):∃ u, o = some u /\ RelV v u := by
  cases o with
  | none => exact (show False from r).elim
  | some u => exact ⟨u, rfl, r⟩
theorem jh.none_of {o : Option Value}(r : jh none o):o = none := by
  cases o with
  | none => rfl
  | some u => exact (show False from r).elim
theorem uT {v : V}{u : Value}(r : RelV v u):PySem.W.handedIn u = true := by
  cases v with
  | non => cases (show u = Value.none from r);rfl
  | bl b => cases (show u = Value.bool b from r);rfl
  | int i => obtain ⟨t, e⟩ := (show ∃ t, u = Value.int i t from r);cases e;rfl
  | str x => obtain ⟨t, e⟩ := (show ∃ t, u = Value.str x t from r);cases e;rfl
  | byt b => obtain ⟨t, e⟩ := (show ∃ t, u = Value.bytes b t from r);cases e;rfl
  | flt b => obtain ⟨t, e⟩ := (show ∃ t, u = Value.float b t from r);cases e;rfl
  | ref a => cases (show u = Value.ref a from r);rfl
  | ty n => cases (show u = Value.type n from r);rfl
section
variable {P : Program} {w : World} {H H' : Hp} {h h' : Heap} {a C dx : Addr} {fs fs' : List (Str × V)}
theorem lu (aX : hJ P w H h)(e : H a = some (.ins C dx fs)):∃ mA, rM h a dx C mA /\ (∀ f, jh (fs.lookup f) (mA f)) /\ PySem.Within mA (fs.map (·.1)) /\ fs.length <= 1000 /\ H dx = some (.own a) := by
  obtain ⟨d, z, ne, ob, mA, n, r, q⟩ := (show bI P w H h a (.ins C dx fs) from aX a _ e)
  exact ⟨mA, ⟨ob, n, ne⟩, r, q, z, d⟩
end
structure h7 (K : Frag)(C : Addr):Prop where
  pg : plainGet K C Str.empty = true
  hd : PySem.W.hasDictIn K C = true
  po : PySem.W.plainOver K C = true
  sa : PySem.W.findIn K (.ref C) "__setattr__" = some (some (.builtin "object.__setattr__"))
theorem h7.get {K : Frag}{C : Addr}(c : h7 K C)(f : Str):plainGet K C f = true := c.pg
noncomputable def eA (K : Frag)(C : Addr)(f : Str):Prop := PySem.W.findIn K (.ref C) f = some none
theorem eA.CZ {K : Frag}{C : Addr}{f : Str}(n : eA K C f):PySem.W.takerIn K C f = some none := by
  unfold PySem.W.takerIn;rw [show PySem.W.findIn K (.ref C) f = some none from n];rfl
structure EG (K : Frag)(C : Addr)(f : Str)(v : V)(u : Value):Prop where
  at_ : PySem.W.findIn K (.ref C) f = some (some u)
  rel : RelV v u
  get : PySem.W.specialIn K u "__get__" = some none
  cp : PySem.W.copiedNames.contains f = false
structure Meth (K : Frag)(C : Addr)(m : Str)(f : Addr):Prop where
  at_ : PySem.W.findIn K (.ref C) m = some (some (.ref f))
  fn : isFn K (.ref f) = true
  kp : keepIn K (.ref f) = true
section
variable {X : Cx} {pins : List (Addr × Obj)} {σ : St} {H : Hp} {s : Shared} {a C dx : Addr} {fs : List (Str × V)} {f : Str} {v : V} {A : Around} {E : Value -> Shared -> Prop}
theorem lZ {b : Bool}{Q : Value -> Shared -> Prop}(I : Inv X pins σ H s)(e : H a = some (.ins C dx fs))(c : h7 X.K C)(n : eA X.K C f)(l : fs.lookup f = some v)
    (h : ∀ u s', Inv X pins σ H s' -> RelV v u -> Q u s'):wpAny (model X.prog X.w) A (getAttr (.ref a) f b) Q E s := by
  obtain ⟨mA, O, r, _, _, _⟩ := lu I.aX e;obtain ⟨u, hu, ru⟩ := jh.some_of (v := v) (o := mA f) (by rw [<- l];exact r f);exact get_map I.iY O (c.get f) c.hd n hu (uT ru) (h u _ (I.tok _) ru)
theorem gT {m : Str}{g : Addr}{pl : Sem Bool}{Q : Value × List Value -> Shared -> Prop}(I : Inv X pins σ H s)(e : H a = some (.ins C dx fs))(c : h7 X.K C)(k : Meth X.K C m g)(l : fs.lookup m = none)
    (h : Q (.ref g, [.ref a]) s):wpAny (model X.prog X.w) A (getMethod (.ref a) m pl) Q E s := by
  obtain ⟨mA, O, r, _, _, _⟩ := lu I.aX e;have hn : mA m = none := jh.none_of (by rw [<- l];exact r m);exact wC I.iY O (c.get m) k.at_ k.fn hn h
theorem mF {y : V}{u : Value}{Q : Unit -> Shared -> Prop}(I : Inv X pins σ H s)(e : H a = some (.ins C dx fs))(c : h7 X.K C)(n : eA X.K C f)(hl : fs.length < 1000)(ry : RelV y u)
    (h : ∀ s', Inv X pins σ (upd H a (.ins C dx (gc f y fs))) s' -> Q () s'):wpAny (model X.prog X.w) A (setAttr (.ref a) f u) Q E s := by
  obtain ⟨mA, O, r, wi, _, ho⟩ := lu I.aX e;have hz : (fs.map (·.1)).length <= sizeLine := by rw [length_map, sizeLine_eq];lia
  refine zq I.iY O c.sa c.po n.CZ c.hd wi hz λh' O' sb => h _ ?_;have hd : ∃ o, h'.get? dx = some o := let ⟨o, _, _, e', _⟩ := O'.ns;⟨o, e'⟩
  refine I.write (x := a) (e := dx) (by rw [e];exact True.intro) (.inr ho) (λb q hb z => (sb.2 b hb).trans z) hd ?_;refine ⟨by rw [af O.ne];exact ho, ?_, O.ne, O'.obj, _, O'.ns, λg => ?_, λg hg => ?_⟩
  · have := kE f y fs;lia
  · show jh ((gc f y fs).lookup g) (if g = f then some u else mA g);rw [kG];by_cases q : g = f
    · rw [if_pos q, if_pos q];exact ry
    · rw [if_neg q, if_neg q];exact r g
  · by_cases q : g = f
    · rw [q];exact (j6 f y fs).1
    · refine (j6 f y fs).2 g (wi g λz => hg ?_);show (if g = f then some u else mA g) = none;rw [if_neg q];exact z
theorem Inv.made (I : Inv X pins σ H s):Inv X pins σ (upd (upd H s.heap.objs.size (.own (s.heap.objs.size + 1))) (s.heap.objs.size + 1) (.ins C s.heap.objs.size []))
    { s with heap := (s.heap.push PySem.W.emptyDict).push (instObj C s.heap.objs.size) } := by
  have e1 : (s.heap.push PySem.W.emptyDict).get? s.heap.objs.size = some PySem.W.emptyDict := Heap.get?_push_size s.heap rfl;have e2 : ((s.heap.push PySem.W.emptyDict).push (instObj C s.heap.objs.size)).get? (s.heap.objs.size + 1) = some (instObj C s.heap.objs.size) := by
    have := Heap.get?_push_size (s.heap.push PySem.W.emptyDict) (o := instObj C s.heap.objs.size) rfl
    rwa [Heap.size_push] at this
  have e3 : (s.heap.push PySem.W.emptyDict).Ns s.heap.objs.size (λ_ => none) := ⟨PySem.W.emptyDict, #[], _, e1, rfl, (λe he => absurd he (by simp)), λ_ => rfl⟩
  have I1 := I.laid (a := s.heap.objs.size) (o := .own (s.heap.objs.size + 1)) (h' := s.heap.push PySem.W.emptyDict) (t' := s.toks) (λb u q => Heap.get?_push_of_some _ q) (Nat.le_refl _) ⟨_, e1⟩;refine I1.laid (a := s.heap.objs.size + 1) (o := .ins C s.heap.objs.size []) (t' := s.toks) (λb u q => Heap.get?_push_of_some _ q) (Nat.le_of_eq (Heap.size_push _ _)) ?_;have ne : s.heap.objs.size ≠ s.heap.objs.size + 1 := Nat.ne_of_lt (Nat.lt_succ_self _);refine ⟨by rw [af ne, ah], Nat.zero_le _, ne, e2, λ_ => none, (Heap.Ns1.of_empty e3).at λo q => Heap.get?_push_of_some _ q, λ_ => True.intro, λy hy => absurd rfl hy⟩
theorem yh {prog : Program}{w : World}{env : Env}{e : Expr}{f : Str}{pos : Pos}{s : Shared}{Q : Value -> Shared -> Prop}(hb : attributeBase e f env (eval e env) = eval e env)
    (h : wpAny (model prog w) A (eval e env) (λo s₁ => wpAny (model prog w) A (getAttr o f true) Q E s₁) E s):wpAny (model prog w) A (eval (.Attribute e f pos) env) Q E s :=
  Attribute_any_ h (by rw [arm_eval_Attribute, hb])
end
noncomputable def CM (K : Frag)(ta : TE)(f : Str):TE := λσ H Q => ta σ H λx H1 => ∃ a C dx fs v, x = .ref a /\ H1 a = some (.ins C dx fs) /\ h7 K C /\ eA K C f /\ fs.lookup f = some v /\ Q v H1
noncomputable def D8 (K : Frag)(ta tv : TE)(f : Str):TS := λD σ H => tv σ H λy H1 => ta σ H1 λx H2 => ∃ a C dx fs, x = .ref a /\ H2 a = some (.ins C dx fs) /\ h7 K C /\ eA K C f /\ fs.length < 1000 /\
  D.nx σ (upd H2 a (.ins C dx (gc f y fs)))
noncomputable def BD (X : Cx)(op : Operator)(rd : V -> V -> Hp -> VK -> Prop):Prop :=
  ∀ (pins : List (Addr × Obj)) (s : Shared) (σ : St) (H : Hp) (x y : V) (u v : Value) (Q : VK), Inv X pins σ H s -> RelV x u -> RelV y v -> rd x y H Q -> wpAny (model X.prog X.w) X.A (inplaceOp op u v) (EP X pins σ Q) X.xe s
noncomputable def zp (K : Frag)(ta tv : TE)(rd : V -> V -> Hp -> VK -> Prop)(f : Str):TS := λD σ H => ta σ H λx H1 => ∃ a C dx fs v, x = .ref a /\ H1 a = some (.ins C dx fs) /\ h7 K C /\ eA K C f /\ fs.lookup f = some v /\
  tv σ H1 λy H2 => rd v y H2 λz H3 => ∃ dx' fs', H3 a = some (.ins C dx' fs') /\ fs'.length < 1000 /\ D.nx σ (upd H3 a (.ins C dx' (gc f z fs')))
section
variable {X : Cx} {o e value : Expr} {f : Str} {pos pos' tpos : Pos} {ta tv : TE}
theorem gb (he : PE X e ta)(hb : attributeBase e f X.env (eval e X.env) = eval e X.env):PE X (.Attribute e f pos) (CM X.K ta f) := by
  intro pins s σ H Q I h;refine yh hb (cm (he pins s σ H _ I h) ?_);rintro u s1 ⟨x, H1, I1, rx, a, C, dx, fs, v, ex, ea, c, n, l, q⟩;subst ex;obtain rfl : u = Value.ref a := rx;exact lZ I1 ea c n l λu' s2 I2 ru => ⟨v, H1, I2, ru, q⟩
theorem ph (ha : PE X o ta)(hv : PE X value tv)(hs : swapsWith value (some (.Attribute o f pos')) pos.line X.env = pure false):PS X (.Assign [.Attribute o f pos'] value pos) (D8 X.K ta tv f) := by
  intro pins s σ H D I h;refine plainObj_wpAny_Assign_Attribute (cm (hv pins s σ H _ I h) λu s1 ⟨y, H1, I1, ry, q⟩ => cm (ha pins s1 σ H1 _ I1 q) ?_) hs;rintro ov s2 ⟨x, H2, I2, rx, a, C, dx, fs, ex, ea, c, n, l, q2⟩;subst ex;obtain rfl : ov = Value.ref a := rx;exact mF I2 ea c n l ry λs3 I3 => ⟨σ, _, I3, q2⟩
theorem vi {op : Operator}{rd : V -> V -> Hp -> VK -> Prop}(ha : PE X o ta)(hv : PE X value tv)(hop : BD X op rd):PS X (.AugAssign (.Attribute o f tpos) op value pos) (zp X.K ta tv rd f) := by
  intro pins s σ H D I h;refine wpAny_AugAssign_AttributeAny (cm (ha pins s σ H _ I h) ?_);rintro ov s1 ⟨x, H1, I1, rx, a, C, dx, fs, v, ex, ea, c, n, l, q⟩;subst ex;obtain rfl : ov = Value.ref a := rx;refine lZ I1 ea c n l λu s2 I2 ru => cm (hv pins s2 σ H1 _ I2 q) λw3 s3 ⟨y, H2, I3, ry, q3⟩ => cm (hop pins s3 σ H2 v y u w3 _ I3 ru ry q3) ?_;rintro w4 s4 ⟨z, H3, I4, rz, dx', fs', ea', l', q4⟩;exact mF I4 ea' c n l' rz λs5 I5 => ⟨σ, _, I5, q4⟩
noncomputable def DZ : V -> V -> Hp -> VK -> Prop := λx y H Q => ∃ i j, x = .int i /\ y = .int j /\ Q (.int (i + j)) H
theorem AD : BD X .Add DZ := by
  rintro pins s σ H x y u v Q I rx ry ⟨i, j, rfl, rfl, q⟩;obtain ⟨t, rfl⟩ := (show ∃ t, u = Value.int i t from rx)
  obtain ⟨t', rfl⟩ := (show ∃ t', v = Value.int j t' from ry)
  exact PyProof.Rows.iadd_int ⟨.int (i + j), H, I.tok _, ⟨_, rfl⟩, q⟩
theorem zQ {pl : Sem Bool}{m : Str}{apos : Pos}{args : List Expr}{pins : List (Addr × Obj)}{s : Shared}{σ : St}{H : Hp}{Q : Value -> Shared -> Prop}{te : TE}(he : PE X e te)(I : Inv X pins σ H s)
    (h : te σ H λx H1 => ∃ a C dx fs g, x = .ref a /\ H1 a = some (.ins C dx fs) /\ h7 X.K C /\ Meth X.K C m g /\ fs.lookup m = none /\
      ∀ s1, Inv X pins σ H1 s1 -> wpAny (model X.prog X.w) X.A (callWith pos (.ref g) [.ref a] (backTo pos (starEach args X.env)) (backToKw pos (keywordEach [] X.env))) Q X.xe s1)
    (ht : eval (.Call (.Attribute e m apos) args [] pos) X.env = (do
      let ov <- eval e X.env
      standAt apos.atName
      let (f, first) <- holding [ov] (getMethod ov m pl)
      callWith pos f first (backTo pos (starEach args X.env)) (backToKw pos (keywordEach [] X.env)))) :
    wpAny (model X.prog X.w) X.A (eval (.Call (.Attribute e m apos) args [] pos) X.env) Q X.xe s := by
  refine PySem.W.methodCall_KW (pl := pl) (cm (he pins s σ H _ I h) ?_) ht;rintro u s1 ⟨x, H1, I1, rx, a, C, dx, fs, g, ex, ea, c, k, l, q⟩;subst ex;obtain rfl : u = Value.ref a := rx;exact gT I1 ea c k l (q s1 I1)
end
section
variable {X : Cx} {pins : List (Addr × Obj)} {σ : St} {H : Hp} {s : Shared} {A : Around} {E : Value -> Shared -> Prop} {Q : Value -> Shared -> Prop} {c : Value} {b : Bool}
inductive kQ (K : Frag)(H : Hp):V -> Value -> Prop where
  | non : kQ K H .non (.type "NoneType")
  | bl (x : Bool):kQ K H (.bl x) (.type "bool")
  | int (i : Int):kQ K H (.int i) (.type "int")
  | str (x : Str):kQ K H (.str x) (.type "str")
  | flt (x : UInt64):kQ K H (.flt x) (.type "float")
  | lst {a : Addr} {xs : List V} (e : H a = some (.lst xs)):kQ K H (.ref a) (.type "list")
  | bR {a : Addr} {o : Obj} {xs : List V} (e : H a = some (.bR o (.lst xs))):kQ K H (.ref a) (.type "list")
  | tup {a : Addr} {xs : List V} (e : H a = some (.tup xs)):kQ K H (.ref a) (.type "tuple")
  | dK {a : Addr} {kvs : List (Key × V)} (e : H a = some (.dK kvs)):kQ K H (.ref a) (.type "dict")
  | dT {a : Addr} {kvs : List (List Key × V)} (e : H a = some (.dT kvs)):kQ K H (.ref a) (.type "dict")
  | ins {a C dx : Addr} {fs : List (Str × V)} (e : H a = some (.ins C dx fs)) (cl : h7 K C) (ha : PySem.W.findIn K (.ref C) "__class__" = some (some (.builtin "object.__class__")))
      (hn : PySem.W.specialIn K (.builtin "object.__class__") "__get__" = some (some (.builtin "getset_descriptor.__get__"))) (htk : PySem.W.takesIn K (.builtin "object.__class__") = some true)
      (hm : PySem.W.mroIn K C (.type "object") = some true):kQ K H (.ref a) (.ref C)
theorem iR {x : V}{u t : Value}(I : Inv X pins σ H s)(rx : RelV x u)(ty : kQ X.K H x t)(e : kitOne X.K t c = some b)(h : ∀ tk, Q (.bool b) { s with toks := tk }) :
    wpAny (model X.prog X.w) A (call (.builtin "isinstance") [u, c]) Q E s := by
  cases ty with
  | non => cases (show u = Value.none from rx);exact kia_one PySem.W.kitx_none I.iY True.intro e (λz => nomatch z) h
  | bl y => cases (show u = Value.bool y from rx);exact kia_one PySem.W.kitx_bool I.iY True.intro e (λz => nomatch z) h
  | int i => obtain ⟨t, q⟩ := (show ∃ t, u = Value.int i t from rx);cases q;exact kia_one PySem.W.kitx_int I.iY True.intro e (λz => nomatch z) h
  | str y => obtain ⟨t, q⟩ := (show ∃ t, u = Value.str y t from rx);cases q;exact kia_one PySem.W.kitx_str I.iY True.intro e (λz => nomatch z) h
  | flt y => obtain ⟨t, q⟩ := (show ∃ t, u = Value.float y t from rx);cases q;exact kia_one PySem.W.kitx_float I.iY True.intro e (λz => nomatch z) h
  | @lst a xs ea =>
    cases (show u = Value.ref a from rx);obtain ⟨_, _, n, _, h1⟩ := (show bI X.prog X.w H s.heap a (.lst xs) from I.aX a _ ea)
    exact kia_one kitx_list I.iY ⟨_, h1, rfl⟩ e (λz => nomatch z) h
  | @bR a ob xs ea =>
    cases (show u = Value.ref a from rx);obtain ⟨_, _, _, n, _, h1⟩ := (show bI X.prog X.w H s.heap a (.bR ob (.lst xs)) from I.aX a _ ea)
    exact kia_one kitx_list I.iY ⟨_, h1, rfl⟩ e (λz => nomatch z) h
  | @tup a xs ea =>
    cases (show u = Value.ref a from rx);obtain ⟨_, _, _, p⟩ := (show bI X.prog X.w H s.heap a (.tup xs) from I.aX a _ ea)
    obtain ⟨o, h1, h2, _⟩ := p;exact kia_one kitx_tuple I.iY ⟨o, h1, h2⟩ e (λz => nomatch z) h
  | @dK a kvs ea =>
    cases (show u = Value.ref a from rx);obtain ⟨_, _, vs, _, p⟩ := (show bI X.prog X.w H s.heap a (.dK kvs) from I.aX a _ ea)
    obtain ⟨o, es, ep, h1, h2, _⟩ := p;exact kia_one kitx_dict I.iY ⟨o, h1, h2.1⟩ e (λz => nomatch z) h
  | @dT a kvs ea =>
    cases (show u = Value.ref a from rx);obtain ⟨_, _, xs, _, o, es, ep, h1, h2, _⟩ := (show bI X.prog X.w H s.heap a (.dT kvs) from I.aX a _ ea)
    exact kia_one kitx_dict I.iY ⟨o, h1, h2.1⟩ e (λz => nomatch z) h
  | @ins a C dx fs ea cl ha hn htk hm =>
    cases (show u = Value.ref a from rx);obtain ⟨mA, O, _⟩ := lu I.aX ea;obtain ⟨od, J, _⟩ := O.look;exact kia_one (PySem.W.kitx_own (cl.get _) cl.hd ha hn htk hm) I.iY J e (λz => nomatch z) h
end
end L2
namespace L2
open PySem PySem.Spec PyProof.Rows
structure cF (k : Nat)(A : Around):Prop where
  hd : A.handled = none
  dp : A.depth + 3 * k + 5 < recursionLimit
  un : A.units + 16 * k + 200 < cLine
  gs : A.guards = some []
theorem cF.mono {j k : Nat}{A : Around}(r : cF k A)(h : j <= k):cF j A := ⟨r.hd, by have := r.dp;lia, by have := r.un;lia, r.gs⟩
theorem cF.deeper {k : Nat}{A : Around}(r : cF (k + 1) A)(env : Env):cF k (A.deeper env) :=
  ⟨r.hd, by have := r.dp;show A.depth + 1 + 3 * k + 5 < _;lia, by have := r.un;show A.units + 3 + 16 * k + 200 < _;lia, r.gs⟩
theorem si {A : Around}{C : Addr}{us : List Value}{kw : List (Str × Value)}:(A.under (.builtin "type.__call__" ⟨.ref C :: us, kw⟩)).depth = A.depth + 1 := by
  first | rfl | simp [Around.under, Code.weight, Code.isCreation, Code.isGuard, Code.isCaller, Code.frames, Code.isFrame, guardIds]
theorem sj {A : Around}{C : Addr}{us : List Value}{kw : List (Str × Value)}:(A.under (.builtin "type.__call__" ⟨.ref C :: us, kw⟩)).units = A.units + 1 := by
  first | rfl | simp [Around.under, Code.cUnits, Code.frames, Code.isFrame]
theorem cF.make {k : Nat}{A : Around}(r : cF (k + 1) A)(C : Addr)(us : List Value)(kw : List (Str × Value)):cF k (A.under (.builtin "type.__call__" ⟨.ref C :: us, kw⟩)) :=
  ⟨r.hd, by have := r.dp;rw [si];lia, by have := r.un;rw [sj];lia, by have := r.gs;simp [Around.under, Code.guards, Code.isGuard, guardIds, pushGuards, this]⟩
theorem cF.depth {k : Nat}{A : Around}(r : cF k A):A.depth < recursionLimit := by have := r.dp;lia
theorem cF.units {k : Nat}{A : Around}(r : cF k A):A.units + 64 < cLine := by have := r.un;lia
noncomputable def sI : TA := λ_ H Q => Q [] H
noncomputable def zX (ta : TE)(tr : TA):TA := λσ H Q => ta σ H λx H1 => tr σ H1 λxs H2 => Q (x :: xs) H2
section
variable {X : Cx} {e : Expr} {es : List Expr} {te : TE} {t : TA} {pos : Pos}
theorem aN : PA X [] sI := λ_ _ _ _ H Q I h => Calls.spliced_nil ⟨[], H, I, .nil, h⟩
theorem aj (ha : PE X e te)(hr : PA X es t)(hs :autoParam (starEach (e :: es) X.env = (false, eval e X.env) :: starEach es X.env) aZa._auto_1):PA X (e :: es) (zX te t) := by
  intro pos pins s σ H Q I h;rw [hs];show wpAny _ _ (spliced ((false, eval e X.env) :: backTo pos (starEach es X.env))) _ _ s;refine Calls.spliced_cons (cm (ha pins s σ H _ I h) ?_);rintro u s1 ⟨x, H1, I1, r1, q1⟩;exact cm (hr pos pins s1 σ H1 _ I1 q1) (by rintro us s2 ⟨xs, H2, I2, r2, q2⟩;exact ⟨x :: xs, H2, I2, .cons r1 r2, q2⟩)
noncomputable def Ef (t : TA):TE := λσ H Q => t σ H λxs H1 => xs.length <= sizeLine /\ ∀ p, H1 p = none -> Q (.ref p) (upd H1 p (.tup xs))
noncomputable def Ec (t : TA):TE := λσ H Q => t σ H λxs H1 => xs.length <= sizeLine /\ ∀ p, H1 p = none -> Q (.ref p) (upd H1 p (.lst xs))
theorem iC {x1}(h : PA X es t):PE X (.Tuple es x1 pos) (Ef t) := by
  intro pins s σ H Q I hq;refine wpAny_Tuple_spliced (cm (h pos pins s σ H _ I hq) λus s1 ⟨xs, H1, I1, r, z, q⟩ => ⟨by rw [<- r.length];exact z, ?_⟩);have hf : H1 s1.heap.objs.size = none := I1.aX.fresh (Nat.le_refl _);refine ⟨.ref s1.heap.objs.size, upd H1 s1.heap.objs.size (.tup xs), I1.laid (t' := s1.toks) (λb u e => Heap.get?_push_of_some _ e) (Nat.le_refl _) ?_, rfl, q _ hf⟩;exact ⟨z, us, r, ⟨_, Heap.get?_push_size _ rfl, rfl, _, rfl⟩⟩
theorem pd (h : PA X es t):PE X (.List es pos) (Ec t) := by
  intro pins s σ H Q I hq;refine wpAny_List_spliced (cm (h pos pins s σ H _ I hq) λus s1 ⟨xs, H1, I1, r, z, q⟩ => ⟨by rw [<- r.length];exact z, ?_⟩);have hf : H1 s1.heap.objs.size = none := I1.aX.fresh (Nat.le_refl _);refine ⟨.ref s1.heap.objs.size, upd H1 s1.heap.objs.size (.lst xs), I1.laid (t' := s1.toks) (λb u e => Heap.get?_push_of_some _ e) (Nat.le_refl _) ?_, rfl, q _ hf⟩;exact ⟨z, us, 0, r, Heap.get?_push_size _ rfl⟩
end
noncomputable abbrev Sp := List V -> Hp -> VK -> XK -> Prop
noncomputable abbrev rH := List Env -> Hp -> Shared -> XK -> Value -> Shared -> Prop
structure rL (P : Program)(w : World)(K : Frag)(mg : Str -> Option Value)(base : Heap)(A : Around)(outer : List Env)(s : Shared)(H : Hp):Prop where
  frames : A.frames = some outer
  mod : Mod K mg base
  bs : ∀ b o, base.get? b = some o -> s.heap.get? b = some o /\ H b = none
  xZ : base.objs.size <= s.heap.objs.size
  jK : s.heap.FunFrames base outer
  zI : ∀ b ∈ jm outer, H b = none
  aX : hJ P w H s.heap
  bare : AllBare s.gens
noncomputable def CE (outer : List Env)(P : Program)(w : World)(H : Hp)(s : Shared)(Q : VK)(u : Value)(s' : Shared):Prop :=
  ∃ v H', s'.os = s.os /\ AllBare s'.gens /\ Un (jm outer) [] H H' s.heap s'.heap /\ hJ P w H' s'.heap /\ RelV v u /\ Q v H'
noncomputable def CR (CX : rH)(outer : List Env)(P : Program)(w : World)(H : Hp)(s : Shared)(Q : VK)(E : XK)(r : Result)(s' : Shared):Prop :=
  match r with
  | .ok (.ret u) => CE outer P w H s Q u s'
  | .ok _ => False
  | .error e => CX outer H s E e s'
structure aI (P : Program)(w : World)(K : Frag)(mg : Str -> Option Value)(base : Heap)(CX : rH)(k : Nat)(f : Addr)(fd : FuncData)(ps : List Str)(sp : Sp):Prop where
  len : ∀ vs H Q E, sp vs H Q E -> vs.length = ps.length
  run : ∀ (A : Around) (outer : List Env) (s : Shared) (H : Hp) (args : Args) (us : List Value) (vs : List V) (Q : VK) (E : XK), cF k A -> rL P w K mg base A outer s H -> BindsTo s fd args (ps.zip us) -> Vals vs us -> sp vs H Q E ->
    codeAny (model P w) A (.call (.ref f) args) (CR CX outer P w H s Q E) s
theorem aI.imp {P : Program}{w : World}{K : Frag}{mg : Str -> Option Value}{base : Heap}{CX : rH}{k : Nat}{f : Addr}{fd : FuncData}{ps : List Str}{sp sp' : Sp}(F : aI P w K mg base CX k f fd ps sp)
    (h : ∀ vs H Q E, sp' vs H Q E -> sp vs H Q E):aI P w K mg base CX k f fd ps sp' :=
  ⟨λvs H Q E q => F.len vs H Q E (h _ _ _ _ q), λA outer s H args us vs Q E hr he hb hv hs => F.run A outer s H args us vs Q E hr he hb hv (h _ _ _ _ hs)⟩
theorem rL.make {P : Program}{w : World}{K : Frag}{mg : Str -> Option Value}{base : Heap}{A : Around}{outer : List Env}{s : Shared}{H : Hp}(e : rL P w K mg base A outer s H)(C : Addr)(us : List Value)(kw : List (Str × Value)) :
    rL P w K mg base (A.under (.builtin "type.__call__" ⟨.ref C :: us, kw⟩)) outer s H := ⟨by first | exact e.frames | (simpa [Around.under, Code.envs, Code.isFrame, pushEnvs] using e.frames), e.mod, e.bs, e.xZ, e.jK, e.zI, e.aX, e.bare⟩
section
variable {X : Cx} {pins : List (Addr × Obj)} {σ : St} {H : Hp} {s s' : Shared}
theorem Inv.AA (I : Inv X pins σ H s):rL X.prog X.w X.K X.mg X.base X.A X.stack s H :=
  ⟨I.ok.frames, I.ok.mod, I.bs, Nat.le_trans I.ok.xZ I.sz, I.stack, I.pJ, I.aX, I.bare⟩
theorem Inv.after {Q : VK}{u : Value}(I : Inv X pins σ H s)(h : CE X.stack X.prog X.w H s Q u s'):EP X pins σ Q u s' := by
  obtain ⟨v, H', os, bare, un, aX, r, q⟩ := h;obtain ⟨hh, g, d, t, os'⟩ := s';obtain rfl : os' = s.os := os;exact ⟨v, H', I.call (h' := hh) (g' := g) (d' := d) (t' := t) (ch := []) un aX bare (λb z => absurd z (by simp)), r, q⟩
end
noncomputable def xQ (sp : Sp)(dvs : List V)(E : XK)(t : TA):TE := λσ H Q => t σ H λvs H1 => sp (vs ++ dvs) H1 Q E
noncomputable def uv (C : Addr)(m : Str)(sp : Sp)(dvs : List V)(E : XK)(ta : TE)(t : TA):TE := λσ H Q => ta σ H λx H1 => ∃ a dx fs, x = .ref a /\ H1 a = some (.ins C dx fs) /\ fs.lookup m = none /\
  t σ H1 λvs H2 => sp (x :: (vs ++ dvs)) H2 Q E
noncomputable def CP (C : Addr)(sp : Sp)(dvs : List V)(E : XK)(t : TA):TE := λσ H Q => t σ H λvs H1 => ∀ x dx, H1 x = none -> H1 dx = none -> dx ≠ x ->
  sp (.ref x :: (vs ++ dvs)) (upd (upd H1 dx (.own x)) x (.ins C dx [])) (λv H2 => v = .non /\ Q (.ref x) H2) E
noncomputable def Binds (K : Frag)(fd : FuncData)(ps : List Str)(ds : List Value):Prop :=
  ∀ (s : Shared) (us : List Value), K.In s.heap -> (us ++ ds).length = ps.length -> BindsTo s fd ⟨us, []⟩ (ps.zip (us ++ ds))
theorem Binds.all {K : Frag}{fd : FuncData}{ps : List Str}(h : ∀ us : List Value, us.length = ps.length -> bindArgs fd ⟨us, []⟩ = pure (ps.zip us)):Binds K fd ps [] := λs us _ hl => by
  rw [append_nil] at hl ⊢;exact .of_eq (h us hl)
noncomputable def Passes (CX : rH)(X : Cx)(E : XK):Prop := ∀ (pins : List (Addr × Obj)) (σ : St) (H : Hp) (s : Shared) (e : Value) (s' : Shared), Inv X pins σ H s -> CX X.stack H s E e s' -> X.xe e s'
section
variable {X : Cx} {CX : rH} {k : Nat} {f C : Addr} {fd : FuncData} {ps : List Str} {sp : Sp} {dvs : List V} {ds : List Value} {E : XK} {x m : Str} {p pos apos : Pos} {e o : Expr} {es : List Expr} {ta : TE} {t : TA}
theorem sD {pins : List (Addr × Obj)}{σ : St}{H : Hp}{s : Shared}{Q : VK}{us : List Value}{vs : List V}(F : aI X.prog X.w X.K X.mg X.base CX k f fd ps sp)(hr : cF k X.A)(hb : Binds X.K fd ps ds)(hd : Vals dvs ds)(hx : Passes CX X E)
    (I : Inv X pins σ H s) (r : Vals vs us) (h : sp (vs ++ dvs) H Q E):wpAny (model X.prog X.w) X.A (call (.ref f) us) (EP X pins σ Q) X.xe s := by
  have r2 : Vals (vs ++ dvs) (us ++ ds) := r.append hd;have hl : (us ++ ds).length = ps.length := by rw [<- r2.length];exact F.len _ _ _ _ h
  refine wpAny_call (codeAny_mono (F.run X.A X.stack s H ⟨us, []⟩ (us ++ ds) (vs ++ dvs) Q E hr I.AA (hb s us I.iY hl) r2 h) λr s' hq => ?_);cases r with
  | error e => exact hx pins σ H s e s' I hq
  | ok fl =>
    cases fl with
    | ret u => exact I.after hq
    | next => exact False.elim hq
    | brk => exact False.elim hq
    | cont => exact False.elim hq
theorem uc (F : aI X.prog X.w X.K X.mg X.base CX k f fd ps sp)(hr : cF k X.A)(hg : Gl X x)(hm : X.mg x = some (.ref f))(hk : keepIn X.K (.ref f) = true)(hb : Binds X.K fd ps ds)(hd : Vals dvs ds)(hx : Passes CX X E)
    (ha : PA X (e :: es) t) (hdb :autoParam ((x == ("__debug__" : Str)) = false) aZb._auto_1) (he :autoParam (starEach (e :: es) X.env = (false, eval e X.env) :: starEach es X.env) aZa._auto_1) (hpl :autoParam ((backTo pos (starEach es X.env)).any (·.1) = false) aZa._auto_1) :
    PE X (.Call (.Name x p) (e :: es) [] pos) (xQ sp dvs E t) := by
  intro pins s σ H Q I h;refine wpAny_Call_Name_kw (jN I hg hm ?_ hdb);refine PySem.W.callWith_K (h₀ := X.base) I.ok.mod.AK hk (cm (ha pos pins s σ H _ I h) λus s1 ⟨vs, H1, I1, r, q⟩ => ⟨I1.iY, ?_⟩) he hpl;exact sD F hr hb hd hx I1 r q
theorem eD {pl : Sem Bool}(he : PE X o ta)(c : h7 X.K C)(hm : Meth X.K C m f)(F : aI X.prog X.w X.K X.mg X.base CX k f fd ps sp)(hr : cF k X.A)(hb : Binds X.K fd ps ds)(hd : Vals dvs ds)(hx : Passes CX X E)(ha : PA X (e :: es) t)
    (hst :autoParam (starEach (e :: es) X.env = (false, eval e X.env) :: starEach es X.env) aZa._auto_1) (hpl :autoParam ((backTo pos (starEach es X.env)).any (·.1) = false) aZa._auto_1)
    (ht :autoParam (eval (.Call (.Attribute o m apos) (e :: es) [] pos) X.env = (do
      let ov <- eval o X.env
      standAt apos.atName
      let (f, first) <- holding [ov] (getMethod ov m pl)
      callWith pos f first (backTo pos (starEach (e :: es) X.env)) (backToKw pos (keywordEach [] X.env)))) aZa._auto_1) :
    PE X (.Call (.Attribute o m apos) (e :: es) [] pos) (uv C m sp dvs E ta t) := by
  intro pins s σ H Q I h;refine PySem.W.methodCall_KW (pl := pl) (cm (he pins s σ H _ I h) ?_) ht;rintro u s1 ⟨x, H1, I1, rx, a, dx, fs, ex, ea, l, q⟩;subst ex;obtain rfl : u = Value.ref a := rx;refine gT I1 ea c hm l ?_;refine PySem.W.callWith_K (first := [.ref a]) (h₀ := X.base) I.ok.mod.AK hm.kp (cm (ha pos pins s1 σ H1 _ I1 q) λus s2 ⟨vs, H2, I2, r, q2⟩ => ⟨I2.iY, ?_⟩) hst hpl;exact sD (us := .ref a :: us) (vs := .ref a :: vs) F hr hb hd hx I2 (.cons rfl r) q2
theorem xg {pl : Sem Bool}(he : PE X o ta)(c : h7 X.K C)(hm : Meth X.K C m f)(F : aI X.prog X.w X.K X.mg X.base CX k f fd ps sp)(hr : cF k X.A)(hb : Binds X.K fd ps ds)(hd : Vals dvs ds)(hx : Passes CX X E)
    (ht :autoParam (eval (.Call (.Attribute o m apos) [] [] pos) X.env = (do
      let ov <- eval o X.env
      standAt apos.atName
      let (f, first) <- holding [ov] (getMethod ov m pl)
      callWith pos f first (backTo pos (starEach [] X.env)) (backToKw pos (keywordEach [] X.env)))) aZa._auto_1) :
    PE X (.Call (.Attribute o m apos) [] [] pos) (uv C m sp dvs E ta sI) := by
  intro pins s σ H Q I h;refine PySem.W.methodCall_KW (pl := pl) (cm (he pins s σ H _ I h) ?_) ht;rintro u s1 ⟨x, H1, I1, rx, a, dx, fs, ex, ea, l, q⟩;subst ex;obtain rfl : u = Value.ref a := rx;refine gT I1 ea c hm l ?_;exact PySem.W.callWith_K0 (first := [.ref a]) I1.iY hm.kp (sD (us := [.ref a]) (vs := [.ref a]) F hr hb hd hx I1 (.cons rfl .nil) q)
structure Mk (K : Frag)(C f : Addr):Prop where
  makes : PySem.W.makesIn K C = true
  init : PySem.W.findIn K (.ref C) "__init__" = some (some (.ref f))
  fn : isFn K (.ref f) = true
  kp : keepIn K (.ref C) = true
theorem xI {pins : List (Addr × Obj)}{σ : St}{H : Hp}{s : Shared}{Q : VK}{us : List Value}{vs : List V}(M : Mk X.K C f)(F : aI X.prog X.w X.K X.mg X.base CX k f fd ps sp)(hr : cF (k + 1) X.A)(hb : Binds X.K fd ps ds)(hd : Vals dvs ds)
    (hx : Passes CX X E) (I : Inv X pins σ H s) (r : Vals vs us)
    (h : ∀ x dx, H x = none -> H dx = none -> dx ≠ x -> sp (.ref x :: (vs ++ dvs)) (upd (upd H dx (.own x)) x (.ins C dx [])) (λv H2 => v = .non /\ Q (.ref x) H2) E) :
    wpAny (model X.prog X.w) X.A (call (.ref C) us) (EP X pins σ Q) X.xe s := by
  have hq := h (s.heap.objs.size + 1) s.heap.objs.size (I.aX.fresh (Nat.le_succ _)) (I.aX.fresh (Nat.le_refl _)) (Nat.ne_of_lt (Nat.lt_succ_self _));have I2 := Inv.made (C := C) I;have r2 : Vals (V.ref (s.heap.objs.size + 1) :: (vs ++ dvs)) (Value.ref (s.heap.objs.size + 1) :: (us ++ ds)) := .cons rfl (r.append hd);have hl : (Value.ref (s.heap.objs.size + 1) :: us ++ ds).length = ps.length := by
    have e := r2.length;rw [F.len _ _ _ _ hq] at e;exact e.symm
  refine wpAny_call (wL (f := f) I.iY M.makes M.init (beq_iff_eq.mp M.fn) (codeAny_mono (F.run _ X.stack _ _ ⟨Value.ref (s.heap.objs.size + 1) :: us, []⟩ (Value.ref (s.heap.objs.size + 1) :: (us ++ ds)) _ _ E (hr.make C us [])
    (I2.AA.make C us []) (hb _ (Value.ref (s.heap.objs.size + 1) :: us) I2.iY hl) r2 hq) λr s' hq' => ?_))
  cases r with
  | error e => exact hx pins σ _ _ e s' I2 hq'
  | ok fl =>
    cases fl with
    | ret u =>
      obtain ⟨v, H', I3, rv, ev, q3⟩ := I2.after hq';subst ev;exact ⟨rv, ⟨V.ref (s.heap.objs.size + 1), H', I3, rfl, q3⟩⟩
    | next => exact False.elim hq'
    | brk => exact False.elim hq'
    | cont => exact False.elim hq'
theorem za (M : Mk X.K C f)(F : aI X.prog X.w X.K X.mg X.base CX k f fd ps sp)(hr : cF (k + 1) X.A)(hg : Gl X x)(hm : X.mg x = some (.ref C))(hb : Binds X.K fd ps ds)(hd : Vals dvs ds)(hx : Passes CX X E)
    (ha : PA X (e :: es) t) (hdb :autoParam ((x == ("__debug__" : Str)) = false) aZb._auto_1) (he :autoParam (starEach (e :: es) X.env = (false, eval e X.env) :: starEach es X.env) aZa._auto_1) (hpl :autoParam ((backTo pos (starEach es X.env)).any (·.1) = false) aZa._auto_1) :
    PE X (.Call (.Name x p) (e :: es) [] pos) (CP C sp dvs E t) := by
  intro pins s σ H Q I h;refine wpAny_Call_Name_kw (jN I hg hm ?_ hdb);refine PySem.W.callWith_K (h₀ := X.base) I.ok.mod.AK M.kp (cm (ha pos pins s σ H _ I h) λus s1 ⟨vs, H1, I1, r, q⟩ => ⟨I1.iY, ?_⟩) he hpl;exact xI M F hr hb hd hx I1 r q
end
section
variable {X : Cx} {CX : rH} {k : Nat} {f C : Addr} {fd : FuncData} {ps ks : List Str} {sp : Sp} {E : XK} {x m : Str} {p pos apos kpos : Pos} {e o : Expr} {es : List Expr} {kws : List Keyword} {te ta : TE} {t tk : TA} {nm : Option Str}
structure Dl (K : Frag)(fd : FuncData)(ps ks : List Str)(g : List Value -> List Value -> List Value)(gV : List V -> List V -> List V):Prop where
  to : ∀ (s : Shared) (us ws : List Value), K.In s.heap -> (g us ws).length = ps.length -> BindsTo s fd ⟨us, ks.zip ws⟩ (ps.zip (g us ws))
  rel : ∀ {vs : List V} {us : List Value} {zs : List V} {ws : List Value}, Vals vs us -> Vals zs ws -> Vals (gV vs zs) (g us ws)
variable {g : List Value -> List Value -> List Value} {gV : List V -> List V -> List V}
end
structure aB (N P : List Str)(sc : Scope):Prop where
  kind : sc.kind = .function
  co : sc.isCoroutine = false
  gen : sc.isGenerator = false
  nd : N.Nodup
  pre : N.take P.length = P
  par : ∀ x ∈ P, sc.names.lookup x = some .local \/ sc.names.lookup x = some .cell
  AO : ∀ y ∈ sc.names, y.2 ≠ .free
theorem nu {kindOf : Str -> Option NameKind}{x : Str}:∀ {binds : List (Str × Value)} {m : Str -> Option Value}, (∀ v, (x, v) ∉ binds) -> bindL kindOf binds m x = m x
  | [], _, _ => rfl
  | (n, v) :: r, m, h => by
    unfold bindL;rw [nu λw hw => h w (mem_cons_of_mem _ hw)];split
    · have : x ≠ n := by rintro rfl;exact h v mem_cons_self
      simp [this]
    · rfl
theorem nq {kindOf : Str -> Option NameKind}{x : Str}:∀ {binds : List (Str × Value)} {m : Str -> Option Value}, (∀ v, (x, v) ∉ binds) -> bindC kindOf binds m x = m x
  | [], _, _ => rfl
  | (n, v) :: r, m, h => by
    unfold bindC;rw [nq λw hw => h w (mem_cons_of_mem _ hw)];split
    · rfl
    · have : x ≠ n := by rintro rfl;exact h v mem_cons_self
      simp [this]
theorem nr {kindOf : Str -> Option NameKind}{x : Str}{v : Value}:∀ {P : List Str} {vs : List Value} {i : Nat} {m : Str -> Option Value}, P.Nodup -> P[i]? = some x -> vs[i]? = some v -> kindOf x = some .local ->
    bindL kindOf (P.zip vs) m x = some v
  | [], _, _, _, _, h, _, _ => by simp at h
  | _ :: _, [], _, _, _, _, h, _ => by simp at h
  | p :: P, w :: vs, 0, m, nd, h1, h2, hk => by
    simp at h1 h2;subst h1;subst h2;show bindL kindOf ((p, w) :: P.zip vs) m p = _;unfold bindL;rw [nu λv hv => (nodup_cons.mp nd).1 (List.of_mem_zip hv).1, if_pos hk];simp
  | p :: P, w :: vs, i + 1, m, nd, h1, h2, hk => by
    show bindL kindOf ((p, w) :: P.zip vs) m x = _;unfold bindL;exact nr (i := i) (nodup_cons.mp nd).2 (by simpa using h1) (by simpa using h2) hk
theorem nj {kindOf : Str -> Option NameKind}{x : Str}{v : Value}:∀ {P : List Str} {vs : List Value} {i : Nat} {m : Str -> Option Value}, P.Nodup -> P[i]? = some x -> vs[i]? = some v -> kindOf x ≠ some .local ->
    bindC kindOf (P.zip vs) m x = some v
  | [], _, _, _, _, h, _, _ => by simp at h
  | _ :: _, [], _, _, _, _, h, _ => by simp at h
  | p :: P, w :: vs, 0, m, nd, h1, h2, hk => by
    simp at h1 h2;subst h1;subst h2;show bindC kindOf ((p, w) :: P.zip vs) m p = _;unfold bindC;rw [nq λv hv => (nodup_cons.mp nd).1 (List.of_mem_zip hv).1, if_neg hk];simp
  | p :: P, w :: vs, i + 1, m, nd, h1, h2, hk => by
    show bindC kindOf ((p, w) :: P.zip vs) m x = _;unfold bindC;exact nj (i := i) (nodup_cons.mp nd).2 (by simpa using h1) (by simpa using h2) hk
noncomputable def start (N : List Str)(vs : List V):St := vs.map some ++ List.replicate (N.length - vs.length) none
noncomputable def mP (CX : rH)(P : Program)(w : World)(K : Frag)(mg : Str -> Option Value)(base : Heap)(N : List Str)(qual : Str)(scope : Scope)(f : Addr)(cd : Value)(A : Around)(outer : List Env)(s : Shared)(H : Hp)(E : XK):Cx where
  prog := P
  w := w
  K := K
  mg := mg
  base := base
  A := A.deeper (envOfC qual scope s.heap.objs.size f cd)
  N := N
  s₀ := s
  H₀ := H
  env := envOfC qual scope s.heap.objs.size f cd
  outer := outer
  stack := envOfC qual scope s.heap.objs.size f cd :: outer
  ex := []
  calm := true
  fn := λ_ => true
  pn := []
  xe := λe s' => wpAny (model P w) (A.deeper (envOfC qual scope s.heap.objs.size f cd)) (leaving (envOfC qual scope s.heap.objs.size f cd) e) (λ_ s'' => CX outer H s E e s'') (λe' s'' => CX outer H s E e' s'') s'
theorem qe {sc : Scope}{n : Nat}{x : Str}(h : sc.names.lookup x = some .cell):∃ c, (cellsFrom n sc.names []).lookup x = some c := by
  have q := cellsFrom_some sc.names n [] (.inl h);exact Option.isSome_iff_exists.mp q
theorem uX {CX : rH}{P : Program}{w : World}{K : Frag}{mg : Str -> Option Value}{base : Heap}{N ps : List Str}{qual : Str}{scope : Scope}{f : Addr}{cd : Value}{A : Around}{outer : List Env}{s s1 : Shared}{H : Hp}{E : XK}{us : List Value}{vs : List V}
    (S : aB N ps scope) (hd : A.handled = none) (e0 : rL P w K mg base A outer s H) (hl : vs.length = ps.length) (r : Vals vs us)
    (x : InCallC s s.heap.objs.size (bindL (envOfC qual scope s.heap.objs.size f cd).kindOf (ps.zip us) λ_ => none) (cellsFrom (s.heap.objs.size + 1) scope.names []) (bindC (envOfC qual scope s.heap.objs.size f cd).kindOf (ps.zip us) λ_ => none) s1) :
    Inv (mP CX P w K mg base N qual scope f cd A outer s H E) [] (start N vs) H s1 := by
  have hpl : ps.length <= N.length := by have := congrArg List.length S.pre;rw [length_take] at this;lia
  obtain ⟨h1, tk, rfl, hk⟩ := x.done;have noA : ∀ b : Addr, b ∉ (mP CX P w K mg base N qual scope f cd A outer s H E).ex := λb z => absurd (show b ∈ ([]:List Addr) from z) (by simp);refine ⟨⟨e0.mod, S.kind, rfl, rfl, Nat.le_refl _, λy z c h1 h2 => ?_, λy hy => ?_, λy c _ h => ?_, λ_ => hd, Around.frames_deeper e0.frames, .inr ⟨rfl, rfl⟩, λb z => absurd z (noA b), e0.bs, e0.xZ, λb _ _ => noA b, λb z => absurd z (noA b), e0.jK, e0.zI⟩,
    rfl, e0.bare, Un.kept hk, ⟨_, x.toInCall.ns, λi y v h1 h2 h3 => ?_⟩, λy c h => ⟨_, x.cell y c h⟩, e0.aX.fresh (Nat.le_refl _), λy c h => ?_, λp hp => absurd (show p ∈ ([]:List (Addr × Obj)) from hp) (by simp), e0.aX.kept hk, ?_⟩
  · exact name_of_addr x.apart (PySem.mem_of_lookup h1) (PySem.mem_of_lookup h2)
  · have hy : scope.names.lookup y = some .cell \/ scope.names.lookup y = some .free := hy;rcases hy with hy | hy
    · exact qe hy
    · exact absurd rfl (S.AO _ (PySem.mem_of_lookup hy))
  · exact Nat.le_of_lt (x.above y c (PySem.mem_of_lookup h))
  · have hi : i < vs.length := by
      unfold start at h2;by_cases hi : i < vs.length
      · exact hi
      · rw [List.getElem?_append_right (by simpa using hi)] at h2;rw [List.getElem?_replicate] at h2;split at h2 <;> cases h2
    have ha : vs[i]? = some v := by
      unfold start at h2;rw [List.getElem?_append_left (by simpa using hi), getElem?_map] at h2;cases e : vs[i]? with
      | none => rw [e] at h2;cases h2
      | some a => rw [e] at h2;cases h2;rfl
    obtain ⟨u, hu, rv⟩ := r.get ha;have hp : ps[i]? = some y := by
      rw [<- S.pre, List.getElem?_take_of_lt (by lia)];exact h1
    have ndP : ps.Nodup := by rw [<- S.pre];exact S.nd.sublist (List.take_sublist _ _)
    refine ⟨u, rv, ?_⟩;rcases S.par y (mem_of_getElem? hp) with k | k
    · exact .inl ⟨k, nr ndP hp hu k⟩
    · obtain ⟨c, e⟩ := qe (n := s.heap.objs.size + 1) k;refine .inr ⟨.inl k, c, e, ?_⟩;have q := x.cell y c e;rw [nj ndP hp hu (by show scope.names.lookup y ≠ _;rw [k];decide)] at q;exact q
  · exact e0.aX.fresh (Nat.le_of_lt (x.above y c (PySem.mem_of_lookup h)))
  · unfold start;show _ = N.length;rw [length_append, length_map, List.length_replicate];lia
theorem zH {CX : rH}{P : Program}{w : World}{K : Frag}{mg : Str -> Option Value}{base : Heap}{k : Nat}{f : Addr}{name qual : Str}{params : Arguments}{body : List Stmt}{scope : Scope}{dV kV doc pm cdv ct oc : Value}{an od : Option Addr}
    {osl : Array (Option Value)} {N ps : List Str} {sp : Sp} (lk : K.lookup f = some ⟨oc, od, .func (fnOf name qual params body scope dV kV doc pm an cdv ct), osl⟩) (hcd : codeIn K cdv qual = true) (S : aB N ps scope)
    (len : ∀ vs H Q E, sp vs H Q E -> vs.length = ps.length)
    (hbody : ∀ (A : Around) (outer : List Env) (s : Shared) (H : Hp) (vs : List V) (Q : VK) (E : XK), cF k (A.deeper (envOfC qual scope s.heap.objs.size f cdv)) -> sp vs H Q E ->
      ∃ t, lF (mP CX P w K mg base N qual scope f cdv A outer s H E) body t /\ t { nx := λ_ H' => Q .non H', rt := Q } (start N vs) H) :
    aI P w K mg base CX (k + 1) f (fnOf name qual params body scope dV kV doc pm an cdv ct) ps sp := by
  refine ⟨len, λA outer s H args us vs Q E hr e0 hb r hsp => ?_⟩;have hl := len _ _ _ _ hsp;have KX : K.In s.heap := e0.mod.AK.keeps λb o e => (e0.bs b o e).1;have lim : s.heap.NoLimit := e0.mod.nolimit.keeps λb o e => (e0.bs b o e).1;have hkind : ∀ y ∈ ps.zip us, scope.names.lookup y.1 = some .local \/ (scope.names.lookup y.1 = some .cell /\ ((cellsFrom (s.heap.objs.size + 1) scope.names []).lookup y.1).isSome = true) := by
    rintro ⟨n, v⟩ hy;rcases S.par n (List.of_mem_zip hy).1 with q | q
    · exact .inl q
    · exact .inr ⟨q, cellsFrom_some _ _ _ (.inl q)⟩
  refine codeAny_call_function hr.depth (KX _ _ lk) rfl S.co S.gen rfl (PySem.W.codeRec_of KX hcd) (hb _ _ _ _ ?_);refine wpAny_newFunctionEnv_cells S.kind hkind λenv he s1 x => ?_;subst he;refine ⟨lim.keeps x.toInCall.keep, codeAny_func ?_⟩;obtain ⟨t, ht, hq⟩ := hbody A outer s H vs Q E (hr.deeper _) hsp;have I : Inv (mP CX P w K mg base N qual scope f cdv A outer s H E) [] (start N vs) H s1 := uX S hr.hd e0 hl r x;refine wpAny_mono (ht [] s1 (start N vs) H _ I hq) (λfl s' hs => ?_) λe s' hs => hs;have fin : ∀ {σ' : St} {H' : Hp} {v : V} {u : Value}, Inv (mP CX P w K mg base N qual scope f cdv A outer s H E) [] σ' H' s' -> RelV v u -> Q v H' -> CE outer P w H s Q u s' :=
    λ{σ' H' v u} J rv q => ⟨v, H', J.os, J.bare, J.base, J.aX, rv, q⟩
  cases fl with
  | ret u =>
    obtain ⟨v, σ', H', J, rv, q⟩ := hs;exact fin J rv q
  | next =>
    obtain ⟨σ', H', J, q⟩ := hs;exact fin (v := V.non) (u := Value.none) J rfl q
  | brk =>
    obtain ⟨_, _, _, q⟩ := hs;exact False.elim q
  | cont =>
    obtain ⟨_, _, _, q⟩ := hs;exact False.elim q
end L2
namespace L2
open PySem PySem.Spec PyProof.Rows
section
variable {X : Cx} {x : Str} {p pos : Pos} {e : Expr} {es : List Expr} {t : TA} {id T : String} {r : List V -> Hp -> VK -> Prop}
noncomputable def D9 (r : List V -> Hp -> VK -> Prop)(t : TA):TE := λσ H Q => t σ H λvs H1 => r vs H1 Q
theorem q9 (hc : fI X (.builtin id) r)(hg : Gl X x)(hm : X.mg x = none)(hv : bootBuiltins x = some (.builtin id))(ha : PA X (e :: es) t)(hn :autoParam (x ≠ "__name__") aZb._auto_1)(hdb :autoParam ((x == ("__debug__" : Str)) = false) aZb._auto_1)
    (he :autoParam (starEach (e :: es) X.env = (false, eval e X.env) :: starEach es X.env) aZa._auto_1) (hpl :autoParam ((backTo pos (starEach es X.env)).any (·.1) = false) aZa._auto_1):PE X (.Call (.Name x p) (e :: es) [] pos) (D9 r t) := by
  intro pins s σ H Q I h;refine wpAny_Call_Name_kw (mi I hg hm hv ?_ hn hdb);exact PyProof.Rows.callWith_builtin1 (cm (ha pos pins s σ H _ I h) (by rintro us s1 ⟨vs, H1, I1, r1, q1⟩;exact hc pins s1 σ H1 vs us Q I1 r1 q1)) he hpl
theorem n3 (hc : fI X (.type T) r)(hg : Gl X x)(hm : X.mg x = none)(hv : bootBuiltins x = some (.type T))(ha : PA X (e :: es) t)(hn :autoParam (x ≠ "__name__") aZb._auto_1)(hdb :autoParam ((x == ("__debug__" : Str)) = false) aZb._auto_1)
    (he :autoParam (starEach (e :: es) X.env = (false, eval e X.env) :: starEach es X.env) aZa._auto_1) (hpl :autoParam ((backTo pos (starEach es X.env)).any (·.1) = false) aZa._auto_1):PE X (.Call (.Name x p) (e :: es) [] pos) (D9 r t) := by
  intro pins s σ H Q I h;refine wpAny_Call_Name_kw (mi I hg hm hv ?_ hn hdb);exact PyProof.Rows.callWith_type1 (cm (ha pos pins s σ H _ I h) (by rintro us s1 ⟨vs, H1, I1, r1, q1⟩;exact hc pins s1 σ H1 vs us Q I1 r1 q1)) he hpl
end
end L2
namespace HT
open PySem PyProof.Rows
section
open PySem.SeqAt
open PySem.AutoSeq1 (wpAny_loadPart')
open PySem.MeetsSeq PySem.MeetsSeq2 PySem.MeetsSeq3
end
section
variable {prog : Program} {w : World} {A : Around} {E : Value -> Shared -> Prop} {s : Shared}
theorem yl {t b : Addr}{vs ws : List Value}{Q : Value -> Shared -> Prop}(ht : IsTup s.heap t vs.toArray)(hb : IsTup s.heap b ws.toArray)(hv : vs ≠ [])
    (h1 : ws = [] -> Q (.ref t) s) (h2 : ws ≠ [] -> Q (.ref s.heap.objs.size) { s with heap := s.heap.push { cls := .type "tuple", data := .seq (vs ++ ws).toArray } })
    (hsz : vs.length + ws.length <= sizeLine):wpAny (model prog w) A (binaryOp .Add (.ref t) (.ref b)) Q E s := by
  obtain ⟨⟨cls, dd, data, sl⟩, ho, hc, n, hd⟩ := id ht;obtain ⟨⟨cls2, dd2, data2, sl2⟩, ho2, hc2, n2, hd2⟩ := id hb;simp only at hc hd hc2 hd2;subst hc hd hc2 hd2;have e : vs.toArray ++ ws.toArray = (vs ++ ws).toArray := by simp
  by_cases hw : ws = []
  · exact concat_meets ⟨_, ho, rfl⟩ ⟨_, ho2, rfl⟩ noFill_tuple_add seq_tuple_add PySem.F.slot_tuple_add PySem.F.entry_tuple_add (PySem.F.args_tuple_add_2 _ _)
      (tuple_addW1 t b vs.toArray ws.toArray n n2 dd dd2 sl sl2 (by simpa using hv) (by simp [hw])) ⟨ho, ho2, h1 hw⟩
  · refine concat_meets ⟨_, ho, rfl⟩ ⟨_, ho2, rfl⟩ noFill_tuple_add seq_tuple_add PySem.F.slot_tuple_add PySem.F.entry_tuple_add (PySem.F.args_tuple_add_2 _ _)
      (tuple_addW2 t b vs.toArray ws.toArray n n2 dd dd2 sl sl2 (by simpa using hv) (by simpa using hw) (by rw [size_toArray, size_toArray];exact hsz)) ⟨ho, ho2, ?_⟩
    rw [e];exact h2 hw
noncomputable def ef (n d : Nat):Option Int -> Nat
  | none => d
  | some v => if v < 0 then (v + (n : Int)).toNat else min v.toNat n
theorem Bg (n d : Nat)(hd : d <= n)(o : Option Int):ef n d o <= n := by
  cases o with
  | none => exact hd
  | some v =>
    show (if v < 0 then (v + (n : Int)).toNat else min v.toNat n) <= n;by_cases hv : v < 0
    · rw [if_pos hv];lia
    · rw [if_neg hv];exact Nat.min_le_right _ _
theorem sY (v : Int)(n d : Nat):(if v < 0 then max (v + (n : Int)) 0 else min v (n : Int)) = ((ef n d (some v):Nat):Int) := by
  show (if v < 0 then max (v + (n : Int)) 0 else min v (n : Int)) = (((if v < 0 then (v + (n : Int)).toNat else min v.toNat n):Nat):Int)
  by_cases hv : v < 0
  · simp only [if_pos hv];lia
  · simp only [if_neg hv];lia
theorem rO (lo hi : Option Int)(n : Nat):Builtin.Slice.sliceAdjust lo hi 1 (n : Int) = (((ef n 0 lo : Nat):Int), ((ef n n hi : Nat):Int)) := by
  have h1 : ¬ ((1 : Int) < 0) := by lia
  unfold Builtin.Slice.sliceAdjust;simp only [h1, if_false];refine Prod.ext ?_ ?_
  · cases lo with
    | none => rfl
    | some v => exact sY v n 0
  · cases hi with
    | none => rfl
    | some v => exact sY v n n
theorem sA (i j : Nat):Builtin.Slice.slicePlaces (i : Int) (j : Int) 1 = j - i := by
  unfold Builtin.Slice.slicePlaces;have h1 : (1 : Int) > 0 := by lia
  simp only [h1, if_true, Int.ediv_one];split <;> lia
theorem mG {v : Value}{o : Option Int}{Q : Option Int -> Shared -> Prop}(p : IsPart v o)(h : Q o s):wpAny (model prog w) A (Builtin.Slice.slicePartIndex v) Q E s := by
  cases p with
  | none => exact slicePart_none h
  | int i t => exact slicePart_int h
theorem ku {sl : Addr}{vl vu : Value}{lo hi : Option Int}{n : Nat}{Q : Int × Int × Nat -> Shared -> Prop}(hs : s.heap.IsSliceOf sl vl vu .none)(pl : IsPart vl lo)(pu : IsPart vu hi)
    (h : Q (((ef n 0 lo : Nat):Int), 1, ef n n hi - ef n 0 lo) s):wpAny (model prog w) A (Builtin.Slice.sliceApplied (.ref sl) (pure (n : Int))) Q E s := by
  obtain ⟨os, hos, hcs, hds⟩ := id hs;unfold Builtin.Slice.sliceApplied Builtin.Slice.sliceFields;refine wpAny_bind (wpAny_bind (wpAny_field hos hds (x := vl) rfl (wpAny_bind (wpAny_field hos hds (x := vu) rfl (wpAny_bind (wpAny_field hos hds (x := .none) rfl (wpAny_pure ?_)))))));refine wpAny_bind (slicePart_none ?_);show wpAny _ _ (if ((1 : Int) == 0) = true then _ else _) _ _ s;rw [if_neg (by decide)];refine wpAny_bind (mG pl (wpAny_bind (mG pu (wpAny_bind (wpAny_pure ?_)))));show wpAny _ _ (match Builtin.Slice.sliceAdjust lo hi 1 (n : Int) with | (lo, hi) => pure (lo, (1 : Int), Builtin.Slice.slicePlaces lo hi 1)) _ _ s;rw [rO lo hi n];show wpAny _ _ (pure (((ef n 0 lo : Nat):Int), (1 : Int), Builtin.Slice.slicePlaces ((ef n 0 lo : Nat):Int) ((ef n n hi : Nat):Int) 1)) _ _ s;rw [sA];exact wpAny_pure h
theorem xl (xs : Array Value)(i k : Nat):((List.range k).filterMap λ(m : Nat) => xs[((i : Int) + (m : Int) * 1).toNat]?).toArray = ((xs.toList.drop i).take k).toArray := by
  have e : (λ(m : Nat) => xs[((i : Int) + (m : Int) * 1).toNat]?) = λm => xs[i + m]? := by
    funext m
    have : ((i : Int) + (m : Int) * 1).toNat = i + m := by lia
    rw [this]
  rw [e];have := pick_run xs i k;rw [List.filterMap_map] at this;have e2 : ((λx => xs[x]?) ∘ λx => i + x) = λm => xs[i + m]? := rfl;rw [e2] at this;rw [this]
theorem jL {t sl : Addr}{items : Array Value}{vl vu : Value}{lo hi : Option Int}{Q : Value -> Shared -> Prop}(ht : IsTup s.heap t items)(hs : s.heap.IsSliceOf sl vl vu .none)(pl : IsPart vl lo)(pu : IsPart vu hi)
    (hw : ¬ (ef items.size 0 lo = 0 /\ ef items.size items.size hi = items.size))
    (h : Q (.ref s.heap.objs.size) { s with heap := s.heap.push { cls := .type "tuple", data := .seq ((items.toList.drop (ef items.size 0 lo)).take (ef items.size items.size hi - ef items.size 0 lo)).toArray } })
    (hsz : items.size <= sizeLine):wpAny (model prog w) A (getItem (.ref t) (.ref sl)) Q E s := by
  have htake : sizeOk (.seq ((items.toList.drop (ef items.size 0 lo)).take (ef items.size items.size hi - ef items.size 0 lo)).toArray) := by
    show ((items.toList.drop (ef items.size 0 lo)).take (ef items.size items.size hi - ef items.size 0 lo)).toArray.size <= sizeLine;rw [size_toArray, length_take, length_drop, length_toList];lia
  have hj : ef items.size items.size hi <= items.size := Bg _ _ (Nat.le_refl _) hi;obtain ⟨os, hos, hcs, hds⟩ := id hs;have hTs : s.TypeIs (.ref sl) "slice" := ⟨os, hos, hcs⟩
  unfold getItem;try with_reducible refine wpAny_holding ?_
  first | refine wpAny_bind (wpAny_pure ?_) | skip
  refine wpAny_bind (wpAny_sequenceKey ht.typeIs (by decide) ?_);refine wpAny_bind (wpAny_callSpecial?_slot (name := Str.ofString "__getitem__") ht.typeIs PyProof.Rows.slot_tuple_getitem
    (wpAny_call_entry PyProof.Rows.slot_tuple_getitem ht.typeIs entry_tuple_getitem ?_ (args_tuple_getitem _ _)))
  show wpAny _ _ (Builtin.Tuple.tupleItemsOf (.ref t) >>= _) _ _ s;refine wpAny_bind (tupleItemsOf_ ht ?_);refine wpAny_bind (wpAny_typeOf hTs ?_);rw [if_pos (by decide)];refine wpAny_bind (ku hs pl pu ?_);have hno : ¬ ((((ef items.size 0 lo : Nat):Int) == 0 && (1 : Int) == 1 && (ef items.size items.size hi - ef items.size 0 lo) == items.size) = true) := by
    intro q;rw [Bool.and_eq_true, Bool.and_eq_true] at q;have q1 : ((ef items.size 0 lo : Nat):Int) = 0 := eq_of_beq q.1.1;have q2 : ef items.size items.size hi - ef items.size 0 lo = items.size := eq_of_beq q.2;exact hw ⟨by lia, by lia⟩
  show wpAny _ _ (if (((ef items.size 0 lo : Nat):Int) == 0 && (1 : Int) == 1 && (ef items.size items.size hi - ef items.size 0 lo) == items.size) = true then _ else _) _ _ s;rw [if_neg hno, xl];first
    | exact wpAny_bind (m := Builtin.Tuple.tupleExact _) (wpAny_newObj_type (wpAny_pure ⟨_, rfl, wpAny_pure h⟩) htake)
    | exact wpAny_bind (m := Builtin.Tuple.tupleExact _) (wpAny_newObj_type (wpAny_bind (wpAny_pure (wpAny_pure ⟨_, rfl, wpAny_pure h⟩))) htake)
    | exact wpAny_bind (wpAny_bind (m := Builtin.Tuple.tupleExact _) (wpAny_newObj_type (wpAny_pure (wpAny_pure ⟨_, rfl, wpAny_pure h⟩)) htake))
    | exact wpAny_bind (wpAny_bind (m := Builtin.Tuple.tupleExact _) (wpAny_newObj_type (wpAny_pure ⟨_, rfl, wpAny_pure h⟩) htake))
end
end HT
namespace L2
open PySem PySem.Spec PyProof.Rows
noncomputable abbrev TO := St -> Hp -> (Option Int -> Hp -> Prop) -> Prop
noncomputable def PO (X : Cx)(e : Option Expr)(t : TO):Prop :=
  ∀ (pins : List (Addr × Obj)) (s : Shared) (σ : St) (H : Hp) (Q : Option Int -> Hp -> Prop), Inv X pins σ H s -> t σ H Q ->
    wpAny (model X.prog X.w) X.A (evalPart e X.env) (λu s' => ∃ o H', Inv X pins σ H' s' /\ IsPart u o /\ Q o H') X.xe s
noncomputable def zt : TO := λ_ H Q => Q none H
noncomputable def CU (t : TE):TO := λσ H Q => t σ H λx H1 => ∃ i, x = .int i /\ Q (some i) H1
theorem intsAre_of {ns : List Int}:∀ {us : List Value}, Vals (ns.map V.int) us -> IntsAre us ns := by
  induction ns with
  | nil => intro us r;rw [List.map_nil] at r;cases r;exact .nil
  | cons n ns ih =>
    intro us r;rw [map_cons] at r;cases r with
    | cons r1 r2 =>
      obtain ⟨t, e⟩ := r1;subst e;exact .cons n t (ih r2)
section
variable {X : Cx} {e : Expr} {te : TE} {lo hi : Option Expr} {tl th : TO} {pos p2 : Pos}
theorem ze : PO X none zt := by
  intro pins s σ H Q I h;rw [evalPart_none];exact wpAny_pure ⟨none, H, I, .none, h⟩
theorem zf (h : PE X e te):PO X (some e) (CU te) := by
  intro pins s σ H Q I hw;rw [evalPart_some];refine cm (h pins s σ H _ I hw) ?_;rintro u s1 ⟨x, H1, I1, r1, q1⟩;obtain ⟨i, rfl, q⟩ := q1;obtain ⟨t, rfl⟩ := r1;exact ⟨some i, H1, I1, .int i t, q⟩
noncomputable def Af (X : Cx)(r : V -> Option Int -> Option Int -> Hp -> VK -> Prop):Prop :=
  ∀ (pins : List (Addr × Obj)) (s : Shared) (σ : St) (H : Hp) (x : V) (v vl vu : Value) (lo hi : Option Int) (sl : Addr) (Q : VK), Inv X pins σ H s -> RelV x v -> s.heap.IsSliceOf sl vl vu .none -> IsPart vl lo -> IsPart vu hi -> r x lo hi H Q ->
    ∃ T id, typeLookup (.type T) "__getitem__" = pure (some (.builtin id)) /\ s.TypeIs v T /\ wpAny (model X.prog X.w) X.A (getItem v (.ref sl)) (EP X pins σ Q) X.xe s
theorem Af.or {r r' : V -> Option Int -> Option Int -> Hp -> VK -> Prop}(h : Af X r)(h' : Af X r'):Af X (λx lo hi H Q => r x lo hi H Q \/ r' x lo hi H Q) := by
  intro pins s σ H x v vl vu lo hi sl Q I rx hs pl pu q;rcases q with q | q
  · exact h pins s σ H x v vl vu lo hi sl Q I rx hs pl pu q
  · exact h' pins s σ H x v vl vu lo hi sl Q I rx hs pl pu q
noncomputable def EB (r : V -> Option Int -> Option Int -> Hp -> VK -> Prop)(te : TE)(tl th : TO):TE := λσ H Q => te σ H λx H1 => tl σ H1 λl H2 => th σ H2 λu H3 => r x l u H3 Q
theorem xj {r : V -> Option Int -> Option Int -> Hp -> VK -> Prop}(hr : Af X r)(he : PE X e te)(hl : PO X lo tl)(hu : PO X hi th):PE X (.Subscript e (.Slice lo hi none p2) pos) (EB r te tl th) := by
  intro pins s σ H Q I h;refine Subscript_ (cm (he pins s σ H _ I h) ?_);rintro v s1 ⟨x, H1, I1, r1, q1⟩;refine wpAny_Slice (cm (hl pins s1 σ H1 _ I1 q1) λvl s2 ⟨l, H2, I2, pl, q2⟩ => cm (hu pins s2 σ H2 _ I2 q2) ?_);rintro vu s3 ⟨u, H3, I3, pu, q3⟩;rw [evalPart_none];refine wpAny_pure ?_;have I4 : Inv X pins σ H3 { s3 with heap := s3.heap.push { cls := .type "slice", data := .fields #[vl, vu, .none] } } := I3.kept (t' := s3.toks) λb ob q => Heap.get?_push_of_some _ q;obtain ⟨T, id, hT, ht, hg⟩ := hr pins { s3 with heap := s3.heap.push { cls := .type "slice", data := .fields #[vl, vu, .none] } } σ H3 x v vl vu l u s3.heap.objs.size Q I4 r1 (Heap.IsSliceOf.new ..) pl pu q3;show wpAny (model X.prog X.w) X.A (subscriptTail e (.Slice lo hi none p2) v (.ref s3.heap.objs.size)) (EP X pins σ Q) X.xe { s3 with heap := s3.heap.push { cls := .type "slice", data := .fields #[vl, vu, .none] } };exact tail_any (ops := [.ref s3.heap.objs.size, v]) ht hT hg (by with_unfolding_all rfl)
noncomputable def eK (xs : List V)(lo hi : Option Int):List V := (xs.drop (HT.ef xs.length 0 lo)).take (HT.ef xs.length xs.length hi - HT.ef xs.length 0 lo)
theorem kC (xs : List V)(lo hi : Option Int):(eK xs lo hi).length <= xs.length := by
  unfold eK;rw [length_take, length_drop];lia
noncomputable def D6 (K : Frag):V -> Option Int -> Option Int -> Hp -> VK -> Prop := λx lo hi H Q => ∃ a xs, x = .ref a /\ mM K H a xs /\
  ¬ (HT.ef xs.length 0 lo = 0 /\ HT.ef xs.length xs.length hi = xs.length) /\ ∀ p, H p = none -> Q (.ref p) (upd H p (.tup (eK xs lo hi)))
theorem Bi : Af X (D6 X.K) := by
  intro pins s σ H x v vl vu lo hi sl Q I rx hs pl pu h;obtain ⟨a, xs, rfl, hx, hw, q⟩ := h;cases rx;obtain ⟨its, r, ht, hz⟩ := I.tuple hx;have hlen : its.toArray.size = xs.length := by rw [size_toArray];exact r.length.symm
  refine ⟨"tuple", _, PyProof.Rows.slot_tuple_getitem.lookup, ht.typeIs, ?_⟩;refine HT.jL ht hs pl pu (by rw [hlen];exact hw) ?_ (by rw [hlen];exact hz);rw [hlen];refine ⟨.ref s.heap.objs.size, _, I.laid (t' := s.toks) (o := .tup (eK xs lo hi)) (λb ob q => Heap.get?_push_of_some _ q) (Nat.le_refl _) ?_, rfl, q _ (I.aX.fresh (Nat.le_refl _))⟩;exact ⟨Nat.le_trans (kC xs lo hi) hz, _, (r.drop (HT.ef xs.length 0 lo)).take (HT.ef xs.length xs.length hi - HT.ef xs.length 0 lo), IsTup.new _ _⟩
noncomputable def Cq (K : Frag):R2 := λx y H Q => ∃ a b xs ys, x = .ref a /\ y = .ref b /\ mM K H a xs /\ mM K H b ys /\ xs ≠ [] /\ xs.length + ys.length <= sizeLine /\
  (ys = [] -> Q (.ref a) H) /\ (ys ≠ [] -> ∀ p, H p = none -> Q (.ref p) (upd H p (.tup (xs ++ ys))))
theorem Vals.oX {xs : List V}{us : List Value}(r : Vals xs us):us = [] ↔ xs = [] := by
  cases r with
  | nil => simp
  | cons _ _ => simp
theorem yV : i9 X (binaryOp .Add) (Cq X.K) := by
  intro pins s σ H x y v u Q I rx ry h;obtain ⟨a, b, xs, ys, rfl, rfl, ha, hb, hx, hz, q1, q2⟩ := h;cases rx;cases ry;obtain ⟨its, r1, p1, _⟩ := I.tuple ha;obtain ⟨its2, r2, p2, _⟩ := I.tuple hb;refine HT.yl p1 p2 (λz => hx (r1.oX.mp z)) (λz => ⟨.ref a, H, I, rfl, q1 (r2.oX.mp z)⟩) (λz => ?_) (by rw [<- r1.length, <- r2.length];exact hz);refine ⟨.ref s.heap.objs.size, _, I.laid (t' := s.toks) (o := .tup (xs ++ ys)) (λb ob q => Heap.get?_push_of_some _ q) (Nat.le_refl _) ?_, rfl, q2 (λw => z (r2.oX.mpr w)) _ (I.aX.fresh (Nat.le_refl _))⟩;exact ⟨by rw [length_append];exact hz, _, r1.append r2, IsTup.new _ _⟩
end
end L2
namespace L2
open PySem PySem.Spec PyProof.Rows
noncomputable def tW (n : Nat)(i : Int):Option Nat := if 0 <= i then (if i < n then some i.toNat else none) else if -(n : Int) <= i then some (i + n).toNat else none
noncomputable def ib {α : Type}(xs : List α)(i : Int):Option α := (tW xs.length i).bind λj => xs[j]?
theorem tX {n : Nat}{i : Int}{j : Nat}(h : tW n i = some j):seqIndex? i n = some j /\ j < n /\ -(n : Int) <= i /\ i < n := by
  unfold tW at h;by_cases h0 : 0 <= i
  · rw [if_pos h0] at h;by_cases h1 : i < n
    · rw [if_pos h1] at h;have e : i.toNat = j := Option.some.inj h;exact ⟨by rw [seqIndex_of h0 h1, e], by lia, by lia, h1⟩
    · rw [if_neg h1] at h;cases h
  · rw [if_neg h0] at h;by_cases h1 : -(n : Int) <= i
    · rw [if_pos h1] at h;have e : (i + n).toNat = j := Option.some.inj h;exact ⟨by rw [seqIndex_neg (by lia) h1, e], by lia, h1, by lia⟩
    · rw [if_neg h1] at h;cases h
theorem om {α : Type}{xs : List α}{i : Int}{v : α}(h : ib xs i = some v):∃ j, seqIndex? i xs.length = some j /\ xs[j]? = some v /\ j < xs.length /\ -(xs.length : Int) <= i /\ i < xs.length := by
  unfold ib at h;cases e : tW xs.length i with
  | none => rw [e] at h;cases h
  | some j =>
    rw [e] at h;obtain ⟨h1, h2, h3, h4⟩ := tX e;exact ⟨j, h1, h, h2, h3, h4⟩
theorem gK {α : Type}{xs : List α}{j : Nat}{v : α}(h : xs[j]? = some v):ib xs (j : Int) = some v := by
  have hj : j < xs.length := (List.getElem?_eq_some_iff.mp h).1;have e : tW xs.length (j : Int) = some j := by
    unfold tW;rw [if_pos (by lia), if_pos (by lia)];simp
  unfold ib;rw [e];exact h
noncomputable def sO (b : Expr):Prop := ∀ o i, subscripted b false o i = operate [o, i] (getItem o i)
noncomputable def yd (X : Cx)(r : R2):Prop :=
  ∀ (value slice : Expr) (pins : List (Addr × Obj)) (s : Shared) (σ : St) (H : Hp) (x y : V) (v u : Value) (Q : VK), Inv X pins σ H s -> RelV x v -> RelV y u -> r x y H Q ->
    subscripted slice false v u = operate [v, u] (getItem v u) -> wpAny (model X.prog X.w) X.A (subscriptTail value slice v u) (EP X pins σ Q) X.xe s
noncomputable def C4 (X : Cx)(id : String)(r : V -> List V -> Hp -> VK -> Prop):Prop :=
  ∀ (pins : List (Addr × Obj)) (s : Shared) (σ : St) (H : Hp) (x : V) (xs : List V) (v : Value) (us : List Value) (Q : VK), Inv X pins σ H s -> RelV x v -> Vals xs us -> r x xs H Q ->
    wpAny (model X.prog X.w) X.A (call (.builtin id) (v :: us)) (EP X pins σ Q) X.xe s
section
variable {X : Cx} {a b : Expr} {ta tb : TE} {pos : Pos}
theorem yd.or {r r' : R2}(h : yd X r)(h' : yd X r'):yd X (λx y H Q => r x y H Q \/ r' x y H Q) := by
  intro value slice pins s σ H x y v u Q I rx ry q hs;rcases q with q | q
  · exact h value slice pins s σ H x y v u Q I rx ry q hs
  · exact h' value slice pins s σ H x y v u Q I rx ry q hs
theorem jR {r : R2}(hr : yd X r)(ha : PE X a ta)(hb : PE X b tb)(hs : sO b):PE X (.Subscript a b pos) (CT r ta tb) := by
  intro pins s σ H Q I h;exact Subscript_ (Aj ha hb I h λv u s2 x y H2 I2 rx ry q => hr a b pins s2 σ H2 x y v u Q I2 rx ry q (hs _ _))
noncomputable def Cs (K : Frag):R2 := λx y H Q => ∃ p xs i v, x = .ref p /\ y = .int i /\ dD K H p xs /\ ib xs i = some v /\ Q v H
noncomputable def Cv (K : Frag):R2 := λx y H Q => ∃ p xs i v, x = .ref p /\ y = .int i /\ mM K H p xs /\ ib xs i = some v /\ Q v H
noncomputable def Cu : R2 := λx y H Q => ∃ z i c, x = .str z /\ y = .int i /\ z.length <= sizeLine /\ ib z.cps.toList i = some c /\ Q (.str ⟨#[c]⟩) H
theorem yG : yd X (Cs X.K) := by
  intro value slice pins s σ H x y v u Q I rx ry h hs;obtain ⟨p, xs, i, z, rfl, rfl, hq, he, q⟩ := h;cases rx;obtain ⟨t, rfl⟩ := ry;obtain ⟨its, r, pl, hz⟩ := I.list hq;obtain ⟨j, h1, h2, h3, h4, h5⟩ := om he;obtain ⟨w, ew, rw'⟩ := r.get h2;have hl := r.length;have hn := mj;have fin : EP X pins σ Q w s := ⟨z, H, I, rw', q⟩
  by_cases h0 : 0 <= i
  · have hj : i.toNat = j := by
      rw [seqIndex_of h0 h5] at h1;exact Option.some.inj h1
    exact item_listR pl.isList h0 (by lia) (by rw [hj];simpa using ew) fin hs
  · have hj : (i + (its.toArray.size : Int)).toNat = j := by
      rw [seqIndex_neg (by lia) h4] at h1;rw [size_toArray, <- hl];exact Option.some.inj h1
    exact subscriptTail_builtinR (x := w) pl.isList.typeIs slot_list_getitem.lookup
      (wpAny_getItem_list_neg (Q := λr s' => r = w /\ EP X pins σ Q r s') pl.isList (by lia) (by rw [size_toArray] <;> lia) (by lia) (by rw [hj];simpa using ew) ⟨rfl, fin⟩) hs
theorem r9 : yd X (Cv X.K) := by
  intro value slice pins s σ H x y v u Q I rx ry h hs;obtain ⟨p, xs, i, z, rfl, rfl, hq, he, q⟩ := h;cases rx;obtain ⟨t, rfl⟩ := ry;obtain ⟨its, r, pl, hz⟩ := I.tuple hq;obtain ⟨j, h1, h2, h3, h4, h5⟩ := om he;obtain ⟨w, ew, rw'⟩ := r.get h2;have hl := r.length;have hn := mj;have fin : EP X pins σ Q w s := ⟨z, H, I, rw', q⟩
  exact subscriptTail_builtinR (x := w) pl.typeIs slot_tuple_getitem.lookup
    (getItem_tuple (j := j) (Q := λr s' => r = w /\ EP X pins σ Q r s') pl (by lia) (by lia) (by rw [size_toArray, <- hl];exact h1) (by simpa using ew) ⟨rfl, fin⟩) hs
theorem AF : yd X Cu := by
  intro value slice pins s σ H x y v u Q I rx ry h hs;obtain ⟨z, i, c, rfl, rfl, hz, he, q⟩ := h;obtain ⟨t, rfl⟩ := rx;obtain ⟨t', rfl⟩ := ry;obtain ⟨j, h1, h2, h3, h4, h5⟩ := om he;have hl : z.cps.toList.length = z.length := by simp [Str.length]
  rw [hl] at h1 h4 h5;have hn := mj;exact tail_any (typeIs_str s z t) slot_str_getitem.lookup (getItem_str (c := c) (by
    have e1 : decide (i < -(2 ^ 63 : Int)) = false := decide_eq_false (by lia);have e2 : decide (i >= 2 ^ 63) = false := decide_eq_false (by lia);rw [e1, e2, Bool.or_false]) (by rw [h1];simpa using h2) ⟨.str ⟨#[c]⟩, H, I.tok _, ⟨_, rfl⟩, q⟩) hs
noncomputable def Er (K : Frag):R2 := λx y H Q => Cs K x y H Q \/ Cv K x y H Q \/ Cu x y H Q
theorem jo : yd X (Er X.K) := yG.or (r9.or AF)
theorem pG (lo hi : Option Int)(n : Nat):(sliceBounds lo hi none n).1 = ((HT.ef n 0 lo : Nat):Int) /\ (sliceBounds lo hi none n).2.1 = ((HT.ef n n hi : Nat):Int) /\ (sliceBounds lo hi none n).2.2 = 1 := by
  refine ⟨?_, ?_, rfl⟩
  · cases lo with
    | none => simp [sliceBounds, HT.ef]
    | some i =>
      simp only [sliceBounds, HT.ef, Option.getD_none, show (1 : Int) > 0 by decide, if_true];by_cases h : i < 0
      · simp only [h, if_true] <;> lia
      · simp only [h, if_false] <;> lia
  · cases hi with
    | none => simp [sliceBounds, HT.ef]
    | some i =>
      simp only [sliceBounds, HT.ef, Option.getD_none, show (1 : Int) > 0 by decide, if_true];by_cases h : i < 0
      · simp only [h, if_true] <;> lia
      · simp only [h, if_false] <;> lia
theorem m8 (its : List Value)(lo hi : Option Int):slicePick its.toArray lo hi none = ((its.drop (HT.ef its.length 0 lo)).take (HT.ef its.length its.length hi - HT.ef its.length 0 lo)).toArray := by
  obtain ⟨h1, h2, h3⟩ := pG lo hi its.toArray.size;unfold slicePick;rw [h1, h2, h3];simp only [sliceRange_one, pick_run, size_toArray] <;> rfl
noncomputable def D5 (K : Frag):V -> Option Int -> Option Int -> Hp -> VK -> Prop := λx lo hi H Q => ∃ a xs, x = .ref a /\ dD K H a xs /\ ∀ p, H p = none -> Q (.ref p) (upd H p (.lst (eK xs lo hi)))
theorem zr : Af X (D5 X.K) := by
  intro pins s σ H x v vl vu lo hi sl Q I rx hs pl pu h;obtain ⟨a, xs, rfl, hx, q⟩ := h;cases rx;obtain ⟨its, r, ht, hz⟩ := I.list hx;have hlen := r.length;refine ⟨"list", _, slot_list_getitem.lookup, ht.isList.typeIs, ?_⟩;refine wpAny_getItem_list_slice ht.isList hs pl pu .none (by simp) ?_ (by rw [size_toArray] <;> lia);rw [m8, <- hlen];refine ⟨.ref s.heap.objs.size, _, I.laid (t' := s.toks) (o := .lst (eK xs lo hi)) (λb ob q => Heap.get?_push_of_some _ q) (Nat.le_refl _) ?_, rfl, q _ (I.aX.fresh (Nat.le_refl _))⟩;exact ⟨Nat.le_trans (kC xs lo hi) hz, _, 0, (r.drop (HT.ef xs.length 0 lo)).take (HT.ef xs.length xs.length hi - HT.ef xs.length 0 lo), Heap.get?_push_size _ rfl⟩
noncomputable def BY : V -> Bool
  | .non => true
  | .bl _ => true
  | .int _ => true
  | .str _ => true
  | _ => false
noncomputable def Eh (K : Frag)(T : String)(x : V)(H : Hp):Prop := match x with
  | .str _ => T = "str"
  | .int _ => T = "int"
  | .ref p => (T = "list" /\ ∃ xs, dD K H p xs) \/ (T = "tuple" /\ ∃ o, K.lookup p = some o /\ o.cls = .type "tuple" /\ o.dict = none) \/
      (T = "dict" /\ ((∃ kvs, H p = some (.dK kvs)) \/ ∃ kvs, H p = some (.dT kvs))) \/ (T = "set" /\ ∃ S n, H p = some (.set S n))
  | _ => False
theorem xT {pins : List (Addr × Obj)}{σ : St}{H : Hp}{s : Shared}{T : String}{x : V}{v : Value}(I : Inv X pins σ H s)(r : RelV x v)(ty : Eh X.K T x H) :
    s.TypeIs v T /\ ∀ a, v = .ref a -> ∃ ob, s.heap.get? a = some ob /\ ob.dict = none := by
  cases x with
  | str z =>
    obtain ⟨t, rfl⟩ := r;cases (show T = "str" from ty);exact ⟨typeIs_str s z t, λ_ e => nomatch e⟩
  | int i =>
    obtain ⟨t, rfl⟩ := r;cases (show T = "int" from ty);exact ⟨typeIs_int s i t, λ_ e => nomatch e⟩
  | ref p =>
    cases r;rcases ty with ⟨rfl, xs, hq⟩ | ⟨rfl, o, hk, hc, hd⟩ | ⟨rfl, hk⟩ | ⟨rfl, S, n, hk⟩
    · obtain ⟨its, _, pl, _⟩ := I.list hq;refine ⟨pl.isList.typeIs, λa e => ?_⟩;cases e;obtain ⟨o, n, e, c, hd, _⟩ := pl;exact ⟨o, e, hd⟩
    · refine ⟨⟨o, I.iY p o hk, hc⟩, λa e => ?_⟩;cases e;exact ⟨o, I.iY _ o hk, hd⟩
    · have z : ∃ o, s.heap.get? p = some o /\ o.ExactDict := by
        rcases hk with ⟨kvs, hk⟩ | ⟨kvs, hk⟩
        · obtain ⟨_, _, _, _, o, _, _, e, ex, _⟩ := I.aX p _ hk;exact ⟨o, e, ex⟩
        · obtain ⟨_, _, _, _, o, _, _, e, ex, _⟩ := I.aX p _ hk;exact ⟨o, e, ex⟩
      obtain ⟨o, e, ex⟩ := z;refine ⟨⟨o, e, ex.1⟩, λa e2 => ?_⟩;cases e2;exact ⟨o, e, ex.2.1⟩
    · obtain ⟨o, _, _, _, e, ex, _⟩ := I.aX p _ hk;refine ⟨⟨o, e, ex.1⟩, λa e2 => ?_⟩;cases e2;exact ⟨o, e, ex.2.1⟩
  | _ => exact False.elim ty
noncomputable def CK (K : Frag)(T : String)(r : V -> List V -> Hp -> VK -> Prop)(to : TE):TE := λσ H Q => to σ H λx H1 => Eh K T x H1 /\ r x [] H1 Q
noncomputable def EA (K : Frag)(T : String)(r : V -> List V -> Hp -> VK -> Prop)(to : TE)(t : TA):TE := λσ H Q => to σ H λx H1 => Eh K T x H1 /\ t σ H1 λxs H2 => r x xs H2 Q
variable {o e : Expr} {es : List Expr} {to : TE} {t : TA} {name : Str} {apos cpos : Pos} {T id : String} {r : V -> List V -> Hp -> VK -> Prop}
theorem w6 (pa : PlainAttrs T)(slot : Slot T name id)(hty : typeOf (.builtin id) = pure (.type "method_descriptor"))(hm : C4 X id r)(ho : PE X o to)
    (hbase :autoParam (attributeBase o name X.env (eval o X.env) = eval o X.env) aZa._auto_1) (hline :autoParam ((apos.endLine == cpos.line) = true) aZa._auto_1):PE X (.Call (.Attribute o name apos) [] [] cpos) (CK X.K T r to) := by
  intro pins s σ H Q I h;refine wpAny_Call_method0_late hbase hline (cm (ho pins s σ H _ I h) ?_);rintro v s1 ⟨x, H1, I1, r1, ty, q1⟩;obtain ⟨h1, h2⟩ := xT I1 r1 ty;exact ⟨T, id, pa, slot, hty, h1, h2, Calls.callWith_builtin rfl (PySem.evalArgs_none (hm pins s1 σ H1 x [] v [] Q I1 r1 .nil q1))⟩
theorem nZ (pa : PlainAttrs T)(slot : Slot T name id)(hty : typeOf (.builtin id) = pure (.type "method_descriptor"))(hm : C4 X id r)(ho : PE X o to)(ha : PA X (e :: es) t)
    (hbase :autoParam (attributeBase o name X.env (eval o X.env) = eval o X.env) aZa._auto_1)
    (hfew :autoParam (((backTo cpos (starEach (e :: es) X.env)).all (λx => !x.1) && (backToKw cpos (keywordEach [] X.env)).all (λx => x.1.isSome)
      && decide ((e :: es).length + ([]:List Keyword).length + (if ([]:List Keyword).isEmpty then 0 else 1) < 30)) = true) aZa._auto_1)
    (hline :autoParam ((apos.endLine == cpos.line) = true) aZa._auto_1) (hs :autoParam (starEach (e :: es) X.env = (false, eval e X.env) :: starEach es X.env) aZa._auto_1) (hplain :autoParam ((backTo cpos (starEach es X.env)).any (·.1) = false) aZa._auto_1) :
    PE X (.Call (.Attribute o name apos) (e :: es) [] cpos) (EA X.K T r to t) := by
  intro pins s σ H Q I h;refine wpAny_Call_method_late hbase hfew hline rfl (cm (ho pins s σ H _ I h) ?_);rintro v s1 ⟨x, H1, I1, r1, ty, q1⟩;obtain ⟨h1, h2⟩ := xT I1 r1 ty;refine ⟨T, id, pa, slot, hty, h1, h2, ?_⟩;have hA := ha cpos pins s1 σ H1 _ I1 q1;rw [hs] at hA ⊢;refine Calls.callWith_builtin (by show (false || (backTo cpos (starEach es X.env)).any (·.1)) = false;rw [hplain] <;> rfl) (Calls.evalArgs_plain ?_);exact cm hA (by rintro us s2 ⟨vs, H2, I2, r2, q2⟩;exact hm pins s2 σ H2 x vs v us Q I2 r1 r2 q2)
end
end L2
namespace L2
open PySem PySem.Spec PyProof.Rows
noncomputable def C3 (X : Cx)(id : String)(r : V -> List V -> Hp -> VK -> Prop):Prop :=
  ∀ (pins : List (Addr × Obj)) (s : Shared) (σ : St) (H : Hp) (x : V) (xs : List V) (v : Value) (us : List Value) (Q : VK), Inv X pins σ H s -> RelV x v -> Vals xs us -> r x xs H Q ->
    wpAny (model X.prog X.w) X.A (call (.builtin id) (v :: us)) (EP X pins σ Q) X.xe s
theorem Vals.one : ∀ {x : V} {us : List Value}, Vals [x] us -> ∃ u, us = [u] /\ RelV x u
  | _, _, .cons r .nil => ⟨_, rfl, r⟩
theorem Vals.eraseIdx : ∀ {xs : List V} {us : List Value} (i : Nat), Vals xs us -> Vals (xs.eraseIdx i) (us.eraseIdx i)
  | _, _, _, .nil => .nil
  | _, _, 0, .cons _ t => t
  | _, _, i + 1, .cons r t => .cons r (Vals.eraseIdx i t)
theorem Vals.rep {xs : List V}{us : List Value}(h : Vals xs us):∀ k : Nat, Vals (List.replicate k xs).flatten (List.replicate k us).flatten
  | 0 => .nil
  | k + 1 => by
    rw [List.replicate_succ, List.replicate_succ, List.flatten_cons, List.flatten_cons];exact Vals.append h (Vals.rep h k)
theorem nU {α : Type}:∀ (l : List α) (i : Nat), (l.eraseIdx i).length <= l.length
  | [], _ => Nat.le_refl _
  | _ :: _, 0 => Nat.le_succ _
  | _ :: r, i + 1 => Nat.succ_le_succ (nU r i)
theorem foldl_rep (its : List Value):∀ (k : Nat) (acc : List Value),
    List.foldl (λx1 x2 => x1 ++ x2) acc.toArray (List.replicate k its.toArray) = (acc ++ (List.replicate k its).flatten).toArray
  | 0, acc => by simp
  | k + 1, acc => by
    have e : acc.toArray ++ its.toArray = (acc ++ its).toArray := by simp
    have e2 : (acc ++ its) ++ (List.replicate k its).flatten = acc ++ (List.replicate (k + 1) its).flatten := by
      rw [List.replicate_succ, List.flatten_cons, append_assoc]
    rw [<- e2, <- foldl_rep its k (acc ++ its), <- e, List.replicate_succ, List.foldl_cons]
section
variable {X : Cx} {pins : List (Addr × Obj)} {σ : St} {H : Hp} {s : Shared} {l b : Addr} {xs ys zs : List V}
theorem Inv.yL {its its' : List Value}{n : Nat}{f : Array Value -> Array Value}{t' : Nat}(I : Inv X pins σ H s)(hH : H l = some (.lst xs))
    (e : s.heap.get? l = some { cls := .type "list", data := .seq its.toArray n }) (hf : f its.toArray = its'.toArray) (hv : Vals ys its') (hz : ys.length <= sizeLine) :
    Inv X pins σ (upd H l (.lst ys)) { s with heap := s.heap.update l (Obj.mapSeq f), toks := t' } := by
  have q := PySem.IsL.update e f;rw [hf] at q;refine I.write (x := l) (e := l) (by rw [hH];exact trivial) (.inl rfl) (λb' u hb hu => (Heap.get?_update_other s.heap (Obj.mapSeq f) (Ne.symm hb)).trans hu) ⟨_, q⟩ ?_;exact ⟨hz, its', _, hv, q⟩
theorem Inv.AN {its : List Value}{t' : Nat}(I : Inv X pins σ H s)(hv : Vals ys its)(hz : ys.length <= sizeLine) :
    Inv X pins σ (upd H s.heap.objs.size (.lst ys)) { s with heap := s.heap.push { cls := .type "list", data := .seq its.toArray }, toks := t' } :=
  I.laid (λ_ _ q => Heap.get?_push_of_some _ q) (Nat.le_refl _) ⟨hz, its, 0, hv, Heap.get?_push_size _ rfl⟩
theorem Inv.fresh (I : Inv X pins σ H s):H s.heap.objs.size = none := I.aX.fresh (Nat.le_refl _)
theorem Inv.qS (I : Inv X pins σ H s)(hH : H l = some (.lst xs)):xs.length <= sizeLine /\ ∃ (its : List Value) (n : Nat), Vals xs its /\ xs.length = its.length /\ s.heap.get? l = some { cls := .type "list", data := .seq its.toArray n } := by
  obtain ⟨z, its, n, r, e⟩ := I.aX l _ hH;exact ⟨z, its, n, r, r.length, e⟩
theorem qY {n : Nat}(h : n <= sizeLine):Builtin.List.listTooLong n = false := by
  unfold Builtin.List.listTooLong;exact decide_eq_false (by lia)
end
section
variable {X : Cx}
noncomputable def zh : V -> List V -> Hp -> VK -> Prop := λx vs H Q => ∃ l xs y, x = .ref l /\ vs = [y] /\ H l = some (.lst xs) /\ xs.length < sizeLine /\ Q .non (upd H l (.lst (xs ++ [y])))
theorem iS : C3 X "list.append" zh := by
  intro pins s σ H x vs v us Q I rx rv h;obtain ⟨l, xs, y, rfl, rfl, hH, hz, q⟩ := h;cases rx;obtain ⟨u, rfl, ru⟩ := rv.one;obtain ⟨z, its, n, r, hl, e⟩ := I.qS hH;refine call_meets F.slot_list_append ⟨_, e, rfl⟩ F.entry_list_append (F.args_list_append_2 _ _) (PySem.list_append l its.toArray n u (by rw [size_toArray];lia)) ⟨e, ?_⟩;refine ⟨.non, _, I.yL (its' := its ++ [u]) hH e (by simp) (r.append (.cons ru .nil)) ?_, rfl, q⟩;rw [length_append, List.length_singleton];lia
noncomputable def zi : V -> List V -> Hp -> VK -> Prop := λx vs H Q => ∃ l b xs zs, x = .ref l /\ vs = [.ref b] /\ H l = some (.lst xs) /\ H b = some (.lst zs) /\ xs.length + zs.length <= sizeLine /\ Q .non (upd H l (.lst (xs ++ zs)))
theorem Bz : C3 X "list.extend" zi := by
  intro pins s σ H x vs v us Q I rx rv h;obtain ⟨l, b, xs, zs, rfl, rfl, hH, hB, hz, q⟩ := h;cases rx;obtain ⟨u, rfl, ru⟩ := rv.one;cases ru;obtain ⟨z, its, n, r, hl, e⟩ := I.qS hH;obtain ⟨z2, its2, n2, r2, hl2, e2⟩ := I.qS hB;have hsz : its.toArray.size + its2.toArray.size <= sizeLine := by rw [size_toArray, size_toArray];lia
  have hlong : ¬ (!its.toArray.isEmpty && Builtin.List.listTooLong (its.toArray.size + its2.toArray.size)) = true := by
    rw [qY hsz, Bool.and_false];exact Bool.false_ne_true
  refine call_meets F.slot_list_extend ⟨_, e, rfl⟩ F.entry_list_extend (F.args_list_extend_2 _ _)
    (AutoSeq1.list_extend_list_list_0 l its.toArray n b its2.toArray n2 hlong (by rw [size_toArray];lia) (by lia)) ⟨e, e2, ?_⟩
  refine ⟨.non, _, I.yL (its' := its ++ its2) hH e (by simp) (r.append r2) ?_, rfl, q⟩;rw [length_append];lia
noncomputable def xD : V -> List V -> Hp -> VK -> Prop := λx vs H Q => ∃ l xs i k y, x = .ref l /\ vs = [.int i] /\ H l = some (.lst xs) /\ -(2 ^ 63) <= i /\ i < 2 ^ 63 /\ seqIndex? i xs.length = some k /\ xs[k]? = some y /\ Q y (upd H l (.lst (xs.eraseIdx k)))
theorem qV : C3 X "list.pop" xD := by
  intro pins s σ H x vs v us Q I rx rv h;obtain ⟨l, xs, i, k, y, rfl, rfl, hH, h1, h2, hk, hy, q⟩ := h;cases rx;obtain ⟨u, rfl, ru⟩ := rv.one;obtain ⟨t, rfl⟩ := ru;obtain ⟨z, its, n, r, hl, e⟩ := I.qS hH;obtain ⟨w, hw, rw'⟩ := r.get hy;refine call_meets F.slot_list_pop ⟨_, e, rfl⟩ F.entry_list_pop (F.args_list_pop_2 _ _)
    (MeetsSeq.list_pop_at l its.toArray n i t k w (fitsIndex_both h1 h2) (by rw [size_toArray, <- hl];exact hk) (by rw [<- Array.getElem?_toList];exact hw) (by rw [size_toArray];lia)) ⟨e, ?_⟩
  refine ⟨y, _, I.yL (its' := its.eraseIdx k) hH e ?_ (r.eraseIdx k) ?_, rw', q⟩
  · show its.toArray.eraseIdxIfInBounds k = (its.eraseIdx k).toArray;rw [List.eraseIdxIfInBounds_toArray]
  · have := nU xs k;lia
noncomputable def D0 : R2 := λx y H Q => ∃ l b xs zs, x = .ref l /\ y = .ref b /\ H l = some (.lst xs) /\ H b = some (.lst zs) /\ xs.length + zs.length <= sizeLine /\ ∀ p, H p = none -> Q (.ref p) (upd H p (.lst (xs ++ zs)))
theorem AR : i9 X (binaryOp .Add) D0 := by
  intro pins s σ H x y v u Q I rx ry h;obtain ⟨l, b, xs, zs, rfl, rfl, hH, hB, hz, q⟩ := h;cases rx;cases ry;obtain ⟨z, its, n, r, hl, e⟩ := I.qS hH;obtain ⟨z2, its2, n2, r2, hl2, e2⟩ := I.qS hB;refine PySem.P.add_list e e2 ?_ (by rw [size_toArray, size_toArray];lia);have ea : its.toArray ++ its2.toArray = (its ++ its2).toArray := by simp
  rw [ea];exact ⟨.ref _, _, I.AN (t' := s.toks) (r.append r2) (by rw [length_append];lia), rfl, q _ I.fresh⟩
noncomputable def D4 : R2 := λx y H Q => ∃ l k xs, x = .ref l /\ y = .int k /\ H l = some (.lst xs) /\ -(2 ^ 63) <= k /\ k < 2 ^ 63 /\ xs.length * k.toNat <= sizeLine /\
  ∀ p, H p = none -> Q (.ref p) (upd H p (.lst (List.replicate k.toNat xs).flatten))
theorem len_rep {α : Type}(xs : List α)(k : Nat):(List.replicate k xs).flatten.length = k * xs.length := by
  induction k with
  | zero => simp
  | succ k ih => rw [List.replicate_succ, List.flatten_cons, length_append, ih, Nat.succ_mul, Nat.add_comm]
theorem AY : i9 X (binaryOp .Mult) D4 := by
  intro pins s σ H x y v u Q I rx ry h;obtain ⟨l, k, xs, rfl, rfl, hH, h1, h2, hz, q⟩ := h;cases rx;obtain ⟨t, rfl⟩ := ry;obtain ⟨z, its, n, r, hl, e⟩ := I.qS hH;have hlen : its.toArray.size * k.toNat <= sizeLine := by rw [size_toArray, <- hl];exact hz
  have hcap : ¬ its.toArray.size * k.toNat > (2 ^ 63 - 1) / 8 := by
    have : (sizeLine : Nat) <= (2 ^ 63 - 1) / 8 := by decide
    lia
  have hfit : ¬ (!Builtin.List.listFitsIndex k) = true := by
    rw [fitsIndex_both h1 h2];exact Bool.false_ne_true
  have hlong : ¬ Builtin.List.listTooLong (its.toArray.size * k.toNat) = true := by
    rw [qY hlen];exact Bool.false_ne_true
  have hnew : List.foldl (λx1 x2 => x1 ++ x2) #[] (List.replicate (if its.toArray.isEmpty = true then 0 else k.toNat) its.toArray) = (List.replicate k.toNat its).flatten.toArray := by
    have f0 : ∀ m : Nat, List.foldl (λx1 x2 => x1 ++ x2) #[] (List.replicate m its.toArray) = (List.replicate m its).flatten.toArray := λm => by
      have := foldl_rep its m [];rw [List.nil_append] at this;exact this
    rw [f0];cases its with
    | nil => simp
    | cons a r' => rw [if_neg (by simp)]
  refine wpAny_binaryOp_repeat_ref (T := "list") (U := "int") (by decide) ⟨_, e, rfl⟩ (λs' => typeIs_int s' k t) noFill_list_mul F.fills_int_mul F.slot_int_rmul repeat_list F.slot_int_index.lookup
    (call_meets F.slot_int_rmul (typeIs_int s k t) F.entry_int_rmul (F.args_int_rmul_2 _ _) (int___rmul___int_list k t l its.toArray n)
      ⟨e, rfl, ⟨_, e, rfl⟩, call_meets F.slot_list_mul ⟨_, e, rfl⟩ F.entry_list_mul (F.args_list_mul_2 _ _) (AutoListH.list___mul___list_int_3 l its.toArray n k t hfit hcap hlong) ⟨e, ?_⟩⟩)
  rw [hnew];exact ⟨.ref _, _, I.AN (t' := s.toks) (r.rep k.toNat) (by rw [len_rep, Nat.mul_comm];exact hz), rfl, q _ I.fresh⟩
end
section
variable {prog : Program} {w : World} {A : Around} {E : Value -> Shared -> Prop} {s : Shared}
end
section
variable {X : Cx}
end
end L2
namespace Att
open PySem PySem.W PySem.Calls PyProof.Rows
theorem kR {P : Params}{h : Heap}:∀ (ns : List Int) (vs : List Value), WellAll P h vs (ns.map WData.int) -> IntsAre vs ns := by
  intro ns;induction ns with
  | nil =>
    intro vs w;rw [List.map_nil] at w;cases w;exact .nil
  | cons n ns ih =>
    intro vs w;rw [map_cons] at w;cases w with
    | cons a b =>
      cases a;exact .cons _ _ (ih _ b)
theorem vk {l : OpenLaw}{n : Nat}(hn : l.most = some n){P : Params}{h : Heap}{args : List WData}{vals : List Value}
    (hpre : l.row.toRowW.claim.pre args = true) (hwl : WellAll P h vals args) :
    ∃ a vs ns, vals = [Value.ref a] /\ args = [WData.list (ns.map WData.int)] /\ h.get? a = some { cls := .type "list", data := .seq vs.toArray } /\ IntsAre vs ns /\ ns.length <= n := by
  have hsh : WShape.hasAll [] args [.list .int] = true := (pre_splitW hpre).1;have hc : l.pre.holds [] { args := args } = true := (pre_splitW hpre).2;obtain ⟨d, r, rfl, h1, h2⟩ := hasAllW_cons hsh;obtain rfl := hasAllW_nil h2;obtain ⟨xs, rfl, h3⟩ := hasW_list h1;obtain ⟨ns, rfl⟩ := items_int h3;have hlen : ns.length <= n := by
    unfold OpenLaw.pre at hc;have h4 : (WTm.not (.lt (.lit (.int (n : Int))) (.len (.arg 0)))).holds [] { args := [.list (ns.map .int)] } = true := by
      have h4 := (holds_andW hc).1;rw [hn] at h4;exact h4
    have h5 := condW_of h4 (w_not (w_lt w_lit (w_len_list (w_arg rfl))));rw [length_map] at h5;refine Nat.le_of_not_lt λq => ?_;have q' : (n : Int) < ((ns.length : Nat):Int) := by lia
    first
      | (rw [decide_eq_true q'] at h5;exact absurd h5 (by decide))
      | (simp at h5;lia)
  cases hwl with
  | cons w1 w2 =>
    cases w2;cases w1 with
    | list ho hall => exact ⟨_, _, ns, rfl, rfl, ho, kR ns _ hall, hlen⟩
theorem vh (l : OpenLaw)(args : List WData):l.row.toRowW.claim.post args (.bool true) args = true :=
  postW_of (r := l.row.toRowW) (X := (true == true))
    (show WShape.has [] (.bool true) .bool = true by first | rfl | decide | simp [WShape.has, WShape.arms, WShape.armsAll])
    (show (WTm.eq .res (.lit (.bool true))).value [] { args := args, res := some (.bool true), after := args } = some (.bool (true == true)) from w_eq_bool (w_res rfl) w_lit) rfl
theorem qb {l : OpenLaw}{n : Nat}{q : Program}{loose : List Str}{XP : (Str -> Option Value) -> Heap -> Prop}{YP : World -> Heap -> Prop}{d : DefRec}
    (hn : l.most = some n) (hdf : d.params.defaults = [])
    (call : ∀ (w : World) (s₀ s₁ : Shared) (mg mb : Str -> Option Value) (fa : Addr) (o : Obj) (pm cd doc : Value) (a : Addr) (vs : List Value) (ns : List Int),
      Ground q loose [] XP w s₀ mg mb s₁.heap -> YP w s₁.heap ->
      s₁.heap.get? fa = some o -> o.data = .func (docDef d.name d.params d.body d.scope pm cd doc) -> s₁.heap.CodeRec cd d.name -> mg d.name = some (.ref fa) ->
      s₁.heap.get? a = some { cls := .type "list", data := .seq vs.toArray } -> IntsAre vs ns -> ns.length <= n -> s₁.gens = #[] ->
      codeAny (model l.prog w) callerA (.call (.ref fa) ⟨[.ref a], []⟩) (λr s' => r = .ok (.ret (.bool true)) /\ OldK s₁.heap s'.heap /\ s'.os = s₁.os /\ AllBare s'.gens) s₁) :
    WalkO q loose XP YP l.row.toRowW d [] (λf vs => PySem.call f vs) := by
  intro w s₀ s₁ mg mb G Y fa o pm cd doc dV kV ho hd hcd hD hmg hg args vals as hpre hlay hrd hwl hlo;obtain rfl : dV = .none := Dflts.none hD hdf;obtain rfl : kV = .none := Dflts.noKw hD;obtain ⟨a, vs, ns, rfl, rfl, hobj, hints, hlen⟩ := vk hn hpre hwl;refine enter_call (codeAny_mono (call w s₀ s₁ mg mb fa o pm cd doc a vs ns G Y ho (fd_plain hd) hcd hmg hobj hints hlen hg) λr s' hq => ?_);obtain ⟨rfl, h2, h3, h4⟩ := hq;exact ⟨.inl ⟨.bool true, .bool true, [], rfl, λ_ => rfl, .bool true, vh l _, λ_ => ⟨List.Pairwise.nil, λ_ hm => (nomatch hm)⟩⟩, h2, h3, h4⟩
section
variable {prog : Program} {w : World} {A : Around} {E : Value -> Shared -> Prop} {s : Shared} {K : Frag}
end
end Att
namespace L2
open PySem PySem.Spec PyProof.Rows
theorem og : ∀ {vs : List Value} {ns : List Int}, IntsAre vs ns -> Vals (ns.map V.int) vs
  | _, _, .nil => .nil
  | _, _, .cons n t h => .cons ⟨t, rfl⟩ (og h)
noncomputable def ye (H : Hp):Prop := ∀ b, H b = none \/ ∃ o xs, H b = some (.bR o (.lst xs))
theorem wJ {P : Program}{w : World}{K : Frag}{mg mb : Str -> Option Value}{CX : rH}{k : Nat}{fa a : Addr}{fd : FuncData}{x : Str}{sp : Sp}{s₁ : Shared}{vs : List Value}{ns : List Int}
    (KX : K.In s₁.heap) (hns : s₁.heap.Ns mainGlobals mg) (hb : s₁.heap.Ns builtinsNs mb) (hbb : ∀ x : Str, x ≠ "__name__" -> mb x = bootBuiltins x) (hlim : s₁.heap.NoLimit) (hg : s₁.gens = #[])
    (ha : s₁.heap.get? a = some { cls := .type "list", data := .seq vs.toArray }) (hi : IntsAre vs ns) (hl : ns.length <= sizeLine) (hr : cF k callerA)
    (F : ∀ base : Heap, K.In base -> base.Ns mainGlobals mg -> aI P w K mg base CX k fa fd [x] sp) (hbind : ∀ (s : Shared) (u : Value), BindsTo s fd ⟨[u], []⟩ [(x, u)])
    (hsp : ∀ H : Hp, ye H -> dD K H a (ns.map V.int) -> sp [.ref a] H (λv _ => v = .bl true) λ_ _ _ => False)
    (hCX : ∀ H e s', CX [] H s₁ (λ_ _ _ => False) e s' -> False) :
    codeAny (model P w) callerA (.call (.ref fa) ⟨[.ref a], []⟩) (λr s' => r = .ok (.ret (.bool true)) /\ OldK s₁.heap s'.heap /\ s'.os = s₁.os /\ AllBare s'.gens) s₁ := by
  have rv := og hi;have lenV := hi.length;have core : ∀ H : Hp, ye H -> dD K H a (ns.map V.int) -> hJ P w H s₁.heap -> (∀ b, H b ≠ none -> b = a) -> (H a ≠ none -> K.lookup a = none) ->
      codeAny (model P w) callerA (.call (.ref fa) ⟨[.ref a], []⟩) (λr s' => r = .ok (.ret (.bool true)) /\ OldK s₁.heap s'.heap /\ s'.os = s₁.os /\ AllBare s'.gens) s₁ := by
    intro H hO hS aX hA hK;have base_of : ∀ {b : Addr} {o : Obj}, s₁.heap.get? b = some o -> H b = none -> (oR s₁.heap H).get? b = some o := λe n => wF e n;have noA : ∀ {b : Addr} {o : Obj} {es : Array DictEntry} {ep : Nat}, s₁.heap.get? b = some o -> o.data = .dict es ep -> H b = none := λ{b o es ep} e d => by
      cases q : H b with
      | none => rfl
      | some u =>
        have e' : b = a := hA b (by rw [q];simp);subst e';rw [ha] at e;cases e;have d' : Data.seq vs.toArray _ = Data.dict es ep := d;cases d'
    have nsK : ∀ {b : Addr} {m : Str -> Option Value}, s₁.heap.Ns b m -> (oR s₁.heap H).Ns b m := λ{b m} ⟨o, es, ep, e, d, r⟩ => ⟨o, es, ep, base_of e (noA e d), d, r⟩
    have hKb : K.In (oR s₁.heap H) := λb o e => base_of (KX b o e) (by
      cases q : H b with
      | none => rfl
      | some u =>
        have e' : b = a := hA b (by rw [q];simp);subst e';rw [hK (by rw [q];simp)] at e;cases e)
    have hM : Mod K mg (oR s₁.heap H) := ⟨hKb, nsK hns, ⟨mb, nsK hb, hbb⟩, let ⟨mc, h1, h2⟩ := hlim;⟨mc, nsK h1, h2⟩⟩
    have e0 : rL P w K mg (oR s₁.heap H) callerA [] s₁ H := ⟨rfl, hM, λb o e => yR e, Nat.le_of_eq (uU _ _), trivial, λb hb => absurd (show b ∈ ([]:List Addr) from hb) (by simp), aX, .of_eq hg⟩
    refine codeAny_mono ((F _ hKb (nsK hns)).run callerA [] s₁ H ⟨[.ref a], []⟩ [.ref a] [.ref a] _ _ hr e0 (hbind s₁ (.ref a)) (.cons rfl .nil) (hsp H hO hS)) λr s' h => ?_;cases r with
    | error e => exact (hCX H e s' h).elim
    | ok fl =>
      cases fl with
      | next => exact False.elim h
      | brk => exact False.elim h
      | cont => exact False.elim h
      | ret u =>
        obtain ⟨v, H', os, bare, un, hok', r', q⟩ := h;have q' : v = .bl true := q;subst q';obtain rfl : u = Value.bool true := r';refine ⟨rfl, OldK.of_keep λb o e => ?_, os, bare⟩;cases q : H b with
        | none => exact un.keep b o e q (by intro z;exact absurd (show b ∈ ([]:List Addr) from z) (by simp)) (by simp)
        | some u =>
          rcases hO b with z | ⟨ob, xs, z⟩
          · rw [q] at z;cases z
          · have z2 := un.gS b ob _ z;obtain ⟨e1, _⟩ := aX b _ z;obtain ⟨e2, _⟩ := hok' b _ z2;rw [e] at e1;cases e1;exact e2
  cases hk : K.lookup a with
  | some o =>
    have e := KX a o hk;rw [ha] at e;cases e;refine core (λ_ => none) (λ_ => .inl rfl) (.inr ⟨_, vs.toArray, _, hk, rfl, rfl, rfl, by rw [size_toArray, lenV];exact hl, by simpa using rv⟩) (λb u z => by have z' : (none : Option HO) = some u := z;cases z') (λb z => absurd rfl z) λz => absurd rfl z
  | none =>
    refine core (λb => if b = a then some (.bR { cls := .type "list", data := .seq vs.toArray } (.lst (ns.map V.int))) else none) (λb => ?_) (.inl (.inr ⟨{ cls := .type "list", data := .seq vs.toArray }, if_pos rfl⟩)) (λb u z => ?_) (λb z => ?_) λ_ => hk
    · by_cases hb : b = a
      · exact .inr ⟨_, _, if_pos hb⟩
      · exact .inl (if_neg hb)
    · by_cases hb : b = a
      · have z' := (if_pos hb).symm.trans z;cases z';subst hb;exact ⟨ha, by rw [length_map];exact hl, vs, _, rv, ha⟩
      · have z' := (if_neg hb).symm.trans z;cases z'
    · by_cases hb : b = a
      · exact hb
      · exact absurd (if_neg hb) z
end L2
namespace L2
open PySem PySem.Spec PyProof.Rows
theorem zz {l : PySem.W.OpenLaw}{n k : Nat}{q : Program}{loose : List Str}{XP : (Str -> Option Value) -> Heap -> Prop}{YP : World -> Heap -> Prop}{d : DefRec}{K : Params -> Frag}{CX : World -> rH}{sp : World -> Sp}{x : Str}
    (hn : l.most = some n) (hn2 : n <= sizeLine) (hdf : d.params.defaults = []) (hr : cF k callerA)
    (hY : ∀ (w : World) (h : Heap), YP w h -> (K w.params).In h)
    (F : ∀ (w : World) (mg : Str -> Option Value) (fa : Addr) (h : Heap), (K w.params).In h -> h.Ns mainGlobals mg -> mg d.name = some (.ref fa) ->
      ∃ fd : FuncData, (∀ (s : Shared) (u : Value), BindsTo s fd ⟨[u], []⟩ [(x, u)]) /\
        ∀ base : Heap, (K w.params).In base -> base.Ns mainGlobals mg -> aI l.prog w (K w.params) mg base (CX w) k fa fd [x] (sp w))
    (hsp : ∀ (w : World) (H : Hp) (a : Addr) (ns : List Int), ns.length <= n -> ye H -> dD (K w.params) H a (ns.map V.int) -> sp w [.ref a] H (λv _ => v = .bl true) λ_ _ _ => False)
    (hCX : ∀ (w : World) (H : Hp) (s : Shared) (e : Value) (s' : Shared), CX w [] H s (λ_ _ _ => False) e s' -> False) :
    PySem.W.WalkO q loose XP YP l.row.toRowW d [] (λf vs => PySem.call f vs) := by
  refine Att.qb hn hdf λw s₀ s₁ mg mb fa o pm cd doc a vs ns G Y ho hd hcd hmg hobj hints hlen hg => ?_;have KX := hY w _ Y;obtain ⟨fd, hb, hF⟩ := F w mg fa _ KX G.T.g hmg;exact wJ KX G.T.g G.T.b G.T.builtins G.T.nolimit hg hobj hints (Nat.le_trans hlen hn2) hr hF hb (λH hO hS => hsp w H a ns hlen hO hS) λH e s' => hCX w H s₁ e s'
theorem xU {l : PySem.W.OpenLaw}{n k : Nat}{q : Program}{loose : List Str}{XP : (Str -> Option Value) -> Heap -> Prop}{YP : World -> Heap -> Prop}{d : DefRec}{K : Params -> Frag}{CX : rH}{sp : Frag -> Sp}{x : Str}
    (hn : l.most = some n) (hn2 : n <= sizeLine) (hdf : d.params.defaults = []) (hr : cF k callerA)
    (hY : ∀ (w : World) (h : Heap), YP w h -> (K w.params).In h)
    (F : ∀ (w : World) (mg : Str -> Option Value) (fa : Addr) (h : Heap), (K w.params).In h -> h.Ns mainGlobals mg -> mg d.name = some (.ref fa) ->
      ∃ fd : FuncData, (∀ (s : Shared) (u : Value), BindsTo s fd ⟨[u], []⟩ [(x, u)]) /\
        ∀ base : Heap, (K w.params).In base -> base.Ns mainGlobals mg -> aI l.prog w (K w.params) mg base CX k fa fd [x] (sp (K w.params)))
    (hsp : ∀ (K : Frag) (H : Hp) (a : Addr) (ns : List Int), ns.length <= n -> ye H -> dD K H a (ns.map V.int) -> sp K [.ref a] H (λv _ => v = .bl true) λ_ _ _ => False)
    (hCX : ∀ (H : Hp) (s : Shared) (e : Value) (s' : Shared), CX [] H s (λ_ _ _ => False) e s' -> False) :
    PySem.W.WalkO q loose XP YP l.row.toRowW d [] (λf vs => PySem.call f vs) :=
  zz (K := K) (CX := λ_ => CX) (sp := λw => sp (K w.params)) hn hn2 hdf hr hY F (λw H a ns h1 h2 h3 => hsp (K w.params) H a ns h1 h2 h3) λ_ H s e s' => hCX H s e s'
end L2
namespace L2
open PySem PySem.Spec PyProof.Rows
noncomputable def inClass (s : Stmt)(j : Nat):Stmt := match s with
  | .ClassDef _ _ _ body _ _ _ _ _ _ _ => body.getD j (.Pass ⟨0, 0, 0, 0⟩)
  | _ => .Pass ⟨0, 0, 0, 0⟩
noncomputable def aC (s : Stmt):Arguments := match s with
  | .FunctionDef _ a _ _ _ _ _ _ _ _ => a
  | _ => { posonlyargs := [], args := [], vararg := none, kwonlyargs := [], kw_defaults := [], kwarg := none, defaults := [] }
noncomputable def au (s : Stmt):List Stmt := match s with
  | .FunctionDef _ _ b _ _ _ _ _ _ _ => b
  | _ => []
noncomputable def ae (s : Stmt):Scope := match s with
  | .FunctionDef _ _ _ _ _ _ sc _ _ _ => sc
  | _ => { kind := .function, names := [], isGenerator := false, isCoroutine := false }
noncomputable abbrev gI : rH := λ_ _ _ _ _ _ => False
noncomputable abbrev E0 : XK := λ_ _ _ => False
theorem q8 {X : Cx}:Passes gI X E0 := λ_ _ _ _ _ _ _ h => h.elim
structure fQ (K : Frag)(x qual : Str)(st : Stmt)(f : Addr)(fd : FuncData):Prop where
  ex : ∃ (oc : Value) (od : Option Addr) (kV doc pm : Value) (an : Option Addr) (cdv ct : Value) (osl : Array (Option Value)),
    fd = fnOf x qual (aC st) (au st) (ae st) .none kV doc pm an cdv ct /\ K.lookup f = some ⟨oc, od, .func fd, osl⟩ /\ codeIn K cdv qual = true
  kp : keepIn K (.ref f) = true
section
variable {P : Program} {w : World} {K : Frag} {mg : Str -> Option Value} {base : Heap}
theorem fQ.ok {x qual : Str}{st : Stmt}{f : Addr}{fd : FuncData}{N ps : List Str}{k : Nat}{sp : Sp}(F : fQ K x qual st f fd)(S : aB N ps (ae st))(len : ∀ vs H Q E, sp vs H Q E -> vs.length = ps.length)
    (hbody : ∀ (cdv : Value) (A : Around) (outer : List Env) (s : Shared) (H : Hp) (vs : List V) (Q : VK) (E : XK), cF k (A.deeper (envOfC qual (ae st) s.heap.objs.size f cdv)) -> sp vs H Q E ->
      ∃ t, lF (mP gI P w K mg base N qual (ae st) f cdv A outer s H E).zR (au st) t /\ t { nx := λ_ H' => Q .non H', rt := Q } (start N vs) H):aI P w K mg base gI (k + 1) f fd ps sp := by
  obtain ⟨oc, od, kV, doc, pm, an, cdv, ct, osl, rfl, lk, hcd⟩ := F.ex;refine zH lk hcd S len λA outer s H vs Q E hr hsp => ?_;obtain ⟨t, h, q⟩ := hbody cdv A outer s H vs Q E hr hsp;exact ⟨t, h.zR, q⟩
theorem fQ.binds {x qual : Str}{st : Stmt}{f : Addr}{fd : FuncData}{ps : List Str}(F : fQ K x qual st f fd)
    (h : ∀ (kV doc pm : Value) (an : Option Addr) (cdv ct : Value) (us : List Value), us.length = ps.length -> bindArgs (fnOf x qual (aC st) (au st) (ae st) .none kV doc pm an cdv ct) ⟨us, []⟩ = pure (ps.zip us)):Binds K fd ps [] := by
  obtain ⟨oc, od, kV, doc, pm, an, cdv, ct, osl, rfl, lk, hcd⟩ := F.ex;exact .all (h kV doc pm an cdv ct)
theorem aU {x qual : Str}{st : Stmt}{f : Addr}{oc : Value}{od an : Option Addr}{osl : Array (Option Value)}{kV doc pm cdv ct : Value}(l : K.lookup f = some ⟨oc, od, .func (fnOf x qual (aC st) (au st) (ae st) .none kV doc pm an cdv ct), osl⟩)
    (c : codeIn K cdv qual = true) (k : keepIn K (.ref f) = true):fQ K x qual st f (fnOf x qual (aC st) (au st) (ae st) .none kV doc pm an cdv ct) := ⟨⟨oc, od, kV, doc, pm, an, cdv, ct, osl, rfl, l, c⟩, k⟩
end
theorem wH {A : Around}{k : Nat}(hr : cF k A):A.units + 1 < cLine := Nat.lt_of_le_of_lt (Nat.add_le_add_left (by decide : 1 <= 64) _) hr.units
theorem iV {n : Nat}(h : n <= 1000):n < sizeLine := Nat.lt_of_le_of_lt h (by decide)
section
variable {X : Cx}
theorem pv (i : Nat){x : Str}{pos : Pos}(hN :autoParam (X.N[i]? = some x) aZa._auto_1)(hv :autoParam (Ag X.env.scope x) aZf._auto_1)(hd :autoParam ((x == ("__debug__" : Str)) = false) aZb._auto_1)
    (hcd :autoParam ((x == ("__classdict__" : Str)) = false) aZb._auto_1):PE X (.Name x pos) (zu i) := mv hN hv hd hcd
end
theorem kS {A B : Prop}(h : B):if false = true then A else B := by
  rw [if_neg Bool.false_ne_true];exact h
theorem oW {A B : Prop}(h : A):if true = true then A else B := by
  rw [if_pos rfl];exact h
theorem jM {c A B : Prop}[Decidable c](h1 : c -> A)(h2 : ¬ c -> B):if c then A else B := by
  by_cases h : c
  · rw [if_pos h];exact h1 h
  · rw [if_neg h];exact h2 h
noncomputable def ak (H H' : Hp):Prop := ∀ b o, H b = some o -> H' b = some o
theorem ak.refl (H : Hp):ak H H := λ_ _ h => h
theorem ak.trans {H H1 H2 : Hp}(a : ak H H1)(b : ak H1 H2):ak H H2 := λc o h => b c o (a c o h)
theorem ak.free {H H' : Hp}(e : ak H H'){l : Addr}(h : H' l = Option.none):H l = Option.none := by
  cases q : H l with
  | none => rfl
  | some o =>
    rw [e l o q] at h;cases h
theorem ak.seq {K : Frag}{H H' : Hp}{a : Addr}{xs : List V}(e : ak H H')(h : dD K H a xs):dD K H' a xs := by
  rcases h with (h | ⟨o, h⟩) | h
  · exact .inl (.inl (e _ _ h))
  · exact .inl (.inr ⟨o, e _ _ h⟩)
  · exact .inr h
end L2
namespace L2
open PySem PySem.Spec PyProof.Rows
noncomputable def pM (X : Cx)(scope : Scope)(N' : List Str)(cl : List (Str × Addr))(fp : List Addr)(C : Addr)(s : Shared)(H : Hp):Cx :=
  { X with N := N', s₀ := s, H₀ := H, env := compEnvC scope cl C X.env, outer := X.stack, stack := X.stack, ex := fp, fn := λ_ => false, pn := [], xe := λ_ _ => False }
noncomputable def iO (sc0 : Scope)(N0 : List Str)(scope : Scope)(N' : List Str)(fr : List (Option Nat)):Bool :=
  decide (scope.kind = .function) && scope.names.all (λy => decide (y.2 ≠ .cell)) && scope.names.all (λy => decide (y.2 = .local -> scope.names.lookup y.1 = some .local)) &&
  scope.names.all (λy => decide (y.2 = .free -> (sc0.names.lookup y.1 = some .cell \/ sc0.names.lookup y.1 = some .free))) && decide (fr.length = N'.length) &&
  (List.range N'.length).all (λi => match fr[i]?, N'[i]? with
    | some (some j), some x => decide (N0[j]? = some x) && decide (scope.names.lookup x = some .free) && decide (sc0.names.lookup x = some .cell \/ sc0.names.lookup x = some .free)
    | _, _ => true)
structure jZ (sc0 : Scope)(N0 : List Str)(scope : Scope)(N' : List Str)(fr : List (Option Nat)):Prop where
  kind : scope.kind = .function
  wQ : ∀ y ∈ scope.names, y.2 ≠ .cell
  names : ∀ y ∈ scope.names, y.2 = .local -> scope.names.lookup y.1 = some .local
  frees : ∀ y ∈ scope.names, y.2 = .free -> (sc0.names.lookup y.1 = some .cell \/ sc0.names.lookup y.1 = some .free)
  len : fr.length = N'.length
  fix : ∀ (i j : Nat) (x : Str), fr[i]? = some (some j) -> N'[i]? = some x -> N0[j]? = some x /\ scope.names.lookup x = some .free /\ (sc0.names.lookup x = some .cell \/ sc0.names.lookup x = some .free)
theorem nA {sc0 : Scope}{N0 : List Str}{scope : Scope}{N' : List Str}{fr : List (Option Nat)}(h : iO sc0 N0 scope N' fr = true):jZ sc0 N0 scope N' fr := by
  unfold iO at h;rw [Bool.and_eq_true, Bool.and_eq_true, Bool.and_eq_true, Bool.and_eq_true, Bool.and_eq_true] at h;obtain ⟨⟨⟨⟨⟨h1, h2⟩, h3⟩, h4⟩, h5⟩, h6⟩ := h;refine ⟨of_decide_eq_true h1, λy hy => of_decide_eq_true (List.all_eq_true.mp h2 y hy), λy hy => of_decide_eq_true (List.all_eq_true.mp h3 y hy), λy hy => of_decide_eq_true (List.all_eq_true.mp h4 y hy), of_decide_eq_true h5, λi j x e1 e2 => ?_⟩;have hi : i < N'.length := (List.getElem?_eq_some_iff.mp e2).1;have q := List.all_eq_true.mp h6 i (mem_range.mpr hi);rw [e1, e2] at q;dsimp only at q;rw [Bool.and_eq_true, Bool.and_eq_true] at q;exact ⟨of_decide_eq_true q.1.1, of_decide_eq_true q.1.2, of_decide_eq_true q.2⟩
noncomputable def pN (env : Env):List (Str × NameKind) -> List (Str × Addr) -> List (Str × Addr)
  | [], cs => cs
  | (n, k) :: r, cs => if k = .free then pN env r ((n, (env.cells.lookup n).getD 0) :: cs) else pN env r cs
theorem mem_of_lookup {α : Type}:∀ {l : List (Str × α)} {x : Str} {v : α}, l.lookup x = some v -> (x, v) ∈ l
  | [], _, _, h => by simp at h
  | (y, w) :: r, x, v, h => by
    cases hx : x == y with
    | true =>
      simp only [lookup_cons, hx] at h;cases h;rw [beq_iff_eq.mp hx];exact mem_cons_self
    | false =>
      simp only [lookup_cons, hx] at h;exact mem_cons_of_mem _ (mem_of_lookup h)
theorem ou {env : Env}:∀ {l : List (Str × NameKind)} {cs : List (Str × Addr)} {p : Str × Addr}, p ∈ pN env l cs -> p ∈ cs \/ (∃ y ∈ l, y.2 = .free /\ p = (y.1, (env.cells.lookup y.1).getD 0))
  | [], _, _, h => .inl h
  | (n, k) :: r, cs, p, h => by
    unfold pN at h;by_cases hk : k = .free
    · rw [if_pos hk] at h;rcases ou h with q | ⟨y, hy, e1, e2⟩
      · rcases List.mem_cons.mp q with q | q
        · exact .inr ⟨(n, k), mem_cons_self, hk, q⟩
        · exact .inl q
      · exact .inr ⟨y, mem_cons_of_mem _ hy, e1, e2⟩
    · rw [if_neg hk] at h;rcases ou h with q | ⟨y, hy, e1, e2⟩
      · exact .inl q
      · exact .inr ⟨y, mem_cons_of_mem _ hy, e1, e2⟩
theorem lL {env : Env}:∀ {l : List (Str × NameKind)} {cs : List (Str × Addr)} {p : Str × Addr}, p ∈ cs -> p ∈ pN env l cs
  | [], _, _, h => h
  | (n, k) :: r, cs, p, h => by
    unfold pN;by_cases hk : k = .free
    · rw [if_pos hk];exact lL (mem_cons_of_mem _ h)
    · rw [if_neg hk];exact lL h
theorem kZ {env : Env}:∀ {l : List (Str × NameKind)} {cs : List (Str × Addr)} {x : Str}, (x, NameKind.free) ∈ l -> (x, (env.cells.lookup x).getD 0) ∈ pN env l cs
  | [], _, _, h => nomatch h
  | (n, k) :: r, cs, x, h => by
    unfold pN;rcases List.mem_cons.mp h with q | q
    · cases q;rw [if_pos rfl];exact lL mem_cons_self
    · by_cases hk : k = .free
      · rw [if_pos hk];exact kZ q
      · rw [if_neg hk];exact kZ q
theorem fZ {α : Type}:∀ {l : List (Str × α)} {x : Str} {v : α}, (x, v) ∈ l -> ∃ w, l.lookup x = some w
  | [], _, _, h => nomatch h
  | (y, w) :: r, x, v, h => by
    cases hx : x == y with
    | true => exact ⟨w, by simp [lookup_cons, hx]⟩
    | false =>
      rcases List.mem_cons.mp h with q | q
      · cases q;simp at hx
      · obtain ⟨w', e⟩ := fZ q;exact ⟨w', by simp [lookup_cons, hx, e]⟩
theorem ji {env : Env}:∀ (l : List (Str × NameKind)) (cs : List (Str × Addr)), (∀ y ∈ l, y.2 = .free -> ∃ c, env.cells.lookup y.1 = some c) ->
    (forIn l cs λ(x : Str × NameKind) (r : List (Str × Addr)) => (if (x.2 == NameKind.free) = true then do let a <- cellOf env x.1;pure (ForInStep.yield ((x.1, a) :: r)) else pure (ForInStep.yield r):Sem (ForInStep (List (Str × Addr))))) = pure (pN env l cs)
  | [], cs, _ => rfl
  | (n, k) :: r, cs, h => by
    rw [List.forIn_cons];by_cases hk : k = .free
    · subst hk;obtain ⟨c, e⟩ := h (n, .free) mem_cons_self rfl;have hc : cellOf env n = pure c := by unfold cellOf;rw [e]
      have ih := ji r ((n, c) :: cs) λy hy => h y (mem_cons_of_mem _ hy);simp only [beq_self_eq_true, if_true, hc];unfold pN;rw [if_pos rfl, e];exact ih
    · have hb : (k == NameKind.free) = false := by simpa using hk
      have ih := ji r cs λy hy => h y (mem_cons_of_mem _ hy);simp only [hb, Bool.false_eq_true, if_false];unfold pN;rw [if_neg hk];exact ih
theorem lM {scope : Scope}{env : Env}(h : ∀ y ∈ scope.names, y.2 = .free -> ∃ c, env.cells.lookup y.1 = some c):closureFor scope env = pure (pN env scope.names []) := by
  unfold closureFor;have := ji scope.names [] h;first
    | (rw [this];rfl)
    | (refine Eq.trans ?_ this;rfl)
    | (simp only [this];rfl)
theorem iN {env : Env}{l : List (Str × NameKind)}(h : ∀ y ∈ l, y.2 = .free -> ∃ c, env.cells.lookup y.1 = some c){x : Str}{c : Addr}(e : (pN env l []).lookup x = some c):env.cells.lookup x = some c := by
  rcases ou (mem_of_lookup e) with q | ⟨y, hy, e1, e2⟩
  · exact nomatch q
  · obtain ⟨c', ec⟩ := h y hy e1;have e3 : x = y.1 := congrArg Prod.fst e2;have e4 : c = (env.cells.lookup y.1).getD 0 := congrArg Prod.snd e2;rw [ec] at e4;rw [e3, ec, e4];rfl
theorem pD {scope : Scope}{env : Env}{x : Str}:scope.names.lookup x = some .free -> (relabel scope env).names.lookup x = some .cell \/ (relabel scope env).names.lookup x = some .free := by
  show scope.names.lookup x = some .free -> (scope.names.map _).lookup x = _ \/ (scope.names.map _).lookup x = _;induction scope.names with
  | nil => intro h;simp at h
  | cons p r ih =>
    intro h;obtain ⟨n, k⟩ := p;rw [map_cons];cases hx : x == n with
    | true =>
      simp only [lookup_cons, hx] at h;cases h;dsimp only;split
      · exact .inl (by simp [lookup_cons, hx])
      · exact .inr (by simp [lookup_cons, hx])
    | false =>
      simp only [lookup_cons, hx] at h;dsimp only;split <;> (simp only [lookup_cons, hx];exact ih h)
theorem pC {scope : Scope}{env : Env}{x : Str}(nc : ∀ y ∈ scope.names, y.2 ≠ .cell):((relabel scope env).names.lookup x = some .cell \/ (relabel scope env).names.lookup x = some .free) -> scope.names.lookup x = some .free := by
  show ((scope.names.map _).lookup x = _ \/ (scope.names.map _).lookup x = _) -> _;revert nc;induction scope.names with
  | nil => intro _ h;simp at h
  | cons p r ih =>
    intro nc h;obtain ⟨n, k⟩ := p;rw [map_cons] at h;have ih' := ih (λy hy => nc y (mem_cons_of_mem _ hy));cases hx : x == n with
    | true =>
      simp only [lookup_cons, hx];dsimp only at h;by_cases hc : (k == NameKind.free && env.scope.kind == .function && env.kindOf n == some .cell) = true
      · simp only [Bool.and_eq_true] at hc;have : k = .free := by simpa using hc.1.1
        rw [this]
      · rw [if_neg hc] at h;simp only [lookup_cons, hx] at h;rcases h with h | h
        · cases h;exact absurd rfl (nc (n, .cell) mem_cons_self)
        · exact h
    | false =>
      simp only [lookup_cons, hx];dsimp only at h;refine ih' ?_;by_cases hc : (k == NameKind.free && env.scope.kind == .function && env.kindOf n == some .cell) = true
      · rw [if_pos hc] at h;simpa only [lookup_cons, hx] using h
      · rw [if_neg hc] at h;simpa only [lookup_cons, hx] using h
theorem Un.but {fs ex : List Addr}{H H' : Hp}{h h1 h2 : Heap}{C : Addr}(u : Un fs ex H H' h h1)(sb : Heap.SameBut C h1 h2)(hC : h.objs.size <= C):Un fs ex H H' h h2 := by
  have ne : ∀ b o, h.get? b = some o -> b ≠ C := λb o e => Nat.ne_of_lt (Nat.lt_of_lt_of_le (Heap.lt_size e) hC);refine ⟨λb o e n hb hx => (sb.2 b (ne b o e)).trans (u.keep b o e n hb hx), λb o e n hb hx => ?_, u.free, λb o e hx => ?_, u.iK, u.gS, u.iJ⟩
  · obtain ⟨sl, q⟩ := u.slot b o e n hb hx;exact ⟨sl, (sb.2 b (ne b o e)).trans q⟩
  · obtain ⟨o', q⟩ := u.there b o e hx;exact ⟨o', (sb.2 b (ne b o e)).trans q⟩
theorem hJ.but {P : Program}{w : World}{H : Hp}{h1 h2 : Heap}{C : Addr}(x : hJ P w H h1)(hC : H C = none)(sb : Heap.SameBut C h1 h2):hJ P w H h2 := λb ob e => by
  refine (x b ob e).fe (λc w' hc q => (sb.2 c ?_).trans q) (λ_ q => q) λ_ _ q => q;rintro rfl;rcases hc with rfl | hc
  · rw [hC] at e;cases e
  · rw [hC] at hc;cases hc
noncomputable def j4 (fr : List (Option Nat))(σ : St):St := fr.map λo => match o with | none => none | some j => (σ[j]?).getD none
theorem wA {fr : List (Option Nat)}{σ : St}{i : Nat}{v : V}(e : (j4 fr σ)[i]? = some (some v)):∃ j, fr[i]? = some (some j) /\ σ[j]? = some (some v) := by
  unfold j4 at e;rw [getElem?_map] at e;cases q : fr[i]? with
  | none => rw [q] at e;cases e
  | some o =>
    rw [q] at e;cases o with
    | none => cases e
    | some j =>
      refine ⟨j, rfl, ?_⟩;have e' : (σ[j]?).getD none = some v := Option.some.inj e;cases r : σ[j]? with
      | none => rw [r] at e';cases e'
      | some y => rw [r] at e';rw [<- e'];rfl
section
variable {X : Cx} {pins : List (Addr × Obj)} {σ : St} {H : Hp} {s : Shared}
theorem Ak {scope : Scope}{N' : List Str}{fr : List (Option Nat)}{fp : List Addr}(I : Inv X pins σ H s)(S : jZ X.env.scope X.N scope N' fr)(hf : ∀ b ∈ fp, jw X pins H b)(ho : ∀ b ∈ fp, ∃ o, s.heap.get? b = some o) :
    (pM X scope N' (pN X.env scope.names []) fp s.heap.objs.size s H).Ok := by
  have has : ∀ y ∈ scope.names, y.2 = .free -> ∃ c, X.env.cells.lookup y.1 = some c := λy hy hk => I.ok.has y.1 (S.frees y hy hk);refine ⟨I.ok.mod, S.kind, I.ok.glob, I.ok.blt, Nat.le_refl _, λx y c e1 e2 => I.ok.inj x y c (iN has e1) (iN has e2), λx hx => ?_, λx c hx => (nomatch hx), I.ok.hd, I.ok.frames, .inl rfl, λb hb => ⟨?_, λx c e => (hf b hb).2.2.2.2.1 x c (iN has e)⟩, I.bs, Nat.le_trans I.ok.xZ I.sz, λb o e hb => ?_, λb hb hz => ?_, I.stack, I.pJ⟩
  · have q := pC (env := X.env) S.wQ (x := x) hx;exact fZ (kZ (mem_of_lookup q))
  · obtain ⟨o, e⟩ := ho b hb;exact Nat.ne_of_lt (Heap.lt_size e)
  · rcases (hf b hb).2.2.2.1 with z | z
    · exact I.ok.ve b o e z
    · exact absurd (Nat.lt_of_lt_of_le (Heap.lt_size e) (Nat.le_trans I.ok.xZ z)) (Nat.lt_irrefl _)
  · rcases List.mem_cons.mp (I.sH b hz) with z | z
    · exact (hf b hb).2.1 z
    · exact (hf b hb).2.2.1 z
theorem uz {scope : Scope}{N' : List Str}{fr : List (Option Nat)}{fp : List Addr}{h₁ : Heap}{m₁ : Str -> Option Value}{tk : Nat}(I : Inv X pins σ H s)(S : jZ X.env.scope X.N scope N' fr)(hf : ∀ b ∈ fp, jw X pins H b)(ho : ∀ b ∈ fp, ∃ o, s.heap.get? b = some o)
    (hn : h₁.Ns s.heap.objs.size m₁) (hk : ∀ b o, s.heap.get? b = some o -> h₁.get? b = some o) :
    Inv (pM X scope N' (pN X.env scope.names []) fp s.heap.objs.size s H) [] (j4 fr σ) H { s with heap := h₁, toks := tk } := by
  have has : ∀ y ∈ scope.names, y.2 = .free -> ∃ c, X.env.cells.lookup y.1 = some c := λy hy hk => I.ok.has y.1 (S.frees y hy hk);have cellK : ∀ c v, s.heap.IsCell c v -> h₁.IsCell c v := by rintro c v ⟨o, e, d⟩;exact ⟨o, hk c o e, d⟩
  refine ⟨Ak I S hf ho, rfl, I.bare, Un.kept hk, ⟨m₁, hn, λi x v e1 e2 e3 => ?_⟩, λx c e => ?_, I.aX.fresh (Nat.le_refl _), λx c e => I.fM x c (iN has e), λp hp => (nomatch hp), I.aX.kept hk, ?_⟩
  · obtain ⟨j, q1, q2⟩ := wA e2;obtain ⟨z1, z2, z3⟩ := S.fix i j x q1 e1;obtain ⟨m, hm, hl⟩ := I.loc;obtain ⟨u, ru, lk⟩ := hl j x v z1 q2 (.inr z3);refine ⟨u, ru, .inr ⟨pD (env := X.env) z2, ?_⟩⟩;rcases lk with ⟨k, _⟩ | ⟨k, c, e, z⟩
    · have k' : X.env.scope.names.lookup x = some .local := k;rcases z3 with z3 | z3 <;> (rw [z3] at k';cases k')
    · obtain ⟨c', ec⟩ := fZ (kZ (env := X.env) (cs := []) (mem_of_lookup z2));have := iN has ec;rw [e] at this;cases this;exact ⟨c, ec, cellK c _ z⟩
  · obtain ⟨v, z⟩ := I.cell x c (iN has e);exact ⟨v, cellK c v z⟩
  · show (j4 fr σ).length = N'.length;unfold j4;rw [length_map];exact S.len
end
noncomputable def rN (X : Cx)(ifs : List Expr)(t : TT):Prop :=
  ∀ (pins : List (Addr × Obj)) (s : Shared) (σ : St) (H : Hp) (Q : Bool -> Hp -> Prop), Inv X pins σ H s -> t σ H Q ->
    wpAny (model X.prog X.w) X.A (forIn ifs true λc r => if r = true then do let ok <- isTrue c X.env (eval c X.env);pure (ForInStep.yield ok) else pure (ForInStep.yield r)) (TP X pins σ Q) X.xe s
noncomputable def CY : TT := λ_ H Q => Q true H
theorem xm {X : Cx}:rN X [] CY := λ_ _ _ H _ I h => wpAny_tests_nil ⟨H, I, h⟩
theorem xn {X : Cx}{c : Expr}{t : TT}(h : PT X c t):rN X [c] t := λpins s σ H Q I q => wpAny_tests_one (h pins s σ H Q I q)
section
variable {prog : Program} {w : World} {A : Around} {R : Result -> Shared -> Prop} {s : Shared}
theorem qf {elt target iter : Expr}{ifs : List Expr}{scope : Scope}{pos : Pos}{it acc : Value}{env : Env}(I : Nat -> Shared -> Prop)
    (turn : ∀ n s, I n s -> wpAny (model prog w) A (pyNext it) (λr s₁ => match r with
      | none => R (.ok .next) s₁
      | some v => wpAny (model prog w) A (letOwnedTupleGo target it v) (λ_ s₁' => wpAny (model prog w) A (assign target env v) (λ_ s₂ =>
          wpAny (model prog w) A (forIn ifs true λc r => if r = true then do let ok <- isTrue c env (eval c env);pure (ForInStep.yield ok) else pure (ForInStep.yield r)) (λok s₃ =>
            if ok = true then wpAny (model prog w) A (eval elt env) (λx s₄ =>
              wpAny (model prog w) A (call (.builtin "list.append") [acc, x]) (λ_ s₅ => ∃ m, m < n /\ I m s₅) (λ_ _ => False) s₄) (λ_ _ => False) s₃
            else ∃ m, m < n /\ I m s₃) (λ_ _ => False) s₂) (λ_ _ => False) s₁') (λ_ _ => False) s₁) (λ_ _ => False) s)
    (n : Nat) (h : I n s) :
    codeAny (model prog w) A (.compLoop (.ListComp elt [⟨target, iter, ifs, 0⟩] scope pos) 0 it acc env) R s := by
  refine codeAny_loop rfl I (λn s hI => ?_) n h;show wpAny _ A ((compTurn (.ListComp elt [⟨target, iter, ifs, 0⟩] scope pos) 0 it acc env).onRaise (λx => do noteFrame x env;theTreesLotGoes x)) _ _ s;refine wpAny_noted ?_;rw [compTurn_list];refine wpAny_mono (E := λ_ _ => False) ?_ (λ_ _ q => q) (λ_ _ f => f.elim);refine wpAny_bind (wpAny_standAt (wpAny_bind (wpAny_mono (turn n s hI) (λr s₁ h₁ => ?_) λ_ _ h' => h')));cases r with
  | none => exact wpAny_pure h₁
  | some v =>
    refine wpAny_bind (wpAny_mono h₁ (λ_ s₁' h₁' => ?_) λ_ _ h' => h');refine wpAny_bind (wpAny_mono h₁' (λ_ s₂ h₂ => wpAny_bind (wpAny_mono h₂ (λok s₃ h₃ => ?_) λ_ _ h' => h')) λ_ _ h' => h');cases ok with
    | false => exact wpAny_pure ⟨rfl, h₃⟩
    | true =>
      exact wpAny_bind (wpAny_bind (wpAny_mono h₃ (λx s₄ h₄ => wpAny_bind (wpAny_mono h₄ (λ_ s₅ h₅ => wpAny_pure (wpAny_pure ⟨rfl, h₅⟩)) λ_ _ h' => h')) λ_ _ h' => h'))
end
noncomputable def C2 (J : It)(D : Addr)(g : TG)(tc : TT)(te : TE)(Q : Hp -> Prop)(σ0 : St)(H0 : Hp):Prop :=
  ∃ W : Nat -> Nat -> List V -> St -> Hp -> Prop, (∃ m, W 0 m [] σ0 H0) /\ ∀ i m ys σ H, W i m ys σ H ->
    ((J.stop i H /\ Q H) \/ (J.go i H /\ ∃ N : List V -> St -> Hp -> Prop, (∀ ys' σ' H', N ys' σ' H' -> ∃ m', m' < m /\ W (i + 1) m' ys' σ' H') /\ ∀ x H', J.ux i H x H' -> g x σ H' λσ2 H2 => tc σ2 H2 λb H3 =>
      if b = true then te σ2 H3 λv H4 => H4 D = some (.lst ys) /\ ys.length < sizeLine /\ N (ys ++ [v]) σ2 (upd H4 D (.lst (ys ++ [v])))
      else N ys σ2 H3))
noncomputable def Dg (wi : TI)(fr : List (Option Nat))(g : TG)(tc : TT)(te : TE):TE := λσ H Q => wi σ H λJ H1 => ∀ D, H1 D = none -> C2 J D g tc te (Q (.ref D)) (j4 fr σ) (upd H1 D (.lst []))
theorem vH {X : Cx}{tg iter elt : Expr}{ifs : List Expr}{scope : Scope}{pos : Pos}{g : TG}{tc : TT}{te : TE}{fp : List Addr}{it D : Addr}{tn : Nat -> Heap -> Prop}{J : It}{Q : Hp -> Prop}{σ0 : St}{H0 : Hp}{s : Shared}{R : Result -> Shared -> Prop}
    (hxe : X.xe = λ_ _ => False) (hc : X.calm = true) (hpn : X.pn = []) (hex : X.ex = fp) (hg : PG X tg g) (ht : rN X ifs tc) (he : PE X elt te) (T : Turn X.prog X.w X.K tg J fp it tn)
    (hf : ∀ b ∈ fp, b ≠ X.env.locals /\ b ∉ X.fs /\ ∀ x c, X.env.cells.lookup x = some c -> c ≠ b) (hW : C2 J D g tc te Q σ0 H0) (B : Inv X [] σ0 H0 s) (st : tn 0 s.heap) (fr : ∀ b ∈ fp, H0 b = none)
    (fin : ∀ σ H s', Inv X [] σ H s' -> Q H -> R (.ok .next) s') :
    codeAny (model X.prog X.w) X.A (.compLoop (.ListComp elt [⟨tg, iter, ifs, 0⟩] scope pos) 0 (.ref it) (.ref D) X.env) R s := by
  obtain ⟨W, ⟨m0, w0⟩, turn⟩ := hW;have stat : ∀ {H' : Hp}, (∀ b ∈ fp, H' b = none) -> ∀ b ∈ fp, jw X [] H' b := λ{H'} hn b hb =>
    ⟨hn b hb, (hf b hb).1, (hf b hb).2.1, .inl (by rw [hex];exact hb), (hf b hb).2.2, λp hp => by rw [hpn] at hp;exact nomatch hp⟩
  refine qf (λn s' => ∃ i ys σ' H', Inv X [] σ' H' s' /\ tn i s'.heap /\ (∀ b ∈ fp, H' b = none) /\ W i n ys σ' H') ?_ m0 ⟨0, [], σ0, H0, B, st, fr, w0⟩;rintro n s3 ⟨i, ys, σ3, H3, I3, st3, fr3, w3⟩;rcases turn i n ys σ3 H3 w3 with ⟨stop, qn⟩ | ⟨go, N, hN, step⟩
  · refine cm (T.done X rfl rfl rfl hc i [] s3 σ3 H3 _ I3 (stat fr3) st3 stop) ?_;rintro r s4 ⟨hr, I4⟩;subst hr;exact fin σ3 H3 s4 I4 qn
  · refine cm (T.item X rfl rfl rfl hc i [] s3 σ3 H3 _ I3 (stat fr3) st3 go) ?_;rintro r s4 ⟨u, hr, h4⟩;subst hr;refine cm h4 ?_;rintro _ s5 ⟨x, H5, I5, r5, y5, st5, fr5⟩;have I5' := I5.pinned (stat fr5) (T.obj _ _ st5);have q1 := hg _ s5 σ3 H5 x u _ I5' r5 (step x H5 y5);rw [hxe] at q1;refine cm q1 ?_;rintro _ s6 ⟨σ6, H6, I6, q6⟩;have q2 := ht _ s6 σ6 H6 _ I6 q6;rw [hxe] at q2;refine cm q2 ?_;rintro ok s7 ⟨H7, I7, q7⟩;have again : ∀ {ys' : List V} {σ8 : St} {H8 : Hp} {s8 : Shared}, Inv X ([] ++ my fp s5.heap) σ8 H8 s8 -> N ys' σ8 H8 -> ∃ m, m < n /\ ∃ i ys σ' H', Inv X [] σ' H' s8 /\ tn i s8.heap /\ (∀ b ∈ fp, H' b = none) /\ W i m ys σ' H' := λ{ys' σ8 H8 s8} I8 n8 => by
      obtain ⟨m', hm, w8⟩ := hN ys' σ8 H8 n8;refine ⟨m', hm, i + 1, ys', σ8, H8, I8.jY, T.keep _ _ _ st5 λb hb o e => (I8.pin (b, o) (mem_append_right _ (mem_append_right _ (gU hb e)))).1, λb hb => ?_, w8⟩;obtain ⟨o, e, d⟩ := T.obj _ _ st5 b hb;exact (I8.pin (b, o) (mem_append_right _ (mem_append_right _ (gU hb e)))).2.1
    cases ok with
    | false => exact again I7 q7
    | true =>
      have q3 := he _ s7 σ6 H7 _ I7 q7;rw [hxe] at q3;show wpAny _ _ (eval elt X.env) _ _ s7;refine cm q3 ?_;rintro xv s8 ⟨v, H8, I8, r8, hD8, hz8, n8⟩;have q4 := iS (X := X) _ s8 σ6 H8 (.ref D) [v] (.ref D) [xv] (λ_ H9 => N (ys ++ [v]) σ6 H9) I8 rfl (.cons r8 .nil) ⟨D, ys, v, rfl, rfl, hD8, hz8, n8⟩;rw [hxe] at q4;refine cm q4 ?_;rintro _ s9 ⟨_, H9, I9, _, n9⟩;exact again I9 n9
section
variable {X : Cx} {tg iter elt : Expr} {ifs : List Expr} {scope : Scope} {pos : Pos} {wi : TI} {g : TG} {tc : TT} {te : TE}
theorem sU {pins : List (Addr × Obj)}{σ : St}{H2 : Hp}{s2 : Shared}{it : Addr}{fp : List Addr}{tn : Nat -> Heap -> Prop}{J : It}{Q : Addr -> Hp -> Prop}{N' : List Str}{fr : List (Option Nat)}{RR : Value -> Addr -> Result -> Shared -> Prop}
    (hc : X.calm = true) (S : jZ X.env.scope X.N scope N' fr)
    (hg : ∀ cl fp C s H, PG (pM X scope N' cl fp C s H) tg g) (ht : ∀ cl fp C s H, rN (pM X scope N' cl fp C s H) ifs tc) (he : ∀ cl fp C s H, PE (pM X scope N' cl fp C s H) elt te)
    (I2 : Inv X pins σ H2 s2) (T : Turn X.prog X.w X.K tg J fp it tn) (st2 : tn 0 s2.heap) (f2 : ∀ b ∈ fp, jw X pins H2 b)
    (h : ∀ D, H2 D = none -> C2 J D g tc te (Q D) (j4 fr σ) (upd H2 D (.lst [])))
    (fin : ∀ D C s' m' H', s2.heap.objs.size <= C -> C ≠ D -> H' C = none -> s'.heap.Ns C m' -> (∀ h', Heap.SameBut C s'.heap h' -> Inv X pins σ H' { s' with heap := h' }) -> Q D H' -> RR (.ref D) C (.ok .next) s') {E : Value -> Shared -> Prop} :
    wpAny (model X.prog X.w) X.A (newList []) (λacc s₃ => wpAny (model X.prog X.w) X.A (newFunctionEnv scope X.env.globals (pN X.env scope.names []) [] X.env.qual none .none (some X.env)) (λcenv s₄ =>
      codeAny (model X.prog X.w) X.A (.compStart (.ListComp elt [⟨tg, iter, ifs, 0⟩] scope pos) 0 (.ref it) acc { cenv with scope := relabel scope X.env }) (RR acc cenv.locals) s₄) E s₃) E s2 := by
  refine wpAny_newObj_type (wpAny_newFunctionEnv S.wQ (by intro y hy;simp at hy) (λh₁ hns₁ hsb₁ => ?_) S.kind);dsimp only at hns₁ hsb₁ ⊢;have hD : H2 s2.heap.objs.size = none := I2.aX.fresh (Nat.le_refl _);have I3 : Inv X pins σ (upd H2 s2.heap.objs.size (.lst [])) { s2 with heap := s2.heap.push { cls := .type "list", dict := none, data := .seq ([]:List Value).toArray }, toks := s2.toks } := I2.AN (its := []) .nil (Nat.zero_le _);generalize hH2 : s2.heap.push { cls := .type "list", dict := none, data := .seq ([]:List Value).toArray } = HH at hns₁ hsb₁ I3 ⊢;have hC : HH.objs.size = s2.heap.objs.size + 1 := by rw [<- hH2, Heap.size_push]
  have old : ∀ b o, HH.get? b = some o -> h₁.get? b = some o := λb o e => hsb₁.extBut b o (Nat.ne_of_lt (Heap.lt_size e)) (Heap.get?_push_of_some _ e);have old2 : ∀ b o, s2.heap.get? b = some o -> HH.get? b = some o := λb o e => hH2 ▸ Heap.get?_push_of_some _ e;have ofp : ∀ b ∈ fp, ∃ o, s2.heap.get? b = some o := λb hb => by
    obtain ⟨o, e, _⟩ := T.obj _ _ st2 b hb;exact ⟨o, e⟩
  have neD : ∀ b ∈ fp, b ≠ s2.heap.objs.size := λb hb => by
    obtain ⟨o, e⟩ := ofp b hb;exact Nat.ne_of_lt (Heap.lt_size e)
  have f3 : ∀ b ∈ fp, jw X pins (upd H2 s2.heap.objs.size (.lst [])) b := λb hb => ⟨by rw [af (neD b hb)];exact (f2 b hb).1, (f2 b hb).2⟩
  have ofp3 : ∀ b ∈ fp, ∃ o, HH.get? b = some o := λb hb => by
    obtain ⟨o, e⟩ := ofp b hb;exact ⟨o, old2 b o e⟩
  have B := uz (h₁ := h₁) (tk := s2.toks + ([]:List (Str × Value)).length) I3 S f3 ofp3 hns₁ old;have st1 : tn 0 h₁ := T.keep _ _ _ st2 λb hb o e => old b o (old2 b o e);have loop : codeAny (model X.prog X.w) X.A (.compLoop (.ListComp elt [⟨tg, iter, ifs, 0⟩] scope pos) 0 (.ref it) (.ref s2.heap.objs.size) (compEnvC scope (pN X.env scope.names []) HH.objs.size X.env))
      (RR (.ref s2.heap.objs.size) HH.objs.size) { s2 with heap := h₁, toks := s2.toks + ([]:List (Str × Value)).length } := by
    refine vH (X := pM X scope N' (pN X.env scope.names []) fp HH.objs.size { s2 with heap := HH, toks := s2.toks } (upd H2 s2.heap.objs.size (.lst []))) (fp := fp) rfl hc rfl rfl (hg _ _ _ _ _) (ht _ _ _ _ _) (he _ _ _ _ _) T
      (λb hb => ⟨(B.ok.BX b hb).1, B.ok.uR b hb, (B.ok.BX b hb).2⟩) (h _ hD) B st1 (λb hb => (f3 b hb).1) λσ4 H4 s4 I4 q4 => ?_
    obtain ⟨m4, hn4, _⟩ := I4.loc;refine fin _ HH.objs.size s4 m4 H4 (by rw [hC];exact Nat.le_succ _) (by rw [hC];exact Nat.succ_ne_self _) I4.free hn4 (λh' sb => ?_) q4;have u4 : Un (jm X.stack) fp (upd H2 s2.heap.objs.size (.lst [])) H4 HH s4.heap := I4.base;exact I3.zE (s' := { s4 with heap := h' }) I4.os (u4.but sb (Nat.le_refl _)) (I4.aX.but I4.free sb) I4.bare λb hb => ⟨(f2 b hb).2.2.2.1, (f2 b hb).2.1, (f2 b hb).2.2.2.2.1, (f2 b hb).2.2.2.2.2⟩
  exact codeAny_compStart_list loop (T.self _ 0 _ _ _ st1 loop)
theorem Cm (N' : List Str)(fr : List (Option Nat))(hc : X.calm = true)(hi : PI X tg iter wi)
    (hg : ∀ cl fp C s H, PG (pM X scope N' cl fp C s H) tg g) (ht : ∀ cl fp C s H, rN (pM X scope N' cl fp C s H) ifs tc) (he : ∀ cl fp C s H, PE (pM X scope N' cl fp C s H) elt te)
    {sc0 : Scope} {N0 : List Str} (hsc :autoParam (X.env.scope = sc0) aZa._auto_1) (hN :autoParam (X.N = N0) aZa._auto_1) (aX :autoParam (iO sc0 N0 scope N' fr = true) aZe._auto_1) (hs :autoParam (∀ x, foldedSetIterable iter X.env x = pure x) aZc._auto_1) :
    PE X (.ListComp elt [⟨tg, iter, ifs, 0⟩] scope pos) (Dg wi fr g tc te) := by
  intro pins s σ H Q I h;have S : jZ X.env.scope X.N scope N' fr := by rw [hsc, hN];exact nA aX
  have has : ∀ y ∈ scope.names, y.2 = .free -> ∃ c, X.env.cells.lookup y.1 = some c := λy hy hk => I.ok.has y.1 (S.frees y hy hk);rw [eval_ListComp];refine wpAny_comprehension_free (use := none) rfl hs (lM has) S.kind S.names (cm (hi pins s σ H _ I h) λv s1 h1 => cm h1 λitv s2 h2 => ?_);obtain ⟨it, fp, tn, J, H2, rfl, I2, T, st2, f2, w2⟩ := h2;refine sU (Q := λD => Q (.ref D)) (RR := λacc C => compPost (model X.prog X.w) X.A X.xe none (EP X pins σ Q) acc C) hc S hg ht he I2 T st2 f2 w2 λD C s' m' H' h1 h2 h3 h4 h5 q => ?_;exact ⟨m', h4, λh' sb => ⟨.ref D, H', h5 h' sb, rfl, q⟩⟩
noncomputable def Bp (i : Nat)(t : TE):TS := λD σ H => t σ H λv H1 => D.nx (σ.set i (some v)) H1
theorem xu {i : Nat}{y : Str}{py spos : Pos}(hNd : X.N.Nodup)(hy : X.N[i]? = some y)(hly : Loc X.env.scope y)(N' : List Str)(fr : List (Option Nat))(hc : X.calm = true)(hi : PI X tg iter wi)
    (hg : ∀ cl fp C s H, PG (pM X scope N' cl fp C s H) tg g) (ht : ∀ cl fp C s H, rN (pM X scope N' cl fp C s H) ifs tc) (he : ∀ cl fp C s H, PE (pM X scope N' cl fp C s H) elt te)
    {sc0 : Scope} {N0 : List Str} (hsw :autoParam (swapsWith (.ListComp elt [⟨tg, iter, ifs, 0⟩] scope pos) (some (.Name y py)) spos.line X.env = pure true) aZa._auto_1)
    (hsc :autoParam (X.env.scope = sc0) aZa._auto_1) (hN :autoParam (X.N = N0) aZa._auto_1) (aX :autoParam (iO sc0 N0 scope N' fr = true) aZe._auto_1) (hs :autoParam (∀ x, foldedSetIterable iter X.env x = pure x) aZc._auto_1)
    (hf :autoParam (X.fn y = true \/ X.env.scope.names.lookup y = some .local) aZg._auto_1) :
    PS X (.Assign [.Name y py] (.ListComp elt [⟨tg, iter, ifs, 0⟩] scope pos) spos) (Bp i (Dg wi fr g tc te)) := by
  intro pins s σ H D I h;have S : jZ X.env.scope X.N scope N' fr := by rw [hsc, hN];exact nA aX
  have has : ∀ y ∈ scope.names, y.2 = .free -> ∃ c, X.env.cells.lookup y.1 = some c := λy hy hk => I.ok.has y.1 (S.frees y hy hk);rw [exec_Assign_Name_used _ _ _ _ hsw];refine wpAny_bind (wpAny_standAt (wpAny_bind ?_));show wpAny _ X.A (do let _ <- comprehension (.ListComp elt [⟨tg, iter, ifs, 0⟩] scope pos) scope X.env _ (newList []) false (eval iter X.env) (some (assign (.Name y py) X.env))) _ _ s;refine wpAny_bind (wpAny_mono (wpAny_comprehension_free (use := some (assign (.Name y py) X.env)) (Q := λ_ s' => SP X pins D .next s') rfl hs (lM has) S.kind S.names
    (cm (hi pins s σ H _ I h) λv s1 h1 => cm h1 λitv s2 h2 => ?_)) (λ_ s' hq => wpAny_pure (wpAny_pure hq)) λ_ _ e => e)
  obtain ⟨it, fp, tn, J, H2, rfl, I2, T, st2, f2, w2⟩ := h2;refine sU (Q := λB H1 => D.nx (σ.set i (some (.ref B))) H1) (RR := λacc C => compPost (model X.prog X.w) X.A X.xe (some (assign (.Name y py) X.env)) (λ_ s' => SP X pins D .next s') acc C) hc S hg ht he I2 T st2 f2 w2 λB C s' m' H' h1 h2 h3 h4 h5 q => ?_;have I5 : Inv X pins σ H' { s' with heap := s'.heap } := h5 s'.heap (.refl ..);show wpAny _ X.A (assign (.Name y py) X.env (.ref B)) _ _ s';refine wpAny_assign_Name (oa (v := .ref B) I5 hNd hy hly rfl ?_ hf);rintro s6 I6 ⟨a, sb, ha⟩;have nL : C ≠ X.env.locals := Nat.ne_of_gt (Nat.lt_of_lt_of_le I2.lt h1);have nC : ∀ x c, X.env.cells.lookup x = some c -> c ≠ C := λx c e => by
    obtain ⟨v, o, ho, _⟩ := I2.cell x c e;exact Nat.ne_of_lt (Nat.lt_of_lt_of_le (Heap.lt_size ho) h1)
  have nP : ∀ p ∈ X.pn ++ pins, p.1 ≠ C := λp hp => by
    have e := (I2.pin p hp).1;exact Nat.ne_of_lt (Nat.lt_of_lt_of_le (Heap.lt_size e) h1)
  have na : a ≠ C := by
    rcases ha with e | e
    · rw [e];exact nL.symm
    · exact nC _ _ e
  refine ⟨m', h4.sameBut sb (Ne.symm na), λh' sb' => ⟨σ.set i (some (.ref B)), H', ?_, q⟩⟩;exact I6.turned (t' := s6.toks) (λb o hb e => (sb'.2 b hb).trans e) h3 nL (.inr (Nat.le_trans I2.sz h1)) nC nP
end
end L2
namespace L2
open PySem PySem.Spec PyProof.Rows
section
variable {X : Cx}
noncomputable def D7 (K : Frag):List V -> Hp -> VK -> Prop := λxs H Q => ∃ (p : Addr) (ns : List Int), xs = [.ref p] /\ dD K H p (ns.map V.int) /\ Q (.int ns.sum) H
theorem uG (hc : X.calm = true):fI X (.builtin "sum") (D7 X.K) := by
  intro pins s σ H xs us Q I r h;obtain ⟨p, ns, rfl, hp, q⟩ := h;obtain ⟨u, rfl, ru⟩ := vals1 r;cases ru;obtain ⟨its, rv, pl, hz⟩ := I.list hp;have hi : IntsAre its ns := intsAre_of rv;obtain ⟨zs, e⟩ := hi.allInts.items;refine sum_intListG (I.ok.hd hc) (xs := zs) (e ▸ pl.isList) λh' tk t' hk => ⟨.int ns.sum, H, I.kept hk, ⟨t', ?_⟩, q⟩
  have e2 := congrArg Array.toList e;have e3 : numsOf (intItems zs).toList = ns := by rw [<- e];exact hi.numsOf
  rw [nums_intItems] at e3;rw [preSum_eq, take_of_length_le (by simp), e3]
noncomputable def D3 (K : Frag):List V -> Hp -> VK -> Prop := λxs H Q => ∃ x n, xs = [x] /\ BE K x H n /\ Q (.int n) H
theorem uC : fI X (.builtin "len") (D3 X.K) := vM
theorem gF {n : Nat}(h : n <= 1000):n <= sizeLine := Nat.le_of_lt (iV h)
noncomputable def n6 {α : Type}(xs : List α)(lo hi st : Option Int):List α := (sliceRange (sliceBounds lo hi st xs.length).1 (sliceBounds lo hi st xs.length).2.1 (sliceBounds lo hi st xs.length).2.2).filterMap (λj => xs[j]?)
inductive Bv (K : Frag)(H : Hp):Nat -> V -> V -> Prop where
  | sc {n : Nat} {x : V} (f : BY x = true):Bv K H n x x
  | rf {n : Nat} {a : Addr}:Bv K H n (.ref a) (.ref a)
  | tup {n : Nat} {a b : Addr} {xs ys : List V} (h1 : mM K H a xs) (h2 : mM K H b ys) (hl : xs.length = ys.length) (h : ∀ (i : Nat) (x y : V), xs[i]? = some x -> ys[i]? = some y -> Bv K H n x y):Bv K H (n + 1) (.ref a) (.ref b)
  | lst {n : Nat} {a b : Addr} {xs ys : List V} (h1 : dD K H a xs) (h2 : dD K H b ys) (hl : xs.length = ys.length) (h : ∀ (i : Nat) (x y : V), xs[i]? = some x -> ys[i]? = some y -> Bv K H n x y):Bv K H (n + 1) (.ref a) (.ref b)
end
end L2
namespace WS
noncomputable abbrev S3 := Int × Int × Int
noncomputable def mx (i j : Int):Int := if j > i then j else i
noncomputable def oj (b : S3)(L : Int):Int := b.2.2 * mx 0 (b.2.1 - mx b.1 L)
noncomputable def C6 (b : S3)(L : Int):Int := if b.1 <= L /\ L < b.2.1 then b.2.2 else 0
noncomputable def above (bs : List S3)(L : Int):Int := (bs.map λb => oj b L).sum
noncomputable def uW (hs : List S3):List S3 := hs.map λx => (x.2.1, x.1, x.2.2)
noncomputable def nz (g : Int)(cs : List S3):List S3 := cs.map λx => (x.1 + g, x.2.1 + g, x.2.2)
noncomputable def dh (g : Int)(hs cs : List S3)(L : Int):Int := above (nz g cs) L - above (uW hs) L
structure p8 (x : S3):Prop where
  lo : 0 <= x.2.1
  lt : x.2.1 < x.1
  hi : x.1 <= 200
  r0 : 1 <= x.2.2
  r1 : x.2.2 <= 1000000000
structure lE (x : S3):Prop where
  lo : 0 <= x.1
  lt : x.1 < x.2.1
  hi : x.2.1 <= 200
  r0 : 1 <= x.2.2
  r1 : x.2.2 <= 1000000000
end WS
namespace L2
open PySem PySem.Spec PyProof.Rows
structure Fn (P : Program)(w : World)(K : Frag)(mg : Str -> Option Value)(base : Heap)(x : Str)(k : Nat)(ps : List Str)(sp : Sp):Prop where
  ex : ∃ f fd, aI P w K mg base gI k f fd ps sp /\ mg x = some (.ref f) /\ keepIn K (.ref f) = true /\ Binds K fd ps []
theorem xf {X : Cx}{x : Str}{k : Nat}{ps : List Str}{sp : Sp}{p pos : Pos}{e : Expr}{es : List Expr}{t : TA}(F : Fn X.prog X.w X.K X.mg X.base x k ps sp)(hr : cF k X.A)(hg : Gl X x)(ha : PA X (e :: es) t)
    (hdb :autoParam ((x == ("__debug__" : Str)) = false) aZb._auto_1) (he :autoParam (starEach (e :: es) X.env = (false, eval e X.env) :: starEach es X.env) aZa._auto_1) (hpl :autoParam ((backTo pos (starEach es X.env)).any (·.1) = false) aZa._auto_1) :
    PE X (.Call (.Name x p) (e :: es) [] pos) (xQ sp [] E0 t) := by
  obtain ⟨f, fd, G, hm, hk, hb⟩ := F.ex;exact uc G hr hg hm hk hb .nil q8 ha hdb he hpl
theorem bX {P : Program}{w : World}{K : Frag}{mg : Str -> Option Value}{base : Heap}{x qual : Str}{st : Stmt}{f : Addr}{fd : FuncData}{k : Nat}{ps : List Str}{sp : Sp}(F : fQ K x qual st f fd)(hm : mg x = some (.ref f))(hb : Binds K fd ps [])(ok : aI P w K mg base gI k f fd ps sp) :
    Fn P w K mg base x k ps sp := ⟨f, fd, ok, hm, F.kp, hb⟩
theorem bg {H : Hp}{a : Addr}{o : HO}(h : H a = none):ak H (upd H a o) := λb u e => by
  rw [af (aH e h)];exact e
theorem ak.upd {H H' : Hp}{a : Addr}{o : HO}(s : ak H H')(h : H a = none):ak H (upd H' a o) := λb u e => by
  rw [af (aH e h)];exact s b u e
end L2
namespace WS
open PySem L2
theorem js {α β : Type}{F : α -> β -> Prop}:∀ {l : List α} {r : List β} {i : Nat} {a : α}, Paired F l r -> l[i]? = some a -> ∃ b, r[i]? = some b /\ F a b
  | _, _, _, _, .nil, e => by simp at e
  | _, _, 0, _, .cons h _, e => by simp at e;subst e;exact ⟨_, rfl, h⟩
  | _, _, i + 1, a, .cons _ t, e => by
    obtain ⟨b, h1, h2⟩ := js (i := i) (a := a) t (by simpa using e);exact ⟨b, by simpa using h1, h2⟩
theorem take_snoc {α : Type}{l : List α}{i : Nat}{x : α}(e : l[i]? = some x):l.take (i + 1) = l.take i ++ [x] := by
  rw [List.take_add_one, e];rfl
end WS
namespace L2
open PySem PySem.Spec PyProof.Rows
section
variable {X : Cx}
noncomputable abbrev TJ := St -> Hp -> Str -> (Str -> Hp -> Prop) -> Prop
noncomputable def PJ (X : Cx)(es : List Expr)(t : TJ):Prop :=
  ∀ (pins : List (Addr × Obj)) (s : Shared) (σ : St) (H : Hp) (acc : Str) (R : Str -> Hp -> Prop), Inv X pins σ H s -> t σ H acc R ->
    Joins (model X.prog X.w) X.A X.xe (evalEach es X.env) acc (λout s1 => ∃ H', Inv X pins σ H' s1 /\ R out H') s
noncomputable def DG : TJ := λ_ H acc R => R acc H
noncomputable def DH (x : Str)(t : TJ):TJ := λσ H acc R => (acc ++ x).length <= sizeLine /\ t σ H (acc ++ x) R
noncomputable def Ae (v : V)(y : Str):Prop := (v = .str y /\ y.length <= sizeLine) \/ ∃ i : Int, v = .int i /\ i.natAbs.log2 < 1920 /\ y = toString i
noncomputable def DK (te : TE)(t : TJ):TJ := λσ H acc R => te σ H λv H1 => ∃ y, Ae v y /\ (acc ++ y).length <= sizeLine /\ t σ H1 (acc ++ y) R
theorem A5 : PJ X [] DG := λ_ _ _ H _ _ I h => ⟨H, I, h⟩
theorem A6 {x : Str}{j pos}{es : List Expr}{t : TJ}(h : PJ X es t):PJ X (.Constant (.str x) j pos :: es) (DH x t) := by
  intro pins s σ H acc R I q;show wpAny _ _ (eval (.Constant (.str x) j pos) X.env) _ _ s;refine cm (ki (X := X) (x := x) (j := j) (pos := pos) pins s σ H (λv H1 => v = .str x /\ H1 = H) I ⟨rfl, rfl⟩) ?_;rintro v s1 ⟨y, H1, I1, r1, e1, e2⟩;subst e1;subst e2;obtain ⟨t', rfl⟩ := r1;exact ⟨x, t', rfl, q.1, h pins s1 σ _ _ R I1 q.2⟩
theorem A7 {value : Expr}{pos : Pos}{te : TE}{es : List Expr}{t : TJ}(hv : PE X value te)(h : PJ X es t):PJ X (.FormattedValue value (-1) none pos :: es) (DK te t) := by
  intro pins s σ H acc R I q;show wpAny _ _ (eval (.FormattedValue value (-1) none pos) X.env) _ _ s;refine wpAny_FormattedValue_plain (cm (hv pins s σ H _ I q) ?_);rintro v s1 ⟨x, H1, I1, r1, y, sh, hz, q1⟩;rcases sh with ⟨rfl, hy⟩ | ⟨i, rfl, hi, rfl⟩
  · obtain ⟨t', rfl⟩ := r1;exact wpAny_formatField_str ⟨y, _, rfl, hz, h pins s1 σ H1 _ R I1 q1⟩ ⟨y, _, rfl, hz, h pins _ σ H1 _ R (I1.tok _) q1⟩ hy
  · obtain ⟨t', rfl⟩ := r1;exact wpAny_formatField_int hi ⟨_, _, rfl, hz, h pins _ σ H1 _ R (I1.tok _) q1⟩
noncomputable def CO (t : TJ):TE := λσ H Q => t σ H Str.empty λout H1 => out.length <= sizeLine /\ Q (.str out) H1
theorem md {M : Model}{A : Around}{E : Value -> Shared -> Prop}:∀ {l : List (Sem Value)} {acc : Str} {Q Q' : Str -> Shared -> Prop} {s : Shared}, (∀ o s, Q o s -> Q' o s) -> Joins M A E l acc Q s -> Joins M A E l acc Q' s
  | [], _, _, _, _, h, q => h _ _ q
  | _ :: _, _, _, _, _, h, q => wpAny_mono q (by rintro v s1 ⟨y, t, e, z, r⟩;exact ⟨y, t, e, z, md h r⟩) λ_ _ x => x
theorem y9 {v1 v2 : Expr}{rest : List Expr}{pos : Pos}{t : TJ}(h : PJ X (v1 :: v2 :: rest) t):PE X (.JoinedStr (v1 :: v2 :: rest) pos) (CO t) := by
  intro pins s σ H Q I q;refine wpAny_JoinedStr (md ?_ (h pins s σ H Str.empty _ I q));rintro o s1 ⟨H1, I1, z, q1⟩;exact ⟨z, .str o, H1, I1.tok _, ⟨_, rfl⟩, q1⟩
theorem Ck {x : Str}{i : Int}{pos : Pos}(hg : Gl X x)(h : ∃ t, X.mg x = some (.int i t))(hd :autoParam ((x == ("__debug__" : Str)) = false) aZb._auto_1):PE X (.Name x pos) (tC (.int i)) := by
  obtain ⟨t, e⟩ := h;exact y0 hg e ⟨t, rfl⟩ hd
end
end L2
namespace L2
open PySem PySem.Spec PyProof.Rows
section
variable {X : Cx} {pins : List (Addr × Obj)} {σ : St} {H : Hp} {s : Shared} {h' : Heap}
theorem Inv.zZ {t' : Nat}{wr : List Addr}{T : Addr}{us : List Value}{vs : List V}(I : Inv X pins σ H s)(hf : ∀ b ∈ wr, jw X pins H b)(k : ∀ b o, b ∉ wr -> s.heap.get? b = some o -> h'.get? b = some o)(hT : s.heap.objs.size <= T)(ht : h'.IsTuple T us.toArray)(r : Vals vs us)(hz : vs.length <= sizeLine) :
    Inv X pins σ (upd H T (.tup vs)) { s with heap := h', toks := t' } := by
  have hn : H T = none := I.aX.fresh hT;have nit : ∀ b u, H b = some u -> b ∉ wr := λb u e z => by
    have := (hf b z).1;rw [this] at e;cases e
  refine I.step (g' := s.gens) (d' := s.drawn) (ch := wr) (λb hb => ⟨(hf b hb).2.2.2.1, (hf b hb).2.1, (hf b hb).2.2.2.2.1, (hf b hb).2.2.2.2.2⟩) (λb o _ _ hc e _ => k b o hc e) (λb o _ _ hc e _ => ⟨o.slots, k b o hc e⟩)
    (λb o hc e n => ?_) (λb o hc e => ⟨o, k b o hc e⟩) (λb xs e => ?_) (λb o u e => ?_) (λb ps e => ⟨#[], ?_⟩) (λm hm => ?_) (λb u e => ?_) I.bare
  · rw [af (Nat.ne_of_lt (Nat.lt_of_lt_of_le (Heap.lt_size e) hT))];exact n
  · rw [af (aH e hn)];exact e
  · rw [af (aH e hn)];exact e
  · rw [af (aH e hn)];simpa using e
  · obtain ⟨o, es, ep, ho, r⟩ := hm;exact ⟨o, es, ep, k _ o (λz => (hf _ z).2.1 rfl) ho, r⟩
  · by_cases hb : b = T
    · subst hb;rw [ah] at e;cases e;exact ⟨hz, us, r, ht⟩
    · rw [af hb] at e;refine (I.aX b u e).fe (λc v hc q => k c v ?_ q) (λc q => by rw [af (aH q hn)];exact q) λc xs q => by rw [af (aH q hn)];exact q
      rcases hc with z | z
      · rw [z];exact nit b u e
      · exact nit c _ z
theorem Inv.zy {t' : Nat}{wr : List Addr}(I : Inv X pins σ H s)(hf : ∀ b ∈ wr, jw X pins H b)(k : ∀ b o, b ∉ wr -> s.heap.get? b = some o -> h'.get? b = some o):Inv X pins σ H { s with heap := h', toks := t' } := by
  have nit : ∀ b u, H b = some u -> b ∉ wr := λb u e z => by
    have := (hf b z).1;rw [this] at e;cases e
  refine I.step (g' := s.gens) (d' := s.drawn) (ch := wr) (λb hb => ⟨(hf b hb).2.2.2.1, (hf b hb).2.1, (hf b hb).2.2.2.2.1, (hf b hb).2.2.2.2.2⟩) (λb o _ _ hc e _ => k b o hc e) (λb o _ _ hc e _ => ⟨o.slots, k b o hc e⟩)
    (λb o hc e n => n) (λb o hc e => ⟨o, k b o hc e⟩) (λb xs e => e) (λb o u e => e) (λb ps e => ⟨#[], by rw [e];simp⟩) (λm hm => ?_) (λb u e => ?_) I.bare
  · obtain ⟨o, es, ep, ho, r⟩ := hm;exact ⟨o, es, ep, k _ o (λz => (hf _ z).2.1 rfl) ho, r⟩
  · refine (I.aX b u e).fe (λc v hc q => k c v ?_ q) (λ_ q => q) λ_ _ q => q;rcases hc with z | z
    · rw [z];exact nit b u e
    · exact nit c _ z
end
noncomputable def C0 (Src : Hp -> List (List V) -> Prop):It :=
  ⟨λi H => ∃ rows row, Src H rows /\ rows[i]? = some row, λi H x H' => ∀ rows, Src H rows -> ∃ row p, rows[i]? = some row /\ H p = none /\ x = .ref p /\ H' = upd H p (.tup row), λi H => ∃ rows, Src H rows /\ i = rows.length⟩
theorem Bq {P : Program}{w : World}{K : Frag}{elts : List Expr}{kx : Nat}{pos : Pos}{e : Addr}{fp wr fpw : List Addr}{Src : Hp -> List (List V) -> Prop}{core : Nat -> Heap -> Prop}
    (me : e ∈ fp) (hwr : ∀ b ∈ wr, b ∈ fp) (src1 : ∀ H r r', Src H r -> Src H r' -> r = r')
    (obj : ∀ i h, core i h -> ∀ b ∈ fp, ∃ o, h.get? b = some o /\ ∀ v, o.data ≠ .cell v)
    (keep : ∀ i h h', core i h -> (∀ b ∈ fp, ∀ o, h.get? b = some o -> h'.get? b = some o) -> core i h')
    (self : ∀ (A : Around) (i : Nat) (s : Shared) (Q : Value -> Shared -> Prop) (E : Value -> Shared -> Prop), core i s.heap -> Q (.ref e) s -> wpAny (model P w) A (pyIter (.ref e)) Q E s)
    (W : ∀ (X : Cx), X.prog = P -> X.w = w -> X.K = K -> X.calm = true -> ∀ (i : Nat) (pins : List (Addr × Obj)) (s : Shared) (σ : St) (H : Hp), Inv X pins σ H s -> (∀ b ∈ fp, jw X pins H b) -> core i s.heap -> ∀ rows, Src H rows ->
      ∃ (n : Nat) (Pt : Nat -> Array Value -> Prop) (St' : Nat -> Heap -> Prop) (Mid : Nat -> Addr -> Heap -> Prop), WalksT P w X.A e fpw wr n Pt St' Mid /\ n = rows.length /\ St' i s.heap /\ (∀ j vals, Pt j vals -> ∃ row us, rows[j]? = some row /\ vals = us.toArray /\ Vals row us /\ row.length <= sizeLine) /\ ∀ j h, St' j h -> core j h) :
    Turn P w K (.Tuple elts kx pos) (C0 Src) fp e core where
  mem := me
  obj := obj
  keep := keep
  self := self
  item := by
    intro X hP hw hK hc i pins s σ H E I hf st hg;obtain ⟨rows, row, hs, hr⟩ := hg;obtain ⟨n, Pt, St', Mid, V, hn, st', hp, back⟩ := W X hP hw hK hc i pins s σ H I hf st rows hs;have hi : i < n := by rw [hn];exact (List.getElem?_eq_some_iff.mp hr).1
    refine V.item i s _ E hi st' λT vals h' tk pt hT ht mid kk => ?_;obtain ⟨row', us, hr', rfl, rv, hz⟩ := hp i vals pt;refine ⟨.ref T, rfl, ?_⟩;refine V.go elts kx pos i T { s with heap := h', toks := tk } _ E mid λh2 st2 k2 => ?_;have nT := V.apart i T h' mid;have ht2 : h2.IsTuple T us.toArray := ht.at λo q => k2 T o nT q;have I2 : Inv X pins σ (upd H T (.tup row')) { s with heap := h2, toks := tk } := I.zZ (λb hb => hf b (hwr b hb)) (λb o hb q => k2 b o hb (kk b o hb q)) hT ht2 rv hz;refine ⟨.ref T, _, I2, rfl, λrows2 hs2 => ?_, back _ _ st2, λb hb => ?_⟩
    · rw [src1 _ _ _ hs2 hs];exact ⟨row', T, hr', I.aX.fresh hT, rfl, rfl⟩
    · have hbT : b ≠ T := by
        rintro rfl;obtain ⟨o, ho, _⟩ := obj _ _ st b hb;exact absurd (Nat.lt_of_lt_of_le (Heap.lt_size ho) hT) (Nat.lt_irrefl _)
      rw [af hbT];exact (hf b hb).1
  done := by
    intro X hP hw hK hc i pins s σ H E I hf st hg;obtain ⟨rows, hs, hr⟩ := hg;obtain ⟨n, Pt, St', Mid, V, hn, st', hp, back⟩ := W X hP hw hK hc i pins s σ H I hf st rows hs;rw [hr, <- hn] at st';exact V.done s _ E st' λh' tk kk => ⟨rfl, I.zy (λb hb => hf b (hwr b hb)) kk⟩
section
variable {X : Cx}
noncomputable def Cw (K : Frag):List V -> Hp -> VK -> Prop := λxs H Q => ∃ (p : Addr) (ns : List Int), xs = [.ref p] /\ dD K H p (ns.map V.int) /\ ns ≠ [] /\ ∀ m : Int, m ∈ ns -> (∀ n ∈ ns, n <= m) -> Q (.int m) H
theorem yk {zs : Array (Int × Tok)}{k : Nat}{v : Value}(h : (intItems zs)[k]? = some v):(∃ t, v = .int (numAt zs k) t) /\ numAt zs k ∈ zs.toList.map (·.1) := by
  refine ⟨intItems_at h, ?_⟩;simp only [intItems, Array.getElem?_map, Option.map_eq_some_iff] at h;obtain ⟨p, hp, rfl⟩ := h;rw [numAt_eq];have hp' : zs.toList[k]? = some p := by rw [<- hp];simp
  rw [getD_eq_getElem?_getD, getElem?_map, hp'];exact mem_map.mpr ⟨p, mem_of_getElem? hp', rfl⟩
theorem sq {zs : Array (Int × Tok)}{n : Int}(h : n ∈ zs.toList.map (·.1)):∃ j, j <= zs.size - 1 /\ numAt zs j = n := by
  obtain ⟨j, hj⟩ := List.getElem?_of_mem h;have hl : j < zs.size := by have := (List.getElem?_eq_some_iff.mp hj).1;simpa using this
  exact ⟨j, by lia, by rw [numAt_eq, getD_eq_getElem?_getD, hj];rfl⟩
theorem uE (hc : X.calm = true):fI X (.builtin "max") (Cw X.K) := by
  intro pins s σ H xs us Q I r h;obtain ⟨p, ns, rfl, hp, hne, q⟩ := h;obtain ⟨u, rfl, ru⟩ := vals1 r;cases ru;obtain ⟨its, rv, pl, hz⟩ := I.list hp;have hi : IntsAre its ns := intsAre_of rv;obtain ⟨zs, e⟩ := hi.allInts.items;have e3 : zs.toList.map (·.1) = ns := by rw [<- nums_intItems, <- e];exact hi.numsOf
  have hsz : 0 < zs.size := by
    have : ns.length = zs.size := by rw [<- e3];simp
    have : ns.length ≠ 0 := λz => hne (length_eq_zero_iff.mp z);lia
  refine max_intList (I.ok.hd hc) (xs := zs) (e ▸ pl.isList) hsz λv h' tk hv hk => ?_;obtain ⟨⟨t, rfl⟩, hm⟩ := yk hv;refine ⟨.int _, H, I.kept hk, ⟨t, rfl⟩, q _ (e3 ▸ hm) λn hn => ?_⟩;obtain ⟨j, hj, ej⟩ := sq (e3 ▸ hn);rw [<- ej];exact (argBest_gt (numAt zs) (zs.size - 1)).2 j hj
noncomputable def gr (xs : List V):List (List V) := (List.range xs.length).map λi => [V.int (i : Nat), (xs[i]?).getD .non]
theorem jF {xs : List V}{i : Nat}{x : V}(h : xs[i]? = some x):(gr xs)[i]? = some [.int (i : Nat), x] := by
  unfold gr;rw [getElem?_map, List.getElem?_range (List.getElem?_eq_some_iff.mp h).1, Option.map_some, h];rfl
theorem jG (xs : List V):(gr xs).length = xs.length := by unfold gr;simp
noncomputable def ur (a : Addr)(H : Hp)(rows : List (List V)):Prop := ∃ xs, H a = some (.lst xs) /\ rows = gr xs
theorem vo {P : Program}{w : World}{K : Frag}{elts : List Expr}{kx : Nat}{pos : Pos}(a e it : Addr)(hei : e ≠ it) :
    Turn P w K (.Tuple elts kx pos) (C0 (ur a)) [e, it] e (λi h => (∃ old, IsEnum h e it i old) /\ h.IsListIter it a i) := by
  refine Bq (fpw := [e, it, a]) (wr := [e, it]) (by simp) (λb hb => hb) (λH r r' ⟨xs, h1, h2⟩ ⟨ys, h3, h4⟩ => ?_) (λi h ⟨⟨old, he⟩, hit⟩ b hb => ?_) (by rintro i h h' ⟨⟨old, he⟩, hit⟩ k;exact ⟨⟨old, k e (by simp) _ he⟩, hit.at λo q => k it (by simp) o q⟩) (by rintro A i s Q E ⟨⟨old, he⟩, hit⟩ q;exact wpAny_pyIter_enum he q) ?_
  · rw [h1] at h3;cases h3;rw [h2, h4]
  · rcases List.mem_cons.mp hb with rfl | hb
    · exact ⟨_, he, λv z => by have z' : Data.fields _ = Data.cell v := z;cases z'⟩
    · have : b = it := by simpa using hb
      subst this;obtain ⟨o, ho, _, hd⟩ := hit;exact ⟨o, ho, λv z => by rw [hd] at z;cases z⟩
  · intro X hP hw hK hc i pins s σ H I hf st rows ⟨xs, hx, hr⟩;subst hP hw hK;obtain ⟨z, its, n, rv, hl⟩ := I.aX a _ hx;have hlist : s.heap.IsList a its.toArray := ⟨_, hl, rfl, n, rfl⟩
    have nae : a ≠ e := λq => by have := (hf e (by simp)).1;rw [<- q, hx] at this;cases this
    have nai : a ≠ it := λq => by have := (hf it (by simp)).1;rw [<- q, hx] at this;cases this
    refine ⟨its.toArray.size, _, _, _, WalksT.enumerate (I.ok.hd hc) e it a hei nae nai its.toArray, by rw [hr, jG, size_toArray, rv.length], ⟨st.1, st.2, hlist⟩, ?_, λj h ⟨h1, h2, _⟩ => ⟨h1, h2⟩⟩;rintro j vals ⟨t, x, h1, h2⟩;have h1' : its[j]? = some x := by simpa using h1
    have hj : j < xs.length := by rw [rv.length];exact (List.getElem?_eq_some_iff.mp h1').1
    obtain ⟨u, g1, g2⟩ := rv.get (getElem?_eq_getElem hj);rw [h1'] at g1;cases g1;exact ⟨[.int (j : Nat), xs[j]], [.int j t, x], by rw [hr];exact jF (getElem?_eq_getElem hj), h2, .cons ⟨t, rfl⟩ (.cons g2 .nil), gF (Nat.le_of_ble_eq_true rfl)⟩
noncomputable def B2 (ta : TA):TI := λσ H R => ta σ H λvs H1 => ∃ a xs, vs = [.ref a] /\ H1 a = some (.lst xs) /\ R (C0 (ur a)) H1
theorem zc {elts : List Expr}{kx : Nat}{tpos : Pos}{l : Expr}{ta : TA}{p pos : Pos}(hg : Gl X "enumerate")(hm : X.mg "enumerate" = none)(ha : PA X [l] ta)(hs :autoParam (starEach [l] X.env = [(false, eval l X.env)]) aZa._auto_1):PI X (.Tuple elts kx tpos) (.Call (.Name "enumerate" p) [l] [] pos) (B2 ta) := by
  intro pins s σ H R I h;refine Call_ (mi I hg hm boot_enumerate (PyProof.Rows.callWith_type1 (cm (ha pos pins s σ H _ I h) ?_) hs rfl));rintro us s1 ⟨vs, H1, I1, r1, q1⟩;obtain ⟨a, xs, rfl, hx, q⟩ := q1;obtain ⟨u, rfl, ru⟩ := vals1 r1;cases ru;obtain ⟨z, its, n, rv, hl⟩ := I1.aX a _ hx;refine call_enumerate_list (items := its.toArray) ⟨_, hl, rfl, n, rfl⟩ λh' he hit hsz hk => ?_;refine wpAny_pyIter_enum he ?_;have I2 : Inv X pins σ H1 { s1 with heap := h' } := I1.kept (t' := s1.toks) hk;refine ⟨s1.heap.objs.size + 1, [s1.heap.objs.size + 1, s1.heap.objs.size], _, _, H1, rfl, I2, vo a _ _ (Nat.succ_ne_self _), ⟨⟨_, he⟩, hit⟩, λb hb => ?_, q⟩;rcases List.mem_cons.mp hb with rfl | hb
  · exact I1.wz (Nat.le_succ _) (I1.aX.fresh (Nat.le_succ _))
  · have e : b = s1.heap.objs.size := by simpa using hb
    subst e;exact I1.wz (Nat.le_refl _) (I1.aX.fresh (Nat.le_refl _))
section
variable {prog : Program} {w : World} {A : Around} {E : Value -> Shared -> Prop} {s : Shared}
theorem nK {it t : Addr}{items : Array Value}(hne : t ≠ it):∀ (n i : Nat) (s : Shared) (Q : List Value -> Shared -> Prop), s.heap.IsListIter it t i -> s.heap.IsList t items -> i + n <= items.size ->
    (∀ h', h'.IsListIter it t (i + n) -> Heap.SameBut it s.heap h' -> Q ((items.toList.drop i).take n) { s with heap := h' }) -> wpAny (model prog w) A (draw (.ref it) n) Q E s
  | 0, i, s, Q, hit, _, _, hQ => by
    show wpAny _ _ (pure []) Q E s;exact wpAny_pure (by simpa using hQ s.heap hit (Heap.SameBut.refl ..))
  | n + 1, i, s, Q, hit, ht, hle, hQ => by
    have hlt : i < items.size := by lia
    show wpAny _ _ (pyNext (.ref it) >>= _) Q E s;refine wpAny_bind (wpAny_pyNext_list_item hit ht (x := items[i]) (by simp [hlt]) λh₁ hit₁ hs₁ => ?_);refine wpAny_bind (wpAny_holding (nK hne n (i + 1) _ _ hit₁ (ht.extBut hs₁.extBut hne) (by lia) λh₂ hit₂ hs₂ => wpAny_pure ?_));have hd : items.toList.drop i = items[i] :: items.toList.drop (i + 1) := by simp [drop_eq_getElem_cons, hlt]
    have := hQ h₂ (by rw [show i + (n + 1) = i + 1 + n by lia];exact hit₂) (hs₁.trans hs₂);rw [hd, List.take_succ_cons] at this;exact this
theorem ky {t : Addr}{items : Array Value}{Q : List Value -> Shared -> Prop}(hh : A.handled = none)(ht : s.heap.IsList t items)
    (hQ : ∀ h', Heap.ExtBut s.heap.objs.size s.heap h' -> Q items.toList { s with heap := h' }):wpAny (model prog w) A (unpackItems (.ref t) items.size none) Q E s := by
  have hlt : t ≠ s.heap.objs.size := by obtain ⟨o, ho, _⟩ := ht;exact Nat.ne_of_lt (Heap.lt_size ho)
  unfold unpackItems;refine wpAny_bind ?_;unfold notIterableAtAll;refine wpAny_bind (wpAny_specialOf ht.typeIs slot_list_iter.lookup ?_);refine wpAny_pure ?_;simp only [Bool.false_eq_true, if_false];refine wpAny_bind (wpAny_holding (wpAny_pyIter_list ht ?_));refine wpAny_bind (wpAny_holding (nK hlt items.size 0 _ _ ⟨_, Heap.get?_push_size _ rfl, rfl, rfl⟩ (ht.at λo e => Heap.get?_push_of_some _ e) (by lia) λh₁ hit₁ hs₁ => ?_));have hall : List.take items.size (List.drop 0 items.toList) = items.toList := by
    rw [List.drop_zero];exact take_of_length_le (by simp)
  rw [hall];rw [if_neg (by simp)];have ht₁ : h₁.IsList t items := (ht.at λo e => Heap.get?_push_of_some _ e).extBut hs₁.extBut hlt;refine wpAny_bind (wpAny_holding (wpAny_pyNext_list_end hh hit₁ ht₁ (by simp) λh₂ he₂ => ?_));simp only [Option.isSome_none, Bool.false_eq_true, if_false];refine wpAny_pure (hQ h₂ λb o hb e => he₂ b o hb (hs₁.extBut b o hb (Heap.get?_push_of_some _ e)))
theorem jz {env : Env}{elts : List Expr}{x1}{pos : Pos}{t : Addr}{items : Array Value}{Q : Unit -> Shared -> Prop}(hh : A.handled = none)(ht : s.heap.IsList t items)
    (hn : (assignEach elts env).length = items.size) (hstar : (assignEach elts env).findIdx? (·.1) = none)
    (h : ∀ h', Heap.ExtBut s.heap.objs.size s.heap h' -> wpAny (model prog w) A (assignInOrder ((assignEach elts env).map (·.2)) items.toList) Q E { s with heap := h' }) :
    wpAny (model prog w) A (assign (.Tuple elts x1 pos) env (.ref t)) Q E s := by
  rw [assign_Tuple];refine wpAny_bind (wpAny_standAt ?_);unfold unpack;rw [hn, hstar];exact wpAny_bind (wpAny_holding (ky hh ht h))
end
noncomputable def B0 (K : Frag)(n : Nat)(t : zA):TG := λv σ H Q => ∃ a xs, v = .ref a /\ (mM K H a xs \/ dD K H a xs) /\ xs.length = n /\ t xs σ H Q
theorem gZ {es : List Expr}{k : Nat}{t : zA}{n : Nat}{pos : Pos}(hc : X.calm = true)(h : C5 X es t)
    (hn :autoParam ((assignEach es X.env).length = n) aZa._auto_1) (hst :autoParam ((assignEach es X.env).findIdx? (·.1) = none) aZa._auto_1):PG X (.Tuple es k pos) (B0 X.K n t) := by
  intro pins s σ H v u Q I r hw;obtain ⟨a, xs, e1, hq, hl, hw⟩ := hw;subst e1;cases r;rcases hq with hq | hq
  · obtain ⟨its, rv, ht, hz⟩ := I.tuple hq;refine assign_Tuple_tuple (I.ok.hd hc) ht (by simp [hn, <- hl, rv.length]) hst λh' hx => ?_;have I1 : Inv X pins σ H { s with heap := h' } := I.kept (t' := s.toks) λb o e => hx b o (Nat.ne_of_lt (Heap.lt_size e)) e;exact h pins _ σ H xs _ Q I1 (by simpa using rv) hw
  · obtain ⟨its, rv, ht, hz⟩ := I.list hq;refine jz (I.ok.hd hc) ht.isList (by simp [hn, <- hl, rv.length]) hst λh' hx => ?_;have I1 : Inv X pins σ H { s with heap := h' } := I.kept (t' := s.toks) λb o e => hx b o (Nat.ne_of_lt (Heap.lt_size e)) e;exact h pins _ σ H xs _ Q I1 (by simpa using rv) hw
end
end L2
namespace DL
open PySem L2
inductive Ext where
  | any
  | dki (kvs : List (Int × Int × Int × Int))
  | dks (kvs : List (Str × Int))
  | rws (n : Int) (hs cs : List (Int × Int × Int × Int))
  | obj (C : Addr) (g : Int) (hs cs : List (Int × Int × Int × Int)) (n : Int)
inductive D where
  | non | bl (b : Bool) | int (i : Int) | str (x : Str) | tup (xs : List D) | lst (xs : List D) | scr (ns : List Int)
  | dct (kvs : List ((Int × Int) × Int))
  | sen (ks : List (List Int))
  | ext (x : Ext)
noncomputable def E3 (G : Hp)(e : Key × V)(p : Int × Int × Int × Int):Prop := e.1 = Sum.inl p.1 /\ ∃ t, e.2 = .ref t /\ G t = some (.tup [.int p.2.1, .int p.2.2.1, .int p.2.2.2])
noncomputable def eB (g : Int)(b c : Addr)(n : Int):List (Str × V) := [("gap", .int g), ("hots", .ref b), ("colds", .ref c), ("spent", .int n)]
noncomputable def bz (G H : Hp)(a : Addr)(kvs : List (Int × Int × Int × Int)):Prop := ∃ es, H a = some (.dK es) /\ Paired (E3 G) es kvs
noncomputable def jy (H : Hp)(v : V)(p : Int × Int × Int × Int):Prop := ∃ q t, v = .ref q /\ H q = some (.tup [.int p.1, .ref t]) /\ H t = some (.tup [.int p.2.1, .int p.2.2.1, .int p.2.2.2])
noncomputable abbrev p9 (H : Hp):List V -> List (Int × Int × Int × Int) -> Prop := Paired (jy H)
theorem p9.on {H H2 : Hp}{vs : List V}{l : List (Int × Int × Int × Int)}(h : p9 H vs l)(kt : ∀ t xs, H t = some (.tup xs) -> H2 t = some (.tup xs)):p9 H2 vs l :=
  Paired.imp' (by rintro _ _ ⟨q, t, e, h1, h2⟩;exact ⟨q, t, e, kt _ _ h1, kt _ _ h2⟩) h
noncomputable def vz (H : Hp)(y : Addr)(l : List (Int × Int × Int × Int)):Prop := ∃ vs, H y = some (.lst vs) /\ p9 H vs l
theorem vz.on {H H2 : Hp}{y : Addr}{l : List (Int × Int × Int × Int)}(h : vz H y l)(kb : ∀ o, H y = some o -> H2 y = some o)(kt : ∀ t xs, H t = some (.tup xs) -> H2 t = some (.tup xs)):vz H2 y l := by
  obtain ⟨vs, e, p⟩ := h;exact ⟨vs, kb _ e, p9.on p kt⟩
noncomputable abbrev CB (lh lk : Addr)(n : Int):HO := .dK [(Sum.inr ("hot" : Str), .ref lh), (Sum.inr ("cold" : Str), .ref lk), (Sum.inr ("last" : Str), .int n)]
noncomputable def p7 (G H : Hp)(a : Addr):Ext -> Prop
  | .any => True
  | .dki kvs => bz G H a kvs
  | .dks kvs => H a = some (.dK (kvs.map λp => (Sum.inr p.1, V.int p.2)))
  | .rws n hs cs => ∃ lh lk, G a = some (CB lh lk n) /\ vz G lh hs /\ vz G lk cs
  | .obj C g hs cs n => ∃ dx b c, H a = some (.ins C dx (eB g b c n)) /\ bz G H b hs /\ bz G H c cs
theorem E3.mono {G G' : Hp}{e : Key × V}{p : Int × Int × Int × Int}(s : ak G G')(h : E3 G e p):E3 G' e p := by
  obtain ⟨h1, t, h2, h3⟩ := h;exact ⟨h1, t, h2, s _ _ h3⟩
theorem bz.mono {G G' H H' : Hp}{a : Addr}{kvs : List (Int × Int × Int × Int)}(s : ak G G')(k : ∀ o, H a = some o -> H' a = some o)(h : bz G H a kvs):bz G' H' a kvs := by
  obtain ⟨es, h1, h2⟩ := h;exact ⟨es, k _ h1, Paired.imp' (λ_ _ => E3.mono s) h2⟩
theorem p7.mono {G G' : Hp}{a : Addr}{x : Ext}(s : ak G G')(h : p7 G G a x):p7 G' G' a x := by
  cases x with
  | any => trivial
  | dki kvs => exact bz.mono s (s a) h
  | dks kvs => exact s _ _ h
  | rws n hs cs =>
    obtain ⟨lh, lk, h1, h2, h3⟩ := h;exact ⟨lh, lk, s _ _ h1, h2.on (λo e => s _ _ e) λt xs e => s _ _ e, h3.on (λo e => s _ _ e) λt xs e => s _ _ e⟩
  | obj C g hs cs n =>
    obtain ⟨dx, b, c, h1, h2, h3⟩ := h;exact ⟨dx, b, c, s _ _ h1, h2.mono s (s b), h3.mono s (s c)⟩
noncomputable def fx (G H : Hp)(a : Addr):Ext -> Prop
  | .dki kvs => bz G H a kvs
  | .dks kvs => H a = some (.dK (kvs.map λp => (Sum.inr p.1, V.int p.2)))
  | _ => False
theorem fx.fe {G H G' H' : Hp}{a : Addr}{x : Ext}(h : fx G H a x)(s : ak G G')(k : ∀ o, H a = some o -> H' a = some o):fx G' H' a x := by
  cases x with
  | dki kvs => exact bz.mono s k h
  | dks kvs => exact k _ h
  | any => exact h.elim
  | obj _ _ _ _ _ => exact h.elim
  | rws _ _ _ => exact h.elim
theorem fx.obj {G H : Hp}{a : Addr}{x : Ext}(h : fx G H a x):∃ es, H a = some (.dK es) := by
  cases x with
  | dki kvs => obtain ⟨es, h, _⟩ := h;exact ⟨es, h⟩
  | dks kvs => exact ⟨_, h⟩
  | any => exact h.elim
  | obj _ _ _ _ _ => exact h.elim
  | rws _ _ _ => exact h.elim
theorem fx.at {G H G2 : Hp}{a : Addr}{x : Ext}(h : fx G H a x)(s : ak G G2)(k : ∀ o, H a = some o -> G2 a = some o):p7 G2 G2 a x := by
  cases x with
  | dki kvs => exact bz.mono s k h
  | dks kvs => exact k _ h
  | any => exact h.elim
  | obj _ _ _ _ _ => exact h.elim
  | rws _ _ _ => exact h.elim
noncomputable def BU (ks : List (List Int)):List (List Key × V) := ks.map λk => (k.map Sum.inl, V.bl true)
noncomputable def encD (kvs : List ((Int × Int) × Int)):List (List Key × V) := kvs.map λp => ([Sum.inl p.1.1, Sum.inl p.1.2], V.int p.2)
inductive Rep (K : Frag)(G : Hp):V -> D -> Prop where
  | non : Rep K G .non .non
  | bl (b : Bool):Rep K G (.bl b) (.bl b)
  | int (i : Int):Rep K G (.int i) (.int i)
  | str (x : Str):Rep K G (.str x) (.str x)
  | tup {a : Addr} {vs : List V} {ds : List D} (h : G a = some (.tup vs)) (l : vs.length = ds.length) (r : ∀ (i : Nat) (v : V) (d : D), vs[i]? = some v -> ds[i]? = some d -> Rep K G v d):Rep K G (.ref a) (.tup ds)
  | scr {a : Addr} {ns : List Int} (h : dD K G a (ns.map V.int)):Rep K G (.ref a) (.scr ns)
  | dct {a : Addr} {kvs : List ((Int × Int) × Int)} (h : Rd G a (.dT (encD kvs))):Rep K G (.ref a) (.dct kvs)
  | sen {a : Addr} {ks : List (List Int)} (h : Rd G a (.dT (BU ks))):Rep K G (.ref a) (.sen ks)
  | ext {a : Addr} {x : Ext} (h : p7 G G a x):Rep K G (.ref a) (.ext x)
  | lst {a : Addr} {vs : List V} {ds : List D} (h : G a = some (.lst vs)) (l : vs.length = ds.length) (r : ∀ (i : Nat) (v : V) (d : D), vs[i]? = some v -> ds[i]? = some d -> Rep K G v d):Rep K G (.ref a) (.lst ds)
noncomputable abbrev bE (K : Frag)(G : Hp):List V -> List D -> Prop := Paired (Rep K G)
theorem az {α β : Type}{F : α -> β -> Prop}:∀ {l : List α} {r : List β}, l.length = r.length -> (∀ (i : Nat) (a : α) (b : β), l[i]? = some a -> r[i]? = some b -> F a b) -> Paired F l r
  | [], [], _, _ => .nil
  | a :: l, b :: r, e, h => .cons (h 0 a b rfl rfl) (az (by simpa using e) λi x y h1 h2 => h (i + 1) x y (by simpa using h1) (by simpa using h2))
theorem eN {α β : Type}{F : α -> β -> Prop}:∀ {l : List α} {r : List β}, Paired F l r -> ∀ (i : Nat) (a : α) (b : β), l[i]? = some a -> r[i]? = some b -> F a b
  | _, _, .nil, _, _, _, h, _ => by simp at h
  | _, _, .cons h _, 0, _, _, h1, h2 => by simp at h1 h2;subst h1;subst h2;exact h
  | _, _, .cons _ t, i + 1, a, b, h1, h2 => eN t i a b (by simpa using h1) (by simpa using h2)
theorem cH {α β : Type}{F : α -> β -> Prop}:∀ {l : List α} {r : List β} {i : Nat} {b : β}, Paired F l r -> r[i]? = some b -> ∃ a, l[i]? = some a /\ F a b
  | _, _, _, _, .nil, e => by simp at e
  | _, _, 0, _, .cons h _, e => by simp at e;subst e;exact ⟨_, rfl, h⟩
  | _, _, i + 1, b, .cons _ t, e => by
    obtain ⟨a, h1, h2⟩ := cH (i := i) (b := b) t (by simpa using e);exact ⟨a, by simpa using h1, h2⟩
section
variable {K : Frag} {G G' H H' : Hp} {v : V} {d : D} {ds : List D} {vs : List V}
theorem Rep.kX {a : Addr}(h : G a = some (.tup vs))(r : bE K G vs ds):Rep K G (.ref a) (.tup ds) := .tup h (Paired.length r) (eN r)
theorem Rep.yM {a : Addr}(h : G a = some (.lst vs))(r : bE K G vs ds):Rep K G (.ref a) (.lst ds) := .lst h (Paired.length r) (eN r)
theorem Rep.iW (h : Rep K G v (.tup ds)):∃ a vs, v = .ref a /\ mM K G a vs /\ bE K G vs ds := by
  cases h with | tup h l r => exact ⟨_, _, rfl, .inl (.inl h), az l r⟩
theorem Rep.lst_inv (h : Rep K G v (.lst ds)):∃ a vs, v = .ref a /\ G a = some (.lst vs) /\ bE K G vs ds := by
  cases h with | lst h l r => exact ⟨_, _, rfl, h, az l r⟩
theorem Rep.int_inv {i : Int}(h : Rep K G v (.int i)):v = .int i := by cases h;rfl
theorem Rep.vG {b : Bool}(h : Rep K G v (.bl b)):v = .bl b := by cases h;rfl
theorem lC {a : Addr}{u : HO}(e : ak G G')(h : Rd G a u):Rd G' a u := h.elim (λz => .inl (e _ _ z)) λ⟨o, z⟩ => .inr ⟨o, e _ _ z⟩
theorem aG {a : Addr}{xs : List V}(e : ak G G')(h : mM K G a xs):mM K G' a xs := by
  rcases h with (h | ⟨o, h⟩) | h
  · exact .inl (.inl (e _ _ h))
  · exact .inl (.inr ⟨o, e _ _ h⟩)
  · exact .inr h
theorem Rep.mono (s : ak G G')(h : Rep K G v d):Rep K G' v d := by
  induction h with
  | non => exact .non
  | bl b => exact .bl b
  | int i => exact .int i
  | str x => exact .str x
  | tup h l r ih => exact .tup (s _ _ h) l ih
  | lst h l r ih => exact .lst (s _ _ h) l ih
  | scr h => exact .scr (s.seq h)
  | dct h => exact .dct (lC s h)
  | sen h => exact .sen (lC s h)
  | ext h => exact .ext (h.mono s)
theorem bE.mono (s : ak G G')(h : bE K G vs ds):bE K G' vs ds := Paired.imp' (λ_ _ => Rep.mono s) h
noncomputable def D.sc : D -> Bool
  | .tup _ => false
  | .lst _ => false
  | .scr _ => false
  | .dct _ => false
  | .sen _ => false
  | .ext _ => false
  | _ => true
theorem Rep.sc (h : Rep K G v d)(e : d.sc = true):Rep K G' v d := by
  cases h with
  | non => exact .non
  | bl b => exact .bl b
  | int i => exact .int i
  | str x => exact .str x
  | tup h l r => cases e
  | lst h l r => cases e
  | scr h => cases e
  | dct h => cases e
  | sen h => cases e
  | ext h => cases e
end
inductive Ct where
  | tup | lst
  | obj (C : Addr) (g n : Int)
  | wk (g : Int)
  | fnd (x : Str) (p : Int)
inductive B where
  | p (d : D) | o (d : D) | n (t : Ct) (ds : List D)
noncomputable def Ct.own : Ct -> Bool
  | .lst => true
  | .obj _ _ _ => true
  | _ => false
noncomputable def Cb (C : Addr)(g n : Int)(hs : List (Int × Int × Int × Int)):D -> D
  | .ext (.dki cs) => .ext (.obj C g hs cs n)
  | _ => .ext .any
noncomputable def zS (C : Addr)(g n : Int)(b : D):D -> D
  | .ext (.dki hs) => Cb C g n hs b
  | _ => .ext .any
noncomputable def DQ (C : Addr)(g n : Int):List D -> D
  | [a, b] => zS C g n b a
  | _ => .ext .any
noncomputable def EF (g : Int):List D -> D
  | [x, y] => .tup [.int g, x, y]
  | _ => .ext .any
noncomputable def Dw (x : Str)(p : Int):List D -> D
  | [a, b, c] => .tup [.str x, .tup [a, b], .int p, c]
  | _ => .ext .any
noncomputable def Ct.val : Ct -> List D -> D
  | .tup => .tup
  | .lst => .lst
  | .obj C g n => DQ C g n
  | .wk g => EF g
  | .fnd x p => Dw x p
noncomputable def Ct.at (t : Ct)(H : Hp)(a : Addr)(as : List Addr):Prop := match t with
  | .tup => H a = some (.tup (as.map V.ref))
  | .lst => H a = some (.lst (as.map V.ref))
  | .obj C g n => ∃ dx b c, as = [b, c] /\ H a = some (.ins C dx (eB g b c n))
  | .wk g => ∃ b c, as = [b, c] /\ H a = some (.tup [.int g, .ref b, .ref c])
  | .fnd x p => ∃ b c e t, as = [b, c, e] /\ H a = some (.tup [.str x, .ref t, .int p, .ref e]) /\ H t = some (.tup [.ref b, .ref c])
theorem Ct.oo {t : Ct}{H H' : Hp}{a : Addr}{as : List Addr}(s : ak H H')(h : t.at H a as):t.at H' a as := by
  cases t with
  | tup => exact s _ _ h
  | lst => exact s _ _ h
  | obj C g n => obtain ⟨dx, b, c, e, h⟩ := h;exact ⟨dx, b, c, e, s _ _ h⟩
  | wk g => obtain ⟨b, c, e, h⟩ := h;exact ⟨b, c, e, s _ _ h⟩
  | fnd x p => obtain ⟨b, c, e, t, h1, h2, h3⟩ := h;exact ⟨b, c, e, t, h1, s _ _ h2, s _ _ h3⟩
theorem Ct.lI {t : Ct}{H H' : Hp}{a : Addr}{as : List Addr}(o : t.own = true)(s : ∀ o, H a = some o -> H' a = some o)(h : t.at H a as):t.at H' a as := by
  cases t with
  | tup => cases o
  | lst => exact s _ h
  | obj C g n => obtain ⟨dx, b, c, e, h⟩ := h;exact ⟨dx, b, c, e, s _ h⟩
  | wk g => cases o
  | fnd x p => cases o
theorem Ct.Ah {t : Ct}{H : Hp}{a : Addr}{as : List Addr}(o : t.own = true)(h : t.at H a as):∃ o, H a = some o /\ ∀ xs, o ≠ .tup xs := by
  cases t with
  | tup => cases o
  | lst => exact ⟨_, h, λ_ z => nomatch z⟩
  | obj C g n => obtain ⟨dx, b, c, e, h⟩ := h;exact ⟨_, h, λ_ z => nomatch z⟩
  | wk g => cases o
  | fnd x p => cases o
set_option tactic.hygienic true in
theorem Ct.rep {K : Frag}{t : Ct}{G : Hp}{a : Addr}{as : List Addr}{ds : List D}(h : t.at G a as)(r : bE K G (as.map V.ref) ds):Rep K G (.ref a) (t.val ds) := by
  cases t with
  | tup => exact Rep.kX h r
  | lst => exact Rep.yM h r
  | obj C g n =>
    obtain ⟨dx, b, c, rfl, h⟩ := h;cases r with
    | cons r1 r => cases r with
      | cons r2 r =>
        cases r;rename_i d1 d2;show Rep K G (.ref a) (zS C g n d2 d1);cases r1 with
        | @ext _ e1 r1 => cases e1 with
          | dki hs => cases r2 with
            | @ext _ e2 r2 => cases e2 with
              | dki cs => exact .ext ⟨dx, b, c, h, r1, r2⟩
              | _ => exact .ext trivial
            | _ => exact .ext trivial
          | _ => exact .ext trivial
        | _ => exact .ext trivial
  | wk g =>
    obtain ⟨b, c, rfl, h⟩ := h;cases r with
    | cons r1 r => cases r with
      | cons r2 r => cases r;exact Rep.kX h (.cons (.int _) (.cons r1 (.cons r2 .nil)))
  | fnd x p =>
    obtain ⟨b, c, e, t, rfl, h, h'⟩ := h;cases r with
    | cons r1 r => cases r with
      | cons r2 r => cases r with
        | cons r3 r => cases r;exact Rep.kX h (.cons (.str _) (.cons (Rep.kX h' (.cons r1 (.cons r2 .nil))) (.cons (.int _) (.cons r3 .nil))))
noncomputable def B.val : B -> D
  | .p d => d
  | .o d => d
  | .n t ds => t.val ds
noncomputable def Ct.On (t : Ct)(F : Prop)(G H : Hp)(a : Addr)(as : List Addr):Prop := match t.own with
  | true => F /\ G a = none /\ a ∉ as /\ t.at H a as
  | false => t.at G a as
theorem Ct.On.imp {t : Ct}{F F' : Prop}{G H G' H' : Hp}{a : Addr}{as : List Addr}(h : t.On F G H a as)(s : ak G G')(k : F -> G a = none -> (∃ o, H a = some o /\ ∀ xs, o ≠ .tup xs) -> F' /\ G' a = none /\ ∀ o, H a = some o -> H' a = some o):t.On F' G' H' a as := by
  unfold Ct.On at h ⊢;cases e : t.own with
  | true =>
    rw [e] at h;obtain ⟨f, g, n, q⟩ := h;obtain ⟨k1, k2, k3⟩ := k f g (Ct.Ah e q);exact ⟨k1, k2, n, Ct.lI e k3 q⟩
  | false =>
    rw [e] at h;exact Ct.oo s h
noncomputable abbrev aD := List (Option B)
noncomputable def aY : aD -> Nat -> Option B
  | [], _ => none
  | b :: _, 0 => b
  | _ :: r, n + 1 => aY r n
noncomputable def dput : aD -> Nat -> B -> aD
  | [], _, _ => []
  | _ :: r, 0, b => some b :: r
  | c :: r, n + 1, b => c :: dput r n b
noncomputable def gw : Option B -> Option B
  | none => none
  | some b => some (.p b.val)
noncomputable def bR : aD -> aD
  | [] => []
  | c :: r => gw c :: bR r
theorem iu (b : B):∀ (ρ : aD) (i : Nat), (dput ρ i b).length = ρ.length
  | [], _ => rfl
  | _ :: _, 0 => rfl
  | _ :: r, n + 1 => by show (dput r n b).length + 1 = r.length + 1;rw [iu b r n]
theorem tP : ∀ (ρ : aD), (bR ρ).length = ρ.length
  | [] => rfl
  | _ :: r => by show (bR r).length + 1 = _;rw [tP r];rfl
theorem cx {b : B}:∀ {ρ : aD} {i j : Nat} {c : B}, aY (dput ρ i b) j = some c -> (i = j /\ j < ρ.length /\ c = b) \/ (i ≠ j /\ aY ρ j = some c)
  | [], _, _, _, h => by cases h
  | _ :: _, 0, 0, _, h => .inl ⟨rfl, Nat.succ_pos _, (Option.some.inj h).symm⟩
  | _ :: _, 0, j + 1, _, h => .inr ⟨Nat.succ_ne_zero j |>.symm, h⟩
  | _ :: _, i + 1, 0, _, h => .inr ⟨Nat.succ_ne_zero i, h⟩
  | _ :: r, i + 1, j + 1, _, h => by
    rcases cx (ρ := r) (i := i) (j := j) h with ⟨h1, h2, h3⟩ | ⟨h1, h2⟩
    · exact .inl ⟨by rw [h1], Nat.succ_lt_succ h2, h3⟩
    · exact .inr ⟨λe => h1 (Nat.succ.inj e), h2⟩
theorem lS : ∀ {ρ : aD} {i : Nat} {c : B}, aY (bR ρ) i = some c -> ∃ b, aY ρ i = some b /\ c = .p b.val
  | [], _, _, h => by cases h
  | none :: _, 0, _, h => by cases h
  | some b :: _, 0, _, h => ⟨b, rfl, (Option.some.inj h).symm⟩
  | _ :: r, i + 1, _, h => lS (ρ := r) h
noncomputable def dN (K : Frag)(G H : Hp)(a : Addr)(d : D):Prop := G a = none /\ match d with
  | .lst ds => ∃ vs, H a = some (.lst vs) /\ bE K G vs ds
  | .dct kvs => H a = some (.dT (encD kvs))
  | .sen ks => H a = some (.dT (BU ks))
  | .ext x => fx G H a x
  | _ => False
noncomputable def Ac (H : Hp)(a : Addr):Prop := ∃ o, H a = some o /\ ∀ xs, o ≠ .tup xs
theorem Ac.there {H : Hp}{a : Addr}(h : Ac H a):H a ≠ none := by obtain ⟨o, e, _⟩ := h;rw [e];simp
structure Wd (H0 G0 H G : Hp):Prop where
  hh : ak H0 H
  gg : ak G0 G
  gh : ak G H
  old : ∀ a, Ac H0 a -> G a = G0 a
theorem Wd.refl {H G : Hp}(s : ak G H):Wd H G H G := ⟨ak.refl _, ak.refl _, s, λ_ _ => rfl⟩
theorem Wd.trans {H0 G0 H1 G1 H2 G2 : Hp}(a : Wd H0 G0 H1 G1)(b : Wd H1 G1 H2 G2):Wd H0 G0 H2 G2 :=
  ⟨a.hh.trans b.hh, a.gg.trans b.gg, b.gh, λx h => by
    have h1 : Ac H1 x := by obtain ⟨o, e, n⟩ := h;exact ⟨o, a.hh _ _ e, n⟩
    rw [b.old x h1, a.old x h]⟩
theorem Wd.new {H0 G0 H G : Hp}{p : Addr}{o : HO}(w : Wd H0 G0 H G)(h : H p = none):Wd H0 G0 (upd H p o) (upd G p o) :=
  ⟨w.hh.upd (w.hh.free h), w.gg.upd (w.gg.free (w.gh.free h)), λb u e => by
    by_cases z : b = p
    · subst z;rw [ah] at e ⊢;exact e
    · rw [af z] at e ⊢;exact w.gh b u e, λa ha => by
    have z : a ≠ p := λe => ha.there (e ▸ w.hh.free h);rw [af z, w.old a ha]⟩
theorem Wd.own {H0 G0 H G : Hp}{p : Addr}{o : HO}(w : Wd H0 G0 H G)(h0 : H0 p = none)(h : G p = none):Wd H0 G0 (upd H p o) G :=
  ⟨w.hh.upd h0, w.gg, w.gh.upd h, w.old⟩
theorem dN.rep {K : Frag}{G H G2 : Hp}{a : Addr}{d : D}(h : dN K G H a d)(s : ak G G2)(e : ∀ o, H a = some o -> G2 a = some o):Rep K G2 (.ref a) d := by
  obtain ⟨g, k⟩ := h;cases d with
  | lst ds =>
    obtain ⟨vs, e', r⟩ := k;exact Rep.yM (e _ e') (bE.mono s r)
  | dct kvs => exact .dct (.inl (e _ k))
  | sen kvs => exact .sen (.inl (e _ k))
  | ext x => exact .ext (fx.at k s e)
  | non => exact k.elim
  | bl _ => exact k.elim
  | int _ => exact k.elim
  | str _ => exact k.elim
  | tup _ => exact k.elim
  | scr _ => exact k.elim
noncomputable def fO (K : Frag)(H G' H' : Hp)(v : V):B -> Prop
  | .p d => Rep K G' v d
  | .o d => ∃ a, v = .ref a /\ H a = none /\ dN K G' H' a d
  | .n t ds => ∃ a as, v = .ref a /\ as.Nodup /\ Paired (λx d => H x = none /\ dN K G' H' x d) as ds /\ t.On (H a = none) G' H' a as
theorem fO.ahead {K : Frag}{H0 H G' H' : Hp}{v : V}{b : B}(s : ak H0 H)(h : fO K H G' H' v b):fO K H0 G' H' v b := by
  cases b with
  | p d => exact h
  | o d => obtain ⟨a, e, n, o⟩ := h;exact ⟨a, e, s.free n, o⟩
  | n t ds =>
    obtain ⟨a, as, e, nd, pr, q⟩ := h;exact ⟨a, as, e, nd, Paired.imp' (λ_ _ z => ⟨s.free z.1, z.2⟩) pr, q.imp (ak.refl _) λf g _ => ⟨s.free f, g, λ_ z => z⟩⟩
theorem Wd.all {H G H' G' : Hp}(w : Wd H G H' G'):∃ G2, Wd H G H' G2 /\ ak G' G2 /\ ∀ a, H a = none -> G' a = none -> G2 a = H' a := by
  classical
  have sG : ak G' (λa => if H a = none /\ G' a = none then H' a else G' a) := λa o h => by
    show (if _ then H' a else G' a) = _;rw [if_neg λq => by rw [q.2] at h;cases h];exact h
  refine ⟨λa => if H a = none /\ G' a = none then H' a else G' a, ⟨w.hh, w.gg.trans sG, λa o h => ?_, λa h => ?_⟩, sG, λa h1 h2 => if_pos ⟨h1, h2⟩⟩
  · have h' : (if H a = none /\ G' a = none then H' a else G' a) = some o := h;split at h'
    · exact h'
    · exact w.gh _ _ h'
  · show (if H a = none /\ G' a = none then H' a else G' a) = _;rw [if_neg λq => h.there q.1];exact w.old a h
theorem fO.give {K : Frag}{H G H' G' : Hp}{v : V}{b : B}(w : Wd H G H' G')(h : fO K H G' H' v b):∃ G2, Wd H G H' G2 /\ Rep K G2 v b.val := by
  cases b with
  | p d => exact ⟨G', w, h⟩
  | n t ds =>
    obtain ⟨a, as, rfl, nd, pr, q⟩ := h;obtain ⟨G2, w2, s2, k2⟩ := w.all;have qa : t.at G2 a as := by
      unfold Ct.On at q;cases e : t.own with
      | true =>
        rw [e] at q;exact Ct.lI e (λo z => by rw [k2 _ q.1 q.2.1];exact z) q.2.2.2
      | false =>
        rw [e] at q;exact Ct.oo s2 q
    refine ⟨G2, w2, Ct.rep qa ?_⟩;clear q nd qa;induction pr with
    | nil => exact .nil
    | cons f _ ih => exact .cons (f.2.rep s2 λo z => by rw [k2 _ f.1 f.2.1];exact z) ih
  | o d =>
    obtain ⟨a, rfl, n, k⟩ := h;obtain ⟨G2, w2, s2, k2⟩ := w.all;exact ⟨G2, w2, k.rep s2 λo z => by rw [k2 _ n k.1];exact z⟩
noncomputable abbrev DT := aD -> (B -> Prop) -> Prop
noncomputable abbrev gJ := aD -> (Bool -> Prop) -> Prop
noncomputable abbrev eI := aD -> (List D -> Prop) -> Prop
noncomputable def cW (K : Frag)(G : Hp)(σ : St)(ρ : aD):Prop := ∀ i d, aY ρ i = some (.p d) -> ∃ v, σ[i]? = some (some v) /\ Rep K G v d
theorem cW.mono {K : Frag}{G G' : Hp}{σ : St}{ρ : aD}(s : ak G G')(h : cW K G σ ρ):cW K G' σ ρ := λi d e => by
  obtain ⟨v, h1, h2⟩ := h i d e;exact ⟨v, h1, h2.mono s⟩
noncomputable def cE (K : Frag)(t : DT):TE := λσ H Q => ∃ (G : Hp) (ρ : aD) (P : B -> Prop), ak G H /\ cW K G σ ρ /\ t ρ P /\ ∀ b v H' G', P b -> Wd H G H' G' -> fO K H G' H' v b -> Q v H'
noncomputable def cT (K : Frag)(t : gJ):TT := λσ H Q => ∃ (G : Hp) (ρ : aD) (P : Bool -> Prop), ak G H /\ cW K G σ ρ /\ t ρ P /\ ∀ b H' G', P b -> Wd H G H' G' -> Q b H'
noncomputable def cA (K : Frag)(n : Nat)(t : eI):TA := λσ H Q => ∃ (G : Hp) (ρ : aD) (P : List D -> Prop), ak G H /\ cW K G σ ρ /\ t ρ P /\ ∀ ds vs H' G', P ds -> ds.length = n -> Wd H G H' G' -> bE K G' vs ds -> Q vs H'
structure DE (X : Cx)(e : Expr)(t : DT):Prop where
  pe : PE X e (cE X.K t)
structure pZ (X : Cx)(e : Expr)(t : gJ):Prop where
  pt : PT X e (cT X.K t)
structure DW (X : Cx)(e : Expr)(t : gJ):Prop where
  pw : PW X e (cT X.K t)
structure DA (X : Cx)(es : List Expr)(t : eI):Prop where
  pa : PA X es (cA X.K es.length t)
theorem PE.imp {X : Cx}{e : Expr}{t t' : TE}(h : PE X e t)(i : ∀ σ H Q, t' σ H Q -> t σ H Q):PE X e t' := λpins s σ H Q I q => h pins s σ H Q I (i σ H Q q)
theorem PT.imp {X : Cx}{e : Expr}{t t' : TT}(h : PT X e t)(i : ∀ σ H Q, t' σ H Q -> t σ H Q):PT X e t' := λpins s σ H Q I q => h pins s σ H Q I (i σ H Q q)
theorem PW.imp {X : Cx}{e : Expr}{t t' : TT}(h : PW X e t)(i : ∀ σ H Q, t' σ H Q -> t σ H Q):PW X e t' := λwh pins s σ H Q I q => h wh pins s σ H Q I (i σ H Q q)
theorem PA.imp {X : Cx}{es : List Expr}{t t' : TA}(h : PA X es t)(i : ∀ σ H Q, t' σ H Q -> t σ H Q):PA X es t' := λpos pins s σ H Q I q => h pos pins s σ H Q I (i σ H Q q)
theorem PS.imp {X : Cx}{st : Stmt}{t t' : TS}(h : PS X st t)(i : ∀ D σ H, t' D σ H -> t D σ H):PS X st t' := λpins s σ H D I q => h pins s σ H D I (i D σ H q)
theorem lF.imp {X : Cx}{st : List Stmt}{t t' : TS}(h : lF X st t)(i : ∀ D σ H, t' D σ H -> t D σ H):lF X st t' := λpins s σ H D I q => h pins s σ H D I (i D σ H q)
theorem DE.of {X : Cx}{e : Expr}{t : TE}{t' : DT}(h : PE X e t)(i : ∀ σ H Q, cE X.K t' σ H Q -> t σ H Q):DE X e t' := ⟨PE.imp h i⟩
theorem pZ.of {X : Cx}{e : Expr}{t : TT}{t' : gJ}(h : PT X e t)(i : ∀ σ H Q, cT X.K t' σ H Q -> t σ H Q):pZ X e t' := ⟨PT.imp h i⟩
theorem DW.of {X : Cx}{e : Expr}{t : TT}{t' : gJ}(h : PW X e t)(i : ∀ σ H Q, cT X.K t' σ H Q -> t σ H Q):DW X e t' := ⟨PW.imp h i⟩
theorem DA.of {X : Cx}{es : List Expr}{t : TA}{t' : eI}(h : PA X es t)(i : ∀ σ H Q, cA X.K es.length t' σ H Q -> t σ H Q):DA X es t' := ⟨PA.imp h i⟩
section
variable {X : Cx} {a b e : Expr} {ta tb te : DT} {pos : Pos}
noncomputable def bo (i : Nat):DT := λρ Q => match aY ρ i with
  | some (.p d) => Q (.p d)
  | _ => False
set_option tactic.hygienic true in
theorem dv (i : Nat){x : Str}(hN :autoParam (X.N[i]? = some x) aZa._auto_1)(hv :autoParam (Ag X.env.scope x) aZf._auto_1)(hd :autoParam ((x == ("__debug__" : Str)) = false) aZb._auto_1)
    (hcd :autoParam ((x == ("__classdict__" : Str)) = false) aZb._auto_1):DE X (.Name x pos) (bo i) :=
  DE.of (mv hN hv hd hcd)<|by
    rintro σ H Q ⟨G, ρ, P, s, r, h, k⟩;unfold bo at h;split at h
    · rename_i d e;obtain ⟨v, h1, h2⟩ := r _ _ e;exact ⟨v, h1, k _ v H G h (Wd.refl s) h2⟩
    · exact h.elim
noncomputable def dC (d : D):DT := λ_ Q => Q (.p d)
noncomputable def Ab (K : Frag)(v : V)(d : D):Prop := ∀ G, Rep K G v d
theorem vW {v : V}{d : D}(h : PE X e (tC v))(r : Ab X.K v d):DE X e (dC d) :=
  DE.of h (by rintro σ H Q ⟨G, ρ, P, s, _, h, k⟩;exact k _ v H G h (Wd.refl s) (r G))
theorem ag {i : Int}{j}:DE X (.Constant (.int i) j pos) (dC (.int i)) := vW cf λ_ => .int i
theorem qx {b : Bool}{j}:DE X (.Constant (.bool b) j pos) (dC (.bl b)) := vW nY λ_ => .bl b
theorem vX {j}:DE X (.Constant .none j pos) (dC .non) := vW A2 λ_ => .non
theorem oE {x : Str}{j}:DE X (.Constant (.str x) j pos) (dC (.str x)) := vW ki λ_ => .str x
theorem nR {K : Frag}{H G H1 G1 : Hp}{P : B -> Prop}{Q : VK}(k : ∀ b v H' G', P b -> Wd H G H' G' -> fO K H G' H' v b -> Q v H')(w : Wd H G H1 G1):∀ b v H' G', P b -> Wd H1 G1 H' G' -> fO K H1 G' H' v b -> Q v H' :=
  λb v H' G' p w' r => k b v H' G' p (w.trans w') (r.ahead w.hh)
noncomputable abbrev D2 := D -> D -> (B -> Prop) -> Prop
noncomputable def m9 (X : Cx)(f : Value -> Value -> Sem Value)(r : D2):Prop := ∃ rv : R2, i9 X f rv /\
  ∀ (H G : Hp) (x y : V) (dx dy : D) (P : B -> Prop) (Q : VK), ak G H -> Rep X.K G x dx -> Rep X.K G y dy -> r dx dy P -> (∀ b v H' G', P b -> Wd H G H' G' -> fO X.K H G' H' v b -> Q v H') -> rv x y H Q
noncomputable def h8 (r : D2)(ta tb : DT):DT := λρ Q => ta ρ λx => tb ρ λy => r x.val y.val Q
theorem oq {K : Frag}{ta tb : DT}{r : D2}{rv : R2}(hr : ∀ (H G : Hp) (x y : V) (dx dy : D) (P : B -> Prop) (Q : VK), ak G H -> Rep K G x dx -> Rep K G y dy -> r dx dy P -> (∀ b v H' G', P b -> Wd H G H' G' -> fO K H G' H' v b -> Q v H') -> rv x y H Q)
    (σ : St) (H : Hp) (Q : VK):cE K (h8 r ta tb) σ H Q -> CT rv (cE K ta) (cE K tb) σ H Q := by
  rintro ⟨G, ρ, P, s, re, h, k⟩;refine ⟨G, ρ, _, s, re, h, λb v H1 G1 p1 w1 r1 => ?_⟩;obtain ⟨G1', w1', r1'⟩ := r1.give w1;refine ⟨G1', ρ, _, w1'.gh, re.mono w1'.gg, p1, λb2 v2 H2 G2 p2 w2 r2 => ?_⟩;obtain ⟨G2', w2', r2'⟩ := r2.give w2;exact hr H2 G2' v v2 b.val b2.val P Q w2'.gh (r1'.mono w2'.gg) r2' p2 (nR k (w1'.trans w2'))
theorem aJ {op : Operator}{r : D2}(ho : m9 X (binaryOp op) r)(ha : DE X a ta)(hb : DE X b tb):DE X (.BinOp a op b pos) (h8 r ta tb) := by
  obtain ⟨rv, h1, h2⟩ := ho;exact DE.of (zV h1 ha.pe hb.pe) (oq h2)
theorem oB {op : CmpOp}{r : D2}(ho : m9 X (compareOp op) r)(ha : DE X a ta)(hb : DE X b tb)(hm : behindInMarks op b = false):DE X (.Compare a [op] [b] pos) (h8 r ta tb) := by
  obtain ⟨rv, h1, h2⟩ := ho;exact DE.of (yZ h1 ha.pe hb.pe hm) (oq h2)
noncomputable def dI (g : Int -> Int -> D):D2 := λx y Q => match x, y with
  | .int i, .int j => Q (.p (g i j))
  | _, _ => False
noncomputable def lj (C : Int -> Int -> Prop)(g : Int -> Int -> D):D2 := λx y Q => match x, y with
  | .int i, .int j => C i j /\ Q (.p (g i j))
  | _, _ => False
theorem q0 {f : Value -> Value -> Sem Value}{g : Int -> Int -> D}{gv : Int -> Int -> V}(h : i9 X f (zj gv))(hg : ∀ i j, Ab X.K (gv i j) (g i j)):m9 X f (dI g) := by
  refine ⟨_, h, λH G x y dx dy P Q s rx ry hr k => ?_⟩;unfold dI at hr;split at hr
  · cases rx;cases ry;exact ⟨_, _, rfl, rfl, k _ _ H G hr (Wd.refl s) (hg _ _ _)⟩
  · exact hr.elim
theorem sy {f : Value -> Value -> Sem Value}{C : Int -> Int -> Prop}{g : Int -> Int -> D}{gv : Int -> Int -> V}(h : i9 X f (rI C gv))(hg : ∀ i j, Ab X.K (gv i j) (g i j)):m9 X f (lj C g) := by
  refine ⟨_, h, λH G x y dx dy P Q s rx ry hr k => ?_⟩;unfold lj at hr;split at hr
  · cases rx;cases ry;exact ⟨_, _, rfl, rfl, hr.1, k _ _ H G hr.2 (Wd.refl s) (hg _ _ _)⟩
  · exact hr.elim
theorem ke : m9 X (binaryOp .Sub) (dI λi j => .int (i - j)) := q0 AZ λ_ _ _ => .int _
theorem yP : m9 X (binaryOp .FloorDiv) (lj BB λi j => .int (i / j)) := sy yW λ_ _ _ => .int _
theorem bH : m9 X (binaryOp .Mod) (lj (λ_ j => 0 < j) λi j => .int (i % j)) := sy AU λ_ _ _ => .int _
theorem o5 : m9 X (binaryOp .Pow) (lj Aa λi j => .int (i ^ j.toNat)) := sy AX λ_ _ _ => .int _
theorem wU : m9 X (compareOp .Lt) (dI λi j => .bl (decide (i < j))) := q0 zU λ_ _ _ => .bl _
theorem Cd : m9 X (compareOp .LtE) (dI λi j => .bl (decide (i <= j))) := q0 Ci λ_ _ _ => .bl _
theorem Cc : m9 X (compareOp .Gt) (dI λi j => .bl (decide (j < i))) := q0 Cg λ_ _ _ => .bl _
theorem zT : m9 X (compareOp .GtE) (dI λi j => .bl (decide (j <= i))) := q0 Cf λ_ _ _ => .bl _
noncomputable def fF : D2 := λx y Q => match x, y with
  | .int i, .int j => Q (.p (.bl (decide (i = j))))
  | .str i, .str j => Q (.p (.bl (decide (i = j))))
  | .bl i, .bl j => Q (.p (.bl (decide (i = j))))
  | _, _ => False
noncomputable def e7 : D2 := λx y Q => match x, y with
  | .int i, .int j => Q (.p (.bl (!decide (i = j))))
  | .str i, .str j => Q (.p (.bl (!decide (i = j))))
  | .bl i, .bl j => Q (.p (.bl (!decide (i = j))))
  | _, _ => False
theorem uK {α : Type}[DecidableEq α]{f : α -> V}(hf : ∀ a b, f a = f b -> a = b)(i j : α):decide (f i = f j) = decide (i = j) := by
  by_cases h : i = j
  · rw [h, decide_eq_true rfl, decide_eq_true rfl]
  · rw [decide_eq_false h, decide_eq_false λe => h (hf _ _ e)]
theorem kI : m9 X (compareOp .Eq) fF := by
  refine ⟨_, jd, λH G x y dx dy P Q s rx ry hr k => ?_⟩;unfold fF at hr;split at hr
  · cases rx;cases ry;exact ⟨rfl, by rw [uK (λ_ _ e => V.int.inj e)];exact k _ _ H G hr (Wd.refl s) (.bl _)⟩
  · cases rx;cases ry;exact ⟨rfl, by rw [uK (λ_ _ e => V.str.inj e)];exact k _ _ H G hr (Wd.refl s) (.bl _)⟩
  · cases rx;cases ry;exact ⟨rfl, by rw [uK (λ_ _ e => V.bl.inj e)];exact k _ _ H G hr (Wd.refl s) (.bl _)⟩
  · exact hr.elim
theorem wV : m9 X (compareOp .NotEq) e7 := by
  refine ⟨_, Cj, λH G x y dx dy P Q s rx ry hr k => ?_⟩;unfold e7 at hr;split at hr
  · cases rx;cases ry;exact ⟨rfl, by rw [uK (λ_ _ e => V.int.inj e)];exact k _ _ H G hr (Wd.refl s) (.bl _)⟩
  · cases rx;cases ry;exact ⟨rfl, by rw [uK (λ_ _ e => V.str.inj e)];exact k _ _ H G hr (Wd.refl s) (.bl _)⟩
  · cases rx;cases ry;exact ⟨rfl, by rw [uK (λ_ _ e => V.bl.inj e)];exact k _ _ H G hr (Wd.refl s) (.bl _)⟩
  · exact hr.elim
noncomputable def gN : D2 := λx y Q => match y with
  | .non => Q (.p (.bl (match x with | .non => true | _ => false)))
  | _ => False
noncomputable def dX : D2 := λx y Q => match y with
  | .non => Q (.p (.bl (match x with | .non => false | _ => true)))
  | _ => False
theorem yQ : m9 X (compareOp .IsNot) dX := by
  refine ⟨_, yX, λH G x y dx dy P Q s rx ry hr k => ?_⟩;unfold dX at hr;split at hr
  · cases ry;refine ⟨rfl, k _ _ H G hr (Wd.refl s) ?_⟩;cases rx <;> exact .bl _
  · exact hr.elim
noncomputable def nH (r : D -> (B -> Prop) -> Prop)(ta : DT):DT := λρ Q => ta ρ λx => r x.val Q
noncomputable def fU : D -> (B -> Prop) -> Prop := λx Q => match x with
  | .int i => Q (.p (.int (-i)))
  | _ => False
set_option tactic.hygienic true in
theorem Aw (ha : DE X a ta):DE X (.UnaryOp .USub a pos) (nH fU ta) :=
  DE.of (Cn Br ha.pe)<|by
    rintro σ H Q ⟨G, ρ, P, s, re, h, k⟩;refine ⟨G, ρ, _, s, re, h, λb v H1 G1 p1 w1 r1 => ?_⟩;obtain ⟨G1', w1', r1'⟩ := r1.give w1;unfold fU at p1;split at p1
    · rename_i i e;rw [e] at r1';cases r1';exact ⟨_, rfl, k _ _ H1 G1' p1 w1' (.int _)⟩
    · exact p1.elim
noncomputable def d8 (ta : DT):DT := λρ Q => ta ρ λx => match x.val with
  | .bl c => Q (.p (.bl (!c)))
  | _ => False
theorem kY {K : Frag}{H G H' G' : Hp}{v : V}{b : B}{c : Bool}(w : Wd H G H' G')(r : fO K H G' H' v b)(e : b.val = .bl c):v = .bl c := by
  obtain ⟨G1, _, r1⟩ := r.give w;rw [e] at r1;exact r1.vG
set_option tactic.hygienic true in
theorem Ax (ha : DE X a ta):DE X (.UnaryOp .Not a pos) (d8 ta) :=
  DE.of (xi ha.pe)<|by
    rintro σ H Q ⟨G, ρ, P, s, re, h, k⟩;refine ⟨G, ρ, _, s, re, h, λb v H1 G1 p1 w1 r1 => ?_⟩;split at p1
    · rename_i c e;exact ⟨c, kY w1 r1 e, k _ _ H1 G1 p1 w1 (.bl _)⟩
    · exact p1.elim
noncomputable def d5 (ta tb : DT):DT := λρ Q => ta ρ λx => match x.val with
  | .bl c => (c = true -> tb ρ Q) /\ (c = false -> Q (.p (.bl false)))
  | _ => False
noncomputable def iq (ta tb : DT):DT := λρ Q => ta ρ λx => match x.val with
  | .bl c => (c = true -> Q (.p (.bl true))) /\ (c = false -> tb ρ Q)
  | _ => False
theorem vY {op}{t : DT}(h : DE X a t):DE X (.BoolOp op [a] pos) t := ⟨A3 h.pe⟩
set_option tactic.hygienic true in
theorem vV {rest : List Expr}(ha : DE X a ta)(hb : DE X (.BoolOp .And (b :: rest) pos) tb):DE X (.BoolOp .And (a :: b :: rest) pos) (d5 ta tb) :=
  DE.of (A0 ha.pe hb.pe)<|by
    rintro σ H Q ⟨G, ρ, P, s, re, h, k⟩;refine ⟨G, ρ, _, s, re, h, λb v H1 G1 p1 w1 r1 => ?_⟩;split at p1
    · rename_i c e;refine ⟨c, kY w1 r1 e, ?_⟩;cases c with
      | true => exact oW ⟨G1, ρ, P, w1.gh, re.mono w1.gg, p1.1 rfl, nR k w1⟩
      | false => exact kS (k _ _ H1 G1 (p1.2 rfl) w1 (.bl _))
    · exact p1.elim
noncomputable def eL (t : DT):gJ := λρ P => t ρ λx => match x.val with
  | .bl c => P c
  | _ => False
set_option tactic.hygienic true in
theorem cc {op : CmpOp}{r : D2}(ho : m9 X (compareOp op) r)(ha : DE X a ta)(hb : DE X b tb)(hm : behindInMarks op b = false):pZ X (.Compare a [op] [b] pos) (eL (h8 r ta tb)) := by
  obtain ⟨rv, h1, h2⟩ := ho;refine pZ.of (eF h1 ha.pe hb.pe hm) ?_;rintro σ H Q ⟨G, ρ, P, s, re, h, k⟩;refine oq h2 σ H _ ⟨G, ρ, _, s, re, h, λb v H1 G1 p1 w1 r1 => ?_⟩;split at p1
  · rename_i c e;exact ⟨c, kY w1 r1 e, k _ H1 G1 p1 w1⟩
  · exact p1.elim
set_option tactic.hygienic true in
theorem oK (ha : DE X a ta)(he :autoParam (∀ whole, isTrue a X.env whole = (do let v <- whole;standAt a.pos;holding [v] (truthy v))) aZc._auto_1):pZ X a (eL ta) :=
  pZ.of (pz ha.pe he)<|by
    rintro σ H Q ⟨G, ρ, P, s, re, h, k⟩;refine ⟨G, ρ, _, s, re, h, λb v H1 G1 p1 w1 r1 => ?_⟩;split at p1
    · rename_i c e;exact ⟨c, kY w1 r1 e, k _ H1 G1 p1 w1⟩
    · exact p1.elim
noncomputable def gm (t : gJ):gJ := λρ P => t ρ λc => P (!c)
theorem oJ {t : gJ}(ha : pZ X a t):pZ X (.UnaryOp .Not a pos) (gm t) :=
  pZ.of (pq ha.pt) (by rintro σ H Q ⟨G, ρ, P, s, re, h, k⟩;exact ⟨G, ρ, _, s, re, h, λb H1 G1 p1 w1 => k _ H1 G1 p1 w1⟩)
noncomputable def fR (t u : gJ):gJ := λρ P => t ρ λc => (c = true -> u ρ P) /\ (c = false -> P false)
noncomputable def mR (t u : gJ):gJ := λρ P => t ρ λc => (c = true -> P true) /\ (c = false -> u ρ P)
theorem wD {K : Frag}{H G H1 G1 : Hp}{P : Bool -> Prop}{Q : Bool -> Hp -> Prop}(k : ∀ b H' G', P b -> Wd H G H' G' -> Q b H')(w : Wd H G H1 G1):∀ b H' G', P b -> Wd H1 G1 H' G' -> Q b H' :=
  λb H' G' p w' => k b H' G' p (w.trans w')
theorem Al {K : Frag}{t u : gJ}(σ : St)(H : Hp)(Q : Bool -> Hp -> Prop):cT K (fR t u) σ H Q -> CI (cT K t) (cT K u) σ H Q := by
  rintro ⟨G, ρ, P, s, re, h, k⟩;refine ⟨G, ρ, _, s, re, h, λc H1 G1 p1 w1 => ?_⟩;cases c with
  | true => exact oW ⟨G1, ρ, P, w1.gh, re.mono w1.gg, p1.1 rfl, wD (K := K) k w1⟩
  | false => exact kS (k _ H1 G1 (p1.2 rfl) w1)
theorem BM {K : Frag}{t u : gJ}(σ : St)(H : Hp)(Q : Bool -> Hp -> Prop):cT K (mR t u) σ H Q -> Es (cT K t) (cT K u) σ H Q := by
  rintro ⟨G, ρ, P, s, re, h, k⟩;refine ⟨G, ρ, _, s, re, h, λc H1 G1 p1 w1 => ?_⟩;cases c with
  | true => exact oW (k _ H1 G1 (p1.1 rfl) w1)
  | false => exact kS ⟨G1, ρ, P, w1.gh, re.mono w1.gg, p1.2 rfl, wD (K := K) k w1⟩
end
end DL
namespace DL
open PySem L2
section
variable {X : Cx} {a b c e : Expr} {ta tb tc te : DT} {pos : Pos} {es : List Expr}
noncomputable def ip (t : gJ)(ta tb : DT):DT := λρ Q => t ρ λc => (c = true -> ta ρ Q) /\ (c = false -> tb ρ Q)
noncomputable def cM (r r' : D2)(ta tb tc : DT):DT := λρ Q => ta ρ λx => tb ρ λy => r x.val y.val λz => match z.val with
  | .bl c => (c = true -> tc ρ λw => r' y.val w.val Q) /\ (c = false -> Q (.p (.bl false)))
  | _ => False
theorem oM {t : gJ}(ha : pZ X a t):DW X (.BoolOp .And [a] pos) t := ⟨uf ha.pt⟩
theorem wm {t : gJ}(ha : pZ X a t):DW X (.BoolOp .Or [a] pos) t := ⟨Ba ha.pt⟩
theorem rW {t u : gJ}{rest : List Expr}(ha : pZ X a t)(hb : DW X (.BoolOp .And (b :: rest) pos) u):DW X (.BoolOp .And (a :: b :: rest) pos) (fR t u) := DW.of (xB ha.pt hb.pw) Al
theorem tK {t u : gJ}{rest : List Expr}(ha : pZ X a t)(hb : DW X (.BoolOp .Or (b :: rest) pos) u):DW X (.BoolOp .Or (a :: b :: rest) pos) (mR t u) := DW.of (Cp ha.pt hb.pw) BM
theorem DW.dt {t : gJ}(h : DW X e t):pZ X e t := ⟨PW.pt h.pw⟩
noncomputable def eU : eI := λ_ P => P []
noncomputable def bu (te : DT)(t : eI):eI := λρ P => te ρ λb => t ρ λds => P (b.val :: ds)
theorem ai : DA X [] eU := DA.of aN λσ H Q ⟨G, ρ, P, s, re, h, k⟩ => k [] [] H G h rfl (Wd.refl s) .nil
theorem aa {t : eI}(ha : DE X e te)(hr : DA X es t)(hs :autoParam (starEach (e :: es) X.env = (false, eval e X.env) :: starEach es X.env) aZa._auto_1):DA X (e :: es) (bu te t) :=
  DA.of (aj ha.pe hr.pa hs)<|by
    rintro σ H Q ⟨G, ρ, P, s, re, h, k⟩;refine ⟨G, ρ, _, s, re, h, λb v H1 G1 p1 w1 r1 => ?_⟩;obtain ⟨G1', w1', r1'⟩ := r1.give w1;refine ⟨G1', ρ, _, w1'.gh, re.mono w1'.gg, p1, λds vs H2 G2 p2 l2 w2 r2 => ?_⟩;exact k _ _ H2 G2 p2 (by show ds.length + 1 = es.length + 1;rw [l2]) (w1'.trans w2) (.cons (r1'.mono w2.gg) r2)
noncomputable def fG (t : eI):DT := λρ Q => t ρ λds => Q (.p (.tup ds))
noncomputable def gj (t : eI):DT := λρ Q => t ρ λds => Q (.o (.lst ds))
theorem jQ {K : Frag}{H G H1 G1 : Hp}{vs : List V}{ds : List D}{p : Addr}(w : Wd H G H1 G1)(hp : H1 p = none)(r : bE K G1 vs ds):Wd H G (upd H1 p (.lst vs)) G1 /\ fO K H G1 (upd H1 p (.lst vs)) (.ref p) (.o (.lst ds)) :=
  ⟨w.own (w.hh.free hp) (w.gh.free hp), p, rfl, w.hh.free hp, w.gh.free hp, vs, ah, r⟩
theorem pK {K : Frag}{H G H1 G1 : Hp}{vs : List V}{ds : List D}{p : Addr}(w : Wd H G H1 G1)(hp : H1 p = none)(r : bE K G1 vs ds):Wd H G (upd H1 p (.tup vs)) (upd G1 p (.tup vs)) /\ fO K H (upd G1 p (.tup vs)) (upd H1 p (.tup vs)) (.ref p) (.p (.tup ds)) :=
  ⟨w.new hp, Rep.kX ah (bE.mono (bg (w.gh.free hp)) r)⟩
theorem gO {t : eI}{x1}(h : DA X es t)(hn :autoParam (es.length <= 1000) aZh._auto_1):DE X (.Tuple es x1 pos) (fG t) :=
  DE.of (iC h.pa)<|by
    rintro σ H Q ⟨G, ρ, P, s, re, h, k⟩;refine ⟨G, ρ, _, s, re, h, λds vs H1 G1 p1 l1 w1 r1 => ⟨gF (by rw [Paired.length r1, l1];exact hn), λp hp => ?_⟩⟩;obtain ⟨w2, r2⟩ := pK w1 hp r1;exact k _ _ _ _ p1 w2 r2
theorem jk {t : eI}(h : DA X es t)(hn :autoParam (es.length <= 1000) aZh._auto_1):DE X (.List es pos) (gj t) :=
  DE.of (pd h.pa)<|by
    rintro σ H Q ⟨G, ρ, P, s, re, h, k⟩;refine ⟨G, ρ, _, s, re, h, λds vs H1 G1 p1 l1 w1 r1 => ⟨gF (by rw [Paired.length r1, l1];exact hn), λp hp => ?_⟩⟩;obtain ⟨w2, r2⟩ := jQ w1 hp r1;exact k _ _ _ _ p1 w2 r2
noncomputable abbrev DR := List D -> (B -> Prop) -> Prop
noncomputable def e6 (K : Frag)(R : DR):Sp := λvs H Q _ => ∃ (ds : List D) (G : Hp) (P : B -> Prop), ak G H /\ bE K G vs ds /\ R ds P /\ ∀ b v H' G', P b -> Wd H G H' G' -> fO K H G' H' v b -> Q v H'
noncomputable abbrev Eu (P : Program)(w : World)(K : Frag)(mg : Str -> Option Value)(base : Heap)(x : Str)(k : Nat)(ps : List Str)(R : DR):Prop := Fn P w K mg base x k ps (e6 K R)
noncomputable def dO (R : DR)(t : eI):DT := λρ Q => t ρ λds => R ds Q
theorem aP {x : Str}{k : Nat}{ps : List Str}{R : DR}{p : Pos}{t : eI}(F : Eu X.prog X.w X.K X.mg X.base x k ps R)(hr : cF k X.A)(hg : Gl X x)(ha : DA X (e :: es) t)
    (hdb :autoParam ((x == ("__debug__" : Str)) = false) aZb._auto_1) (he :autoParam (starEach (e :: es) X.env = (false, eval e X.env) :: starEach es X.env) aZa._auto_1) (hpl :autoParam ((backTo pos (starEach es X.env)).any (·.1) = false) aZa._auto_1) :
    DE X (.Call (.Name x p) (e :: es) [] pos) (dO R t) :=
  DE.of (xf F hr hg ha.pa hdb he hpl)<|by
    rintro σ H Q ⟨G, ρ, P, s, re, h, k⟩;refine ⟨G, ρ, _, s, re, h, λds vs H1 G1 p1 l1 w1 r1 => ?_⟩;show e6 X.K R (vs ++ []) H1 Q E0;rw [append_nil];exact ⟨ds, G1, P, w1.gh, r1, p1, nR k w1⟩
noncomputable def CallD (X : Cx)(f : Value)(r : DR):Prop := ∃ rv, fI X f rv /\ ∀ (H G : Hp) (vs : List V) (ds : List D) (P : B -> Prop) (Q : VK), ak G H -> bE X.K G vs ds -> r ds P -> (∀ b v H' G', P b -> Wd H G H' G' -> fO X.K H G' H' v b -> Q v H') -> rv vs H Q
noncomputable def la (r : DR)(t : eI):DT := λρ Q => t ρ λds => r ds Q
theorem zD {K : Frag}{n : Nat}{t : eI}{r : DR}{rv : List V -> Hp -> VK -> Prop}(hr : ∀ (H G : Hp) (vs : List V) (ds : List D) (P : B -> Prop) (Q : VK), ak G H -> bE K G vs ds -> r ds P -> (∀ b v H' G', P b -> Wd H G H' G' -> fO K H G' H' v b -> Q v H') -> rv vs H Q)
    (σ : St) (H : Hp) (Q : VK):cE K (la r t) σ H Q -> D9 rv (cA K n t) σ H Q := by
  rintro ⟨G, ρ, P, s, re, h, k⟩;exact ⟨G, ρ, _, s, re, h, λds vs H1 G1 p1 l1 w1 r1 => hr H1 G1 vs ds P Q w1.gh r1 p1 (nR k w1)⟩
theorem cw {id : String}{x : Str}{p : Pos}{t : eI}{r : DR}(hc : CallD X (.builtin id) r)(hg : Gl X x)(hm : X.mg x = none)(hv : bootBuiltins x = some (.builtin id))(ha : DA X (e :: es) t)(hn :autoParam (x ≠ "__name__") aZb._auto_1)(hdb :autoParam ((x == ("__debug__" : Str)) = false) aZb._auto_1)
    (he :autoParam (starEach (e :: es) X.env = (false, eval e X.env) :: starEach es X.env) aZa._auto_1) (hpl :autoParam ((backTo pos (starEach es X.env)).any (·.1) = false) aZa._auto_1):DE X (.Call (.Name x p) (e :: es) [] pos) (la r t) := by
  obtain ⟨rv, h1, h2⟩ := hc;exact DE.of (q9 h1 hg hm hv ha.pa hn hdb he hpl) (zD h2)
theorem nI {T : String}{x : Str}{p : Pos}{t : eI}{r : DR}(hc : CallD X (.type T) r)(hg : Gl X x)(hm : X.mg x = none)(hv : bootBuiltins x = some (.type T))(ha : DA X (e :: es) t)(hn :autoParam (x ≠ "__name__") aZb._auto_1)(hdb :autoParam ((x == ("__debug__" : Str)) = false) aZb._auto_1)
    (he :autoParam (starEach (e :: es) X.env = (false, eval e X.env) :: starEach es X.env) aZa._auto_1) (hpl :autoParam ((backTo pos (starEach es X.env)).any (·.1) = false) aZa._auto_1):DE X (.Call (.Name x p) (e :: es) [] pos) (la r t) := by
  obtain ⟨rv, h1, h2⟩ := hc;exact DE.of (n3 h1 hg hm hv ha.pa hn hdb he hpl) (zD h2)
theorem gC {K : Frag}{G : Hp}{vs : List V}{d : D}(h : bE K G vs [d]):∃ v, vs = [v] /\ Rep K G v d := by
  cases h with | cons h t => cases t;exact ⟨_, rfl, h⟩
theorem CA {K : Frag}{G : Hp}{vs : List V}{d d' : D}(h : bE K G vs [d, d']):∃ v v', vs = [v, v'] /\ Rep K G v d /\ Rep K G v' d' := by
  cases h with | cons h t => obtain ⟨v', rfl, h'⟩ := gC t;exact ⟨_, _, rfl, h, h'⟩
theorem kq {K : Frag}{G : Hp}:∀ {ns : List Int} {vs : List V}, bE K G vs (ns.map D.int) -> vs = ns.map V.int
  | [], _, h => by cases h;rfl
  | n :: ns, _, h => by cases h with | cons h t => rw [h.int_inv, kq t];rfl
theorem j5 {K : Frag}{G : Hp}:∀ (ns : List Int), bE K G (ns.map V.int) (ns.map D.int)
  | [] => .nil
  | n :: ns => .cons (.int n) (j5 ns)
noncomputable def fz : DR := λds P => match ds with
  | [.lst xs] => P (.p (.int xs.length))
  | [.tup xs] => P (.p (.int xs.length))
  | [.scr ns] => P (.p (.int ns.length))
  | [.str x] => x.length <= sizeLine /\ P (.p (.int x.length))
  | _ => False
set_option tactic.hygienic true in
theorem lK : CallD X (.builtin "len") fz := by
  refine ⟨_, uC, λH G vs ds P Q s r h k => ?_⟩;unfold fz at h;split at h
  · obtain ⟨v, rfl, rv⟩ := gC r;obtain ⟨a, us, rfl, e, rr⟩ := rv.lst_inv;exact ⟨_, us.length, rfl, .inl ⟨us, dD.of (s _ _ e), rfl⟩, by rw [Paired.length rr];exact k _ _ H G h (Wd.refl s) (.int _)⟩
  · obtain ⟨v, rfl, rv⟩ := gC r;obtain ⟨a, us, rfl, e, rr⟩ := rv.iW;exact ⟨_, us.length, rfl, .inr ⟨us, aG s e, rfl⟩, by rw [Paired.length rr];exact k _ _ H G h (Wd.refl s) (.int _)⟩
  · rename_i ns;obtain ⟨v, rfl, rv⟩ := gC r;cases rv with
    | scr e => exact ⟨_, ns.length, rfl, .inl ⟨_, s.seq e, by simp⟩, k _ _ H G h (Wd.refl s) (.int _)⟩
  · rename_i x;obtain ⟨v, rfl, rv⟩ := gC r;cases rv;exact ⟨_, x.length, rfl, ⟨h.1, rfl⟩, k _ _ H G h.2 (Wd.refl s) (.int _)⟩
  · exact h.elim
noncomputable def Av : DR := λds P => match ds with
  | [.lst xs] => ∃ ns : List Int, xs = ns.map D.int /\ P (.p (.int ns.sum))
  | _ => False
theorem Am (hc : X.calm = true):CallD X (.builtin "sum") Av := by
  refine ⟨_, uG hc, λH G vs ds P Q s r h k => ?_⟩;unfold Av at h;split at h
  · obtain ⟨ns, rfl, h⟩ := h;obtain ⟨v, rfl, rv⟩ := gC r;obtain ⟨a, us, rfl, e, rr⟩ := rv.lst_inv;rw [kq rr] at e;exact ⟨a, ns, rfl, dD.of (s _ _ e), k _ _ H G h (Wd.refl s) (.int _)⟩
  · exact h.elim
noncomputable def lN (g : Int -> Int -> Int):DR := λds P => match ds with
  | [.int i, .int j] => P (.p (.int (g i j)))
  | _ => False
theorem zF {f : Value}{g : Int -> Int -> Int}(h : fI X f (λxs H Q => ∃ i j, xs = [.int i, .int j] /\ Q (.int (g i j)) H)):CallD X f (lN g) := by
  refine ⟨_, h, λH G vs ds P Q s r h k => ?_⟩;unfold lN at h;split at h
  · obtain ⟨v, v', rfl, r1, r2⟩ := CA r;cases r1;cases r2;exact ⟨_, _, rfl, k _ _ H G h (Wd.refl s) (.int _)⟩
  · exact h.elim
theorem sV (hc : X.calm = true):CallD X (.builtin "max") (lN λi j => if j > i then j else i) := zF (uD hc)
theorem sX (hc : X.calm = true):CallD X (.builtin "min") (lN λi j => if j < i then j else i) := zF (uF hc)
noncomputable def ig : DR := λds P => match ds with
  | [.int i] => P (.p (.int (if i < 0 then -i else i)))
  | _ => False
noncomputable def fT : DR := λds P => match ds with
  | [.int i] => P (.p (.int i))
  | [.bl c] => P (.p (.int (if c then 1 else 0)))
  | _ => False
theorem vN : CallD X (.type "int") fT := by
  refine ⟨_, uA, λH G vs ds P Q s r h k => ?_⟩;unfold fT at h;split at h
  · obtain ⟨v, rfl, r1⟩ := gC r;cases r1;exact .inl ⟨_, rfl, k _ _ H G h (Wd.refl s) (.int _)⟩
  · obtain ⟨v, rfl, r1⟩ := gC r;cases r1;exact .inr ⟨_, rfl, k _ _ H G h (Wd.refl s) (.int _)⟩
  · exact h.elim
noncomputable def d6 : DR := λds P => match ds with
  | [.lst xs] => P (.o (.lst xs))
  | [.tup xs] => P (.o (.lst xs))
  | [.scr ns] => P (.o (.lst (ns.map D.int)))
  | _ => False
noncomputable def ED : D -> String
  | .non => "NoneType"
  | .bl _ => "bool"
  | .int _ => "int"
  | .str _ => "str"
  | .tup _ => "tuple"
  | .lst _ => "list"
  | .scr _ => "list"
  | .dct _ => "dict"
  | .sen _ => "dict"
  | .ext _ => "dict"
noncomputable def zM (T : String)(d : D):Bool := match T with
  | "int" => (match d with | .int _ => true | .bl _ => true | _ => false)
  | "bool" => (match d with | .bl _ => true | _ => false)
  | "str" => (match d with | .str _ => true | _ => false)
  | "tuple" => (match d with | .tup _ => true | _ => false)
  | "list" => (match d with | .lst _ => true | .scr _ => true | _ => false)
  | _ => false
noncomputable def ll : D2 := λx y Q => match x, y with
  | .lst xs, .int i => ∃ d, ib xs i = some d /\ Q (.p d)
  | .tup xs, .int i => ∃ d, ib xs i = some d /\ Q (.p d)
  | .scr ns, .int i => ∃ n, ib ns i = some n /\ Q (.p (.int n))
  | .str z, .int i => ∃ c, z.length <= sizeLine /\ ib z.cps.toList i = some c /\ Q (.p (.str ⟨#[c]⟩))
  | _, _ => False
theorem sR {K : Frag}{G : Hp}{vs : List V}{ds : List D}{i : Int}{d : D}(r : bE K G vs ds)(h : ib ds i = some d):∃ v, ib vs i = some v /\ Rep K G v d := by
  unfold ib at *;rw [Paired.length r];cases e : tW ds.length i with
  | none => rw [e] at h;cases h
  | some j =>
    rw [e] at h;exact cH r h
theorem yg {α β : Type}(f : α -> β){xs : List α}{i : Int}{x : α}(h : ib xs i = some x):ib (xs.map f) i = some (f x) := by
  unfold ib at *;rw [length_map];cases e : tW xs.length i with
  | none => rw [e] at h;cases h
  | some j =>
    rw [e] at h;have h' : xs[j]? = some x := h;show (xs.map f)[j]? = _;rw [getElem?_map, h'];rfl
theorem dg (ha : DE X a ta)(hb : DE X b tb)(hs : sO b := by exact λ_ _ => rfl):DE X (.Subscript a b pos) (h8 ll ta tb) :=
  DE.of (jR jo ha.pe hb.pe hs) (oq λH G x y dx dy P Q s rx ry h k => by
    unfold ll at h;split at h
    · cases ry;obtain ⟨d, h1, h2⟩ := h;obtain ⟨a, us, rfl, e, rr⟩ := rx.lst_inv;obtain ⟨v, h3, h4⟩ := sR rr h1;exact .inl ⟨a, us, _, v, rfl, rfl, dD.of (s _ _ e), h3, k _ _ H G h2 (Wd.refl s) h4⟩
    · cases ry;obtain ⟨d, h1, h2⟩ := h;obtain ⟨a, us, rfl, e, rr⟩ := rx.iW;obtain ⟨v, h3, h4⟩ := sR rr h1;exact .inr (.inl ⟨a, us, _, v, rfl, rfl, aG s e, h3, k _ _ H G h2 (Wd.refl s) h4⟩)
    · cases ry;obtain ⟨n, h1, h2⟩ := h;cases rx with
      | scr e => exact .inl ⟨_, _, _, .int n, rfl, rfl, s.seq e, yg _ h1, k _ _ H G h2 (Wd.refl s) (.int _)⟩
    · cases rx;cases ry;obtain ⟨c, h0, h1, h2⟩ := h;exact .inr (.inr ⟨_, _, c, rfl, rfl, h0, h1, k _ _ H G h2 (Wd.refl s) (.str _)⟩)
    · exact h.elim)
noncomputable abbrev xW := aD -> (Option Int -> Prop) -> Prop
noncomputable def cO (K : Frag)(t : xW):TO := λσ H Q => ∃ (G : Hp) (ρ : aD) (P : Option Int -> Prop), ak G H /\ cW K G σ ρ /\ t ρ P /\ ∀ o H' G', P o -> Wd H G H' G' -> Q o H'
structure DO (X : Cx)(e : Option Expr)(t : xW):Prop where
  po : PO X e (cO X.K t)
noncomputable def bB : xW := λ_ P => P none
noncomputable def d9 (t : DT):xW := λρ P => t ρ λb => match b.val with
  | .int i => P (some i)
  | _ => False
theorem vI {K : Frag}{H G H' G' : Hp}{v : V}{b : B}{c : Int}(w : Wd H G H' G')(r : fO K H G' H' v b)(e : b.val = .int c):v = .int c := by
  obtain ⟨G1, _, r1⟩ := r.give w;rw [e] at r1;exact r1.int_inv
theorem PO.imp {e : Option Expr}{t t' : TO}(h : PO X e t)(i : ∀ σ H Q, t' σ H Q -> t σ H Q):PO X e t' := λpins s σ H Q I q => h pins s σ H Q I (i σ H Q q)
theorem DO.of {e : Option Expr}{t : TO}{t' : xW}(h : PO X e t)(i : ∀ σ H Q, cO X.K t' σ H Q -> t σ H Q):DO X e t' := ⟨PO.imp h i⟩
theorem yt : DO X none bB := DO.of ze λσ H Q ⟨G, ρ, P, s, re, h, k⟩ => k _ H G h (Wd.refl s)
set_option tactic.hygienic true in
theorem oI (he : DE X e te):DO X (some e) (d9 te) := DO.of (zf he.pe)<|by
  rintro σ H Q ⟨G, ρ, P, s, re, h, k⟩;refine ⟨G, ρ, _, s, re, h, λb v H1 G1 p1 w1 r1 => ?_⟩;split at p1
  · rename_i i e;exact ⟨i, vI w1 r1 e, k _ H1 G1 p1 w1⟩
  · exact p1.elim
noncomputable def hR {α : Type}(xs : List α)(lo hi : Option Int):List α := (xs.drop (HT.ef xs.length 0 lo)).take (HT.ef xs.length xs.length hi - HT.ef xs.length 0 lo)
theorem kJ {α β : Type}{F : α -> β -> Prop}:∀ {l : List α} {r : List β} (n : Nat), Paired F l r -> Paired F (l.drop n) (r.drop n)
  | _, _, 0, h => h
  | _, _, n + 1, .nil => by rw [List.drop_nil, List.drop_nil];exact .nil
  | _, _, n + 1, .cons _ t => kJ n t
theorem kL {α β : Type}{F : α -> β -> Prop}:∀ {l : List α} {r : List β} (n : Nat), Paired F l r -> Paired F (l.take n) (r.take n)
  | _, _, 0, h => by rw [List.take_zero, List.take_zero];exact .nil
  | _, _, n + 1, .nil => by rw [List.take_nil, List.take_nil];exact .nil
  | _, _, n + 1, .cons h t => .cons h (kL n t)
theorem rm {K : Frag}{G : Hp}{vs : List V}{ds : List D}(r : bE K G vs ds)(lo hi : Option Int):bE K G (eK vs lo hi) (hR ds lo hi) := by
  unfold eK hR;rw [Paired.length r];exact kL _ (kJ _ r)
noncomputable def oy (te : DT)(tl th : xW):DT := λρ Q => te ρ λb => tl ρ λlo => th ρ λhi => match b.val with
  | .lst xs => Q (.o (.lst (hR xs lo hi)))
  | .scr ns => Q (.o (.lst ((hR ns lo hi).map D.int)))
  | .tup xs => ¬ (HT.ef xs.length 0 lo = 0 /\ HT.ef xs.length xs.length hi = xs.length) /\ Q (.p (.tup (hR xs lo hi)))
  | _ => False
theorem vP {α : Type}(f : α -> V)(xs : List α)(lo hi : Option Int):eK (xs.map f) lo hi = (hR xs lo hi).map f := by
  unfold eK hR;rw [length_map, map_take, map_drop]
set_option tactic.hygienic true in
theorem qz {lo hi : Option Expr}{tl th : xW}{p2 : Pos}(he : DE X e te)(hl : DO X lo tl)(hu : DO X hi th):DE X (.Subscript e (.Slice lo hi none p2) pos) (oy te tl th) :=
  DE.of (xj (zr.or Bi) he.pe hl.po hu.po)<|by
    rintro σ H Q ⟨G, ρ, P, s, re, h, k⟩;refine ⟨G, ρ, _, s, re, h, λb v H1 G1 p1 w1 r1 => ?_⟩;obtain ⟨G1', w1', r1'⟩ := r1.give w1;refine ⟨G1', ρ, _, w1'.gh, re.mono w1'.gg, p1, λl H2 G2 p2 w2 => ?_⟩;have w12 := w1'.trans w2;refine ⟨G2, ρ, _, w2.gh, re.mono w12.gg, p2, λu H3 G3 p3 w3 => ?_⟩;have w13 := w12.trans w3;have r3 := r1'.mono (w2.trans w3).gg;split at p3
    · rename_i xs e;rw [e] at r3;obtain ⟨a, us, rfl, e, rr⟩ := r3.lst_inv;refine .inl ⟨a, us, rfl, dD.of (w3.gh _ _ e), λp hp => ?_⟩;obtain ⟨w4, r4⟩ := jQ w13 hp (rm rr l u);exact k _ _ _ _ p3 w4 r4
    · rename_i ns e;rw [e] at r3;cases r3 with
      | scr e =>
        refine .inl ⟨_, _, rfl, w3.gh.seq e, λp hp => ?_⟩;rw [vP];obtain ⟨w4, r4⟩ := jQ w13 hp (j5 (K := X.K) (hR ns l u));exact k _ _ _ _ p3 w4 r4
    · rename_i xs e;rw [e] at r3;obtain ⟨a, us, rfl, e, rr⟩ := r3.iW;refine .inr ⟨a, us, rfl, aG w3.gh e, by rw [Paired.length rr];exact p3.1, λp hp => ?_⟩;obtain ⟨w4, r4⟩ := pK w13 hp (rm rr l u);exact k _ _ _ _ p3.2 w4 r4
    · exact p3.elim
noncomputable def hU (te : DT)(tl th ts : xW):DT := λρ Q => te ρ λb => tl ρ λlo => th ρ λhi => ts ρ λst => st ≠ some 0 /\ match b.val with
  | .lst xs => Q (.o (.lst (n6 xs lo hi st)))
  | .scr ns => Q (.o (.lst ((n6 ns lo hi st).map D.int)))
  | _ => False
noncomputable def fy : D2 := λx y Q => match x, y with
  | .int i, .int j => Q (.p (.int (i + j)))
  | .lst xs, .lst ys => xs.length + ys.length <= sizeLine /\ Q (.o (.lst (xs ++ ys)))
  | .str x, .str y => x.length + y.length <= sizeLine /\ Q (.p (.str (x ++ y)))
  | .tup xs, .tup ys => xs ≠ [] /\ ys ≠ [] /\ xs.length + ys.length <= sizeLine /\ Q (.p (.tup (xs ++ ys)))
  | _, _ => False
theorem eM {α β : Type}{F : α -> β -> Prop}:∀ {l l' : List α} {r r' : List β}, Paired F l r -> Paired F l' r' -> Paired F (l ++ l') (r ++ r')
  | _, _, _, _, .nil, h => h
  | _, _, _, _, .cons h t, h' => .cons h (eM t h')
theorem cP : m9 X (binaryOp .Add) fy := by
  refine ⟨_, wY.or (AR.or (sx.or yV)), λH G x y dx dy P Q s rx ry h k => ?_⟩;unfold fy at h;split at h
  · cases rx;cases ry;exact .inl ⟨_, _, rfl, rfl, k _ _ H G h (Wd.refl s) (.int _)⟩
  · obtain ⟨a, us, rfl, e, rr⟩ := rx.lst_inv;obtain ⟨a', us', rfl, e', rr'⟩ := ry.lst_inv;refine .inr (.inl ⟨a, a', us, us', rfl, rfl, s _ _ e, s _ _ e', by rw [Paired.length rr, Paired.length rr'];exact h.1, λp hp => ?_⟩);obtain ⟨w2, r2⟩ := jQ (Wd.refl s) hp (eM rr rr');exact k _ _ _ _ h.2 w2 r2
  · cases rx;cases ry;exact .inr (.inr (.inl ⟨_, _, rfl, rfl, h.1, k _ _ H G h.2 (Wd.refl s) (.str _)⟩))
  · obtain ⟨h1, h2, h3, h4⟩ := h;obtain ⟨a, us, rfl, e, rr⟩ := rx.iW;obtain ⟨a', us', rfl, e', rr'⟩ := ry.iW;refine .inr (.inr (.inr ⟨a, a', us, us', rfl, rfl, aG s e, aG s e', λz => ?_, by rw [Paired.length rr, Paired.length rr'];exact h3, λz => ?_, λ_ p hp => ?_⟩))
    · subst z;cases rr;exact h1 rfl
    · subst z;cases rr';exact (h2 rfl).elim
    · obtain ⟨w2, r2⟩ := pK (Wd.refl s) hp (eM rr rr');exact k _ _ _ _ h4 w2 r2
  · exact h.elim
noncomputable def gk : D2 := λx y Q => match x, y with
  | .int i, .int j => pY i j /\ Q (.p (.int (i * j)))
  | .lst xs, .int k => (-(2 ^ 63) <= k /\ k < 2 ^ 63) /\ xs.length * k.toNat <= sizeLine /\ Q (.o (.lst (List.replicate k.toNat xs).flatten))
  | _, _ => False
theorem rn {K : Frag}{G : Hp}{vs : List V}{ds : List D}(r : bE K G vs ds):∀ n : Nat, bE K G (List.replicate n vs).flatten (List.replicate n ds).flatten
  | 0 => .nil
  | n + 1 => by
    rw [List.replicate_succ, List.replicate_succ, List.flatten_cons, List.flatten_cons];exact eM r (rn r n)
theorem gz : m9 X (binaryOp .Mult) gk := by
  refine ⟨_, AV.or AY, λH G x y dx dy P Q s rx ry h k => ?_⟩;unfold gk at h;split at h
  · cases rx;cases ry;exact .inl ⟨_, _, rfl, rfl, h.1, k _ _ H G h.2 (Wd.refl s) (.int _)⟩
  · cases ry;obtain ⟨a, us, rfl, e, rr⟩ := rx.lst_inv;obtain ⟨⟨h1, h2⟩, h3, h4⟩ := h;refine .inr ⟨a, _, us, rfl, rfl, s _ _ e, h1, h2, by rw [Paired.length rr];exact h3, λp hp => ?_⟩;obtain ⟨w2, r2⟩ := jQ (Wd.refl s) hp (rn rr _);exact k _ _ _ _ h4 w2 r2
  · exact h.elim
end
end DL
namespace DL
open PySem L2
mutual
noncomputable def bP : D -> D -> Bool
  | .non, .non => true
  | .bl a, .bl b => a == b
  | .bl a, .int b => (if a then 1 else 0) == b
  | .int a, .bl b => a == (if b then 1 else 0)
  | .int a, .int b => a == b
  | .str a, .str b => a == b
  | .tup xs, .tup ys => i6 xs ys
  | .lst xs, .lst ys => i6 xs ys
  | _, _ => false
noncomputable def i6 : List D -> List D -> Bool
  | [], [] => true
  | x :: xs, y :: ys => bP x y && i6 xs ys
  | _, _ => false
end
mutual
noncomputable def dep : D -> Nat
  | .tup xs => gP xs + 1
  | .lst xs => gP xs + 1
  | _ => 0
noncomputable def gP : List D -> Nat
  | [] => 0
  | x :: xs => max (dep x) (gP xs)
end
mutual
noncomputable def bf : D -> Bool
  | .tup xs => iy xs
  | .lst xs => iy xs
  | .scr _ => false
  | .dct _ => false
  | .sen _ => false
  | .ext _ => false
  | _ => true
noncomputable def iy : List D -> Bool
  | [] => true
  | x :: xs => bf x && iy xs
end
theorem lA (xs : List D):bf (.tup xs) = iy xs := by rw [bf]
theorem oY (xs : List D):bf (.lst xs) = iy xs := by rw [bf]
theorem lz (i : Int):bf (.int i) = true := by unfold bf;rfl
theorem yO : bf .non = true := by unfold bf;rfl
theorem fB : iy [] = true := by rw [iy]
theorem fu (x : D)(xs : List D):iy (x :: xs) = (bf x && iy xs) := by rw [iy]
theorem lq (xs : List D):dep (.tup xs) = gP xs + 1 := by rw [dep]
theorem tG (xs : List D):dep (.lst xs) = gP xs + 1 := by rw [dep]
theorem lp (i : Int):dep (.int i) = 0 := by unfold dep;rfl
theorem yr : dep .non = 0 := by unfold dep;rfl
theorem gp : gP [] = 0 := by rw [gP]
theorem ft (x : D)(xs : List D):gP (x :: xs) = max (dep x) (gP xs) := by rw [gP]
theorem ir : ∀ {xs : List D} {i : Nat} {x : D}, xs[i]? = some x -> dep x <= gP xs
  | [], _, _, h => by simp at h
  | y :: xs, 0, x, h => by simp at h;subst h;unfold gP;exact Nat.le_max_left _ _
  | y :: xs, i + 1, x, h => by
    have := ir (xs := xs) (i := i) (x := x) (by simpa using h);unfold gP;exact Nat.le_trans this (Nat.le_max_right _ _)
theorem cz : ∀ {xs : List D} {i : Nat} {x : D}, iy xs = true -> xs[i]? = some x -> bf x = true
  | [], _, _, _, h => by simp at h
  | y :: xs, 0, x, n, h => by simp at h;subst h;unfold iy at n;exact (Bool.and_eq_true _ _ ▸ n).1
  | y :: xs, i + 1, x, n, h => by
    unfold iy at n;exact cz (xs := xs) (i := i) (x := x) (Bool.and_eq_true _ _ ▸ n).2 (by simpa using h)
theorem all_succ (n : Nat)(f : Nat -> Bool):(List.range (n + 1)).all f = (f 0 && (List.range n).all λi => f (i + 1)) := by
  rw [List.range_succ_eq_map, List.all_cons, List.all_map];rfl
theorem rg : ∀ (xs ys : List D), i6 xs ys = ((List.range (min xs.length ys.length)).all (λi => match xs[i]?, ys[i]? with | some x, some y => bP x y | _, _ => true) && xs.length == ys.length)
  | [], [] => by unfold i6;rfl
  | [], y :: ys => by unfold i6;simp
  | x :: xs, [] => by unfold i6;simp
  | x :: xs, y :: ys => by
    unfold i6;rw [rg xs ys];have : min (x :: xs).length (y :: ys).length = min xs.length ys.length + 1 := by simp only [length_cons];lia
    rw [this, all_succ];simp only [List.getElem?_cons_zero, List.getElem?_cons_succ, length_cons, Bool.and_assoc];congr 2;simp
noncomputable def jb (xs ys : List D)(i : Nat):Bool := match xs[i]?, ys[i]? with | some x, some y => bP x y | _, _ => true
section
variable {X : Cx} {pins : List (Addr × Obj)} {σ : St} {H G : Hp} {s : Shared}
theorem items_eqAt {A : Around}{us us' : List Value}{vs vs' : List V}{ds ds' : List D}(r1 : Vals vs us)(r2 : Vals vs' us')(k1 : bE X.K G vs ds)(k2 : bE X.K G vs' ds')
    (ih : ∀ (i : Nat) (d d' : D) (x y : V) (u v : Value), ds[i]? = some d -> ds'[i]? = some d' -> Rep X.K G x d -> Rep X.K G y d' -> RelV x u -> RelV y v -> SeqAt.EqAt A s u v (bP d d')) :
    ∀ j (h1 : j < us.toArray.size) (h2 : j < us'.toArray.size), SeqAt.EqAt A s us.toArray[j] us'.toArray[j] (jb ds ds' j) := λj q1 q2 => by
  have q1' : j < us.length := by simpa using q1
  have q2' : j < us'.length := by simpa using q2
  have l1 := r1.length;have l2 := r2.length;have e1 : vs[j]? = some vs[j] := getElem?_eq_getElem (by lia);have e2 : vs'[j]? = some vs'[j] := getElem?_eq_getElem (by lia);obtain ⟨u1, g1, s1⟩ := r1.get e1;obtain ⟨u2, g2, s2⟩ := r2.get e2;obtain ⟨d1, f1, t1⟩ := WS.js k1 e1;obtain ⟨d2, f2, t2⟩ := WS.js k2 e2;have z1 : us.toArray[j] = u1 := by rw [getElem?_eq_getElem q1'] at g1;simpa using Option.some.inj g1
  have z2 : us'.toArray[j] = u2 := by rw [getElem?_eq_getElem q2'] at g2;simpa using Option.some.inj g2
  rw [z1, z2];unfold jb;rw [f1, f2];exact ih j d1 d2 _ _ _ _ f1 f2 t1 t2 s1 s2
theorem jS (xs ys : List D):i6 xs ys = ((List.range (min xs.length ys.length)).all (jb xs ys) && xs.length == ys.length) := rg xs ys
theorem rj {xs ys : List D}(h : xs.length = ys.length):i6 xs ys = (List.range xs.length).all (jb xs ys) := by
  rw [jS, h];simp
theorem rh {xs ys : List D}(h : xs.length ≠ ys.length):i6 xs ys = false := by
  rw [jS];have : (xs.length == ys.length) = false := by simpa using h
  rw [this, Bool.and_false]
theorem sz {vs : List V}{us : List Value}{ds : List D}(r : Vals vs us)(k : bE X.K G vs ds):us.toArray.size = ds.length := by
  rw [size_toArray, <- r.length, Paired.length k]
mutual
theorem iD : ∀ d : D, bf d = true -> bP d d = true
  | .non, _ => by unfold bP;rfl
  | .bl a, _ => by unfold bP;simp
  | .int a, _ => by unfold bP;simp
  | .str a, _ => by unfold bP;simp
  | .tup xs, h => by unfold bP;unfold bf at h;exact fC xs h
  | .lst xs, h => by unfold bP;unfold bf at h;exact fC xs h
  | .scr _, h => by unfold bf at h;cases h
  | .dct _, h => by unfold bf at h;cases h
  | .sen _, h => by unfold bf at h;cases h
  | .ext _, h => by unfold bf at h;cases h
theorem fC : ∀ ds : List D, iy ds = true -> i6 ds ds = true
  | [], _ => by unfold i6;rfl
  | d :: ds, h => by
    unfold iy at h;have h' := Bool.and_eq_true _ _ ▸ h;unfold i6;rw [iD d h'.1, fC ds h'.2];rfl
end
theorem ug (I : Inv X pins σ H s)(sG : ak G H){x : V}{d : D}(h : Rep X.K G x d):bf d = true -> ∀ {d' : D}, Rep X.K G x d' -> bf d' = true -> d = d' := by
  induction h with
  | non => intro _ d' h _;cases h;rfl
  | bl b => intro _ d' h _;cases h;rfl
  | int i => intro _ d' h _;cases h;rfl
  | str z => intro _ d' h _;cases h;rfl
  | scr _ => intro n;unfold bf at n;cases n
  | dct _ => intro n;unfold bf at n;cases n
  | sen _ => intro n;unfold bf at n;cases n
  | ext _ => intro n;unfold bf at n;cases n
  | @tup a vs ds h l r ih =>
    intro n d' h' n';unfold bf at n;cases h' with
    | scr _ => unfold bf at n';cases n'
    | dct _ => unfold bf at n';cases n'
    | sen _ => unfold bf at n';cases n'
    | ext _ => unfold bf at n';cases n'
    | lst h2 l2 r2 =>
      obtain ⟨_, _, t1, _⟩ := I.tuple (aG sG (.inl (.inl h)));obtain ⟨_, _, t2, _⟩ := I.list (dD.of (sG _ _ h2));exact absurd rfl (SeqAt.ne_of_list_tuple t2.isList t1)
    | @tup _ _ ds2 h2 l2 r2 =>
      unfold bf at n';have e := I.vn (aG sG (.inl (.inl h))) (aG sG (.inl (.inl h2)));subst e;congr 1;refine List.ext_getElem? λi => ?_;by_cases hi : i < vs.length
      · rw [getElem?_eq_getElem (show i < _ by lia), getElem?_eq_getElem (show i < _ by lia)];have e1 := getElem?_eq_getElem (l := ds) (show i < _ by lia);have e2 := getElem?_eq_getElem (l := ds2) (show i < _ by lia);exact congrArg some (ih i _ _ (getElem?_eq_getElem hi) e1 (cz n e1) (r2 i _ _ (getElem?_eq_getElem hi) e2) (cz n' e2))
      · rw [List.getElem?_eq_none (by lia), List.getElem?_eq_none (by lia)]
  | @lst a vs ds h l r ih =>
    intro n d' h' n';unfold bf at n;cases h' with
    | scr _ => unfold bf at n';cases n'
    | dct _ => unfold bf at n';cases n'
    | sen _ => unfold bf at n';cases n'
    | ext _ => unfold bf at n';cases n'
    | tup h2 l2 r2 =>
      obtain ⟨_, _, t1, _⟩ := I.tuple (aG sG (.inl (.inl h2)));obtain ⟨_, _, t2, _⟩ := I.list (dD.of (sG _ _ h));exact absurd rfl (SeqAt.ne_of_list_tuple t2.isList t1)
    | @lst _ _ ds2 h2 l2 r2 =>
      unfold bf at n';rw [h] at h2;cases h2;congr 1;refine List.ext_getElem? λi => ?_;by_cases hi : i < vs.length
      · rw [getElem?_eq_getElem (show i < _ by lia), getElem?_eq_getElem (show i < _ by lia)];have e1 := getElem?_eq_getElem (l := ds) (show i < _ by lia);have e2 := getElem?_eq_getElem (l := ds2) (show i < _ by lia);exact congrArg some (ih i _ _ (getElem?_eq_getElem hi) e1 (cz n e1) (r2 i _ _ (getElem?_eq_getElem hi) e2) (cz n' e2))
      · rw [List.getElem?_eq_none (by lia), List.getElem?_eq_none (by lia)]
theorem wo (I : Inv X pins σ H s)(sG : ak G H):∀ (n : Nat) (dx dy : D), dep dx <= n -> bf dx = true -> bf dy = true -> ∀ {x y : V} {u v : Value} {A : Around}, Rep X.K G x dx -> Rep X.K G y dy -> RelV x u -> RelV y v -> A.units + n < cLine -> SeqAt.EqAt A s u v (bP dx dy) := by
  intro n;induction n with
  | zero =>
    intro dx dy hd n1 n2 x y u v A rx ry ru rv hu;have hu0 : A.units < cLine := hu;cases rx with
    | scr _ => unfold bf at n1;cases n1
    | dct _ => unfold bf at n1;cases n1
    | sen _ => unfold bf at n1;cases n1
    | ext _ => unfold bf at n1;cases n1
    | tup h l r => unfold dep at hd;lia
    | lst h l r => unfold dep at hd;lia
    | non =>
      cases ru;cases ry with
      | scr _ => unfold bf at n2;cases n2
      | dct _ => unfold bf at n2;cases n2
      | sen _ => unfold bf at n2;cases n2
      | ext _ => unfold bf at n2;cases n2
      | non => cases rv;unfold bP;exact SeqAt.EqAt.same _
      | bl b => cases rv;unfold bP;exact SeqAt.EqAt.none_bool b
      | int i => obtain ⟨t, rfl⟩ := rv;unfold bP;exact SeqAt.EqAt.none_int i t
      | str z => obtain ⟨t, rfl⟩ := rv;unfold bP;exact SeqAt.EqAt.none_str z t
      | tup h l r => cases rv;obtain ⟨is, r1, t1, z1⟩ := I.tuple (aG sG (.inl (.inl h)));unfold bP;exact SeqAt.EqAt.none_tuple t1 hu0
      | lst h l r => cases rv;obtain ⟨is, r1, t1, z1⟩ := I.list (dD.of (sG _ _ h));unfold bP;exact SeqAt.EqAt.none_list t1.isList hu0
    | bl a =>
      cases ru;cases ry with
      | scr _ => unfold bf at n2;cases n2
      | dct _ => unfold bf at n2;cases n2
      | sen _ => unfold bf at n2;cases n2
      | ext _ => unfold bf at n2;cases n2
      | non => cases rv;unfold bP;exact SeqAt.EqAt.bool_none a
      | bl b => cases rv;unfold bP;exact SeqAt.EqAt.bool_bool a b
      | int i => obtain ⟨t, rfl⟩ := rv;unfold bP;exact SeqAt.EqAt.bool_int a i t
      | str z => obtain ⟨t, rfl⟩ := rv;unfold bP;exact SeqAt.EqAt.bool_str a z t
      | tup h l r => cases rv;obtain ⟨is, r1, t1, z1⟩ := I.tuple (aG sG (.inl (.inl h)));unfold bP;exact SeqAt.EqAt.bool_tuple a t1 hu0
      | lst h l r => cases rv;obtain ⟨is, r1, t1, z1⟩ := I.list (dD.of (sG _ _ h));unfold bP;exact SeqAt.EqAt.bool_list a t1.isList hu0
    | int a =>
      obtain ⟨tt, rfl⟩ := ru;cases ry with
      | scr _ => unfold bf at n2;cases n2
      | dct _ => unfold bf at n2;cases n2
      | sen _ => unfold bf at n2;cases n2
      | ext _ => unfold bf at n2;cases n2
      | non => cases rv;unfold bP;exact SeqAt.EqAt.int_none a tt
      | bl b => cases rv;unfold bP;exact SeqAt.EqAt.int_bool a tt b
      | int i => obtain ⟨t, rfl⟩ := rv;unfold bP;exact SeqAt.EqAt.int_int a tt i t
      | str z => obtain ⟨t, rfl⟩ := rv;unfold bP;exact SeqAt.EqAt.int_str a tt z t
      | tup h l r => cases rv;obtain ⟨is, r1, t1, z1⟩ := I.tuple (aG sG (.inl (.inl h)));unfold bP;exact SeqAt.EqAt.int_tuple a tt t1 hu0
      | lst h l r => cases rv;obtain ⟨is, r1, t1, z1⟩ := I.list (dD.of (sG _ _ h));unfold bP;exact SeqAt.EqAt.int_list a tt t1.isList hu0
    | str a =>
      obtain ⟨tt, rfl⟩ := ru;cases ry with
      | scr _ => unfold bf at n2;cases n2
      | dct _ => unfold bf at n2;cases n2
      | sen _ => unfold bf at n2;cases n2
      | ext _ => unfold bf at n2;cases n2
      | non => cases rv;unfold bP;exact SeqAt.EqAt.str_none a tt
      | bl b => cases rv;unfold bP;exact SeqAt.EqAt.str_bool a tt b
      | int i => obtain ⟨t, rfl⟩ := rv;unfold bP;exact SeqAt.EqAt.str_int a tt i t
      | str z => obtain ⟨t, rfl⟩ := rv;unfold bP;exact SeqAt.EqAt.str_str a tt z t
      | tup h l r => cases rv;obtain ⟨is, r1, t1, z1⟩ := I.tuple (aG sG (.inl (.inl h)));unfold bP;exact SeqAt.EqAt.str_tuple a tt t1 hu0
      | lst h l r => cases rv;obtain ⟨is, r1, t1, z1⟩ := I.list (dD.of (sG _ _ h));unfold bP;exact SeqAt.EqAt.str_list a tt t1.isList hu0
  | succ n ihn =>
    intro dx dy hd n1 n2 x y u v A rx ry ru rv hu;have hu0 : A.units < cLine := by lia
    by_cases hs : dep dx = 0
    · exact ihn dx dy (by lia) n1 n2 rx ry ru rv (by lia)
    cases rx with
    | scr _ => unfold bf at n1;cases n1
    | dct _ => unfold bf at n1;cases n1
    | sen _ => unfold bf at n1;cases n1
    | ext _ => unfold bf at n1;cases n1
    | non => unfold dep at hs;exact absurd rfl hs
    | bl _ => unfold dep at hs;exact absurd rfl hs
    | int _ => unfold dep at hs;exact absurd rfl hs
    | str _ => unfold dep at hs;exact absurd rfl hs
    | @tup a vs ds h l r =>
      cases ru;obtain ⟨is, r1, t1, z1⟩ := I.tuple (aG sG (.inl (.inl h)));cases ry with
      | scr _ => unfold bf at n2;cases n2
      | dct _ => unfold bf at n2;cases n2
      | sen _ => unfold bf at n2;cases n2
      | ext _ => unfold bf at n2;cases n2
      | non => cases rv;unfold bP;exact SeqAt.EqAt.tuple_none t1 hu0
      | bl b => cases rv;unfold bP;exact SeqAt.EqAt.tuple_bool b t1 hu0
      | int i => obtain ⟨t, rfl⟩ := rv;unfold bP;exact SeqAt.EqAt.tuple_int i t t1 hu0
      | str z => obtain ⟨t, rfl⟩ := rv;unfold bP;exact SeqAt.EqAt.tuple_str z t t1 hu0
      | lst h2 l2 rr2 => cases rv;obtain ⟨is2, r2, t2, z2⟩ := I.list (dD.of (sG _ _ h2));unfold bP;exact SeqAt.EqAt.tuple_list t1 t2.isList hu0
      | @tup a' vs' ds' h2 l2 rr2 =>
        cases rv;obtain ⟨is2, r2, t2, z2⟩ := I.tuple (aG sG (.inl (.inl h2)));unfold bP;unfold dep at hd;unfold bf at n1 n2;have key := SeqAt.RcAt.tuples (A := A) (s := s) (e := jb ds ds') t1 t2 hu0 (items_eqAt (X := X) (G := G) r1 r2 (az l r) (az l2 rr2) λi d d' x y u v e1 e2 k1 k2 w1 w2 =>
          ihn d d' (by have := ir e1;lia) (cz n1 e1) (cz n2 e2) k1 k2 w1 w2 (by show A.units + 1 + n < cLine;lia))
        rw [sz r1 (az l r), sz r2 (az l2 rr2), <- jS] at key;by_cases hab : a = a'
        · subst hab;have e : ds = ds' := by
            have := ug I sG (.tup h l r) (by unfold bf;exact n1) (.tup h2 l2 rr2) (by unfold bf;exact n2);injection this
          subst e;rw [fC ds n1];exact SeqAt.EqAt.same _
        · exact SeqAt.EqAt.of_refs hab key
    | @lst a vs ds h l r =>
      cases ru;obtain ⟨is, r1, t1, z1⟩ := I.list (dD.of (sG _ _ h));cases ry with
      | scr _ => unfold bf at n2;cases n2
      | dct _ => unfold bf at n2;cases n2
      | sen _ => unfold bf at n2;cases n2
      | ext _ => unfold bf at n2;cases n2
      | non => cases rv;unfold bP;exact SeqAt.EqAt.list_none t1.isList hu0
      | bl b => cases rv;unfold bP;exact SeqAt.EqAt.list_bool b t1.isList hu0
      | int i => obtain ⟨t, rfl⟩ := rv;unfold bP;exact SeqAt.EqAt.list_int i t t1.isList hu0
      | str z => obtain ⟨t, rfl⟩ := rv;unfold bP;exact SeqAt.EqAt.list_str z t t1.isList hu0
      | tup h2 l2 rr2 => cases rv;obtain ⟨is2, r2, t2, z2⟩ := I.tuple (aG sG (.inl (.inl h2)));unfold bP;exact SeqAt.EqAt.list_tuple t1.isList t2 hu0
      | @lst a' vs' ds' h2 l2 rr2 =>
        cases rv;obtain ⟨is2, r2, t2, z2⟩ := I.list (dD.of (sG _ _ h2));unfold bP;unfold dep at hd;unfold bf at n1 n2;by_cases hab : a = a'
        · subst hab;have e : ds = ds' := by
            have := ug I sG (.lst h l r) (by unfold bf;exact n1) (.lst h2 l2 rr2) (by unfold bf;exact n2);injection this
          subst e;rw [fC ds n1];exact SeqAt.EqAt.same _
        · refine SeqAt.EqAt.of_refs hab ?_;by_cases hlen : ds.length = ds'.length
          · have key := SeqAt.RcAt.lists (A := A) (s := s) (e := jb ds ds') t1.isList t2.isList (by rw [sz r1 (az l r), sz r2 (az l2 rr2)];exact hlen) hu0 (items_eqAt (X := X) (G := G) r1 r2 (az l r) (az l2 rr2) λi d d' x y u v e1 e2 k1 k2 w1 w2 =>
              ihn d d' (by have := ir e1;lia) (cz n1 e1) (cz n2 e2) k1 k2 w1 w2 (by show A.units + 1 + n < cLine;lia))
            rw [sz r1 (az l r), <- rj hlen] at key;exact key
          · rw [rh hlen];exact SeqAt.RcAt.lists_lengths t1.isList t2.isList (by rw [sz r1 (az l r), sz r2 (az l2 rr2)];simpa using hlen) hu0
theorem xG (I : Inv X pins σ H s)(sG : ak G H){dx dy : D}{x y : V}{u v : Value}{A : Around}(n1 : bf dx = true)(n2 : bf dy = true)(rx : Rep X.K G x dx)(ry : Rep X.K G y dy)(ru : RelV x u)(rv : RelV y v)(hu : A.units + dep dx < cLine) :
    SeqAt.RcAt A s u v (bP dx dy) /\ SeqAt.RcNeAt A s u v (!(bP dx dy)) := by
  have hu0 : A.units < cLine := by lia
  cases rx with
  | scr _ => unfold bf at n1;cases n1
  | dct _ => unfold bf at n1;cases n1
  | sen _ => unfold bf at n1;cases n1
  | ext _ => unfold bf at n1;cases n1
  | non =>
    cases ru;cases ry with
    | scr _ => unfold bf at n2;cases n2
    | dct _ => unfold bf at n2;cases n2
    | sen _ => unfold bf at n2;cases n2
    | ext _ => unfold bf at n2;cases n2
    | non => cases rv;unfold bP;exact ⟨SeqAt.RcAt.none_none, SeqAt.RcNeAt.none_none⟩
    | bl b => cases rv;unfold bP;exact ⟨SeqAt.RcAt.none_bool b, SeqAt.RcNeAt.none_bool b⟩
    | int i => obtain ⟨t, rfl⟩ := rv;unfold bP;exact ⟨SeqAt.RcAt.none_int i t, SeqAt.RcNeAt.none_int i t⟩
    | str z => obtain ⟨t, rfl⟩ := rv;unfold bP;exact ⟨SeqAt.RcAt.none_str z t, SeqAt.RcNeAt.none_str z t⟩
    | tup h l r => cases rv;obtain ⟨is, r1, t1, z1⟩ := I.tuple (aG sG (.inl (.inl h)));unfold bP;exact ⟨SeqAt.RcAt.none_tuple t1 hu0, SeqAt.RcNeAt.none_tuple t1 hu0⟩
    | lst h l r => cases rv;obtain ⟨is, r1, t1, z1⟩ := I.list (dD.of (sG _ _ h));unfold bP;exact ⟨SeqAt.RcAt.none_list t1.isList hu0, SeqAt.RcNeAt.none_list t1.isList hu0⟩
  | bl a =>
    cases ru;cases ry with
    | scr _ => unfold bf at n2;cases n2
    | dct _ => unfold bf at n2;cases n2
    | sen _ => unfold bf at n2;cases n2
    | ext _ => unfold bf at n2;cases n2
    | non => cases rv;unfold bP;exact ⟨SeqAt.RcAt.bool_none a, SeqAt.RcNeAt.bool_none a⟩
    | bl b => cases rv;unfold bP;exact ⟨SeqAt.RcAt.bool_bool a b, SeqAt.RcNeAt.bool_bool a b⟩
    | int i => obtain ⟨t, rfl⟩ := rv;unfold bP;exact ⟨SeqAt.RcAt.bool_int a i t, SeqAt.RcNeAt.bool_int a i t⟩
    | str z => obtain ⟨t, rfl⟩ := rv;unfold bP;exact ⟨SeqAt.RcAt.bool_str a z t, SeqAt.RcNeAt.bool_str a z t⟩
    | tup h l r => cases rv;obtain ⟨is, r1, t1, z1⟩ := I.tuple (aG sG (.inl (.inl h)));unfold bP;exact ⟨SeqAt.RcAt.bool_tuple a t1 hu0, SeqAt.RcNeAt.bool_tuple a t1 hu0⟩
    | lst h l r => cases rv;obtain ⟨is, r1, t1, z1⟩ := I.list (dD.of (sG _ _ h));unfold bP;exact ⟨SeqAt.RcAt.bool_list a t1.isList hu0, SeqAt.RcNeAt.bool_list a t1.isList hu0⟩
  | int a =>
    obtain ⟨tt, rfl⟩ := ru;cases ry with
    | scr _ => unfold bf at n2;cases n2
    | dct _ => unfold bf at n2;cases n2
    | sen _ => unfold bf at n2;cases n2
    | ext _ => unfold bf at n2;cases n2
    | non => cases rv;unfold bP;exact ⟨SeqAt.RcAt.int_none a tt, SeqAt.RcNeAt.int_none a tt⟩
    | bl b => cases rv;unfold bP;exact ⟨SeqAt.RcAt.int_bool a tt b, SeqAt.RcNeAt.int_bool a tt b⟩
    | int i => obtain ⟨t, rfl⟩ := rv;unfold bP;exact ⟨SeqAt.RcAt.int_int a tt i t, SeqAt.RcNeAt.int_int a tt i t⟩
    | str z => obtain ⟨t, rfl⟩ := rv;unfold bP;exact ⟨SeqAt.RcAt.int_str a tt z t, SeqAt.RcNeAt.int_str a tt z t⟩
    | tup h l r => cases rv;obtain ⟨is, r1, t1, z1⟩ := I.tuple (aG sG (.inl (.inl h)));unfold bP;exact ⟨SeqAt.RcAt.int_tuple a tt t1 hu0, SeqAt.RcNeAt.int_tuple a tt t1 hu0⟩
    | lst h l r => cases rv;obtain ⟨is, r1, t1, z1⟩ := I.list (dD.of (sG _ _ h));unfold bP;exact ⟨SeqAt.RcAt.int_list a tt t1.isList hu0, SeqAt.RcNeAt.int_list a tt t1.isList hu0⟩
  | str a =>
    obtain ⟨tt, rfl⟩ := ru;cases ry with
    | scr _ => unfold bf at n2;cases n2
    | dct _ => unfold bf at n2;cases n2
    | sen _ => unfold bf at n2;cases n2
    | ext _ => unfold bf at n2;cases n2
    | non => cases rv;unfold bP;exact ⟨SeqAt.RcAt.str_none a tt, SeqAt.RcNeAt.str_none a tt⟩
    | bl b => cases rv;unfold bP;exact ⟨SeqAt.RcAt.str_bool a tt b, SeqAt.RcNeAt.str_bool a tt b⟩
    | int i => obtain ⟨t, rfl⟩ := rv;unfold bP;exact ⟨SeqAt.RcAt.str_int a tt i t, SeqAt.RcNeAt.str_int a tt i t⟩
    | str z => obtain ⟨t, rfl⟩ := rv;unfold bP;exact ⟨SeqAt.RcAt.str_str a tt z t, SeqAt.RcNeAt.str_str a tt z t⟩
    | tup h l r => cases rv;obtain ⟨is, r1, t1, z1⟩ := I.tuple (aG sG (.inl (.inl h)));unfold bP;exact ⟨SeqAt.RcAt.str_tuple a tt t1 hu0, SeqAt.RcNeAt.str_tuple a tt t1 hu0⟩
    | lst h l r => cases rv;obtain ⟨is, r1, t1, z1⟩ := I.list (dD.of (sG _ _ h));unfold bP;exact ⟨SeqAt.RcAt.str_list a tt t1.isList hu0, SeqAt.RcNeAt.str_list a tt t1.isList hu0⟩
  | @tup a vs ds h l r =>
    cases ru;obtain ⟨is, r1, t1, z1⟩ := I.tuple (aG sG (.inl (.inl h)));cases ry with
    | scr _ => unfold bf at n2;cases n2
    | dct _ => unfold bf at n2;cases n2
    | sen _ => unfold bf at n2;cases n2
    | ext _ => unfold bf at n2;cases n2
    | non => cases rv;unfold bP;exact ⟨SeqAt.RcAt.tuple_none t1 hu0, SeqAt.RcNeAt.tuple_none t1 hu0⟩
    | bl b => cases rv;unfold bP;exact ⟨SeqAt.RcAt.tuple_bool b t1 hu0, SeqAt.RcNeAt.tuple_bool b t1 hu0⟩
    | int i => obtain ⟨t, rfl⟩ := rv;unfold bP;exact ⟨SeqAt.RcAt.tuple_int i t t1 hu0, SeqAt.RcNeAt.tuple_int i t t1 hu0⟩
    | str z => obtain ⟨t, rfl⟩ := rv;unfold bP;exact ⟨SeqAt.RcAt.tuple_str z t t1 hu0, SeqAt.RcNeAt.tuple_str z t t1 hu0⟩
    | lst h2 l2 rr2 => cases rv;obtain ⟨is2, r2, t2, z2⟩ := I.list (dD.of (sG _ _ h2));unfold bP;exact ⟨SeqAt.RcAt.tuple_list t1 t2.isList hu0, SeqAt.RcNeAt.tuple_list t1 t2.isList hu0⟩
    | @tup a' vs' ds' h2 l2 rr2 =>
      cases rv;obtain ⟨is2, r2, t2, z2⟩ := I.tuple (aG sG (.inl (.inl h2)));unfold bP;unfold dep at hu;unfold bf at n1 n2;have it := items_eqAt (A := A.in1) (s := s) (X := X) (G := G) r1 r2 (az l r) (az l2 rr2) λi d d' x y u v e1 e2 k1 k2 w1 w2 =>
        wo I sG (gP ds) d d' (ir e1) (cz n1 e1) (cz n2 e2) k1 k2 w1 w2 (by show A.units + 1 + gP ds < cLine;lia)
      have key := SeqAt.RcAt.tuples (A := A) (s := s) (e := jb ds ds') t1 t2 hu0 it;have key' := SeqAt.RcNeAt.tuples (A := A) (s := s) (e := jb ds ds') t1 t2 hu0 it;rw [sz r1 (az l r), sz r2 (az l2 rr2), <- jS] at key key';exact ⟨key, key'⟩
  | @lst a vs ds h l r =>
    cases ru;obtain ⟨is, r1, t1, z1⟩ := I.list (dD.of (sG _ _ h));cases ry with
    | scr _ => unfold bf at n2;cases n2
    | dct _ => unfold bf at n2;cases n2
    | sen _ => unfold bf at n2;cases n2
    | ext _ => unfold bf at n2;cases n2
    | non => cases rv;unfold bP;exact ⟨SeqAt.RcAt.list_none t1.isList hu0, SeqAt.RcNeAt.list_none t1.isList hu0⟩
    | bl b => cases rv;unfold bP;exact ⟨SeqAt.RcAt.list_bool b t1.isList hu0, SeqAt.RcNeAt.list_bool b t1.isList hu0⟩
    | int i => obtain ⟨t, rfl⟩ := rv;unfold bP;exact ⟨SeqAt.RcAt.list_int i t t1.isList hu0, SeqAt.RcNeAt.list_int i t t1.isList hu0⟩
    | str z => obtain ⟨t, rfl⟩ := rv;unfold bP;exact ⟨SeqAt.RcAt.list_str z t t1.isList hu0, SeqAt.RcNeAt.list_str z t t1.isList hu0⟩
    | tup h2 l2 rr2 => cases rv;obtain ⟨is2, r2, t2, z2⟩ := I.tuple (aG sG (.inl (.inl h2)));unfold bP;exact ⟨SeqAt.RcAt.list_tuple t1.isList t2 hu0, SeqAt.RcNeAt.list_tuple t1.isList t2 hu0⟩
    | @lst a' vs' ds' h2 l2 rr2 =>
      cases rv;obtain ⟨is2, r2, t2, z2⟩ := I.list (dD.of (sG _ _ h2));unfold bP;unfold dep at hu;unfold bf at n1 n2;by_cases hlen : ds.length = ds'.length
      · have it := items_eqAt (A := A.in1) (s := s) (X := X) (G := G) r1 r2 (az l r) (az l2 rr2) λi d d' x y u v e1 e2 k1 k2 w1 w2 =>
          wo I sG (gP ds) d d' (ir e1) (cz n1 e1) (cz n2 e2) k1 k2 w1 w2 (by show A.units + 1 + gP ds < cLine;lia)
        have e0 : is.toArray.size = is2.toArray.size := by rw [sz r1 (az l r), sz r2 (az l2 rr2)];exact hlen
        have key := SeqAt.RcAt.lists (A := A) (s := s) (e := jb ds ds') t1.isList t2.isList e0 hu0 it;have key' := SeqAt.RcNeAt.lists (A := A) (s := s) (e := jb ds ds') t1.isList t2.isList e0 hu0 it;rw [sz r1 (az l r), <- rj hlen] at key key';exact ⟨key, key'⟩
      · rw [rh hlen];have e0 : (is.toArray.size != is2.toArray.size) = true := by rw [sz r1 (az l r), sz r2 (az l2 rr2)];simpa using hlen
        exact ⟨SeqAt.RcAt.lists_lengths t1.isList t2.isList e0 hu0, SeqAt.RcNeAt.lists_lengths t1.isList t2.isList e0 hu0⟩
noncomputable def Cr (K : Frag)(u : Nat)(neg : Bool):R2 := λx y H Q => ∃ G dx dy, ak G H /\ Rep K G x dx /\ Rep K G y dy /\ bf dx = true /\ bf dy = true /\ u + dep dx < cLine /\ Q (.bl (if neg then !(bP dx dy) else bP dx dy)) H
theorem AS : i9 X (compareOp .Eq) (Cr X.K X.A.units false) := by
  intro pins s σ H x y v u Q I rx ry h;obtain ⟨G, dx, dy, sG, r1, r2, n1, n2, hu, q⟩ := h;exact (xG I sG n1 n2 r1 r2 rx ry hu).1 _ _ _ _ ⟨.bl _, H, I, rfl, q⟩
theorem AW : i9 X (compareOp .NotEq) (Cr X.K X.A.units true) := by
  intro pins s σ H x y v u Q I rx ry h;obtain ⟨G, dx, dy, sG, r1, r2, n1, n2, hu, q⟩ := h;exact (xG I sG n1 n2 r1 r2 rx ry hu).2 _ _ _ _ ⟨.bl _, H, I, rfl, q⟩
noncomputable def Du : D2 := λx y Q => (bf x = true /\ bf y = true /\ dep x <= 60) /\ Q (.p (.bl (bP x y)))
noncomputable def C7 : D2 := λx y Q => (bf x = true /\ bf y = true /\ dep x <= 60) /\ Q (.p (.bl (!(bP x y))))
theorem wR {k : Nat}(hr : cF k X.A):m9 X (compareOp .Eq) Du :=
  ⟨_, AS, by rintro H G x y dx dy P Q s rx ry ⟨⟨h1, h2, h3⟩, h4⟩ c;exact ⟨G, dx, dy, s, rx, ry, h1, h2, by have := hr.units;lia, c _ _ H G h4 (Wd.refl s) (.bl _)⟩⟩
theorem oZ {k : Nat}(hr : cF k X.A):m9 X (compareOp .NotEq) C7 :=
  ⟨_, AW, by rintro H G x y dx dy P Q s rx ry ⟨⟨h1, h2, h3⟩, h4⟩ c;exact ⟨G, dx, dy, s, rx, ry, h1, h2, by have := hr.units;lia, c _ _ H G h4 (Wd.refl s) (.bl _)⟩⟩
end
end DL
namespace DL
open PySem L2
section
variable {X : Cx} {a b c e : Expr} {ta tb tc te : DT} {pos : Pos} {es : List Expr}
noncomputable def D.told : D -> Bool
  | .ext _ => false
  | _ => true
theorem yH {K : Frag}{T : String}(h : T = "int" \/ T = "bool" \/ T = "str" \/ T = "tuple" \/ T = "list")(d : D):kitOne K (.type (ED d)) (.type T) = some (zM T d) := by
  rcases h with rfl | rfl | rfl | rfl | rfl <;> cases d <;> rfl
theorem ot : fI X (.builtin "isinstance") (λxs H Q => ∃ G x d T, xs = [x, .ty T] /\ ak G H /\ Rep X.K G x d /\ d.told = true /\ (T = "int" \/ T = "bool" \/ T = "str" \/ T = "tuple" \/ T = "list") /\ Q (.bl (zM T d)) H) := by
  intro pins s σ H xs us Q I r h;obtain ⟨G, x, d, T, rfl, sG, rx, hd, hT, q⟩ := h;obtain ⟨u, w', rfl, ru, rw'⟩ := vals2 r;cases (show w' = Value.type T from rw');have e := yH (K := X.K) hT d;have fin : ∀ tk, EP X pins σ Q (.bool (zM T d)) { s with toks := tk } := λtk => ⟨.bl _, H, I.tok tk, rfl, q⟩
  cases rx with
  | non => exact iR I ru .non e fin
  | bl b => exact iR I ru (.bl b) e fin
  | int i => exact iR I ru (.int i) e fin
  | str z => exact iR I ru (.str z) e fin
  | @tup a vs ds h l r =>
    cases ru;obtain ⟨is, r1, ⟨o, h1, h2, _⟩, z1⟩ := I.tuple (aG sG (.inl (.inl h)));exact kia_one kitx_tuple I.iY ⟨o, h1, h2⟩ e (λz => nomatch z) fin
  | @lst a vs ds h l r =>
    cases ru;obtain ⟨is, r1, t1, z1⟩ := I.list (dD.of (sG _ _ h));obtain ⟨o, h1, h2, _⟩ := t1.isList;exact kia_one kitx_list I.iY ⟨o, h1, h2⟩ e (λz => nomatch z) fin
  | @dct a kvs h =>
    cases ru;obtain ⟨_, _, _, _, o, _, _, h1, h2, _⟩ := Rd.ok (lC sG h) I.aX;exact kia_one kitx_dict I.iY ⟨o, h1, h2.1⟩ e (λz => nomatch z) fin
  | @sen a kvs h =>
    cases ru;obtain ⟨_, _, _, _, o, _, _, h1, h2, _⟩ := Rd.ok (lC sG h) I.aX;exact kia_one kitx_dict I.iY ⟨o, h1, h2.1⟩ e (λz => nomatch z) fin
  | ext h => cases hd
  | @scr a ns h =>
    cases ru;obtain ⟨is, r1, t1, z1⟩ := I.list (sG.seq h);obtain ⟨o, h1, h2, _⟩ := t1.isList;exact kia_one kitx_list I.iY ⟨o, h1, h2⟩ e (λz => nomatch z) fin
noncomputable def yC (T : String)(d : D)(Q : B -> Prop):Prop := match d with
  | .ext _ => False
  | d => Q (.p (.bl (zM T d)))
noncomputable def gi (T : String)(te : DT):DT := λρ Q => te ρ λb => yC T b.val Q
theorem yD {T : String}{d : D}{Q : B -> Prop}(h : yC T d Q):d.told = true /\ Q (.p (.bl (zM T d))) := by
  cases d with
  | ext _ => exact h.elim
  | _ => exact ⟨rfl, h⟩
theorem rT {T : String}{p : Pos}{e2 : Expr}(hT : T = "int" \/ T = "bool" \/ T = "str" \/ T = "tuple" \/ T = "list")(hg : Gl X "isinstance")(hm : X.mg "isinstance" = none)(he : DE X e te)(h2 : PE X e2 (tC (.ty T)))
    (hs :autoParam (starEach (e :: [e2]) X.env = (false, eval e X.env) :: starEach [e2] X.env) aZa._auto_1) (hs2 :autoParam (starEach (e2 :: []) X.env = (false, eval e2 X.env) :: starEach [] X.env) aZa._auto_1) (hpl :autoParam ((backTo pos (starEach [e2] X.env)).any (·.1) = false) aZa._auto_1):DE X (.Call (.Name "isinstance" p) [e, e2] [] pos) (gi T te) :=
  DE.of (q9 ot hg hm boot_isinstance (aj he.pe (aj h2 aN hs2) hs) (he := hs) (hpl := hpl))<|by
    rintro σ H Q ⟨G, ρ, P, s, re, h, k⟩;refine ⟨G, ρ, _, s, re, h, λb v H1 G1 p1 w1 r1 => ?_⟩;obtain ⟨G1', w1', r1'⟩ := r1.give w1;obtain ⟨p0, p1⟩ := yD p1;exact ⟨G1', v, b.val, T, rfl, w1'.gh, r1', p0, hT, k _ _ H1 G1' p1 w1' (.bl _)⟩
end
inductive Tg where
  | n (i : Nat) | t (is : List Nat)
noncomputable def jn : List Nat -> zA
  | [] => BZ
  | i :: is => zJ (qJ i) (jn is)
noncomputable def Tg.v (K : Frag):Tg -> TG
  | .n i => qJ i
  | .t is => B0 K is.length (jn is)
noncomputable def putN : List Nat -> List D -> aD -> (aD -> Prop) -> Prop
  | [], [], ρ, P => P ρ
  | i :: is, d :: ds, ρ, P => putN is ds (dput ρ i (.p d)) P
  | _, _, _, _ => False
noncomputable def Tg.d : Tg -> D -> aD -> (aD -> Prop) -> Prop
  | .n i, d, ρ, P => P (dput ρ i (.p d))
  | .t is, .tup ds, ρ, P => putN is ds ρ P
  | .t is, .lst ds, ρ, P => putN is ds ρ P
  | .t _, _, _, _ => False
noncomputable def Tg.is : Tg -> List Nat
  | .n i => [i]
  | .t is => is
noncomputable def oi (K : Frag)(H0 G H : Hp)(w : Addr -> Nat)(i : Nat)(a : Addr)(t : Ct)(dss : List D):Prop := ∃ as : List Addr, as.Nodup /\ Paired (λx ds => H0 x = none /\ w x = i /\ dN K G H x ds) as dss /\ t.On (H0 a = none /\ w a = i) G H a as
structure mO (K : Frag)(H0 G H : Hp)(w : Addr -> Nat)(σ : St)(ρ : aD):Prop where
  len : σ.length = ρ.length
  p : ∀ i d, aY ρ i = some (.p d) -> ∃ v, σ[i]? = some (some v) /\ Rep K G v d
  o : ∀ i d, aY ρ i = some (.o d) -> ∃ a, σ[i]? = some (some (.ref a)) /\ H0 a = none /\ w a = i /\ dN K G H a d
  n : ∀ i t dss, aY ρ i = some (.n t dss) -> ∃ a, σ[i]? = some (some (.ref a)) /\ oi K H0 G H w i a t dss
noncomputable def bY (K : Frag)(H0 G H : Hp)(σ : St)(ρ : aD):Prop := ∃ w, mO K H0 G H w σ ρ
section
variable {K : Frag} {H0 G H : Hp} {σ : St} {ρ : aD}
theorem bY.p (h : bY K H0 G H σ ρ):∀ i d, aY ρ i = some (.p d) -> ∃ v, σ[i]? = some (some v) /\ Rep K G v d := by obtain ⟨w, h⟩ := h;exact h.p
theorem bY.only (l : σ.length = ρ.length)(hp : cW K G σ ρ)(h : ∀ i b, aY ρ i = some b -> ∃ d, b = .p d):bY K H0 G H σ ρ := by
  refine ⟨λ_ => 0, l, hp, λi d e => ?_, λi t dss e => ?_⟩
  · obtain ⟨_, q⟩ := h i _ e;cases q
  · obtain ⟨_, q⟩ := h i _ e;cases q
end
theorem dN.fe {K : Frag}{G H G' H' : Hp}{a : Addr}{d : D}(h : dN K G H a d)(hg : ak G G')(hn : G' a = none)(hh : ∀ o, H a = some o -> H' a = some o):dN K G' H' a d := by
  obtain ⟨h1, h2⟩ := h;refine ⟨hn, ?_⟩;cases d with
  | lst ds => obtain ⟨vs, e, r⟩ := h2;exact ⟨vs, hh _ e, bE.mono hg r⟩
  | non => exact h2
  | bl _ => exact h2
  | int _ => exact h2
  | str _ => exact h2
  | tup _ => exact h2
  | scr _ => exact h2
  | dct kvs => exact hh _ h2
  | sen kvs => exact hh _ h2
  | ext x => exact fx.fe h2 hg hh
theorem dN.chg {K : Frag}{G H : Hp}{a : Addr}{d : D}(h : dN K G H a d):Ac H a := by
  obtain ⟨h1, h2⟩ := h;cases d with
  | lst ds => obtain ⟨vs, e, r⟩ := h2;exact ⟨_, e, λ_ z => nomatch z⟩
  | non => exact h2.elim
  | bl _ => exact h2.elim
  | int _ => exact h2.elim
  | str _ => exact h2.elim
  | tup _ => exact h2.elim
  | scr _ => exact h2.elim
  | dct kvs => exact ⟨_, h2, λ_ z => nomatch z⟩
  | sen kvs => exact ⟨_, h2, λ_ z => nomatch z⟩
  | ext x => obtain ⟨es, e⟩ := fx.obj h2;exact ⟨_, e, λ_ z => nomatch z⟩
theorem dN.there {K : Frag}{G H : Hp}{a : Addr}{d : D}(h : dN K G H a d):H a ≠ none := h.chg.there
theorem kK {α β : Type}{F F' : α -> β -> Prop}{l : List α}{r : List β}(k : ∀ x d, x ∈ l -> F x d -> F' x d)(h : Paired F l r):Paired F' l r := by
  induction h with
  | nil => exact .nil
  | cons f _ ih => exact .cons (k _ _ mem_cons_self f) (ih λx d m => k x d (mem_cons_of_mem _ m))
theorem q5 {α β : Type}{F : α -> β -> Prop}{l : List α}{r : List β}(h : Paired F l r):∀ x ∈ l, ∃ d, F x d := by
  induction h with
  | nil => intro x m;cases m
  | cons f _ ih =>
    intro x m;rcases List.mem_cons.mp m with rfl | m
    · exact ⟨_, f⟩
    · exact ih x m
theorem oi.fe {K : Frag}{H0 G H G' H' : Hp}{w w' : Addr -> Nat}{i : Nat}{a : Addr}{t : Ct}{dss : List D}(h : oi K H0 G H w i a t dss)(hg : ak G G')(hn : ∀ x, H0 x = .none -> w x = i -> G x = .none -> Ac H x -> G' x = .none /\ w' x = i /\ ∀ o, H x = some o -> H' x = some o):oi K H0 G' H' w' i a t dss := by
  obtain ⟨as, nd, pr, e⟩ := h;have pr' := kK (F' := λx ds => H0 x = none /\ w' x = i /\ dN K G' H' x ds) ( by
    rintro x d m ⟨h1, h2, h3⟩;obtain ⟨k1, k2, k3⟩ := hn x h1 h2 h3.1 h3.chg;exact ⟨h1, k2, h3.fe hg k1 k3⟩) pr
  exact ⟨as, nd, pr', e.imp hg λf g c => by
    obtain ⟨k1, k2, k3⟩ := hn a f.1 f.2 g c;exact ⟨⟨f.1, k2⟩, k1, k3⟩⟩
theorem mO.on {K : Frag}{H0 G H G' H' : Hp}{o : Addr -> Nat}{σ : St}{ρ : aD}(h : mO K H0 G H o σ ρ)(w : Wd H G H' G'):mO K H0 G' H' o σ ρ :=
  ⟨h.len, λi d e => by obtain ⟨v, h1, h2⟩ := h.p i d e;exact ⟨v, h1, h2.mono w.gg⟩, λi d e => by
    obtain ⟨a, h1, h2, h2', h3⟩ := h.o i d e;exact ⟨a, h1, h2, h2', h3.fe w.gg (by rw [w.old a h3.chg];exact h3.1) λo q => w.hh _ _ q⟩, λi t dss e => by
    obtain ⟨a, h1, h2⟩ := h.n i t dss e;exact ⟨a, h1, h2.fe w.gg λx k1 k2 k3 k4 => ⟨by rw [w.old x k4];exact k3, k2, λo q => w.hh _ _ q⟩⟩⟩
theorem bY.on {K : Frag}{H0 G H G' H' : Hp}{σ : St}{ρ : aD}(h : bY K H0 G H σ ρ)(w : Wd H G H' G'):bY K H0 G' H' σ ρ := by
  obtain ⟨o, h⟩ := h;exact ⟨o, h.on w⟩
theorem eG {σ : St}{i j : Nat}{v : V}(h : i ≠ j):(σ.set i (some v))[j]? = σ[j]? := by rw [List.getElem?_set_ne h]
theorem mE {σ : St}{i : Nat}{v : V}(h : i < σ.length):(σ.set i (some v))[i]? = some (some v) := by rw [List.getElem?_set_self h]
theorem bY.A9 {K : Frag}{H0 G H : Hp}{σ : St}{ρ : aD}{v : V}{d : D}(h : bY K H0 G H σ ρ)(i : Nat)(r : Rep K G v d):bY K H0 G H (σ.set i (some v)) (dput ρ i (.p d)) := by
  obtain ⟨o, h⟩ := h;refine ⟨o, by rw [length_set, iu];exact h.len, λj d' e => ?_, λj d' e => ?_, λj t dss e => ?_⟩
  · rcases cx e with ⟨rfl, hl, e⟩ | ⟨hne, e⟩
    · cases e;exact ⟨v, mE (by rw [h.len];exact hl), r⟩
    · obtain ⟨w, h1, h2⟩ := h.p j d' e;exact ⟨w, by rw [eG hne];exact h1, h2⟩
  · rcases cx e with ⟨rfl, hl, e⟩ | ⟨hne, e⟩
    · cases e
    · obtain ⟨a, h1, h2⟩ := h.o j d' e;exact ⟨a, by rw [eG hne];exact h1, h2⟩
  · rcases cx e with ⟨rfl, hl, e⟩ | ⟨hne, e⟩
    · cases e
    · obtain ⟨a, h1, h2⟩ := h.n j t dss e;exact ⟨a, by rw [eG hne];exact h1, h2⟩
theorem mO.BH {K : Frag}{H0 G H : Hp}{o : Addr -> Nat}{σ : St}{ρ : aD}(h : mO K H0 G H o σ ρ){o' : Addr -> Nat}(q : ∀ x, H x ≠ .none -> o' x = o x):mO K H0 G H o' σ ρ :=
  ⟨h.len, h.p, λj d e => by
    obtain ⟨a, h1, h2, h3, h4⟩ := h.o j d e;exact ⟨a, h1, h2, by rw [q a h4.there];exact h3, h4⟩, λj t dss e => by
    obtain ⟨a, h1, h2⟩ := h.n j t dss e;exact ⟨a, h1, h2.fe (ak.refl _) λx k1 k2 k3 k4 => ⟨k3, by rw [q x k4.there];exact k2, λo q => q⟩⟩⟩
theorem bY.DY {K : Frag}{H0 G H G' H' : Hp}{σ : St}{ρ : aD}{a : Addr}{d : D}(h : bY K H0 G H σ ρ)(w : Wd H G H' G')(i : Nat)(h0 : H0 a = none)(hn : H a = none)(r : dN K G' H' a d):bY K H0 G' H' (σ.set i (some (.ref a))) (dput ρ i (.o d)) := by
  obtain ⟨o, h⟩ := h;have h2 := (h.BH (o' := λx => if x = a then i else o x) λx q => if_neg λe : x = a => q (e ▸ hn)).on w;refine ⟨λx => if x = a then i else o x, by rw [length_set, iu];exact h.len, λj d' e => ?_, λj d' e => ?_, λj t dss e => ?_⟩
  · rcases cx e with ⟨rfl, hl, e⟩ | ⟨hne, e⟩
    · cases e
    · obtain ⟨w, h1, h2⟩ := h2.p j d' e;exact ⟨w, by rw [eG hne];exact h1, h2⟩
  · rcases cx e with ⟨rfl, hl, e⟩ | ⟨hne, e⟩
    · cases e;exact ⟨a, mE (by rw [h.len];exact hl), h0, if_pos rfl, r⟩
    · obtain ⟨b, h1, h2⟩ := h2.o j d' e;exact ⟨b, by rw [eG hne];exact h1, h2⟩
  · rcases cx e with ⟨rfl, hl, e⟩ | ⟨hne, e⟩
    · cases e
    · obtain ⟨b, h1, h2⟩ := h2.n j t dss e;exact ⟨b, by rw [eG hne];exact h1, h2⟩
theorem bY.Co {K : Frag}{H0 G H G' H' : Hp}{σ : St}{ρ : aD}{a : Addr}{as : List Addr}{ds : List D}{t : Ct}(h : bY K H0 G H σ ρ)(w : Wd H G H' G')(hh : ak H0 H)(i : Nat)(nd : as.Nodup)(pr : Paired (λx d => H x = none /\ dN K G' H' x d) as ds)(q : t.On (H a = none) G' H' a as):bY K H0 G' H' (σ.set i (some (.ref a))) (dput ρ i (.n t ds)) := by
  obtain ⟨o, h⟩ := h;have h2 := (h.BH (o' := λx => if (t.own = true /\ x = a) \/ x ∈ as then i else o x) λx z => if_neg λm => by
    rcases m with ⟨to, rfl⟩ | m
    · unfold Ct.On at q;rw [to] at q;exact z q.1
    · obtain ⟨_, k, _⟩ := q5 pr x m;exact z k).on w
  refine ⟨λx => if (t.own = true /\ x = a) \/ x ∈ as then i else o x, by rw [length_set, iu];exact h.len, λj d' e => ?_, λj d' e => ?_, λj t dss e => ?_⟩
  · rcases cx e with ⟨rfl, hl, e⟩ | ⟨hne, e⟩
    · cases e
    · obtain ⟨w, h1, h2⟩ := h2.p j d' e;exact ⟨w, by rw [eG hne];exact h1, h2⟩
  · rcases cx e with ⟨rfl, hl, e⟩ | ⟨hne, e⟩
    · cases e
    · obtain ⟨b, h1, h2⟩ := h2.o j d' e;exact ⟨b, by rw [eG hne];exact h1, h2⟩
  · rcases cx e with ⟨rfl, hl, e⟩ | ⟨hne, e⟩
    · cases e;refine ⟨a, mE (by rw [h.len];exact hl), as, nd, kK (λx d m z => ⟨hh.free z.1, if_pos (.inr m), z.2⟩) pr, ?_⟩;unfold Ct.On at q ⊢;cases to : t.own with
      | true =>
        rw [to] at q;exact ⟨⟨hh.free q.1, if_pos (.inl ⟨rfl, rfl⟩)⟩, q.2⟩
      | false =>
        rw [to] at q;exact q
    · obtain ⟨b, h1, h2⟩ := h2.n j t dss e;exact ⟨b, by rw [eG hne];exact h1, h2⟩
theorem pA {K : Frag}{H0 G H : Hp}:∀ {is : List Nat} {ds : List D} {vs : List V} {σ : St} {ρ : aD} {P : aD -> Prop} {Q : St -> Hp -> Prop}, bY K H0 G H σ ρ -> bE K G vs ds -> putN is ds ρ P -> (∀ σ' ρ', bY K H0 G H σ' ρ' -> P ρ' -> Q σ' H) -> jn is vs σ H Q
  | [], [], _, σ, ρ, P, Q, h, r, p, k => by cases r;exact ⟨rfl, k _ _ h p⟩
  | i :: is, d :: ds, _, σ, ρ, P, Q, h, r, p, k => by
    cases r with
    | cons r rr => exact ⟨_, _, rfl, pA (h.A9 i r) rr p k⟩
  | [], _ :: _, _, _, _, _, _, _, _, p, _ => p.elim
  | _ :: _, [], _, _, _, _, _, _, _, p, _ => p.elim
theorem mz : ∀ {is : List Nat} {ds : List D} {ρ : aD} {P : aD -> Prop}, putN is ds ρ P -> is.length = ds.length
  | [], [], _, _, _ => rfl
  | _ :: is, _ :: ds, ρ, P, p => by rw [length_cons, length_cons, mz (is := is) p]
  | [], _ :: _, _, _, p => p.elim
  | _ :: _, [], _, _, p => p.elim
theorem Tg.ok {K : Frag}{H0 G H : Hp}{g : Tg}{d : D}{v : V}{σ : St}{ρ : aD}{P : aD -> Prop}{Q : St -> Hp -> Prop}(s : ak G H)(h : bY K H0 G H σ ρ)(r : Rep K G v d)(p : g.d d ρ P)(k : ∀ σ' ρ', bY K H0 G H σ' ρ' -> P ρ' -> Q σ' H):g.v K v σ H Q := by
  cases g with
  | n i => exact k _ _ (h.A9 i r) p
  | t is =>
    cases d with
    | tup ds =>
      obtain ⟨a, vs, rfl, e, rr⟩ := r.iW;exact ⟨a, vs, rfl, .inl (aG s e), by rw [Paired.length rr];exact (mz p).symm, pA h rr p k⟩
    | lst ds =>
      obtain ⟨a, vs, rfl, e, rr⟩ := r.lst_inv;exact ⟨a, vs, rfl, .inr (dD.of (s _ _ e)), by rw [Paired.length rr];exact (mz p).symm, pA h rr p k⟩
    | non => exact p.elim
    | bl _ => exact p.elim
    | int _ => exact p.elim
    | str _ => exact p.elim
    | scr _ => exact p.elim
    | dct _ => exact p.elim
    | sen _ => exact p.elim
    | ext _ => exact p.elim
structure x9 (K : Frag)(G0 : Hp)(J : It)(xs : List D):Prop where
  go : ∀ i d H G, xs[i]? = some d -> ak G0 G -> ak G H -> J.go i H
  ux : ∀ i d H G x H', xs[i]? = some d -> ak G0 G -> ak G H -> J.ux i H x H' -> ∃ G', Wd H G H' G' /\ Rep K G' x d
  stop : ∀ i H G, i = xs.length -> ak G0 G -> ak G H -> J.stop i H
noncomputable def cI (K : Frag)(t : eI):TI := λσ H R => ∃ (G : Hp) (ρ : aD) (P : List D -> Prop), ak G H /\ cW K G σ ρ /\ t ρ P /\ ∀ xs J H' G', P xs -> Wd H G H' G' -> x9 K G' J xs -> R J H'
structure DI (X : Cx)(tg e : Expr)(t : eI):Prop where
  pi : PI X tg e (cI X.K t)
theorem PI.imp {X : Cx}{tg e : Expr}{t t' : TI}(h : PI X tg e t)(i : ∀ σ H Q, t' σ H Q -> t σ H Q):PI X tg e t' := λpins s σ H Q I q => h pins s σ H Q I (i σ H Q q)
theorem DI.of {X : Cx}{tg e : Expr}{t : TI}{t' : eI}(h : PI X tg e t)(i : ∀ σ H Q, cI X.K t' σ H Q -> t σ H Q):DI X tg e t' := ⟨PI.imp h i⟩
section
variable {X : Cx} {tg e : Expr} {te : DT} {pos : Pos}
theorem qP {K : Frag}{G : Hp}{a : Addr}{vs : List V}{ds : List D}(h : dD K G a vs)(r : bE K G vs ds):x9 K G (Dk K a) ds where
  go := λi d H G' e s1 s2 => by
    obtain ⟨v, h1, h2⟩ := cH r e;exact ⟨vs, v, (s1.trans s2).seq h, h1⟩
  ux := by
    rintro i d H G' x H' e s1 s2 ⟨eH, y⟩;obtain ⟨v, h1, h2⟩ := cH r e;have := y vs ((s1.trans s2).seq h);rw [h1] at this;cases this;subst eH;exact ⟨G', Wd.refl s2, h2.mono s1⟩
  stop := λi H G' hi s1 s2 => ⟨vs, (s1.trans s2).seq h, by rw [Paired.length r, hi];exact Nat.le_refl _⟩
noncomputable def cN (te : DT):eI := λρ P => te ρ λb => match b.val with
  | .lst xs => P xs
  | .scr ns => P (ns.map D.int)
  | _ => False
set_option tactic.hygienic true in
theorem gQ (he : DE X e te):DI X tg e (cN te) := DI.of (zd he.pe)<|by
  rintro σ H R ⟨G, ρ, P, s, re, h, k⟩;refine ⟨G, ρ, _, s, re, h, λb v H1 G1 p1 w1 r1 => ?_⟩;obtain ⟨G1', w1', r1'⟩ := r1.give w1;split at p1
  · rename_i xs e;rw [e] at r1';obtain ⟨a, us, rfl, e, rr⟩ := r1'.lst_inv;exact ⟨a, rfl, ⟨us, dD.of (w1'.gh _ _ e)⟩, k _ _ H1 G1' p1 w1' (qP (dD.of e) rr)⟩
  · rename_i ns e;rw [e] at r1';cases r1' with
    | scr e => exact ⟨_, rfl, ⟨_, w1'.gh.seq e⟩, k _ _ H1 G1' p1 w1' (qP e (j5 ns))⟩
  · exact p1.elim
noncomputable def eZ (te : DT):eI := λρ P => te ρ λb => match b.val with
  | .tup xs => P xs
  | _ => False
noncomputable def fE (lo : Int)(n : Nat):List D := (List.range n).map λi => D.int (lo + (i : Nat))
theorem mH {lo : Int}{n i : Nat}{d : D}(h : (fE lo n)[i]? = some d):i < n /\ d = .int (lo + (i : Nat)) := by
  unfold fE at h;rw [getElem?_map] at h;by_cases hi : i < n
  · rw [List.getElem?_range hi] at h;exact ⟨hi, (Option.some.inj h).symm⟩
  · rw [List.getElem?_eq_none (by simpa using hi)] at h;cases h
theorem mI (lo : Int)(n : Nat):(fE lo n).length = n := by unfold fE;simp
theorem yE {K : Frag}{G : Hp}{lo : Int}{n : Nat}:x9 K G (C1 lo n) (fE lo n) where
  go := λi d H G' e s1 s2 => (mH e).1
  ux := by
    rintro i d H G' x H' e s1 s2 ⟨eH, y⟩;obtain ⟨h1, rfl⟩ := mH e;subst eH;subst y;exact ⟨G', Wd.refl s2, .int _⟩
  stop := λi H G' hi s1 s2 => by rw [mI] at hi;rw [hi];exact Nat.le_refl n
noncomputable def cy (t : eI):eI := λρ P => t ρ λds => match ds with
  | [.int j] => (-(2 ^ 62) <= j /\ j < 2 ^ 62) /\ P (fE 0 j.toNat)
  | _ => False
noncomputable def du (t : eI):eI := λρ P => t ρ λds => match ds with
  | [.int i, .int j] => (-(2 ^ 62) <= i /\ i < 2 ^ 62 /\ -(2 ^ 62) <= j /\ j < 2 ^ 62) /\ P (fE i (j - i).toNat)
  | _ => False
end
noncomputable def iw (fr : List (Option Nat))(ρ : aD):aD := fr.map λo => match o with
  | none => none
  | some j => aY ρ j
theorem oG : ∀ (ρ : aD) (i : Nat), aY ρ i = (ρ[i]?).getD none
  | [], _ => by simp [aY]
  | _ :: _, 0 => by simp [aY]
  | _ :: r, i + 1 => by simp [aY, oG r i]
theorem tO {fr : List (Option Nat)}{ρ : aD}{i : Nat}{b : B}(h : aY (iw fr ρ) i = some b):∃ j, fr[i]? = some (some j) /\ aY ρ j = some b := by
  rw [oG] at h;unfold iw at h;rw [getElem?_map] at h;cases e : fr[i]? with
  | none => rw [e] at h;cases h
  | some o =>
    rw [e] at h;cases o with
    | none => cases h
    | some j => exact ⟨j, rfl, h⟩
theorem yz {fr : List (Option Nat)}{σ : St}{i j : Nat}{v : V}(h1 : fr[i]? = some (some j))(h2 : σ[j]? = some (some v)):(j4 fr σ)[i]? = some (some v) := by
  unfold j4;rw [getElem?_map, h1];show some ((σ[j]?).getD none) = _;rw [h2];rfl
noncomputable def bw (ρ : aD):aD := ρ.map λo => match o with
  | some (.p d) => some (.p d)
  | _ => none
theorem kh {ρ : aD}{i : Nat}{b : B}(h : aY (bw ρ) i = some b):∃ d, b = .p d /\ aY ρ i = some (.p d) := by
  rw [oG] at h ⊢;unfold bw at h;rw [getElem?_map] at h;cases e : ρ[i]? with
  | none => rw [e] at h;cases h
  | some o =>
    rw [e] at h;cases o with
    | none => cases h
    | some b' =>
      cases b' with
      | p d => exact ⟨d, (Option.some.inj h).symm, rfl⟩
      | o d => cases h
      | n _ _ => cases h
noncomputable def x5 (xs : List D)(g : Tg)(tc : gJ)(te : DT)(ρ : aD)(Q : B -> Prop):Prop := xs.length <= sizeLine /\ ∃ F : D -> Option D -> Prop,
  (∀ x ∈ xs, g.d x ρ λρ' => tc ρ' λc => (c = true -> te ρ' λb => F x (some b.val)) /\ (c = false -> F x none)) /\ ∀ os, Paired F xs os -> Q (.o (.lst (os.filterMap id)))
noncomputable def mQ (ti : eI)(fr : List (Option Nat))(g : Tg)(tc : gJ)(te : DT):DT := λρ Q => ti ρ λxs => x5 xs g tc te (bw (iw fr ρ)) Q
noncomputable def ck : gJ := λ_ P => P true
theorem gA {α β : Type}{F : α -> β -> Prop}{xs : List α}{os : List β}{i : Nat}{x : α}{o : β}(h : Paired F (xs.take i) os)(e : xs[i]? = some x)(f : F x o):Paired F (xs.take (i + 1)) (os ++ [o]) := by
  rw [WS.take_snoc e];exact Paired.snoc h f
noncomputable def xR (fr : List (Option Nat))(g : Tg):Bool := g.is.all λi => match fr[i]? with
  | some none => true
  | _ => false
theorem n4 {K : Frag}{G H : Hp}{ρ0 : aD}:∀ {is : List Nat} {vs : List V} {σ : St} {Q : St -> Hp -> Prop}, (∀ i ∈ is, aY ρ0 i = none) -> cW K G σ ρ0 -> σ.length = ρ0.length -> jn is vs σ H Q -> jn is vs σ H λσ' H' => Q σ' H' /\ H' = H /\ cW K G σ' ρ0 /\ σ'.length = ρ0.length
  | [], _, σ, Q, _, h, l, ⟨e, q⟩ => ⟨e, q, rfl, h, l⟩
  | i :: is, _, σ, Q, hn, h, l, ⟨v, r, e, q⟩ => by
    refine ⟨v, r, e, n4 (is := is) (λj hj => hn j (mem_cons_of_mem _ hj)) (λj d hd => ?_) (by rw [length_set];exact l) q⟩;have hne : i ≠ j := by
      rintro rfl;rw [hn i mem_cons_self] at hd;cases hd
    obtain ⟨w, h1, h2⟩ := h j d hd;exact ⟨w, by rw [eG hne];exact h1, h2⟩
theorem zv {K : Frag}{G H : Hp}{ρ0 : aD}{g : Tg}{v : V}{σ : St}{Q : St -> Hp -> Prop}(hn : ∀ i ∈ g.is, aY ρ0 i = none)(h : cW K G σ ρ0)(l : σ.length = ρ0.length)(q : g.v K v σ H Q):g.v K v σ H λσ' H' => Q σ' H' /\ H' = H /\ cW K G σ' ρ0 /\ σ'.length = ρ0.length := by
  cases g with
  | n i =>
    refine ⟨q, rfl, λj d hd => ?_, by rw [length_set];exact l⟩;have hne : i ≠ j := by
      rintro rfl;rw [hn i (mem_singleton.mpr rfl)] at hd;cases hd
    obtain ⟨w, h1, h2⟩ := h j d hd;exact ⟨w, by rw [eG hne];exact h1, h2⟩
  | t is =>
    obtain ⟨a, xs, e, h1, h2, q⟩ := q;exact ⟨a, xs, e, h1, h2, n4 hn h l q⟩
structure x8 (X : Cx)(ifs : List Expr)(t : gJ):Prop where
  pf : rN X ifs (cT X.K t)
theorem gq {X : Cx}:x8 X [] ck := ⟨by rintro pins s σ H Q I ⟨G, ρ, P, sg, re, h, k⟩;exact xm pins s σ H Q I (k true H G h (Wd.refl sg))⟩
theorem lT {X : Cx}{c : Expr}{t : gJ}(h : pZ X c t):x8 X [c] t := ⟨xn h.pt⟩
theorem tY {K : Frag}{fr : List (Option Nat)}{g : Tg}{tc : gJ}{te : DT}(ht : xR fr g = true){σ : St}{H G : Hp}{Q : VK}{ρ : aD}{P : B -> Prop}(re : cW K G σ ρ)(k : ∀ b v H' G', P b -> Wd H G H' G' -> fO K H G' H' v b -> Q v H'){xs : List DL.D}{J : It}{H1 G1 : Hp}(p1 : x5 xs g tc te (bw (iw fr ρ)) P)(w1 : Wd H G H1 G1)(it : x9 K G1 J xs)(D : Addr)(hD : H1 D = none) :
    C2 J D (g.v K) (cT K tc) (cE K te) (Q (.ref D)) (j4 fr σ) (upd H1 D (.lst [])) := by
  obtain ⟨hz, F, hF, hP⟩ := p1;have hn : ∀ i ∈ g.is, aY (bw (iw fr ρ)) i = none := λi hi => by
    cases e : aY (bw (iw fr ρ)) i with
    | none => rfl
    | some b =>
      obtain ⟨d, rfl, e'⟩ := kh e;obtain ⟨j, h1, _⟩ := tO e';have := List.all_eq_true.mp ht i hi;rw [h1] at this;cases this
  have len0 : (bw (iw fr ρ)).length = fr.length := by unfold bw iw;simp
  have fn0 : (j4 fr σ).length = fr.length := by unfold j4;simp
  have rep0 : cW K G1 (j4 fr σ) (bw (iw fr ρ)) := λi d e => by
    obtain ⟨d', e1, e2⟩ := kh e;cases e1;obtain ⟨j, h1, h2⟩ := tO e2;obtain ⟨v, h3, h4⟩ := re j d h2;exact ⟨v, yz h1 h3, h4.mono w1.gg⟩
  have gD : G1 D = none := w1.gh.free hD;refine ⟨λi m ys σ' H' => m = xs.length - i /\ i <= xs.length /\ ∃ G' os, Wd H1 G1 H' G' /\ G' D = none /\ H' D = some (.lst ys) /\ ys.length <= i /\ Paired F (xs.take i) os /\ bE K G' ys (os.filterMap id) /\ cW K G' σ' (bw (iw fr ρ)) /\ σ'.length = (bw (iw fr ρ)).length, ⟨xs.length, by simp, Nat.zero_le _, G1, [], (Wd.refl w1.gh).own hD gD, gD, ah, Nat.le_refl _, by rw [List.take_zero];exact .nil, .nil, rep0, by rw [fn0, len0]⟩, ?_⟩;rintro i m ys σ' H' ⟨rfl, hi, G', os, w', gD', hD', hy, hos, hr, re', ln'⟩;by_cases hlt : i < xs.length
  · have hx : xs[i]? = some xs[i] := getElem?_eq_getElem hlt;refine .inr ⟨it.go i _ H' G' hx w'.gg w'.gh, λys' σ2 H2 => ∃ G2 os', Wd H1 G1 H2 G2 /\ G2 D = none /\ H2 D = some (.lst ys') /\ ys'.length <= i + 1 /\ Paired F (xs.take (i + 1)) os' /\ bE K G2 ys' (os'.filterMap id) /\ cW K G2 σ2 (bw (iw fr ρ)) /\ σ2.length = (bw (iw fr ρ)).length, by rintro ys' σ2 H2 ⟨G2, os', z⟩;exact ⟨xs.length - (i + 1), by lia, rfl, hlt, G2, os', z⟩, λx H2 y => ?_⟩;obtain ⟨G2, w2, r2⟩ := it.ux i _ H' G' x H2 hx w'.gg w'.gh y;have e2 : bY K H2 G2 H2 σ' (bw (iw fr ρ)) := bY.only ln' (re'.mono w2.gg) λj b e => by
        obtain ⟨d', e1, _⟩ := kh e;exact ⟨d', e1⟩
    have re2 : cW K G2 σ' (bw (iw fr ρ)) := e2.p;have w12 := w'.trans w2;have hD2 : H2 D = some (.lst ys) := w2.hh _ _ hD';have gD2 : G2 D = none := by rw [w2.old D ⟨_, hD', λ_ z => nomatch z⟩];exact gD'
    refine (?_ : g.v K x σ' H2 _);refine tgv_mono (zv hn re2 ln' (Tg.ok w2.gh e2 r2 (hF _ (List.getElem_mem hlt)) (Q := λσ3 H3 => H3 = H2 /\ ∃ ρ3, bY K H2 G2 H2 σ3 ρ3 /\ tc ρ3 λc => (c = true -> te ρ3 λb => F xs[i] (some b.val)) /\ (c = false -> F xs[i] none)) λσ3 ρ3 e3 p3 => ⟨rfl, ρ3, e3, p3⟩)) ?_;rintro σ3 H3 ⟨⟨rfl, ρ3, e3, p3⟩, _, re3, ln3⟩;refine ⟨G2, ρ3, _, w2.gh, e3.p, p3, λc H4 G4 p4 w4 => ?_⟩;have hD4 : H4 D = some (.lst ys) := w4.hh _ _ hD2;have gD4 : G4 D = none := by rw [w4.old D ⟨_, hD2, λ_ z => nomatch z⟩];exact gD2
    cases c with
    | true =>
      refine oW ⟨G4, ρ3, _, w4.gh, cW.mono w4.gg e3.p, p4.1 rfl, λb v H5 G5 p5 w5 r5 => ?_⟩;obtain ⟨G5', w5', r5'⟩ := r5.give w5;have hD5 : H5 D = some (.lst ys) := w5.hh _ _ hD4;have gD5 : G5' D = none := by rw [w5'.old D ⟨_, hD4, λ_ z => nomatch z⟩];exact gD4
      have w15 := (w12.trans w4).trans w5';refine ⟨hD5, by have : sizeLine = 16777216 := sizeLine_eq;lia, G5', os ++ [some b.val], w15.own hD gD5, gD5, ah, by rw [length_append, List.length_singleton];lia, gA hos hx p5, ?_, cW.mono (w4.trans w5').gg re3, ln3⟩;rw [List.filterMap_append];exact eM (bE.mono ((w2.trans w4).trans w5').gg hr) (.cons r5' .nil)
    | false =>
      refine kS ⟨G4, os ++ [none], w12.trans w4, gD4, hD4, by lia, gA hos hx (p4.2 rfl), ?_, cW.mono w4.gg re3, ln3⟩;rw [List.filterMap_append, show List.filterMap id [(none : Option DL.D)] = [] from rfl, append_nil];exact bE.mono (w2.trans w4).gg hr
  · have e : i = xs.length := by lia
    subst e;refine .inl ⟨it.stop _ H' G' rfl w'.gg w'.gh, ?_⟩;rw [List.take_length] at hos;exact k _ _ H' G' (hP os hos) (w1.trans w') ⟨D, rfl, w1.hh.free hD, gD', ys, hD', hr⟩
where
  tgv_mono {K : Frag} {g : Tg} {v : V} {σ : St} {H : Hp} {Q Q' : St -> Hp -> Prop} (h : g.v K v σ H Q) (i : ∀ σ' H', Q σ' H' -> Q' σ' H'):g.v K v σ H Q' := by
    cases g with
    | n j => exact i _ _ h
    | t is =>
      obtain ⟨a, xs, e, h1, h2, q⟩ := h;exact ⟨a, xs, e, h1, h2, names_mono q i⟩
  names_mono {Q Q' : St -> Hp -> Prop}:∀ {is : List Nat} {vs : List V} {σ : St} {H : Hp}, jn is vs σ H Q -> (∀ σ' H', Q σ' H' -> Q' σ' H') -> jn is vs σ H Q'
    | [], _, _, _, ⟨e, q⟩, i => ⟨e, i _ _ q⟩
    | _ :: is, _, _, _, ⟨v, r, e, q⟩, i => ⟨v, r, e, names_mono (is := is) q i⟩
theorem yJ {K : Frag}{ti : eI}{fr : List (Option Nat)}{g : Tg}{tc : gJ}{te : DT}(ht : xR fr g = true)(σ : St)(H : Hp)(Q : VK):cE K (mQ ti fr g tc te) σ H Q -> Dg (cI K ti) fr (g.v K) (cT K tc) (cE K te) σ H Q := by
  rintro ⟨G, ρ, P, s, re, h, k⟩;exact ⟨G, ρ, _, s, re, h, λxs J H1 G1 p1 w1 it D hD => tY ht re k p1 w1 it D hD⟩
section
variable {X : Cx} {tg iter elt : Expr} {ifs : List Expr} {scope : Scope} {pos : Pos} {ti : eI} {g : Tg} {tc : gJ} {te : DT}
theorem lQ (N' : List Str)(fr : List (Option Nat))(hc : X.calm = true)(hi : DI X tg iter ti)
    (hg : ∀ cl fp C s H, PG (pM X scope N' cl fp C s H) tg (g.v X.K)) (ht : ∀ cl fp C s H, x8 (pM X scope N' cl fp C s H) ifs tc) (he : ∀ cl fp C s H, DE (pM X scope N' cl fp C s H) elt te)
    {sc0 : Scope} {N0 : List Str} (htg :autoParam (xR fr g = true) aZb._auto_1) (hsc :autoParam (X.env.scope = sc0) aZa._auto_1) (hN :autoParam (X.N = N0) aZa._auto_1) (aX :autoParam (iO sc0 N0 scope N' fr = true) aZe._auto_1) (hs :autoParam (∀ x, foldedSetIterable iter X.env x = pure x) aZc._auto_1) :
    DE X (.ListComp elt [⟨tg, iter, ifs, 0⟩] scope pos) (mQ ti fr g tc te) :=
  DE.of (Cm (tc := cT X.K tc) (te := cE X.K te) N' fr hc hi.pi hg (λcl fp C s H => (ht cl fp C s H).pf) (λcl fp C s H => (he cl fp C s H).pe) hsc hN aX hs) (yJ htg)
end
end DL
namespace DL
open PySem L2
structure kB where
  nx : aD -> Prop
  rt : B -> Prop
  bk : aD -> Prop := λ_ => False
  ct : aD -> Prop := λ_ => False
noncomputable abbrev fJ := kB -> aD -> Prop
structure rK (K : Frag)(H0 G0 : Hp)(E : kB)(Dn : Ends):Prop where
  nx : ∀ σ H G ρ, Wd H0 G0 H G -> bY K H0 G H σ ρ -> E.nx ρ -> Dn.nx σ H
  bk : ∀ σ H G ρ, Wd H0 G0 H G -> bY K H0 G H σ ρ -> E.bk ρ -> Dn.bk σ H
  ct : ∀ σ H G ρ, Wd H0 G0 H G -> bY K H0 G H σ ρ -> E.ct ρ -> Dn.ct σ H
  rt : ∀ b v H G, Wd H0 G0 H G -> fO K H0 G H v b -> E.rt b -> Dn.rt v H
noncomputable def cS (K : Frag)(H0 G0 : Hp)(t : fJ):TS := λDn σ H => ∃ (E : kB) (G : Hp) (ρ : aD), rK K H0 G0 E Dn /\ Wd H0 G0 H G /\ bY K H0 G H σ ρ /\ t E ρ
structure DS (X : Cx)(st : Stmt)(t : fJ):Prop where
  ps : ∀ H0 G0, PS X st (cS X.K H0 G0 t)
structure sM (X : Cx)(st : List Stmt)(t : fJ):Prop where
  xw : ∀ H0 G0, lF X st (cS X.K H0 G0 t)
section
variable {K : Frag} {H0 G0 G H H' : Hp} {σ : St} {ρ : aD}
theorem bY.freeze (e : bY K H0 G H σ ρ)(w : Wd H0 G0 H G):∃ G1, Wd H0 G0 H G1 /\ ak G G1 /\ bY K H0 G1 H σ (bR ρ) := by
  classical
  obtain ⟨o, e⟩ := e;have to : ∀ a, H0 a = none -> G a = none -> (if H0 a = none /\ G a = none then H a else G a) = H a := λa h1 h2 => if_pos ⟨h1, h2⟩;have sG : ak G (λa => if H0 a = none /\ G a = none then H a else G a) := λa o h => by
    show (if _ then H a else G a) = _;rw [if_neg λq => by rw [q.2] at h;cases h];exact h
  refine ⟨λa => if H0 a = none /\ G a = none then H a else G a, ⟨w.hh, w.gg.trans sG, λa o h => ?_, λa h => ?_⟩, sG, ?_⟩
  · have h' : (if H0 a = none /\ G a = none then H a else G a) = some o := h;split at h'
    · exact h'
    · exact w.gh _ _ h'
  · show (if H0 a = none /\ G a = none then H a else G a) = _;rw [if_neg λq => h.there q.1];exact w.old a h
  · have own : ∀ a d, H0 a = none -> dN K G H a d -> Rep K (λa => if H0 a = none /\ G a = none then H a else G a) (.ref a) d := λa d h0 h => h.rep sG λo z => by
      show (if H0 a = none /\ G a = none then H a else G a) = _;rw [to a h0 h.1];exact z
    refine bY.only (by rw [tP];exact e.len) (λi d h => ?_) λi b h => ?_
    · obtain ⟨b, h1, h2⟩ := lS h;cases h2;cases b with
      | p d =>
        obtain ⟨v, h3, h4⟩ := e.p i d h1;exact ⟨v, h3, h4.mono sG⟩
      | o d =>
        obtain ⟨a, h3, h4, h4', h5⟩ := e.o i d h1;exact ⟨.ref a, h3, own a d h4 h5⟩
      | n t dss =>
        obtain ⟨a, h3, as, nd, pr, q⟩ := e.n i t dss h1;have rs : bE K (λa => if H0 a = none /\ G a = none then H a else G a) (as.map V.ref) dss := by
          clear q h1 h nd;induction pr with
          | nil => exact .nil
          | cons f _ ih => exact .cons (own _ _ f.1 f.2.2) ih
        refine ⟨.ref a, h3, ?_⟩;refine Ct.rep ?_ rs;unfold Ct.On at q;cases te : t.own with
        | true =>
          rw [te] at q;exact Ct.lI te (λo z => by
            show (if H0 a = none /\ G a = none then H a else G a) = _;rw [to a q.1.1 q.2.1];exact z) q.2.2.2
        | false =>
          rw [te] at q;exact Ct.oo sG q
    · obtain ⟨b', h1, h2⟩ := lS h;exact ⟨_, h2⟩
theorem mO.back {o : Addr -> Nat}(e : mO K H0 G H o σ ρ)(hh : ak H H'):mO K H0 G H' o σ ρ :=
  ⟨e.len, e.p, λi d h => by
    obtain ⟨a, h1, h2, h2', h3⟩ := e.o i d h;exact ⟨a, h1, h2, h2', h3.fe (ak.refl _) h3.1 λo q => hh _ _ q⟩, λi t dss h => by
    obtain ⟨a, h1, h2⟩ := e.n i t dss h;exact ⟨a, h1, h2.fe (ak.refl _) λx k1 k2 k3 k4 => ⟨k3, k2, λo q => hh _ _ q⟩⟩⟩
theorem bY.back (e : bY K H0 G H σ ρ)(hh : ak H H'):bY K H0 G H' σ ρ := by
  obtain ⟨o, e⟩ := e;exact ⟨o, e.back hh⟩
theorem Wd.back {G1 G1' : Hp}(w : Wd H0 G0 H G)(w1 : Wd H G1 H' G1'):Wd H0 G0 H' G := ⟨w.hh.trans w1.hh, w.gg, w.gh.trans w1.hh, w.old⟩
end
section
variable {X : Cx} {st : Stmt} {rest : List Stmt} {t u : fJ} {a b c e : Expr} {ta tb te : DT} {pos : Pos}
noncomputable def dU : fJ := λE ρ => E.nx ρ
noncomputable def fV (t u : fJ):fJ := λE ρ => t { E with nx := u E } ρ
theorem eP : sM X [] dU := sM.mk λH0 G0 => lF.imp fq λDn σ H ⟨E, G, ρ, eo, w, en, h⟩ => eo.nx σ H G ρ w en h
theorem aL (h1 : DS X st t)(h2 : sM X rest u):sM X (st :: rest) (fV t u) := sM.mk λH0 G0 => lF.imp (aw (h1.ps H0 G0) (h2.xw H0 G0)) λDn σ H ⟨E, G, ρ, eo, w, en, h⟩ =>
  ⟨{ E with nx := u E }, G, ρ, ⟨λσ' H' G' ρ' w' en' h' => ⟨E, G', ρ', eo, w', en', h'⟩, eo.bk, eo.ct, eo.rt⟩, w, en, h⟩
theorem aO (h1 : DS X st t):sM X [st] t := sM.mk λH0 G0 => aM (h1.ps H0 G0)
noncomputable def d7 (te : DT):fJ := λE ρ => te (bR ρ) λ_ => E.nx ρ
theorem tJ (he : DE X e te)(hs :autoParam (swapsWith e none pos.line X.env = pure false) aZa._auto_1):DS X (.Expr e pos) (d7 te) := DS.mk λH0 G0 => PS.imp (dZ he.pe hs)<|by
  rintro Dn σ H ⟨E, G, ρ, eo, w, en, h⟩;obtain ⟨G1, w1, sg, e1⟩ := en.freeze w;exact ⟨G1, bR ρ, _, w1.gh, e1.p, h, λb v H' G' p' w' r' => eo.nx σ H' G ρ (w.back w') (en.back w'.hh) p'⟩
noncomputable def gn (te : DT):fJ := λE ρ => te (bR ρ) E.rt
theorem bF (he : DE X e te):DS X (.Return (some e) pos) (gn te) := DS.mk λH0 G0 => PS.imp (eE he.pe)<|by
  rintro Dn σ H ⟨E, G, ρ, eo, w, en, h⟩;obtain ⟨G1, w1, sg, e1⟩ := en.freeze w;exact ⟨G1, bR ρ, _, w1.gh, e1.p, h, λb v H' G' p' w' r' => eo.rt b v H' G' (w1.trans w') (r'.ahead w.hh) p'⟩
noncomputable def eV : fJ := λE _ => E.rt (.p .non)
noncomputable def eW (i : Nat):fJ := λE ρ => match aY ρ i with
  | some (.o d) => E.rt (.o d)
  | _ => False
noncomputable def fS (tc : gJ)(t u : fJ):fJ := λE ρ => tc (bR ρ) λc => (c = true -> t E ρ) /\ (c = false -> u E ρ)
theorem ja {x y : List Stmt}{tc : gJ}(hc : pZ X c tc)(ha : sM X x t)(hb : sM X y u):DS X (.If c x y pos) (fS tc t u) := DS.mk λH0 G0 => PS.imp (gB hc.pt (ha.xw H0 G0) (hb.xw H0 G0))<|by
  rintro Dn σ H ⟨E, G, ρ, eo, w, en, h⟩;obtain ⟨G1, w1, sg, e1⟩ := en.freeze w;refine ⟨G1, bR ρ, _, w1.gh, e1.p, h, λc H' G' p' w' => ?_⟩;cases c with
  | true => exact oW ⟨E, G, ρ, eo, w.back w', en.back w'.hh, p'.1 rfl⟩
  | false => exact kS ⟨E, G, ρ, eo, w.back w', en.back w'.hh, p'.2 rfl⟩
noncomputable def fW (i : Nat)(te : DT):fJ := λE ρ => te ρ λb => E.nx (dput ρ i b)
noncomputable def eY (i : Nat)(te : DT):fJ := λE ρ => te (bR ρ) λb => b.val.sc = true /\ E.nx (dput ρ i (.p b.val))
noncomputable def eX (i : Nat)(te : DT):fJ := λE ρ => te (bR ρ) λb => E.nx (dput (bR ρ) i b)
theorem rq {K : Frag}{H0 G0 H G H' G' : Hp}{σ : St}{ρ : aD}{E : kB}{Dn : Ends}(i : Nat)(eo : rK K H0 G0 E Dn)(w : Wd H0 G0 H G)(en : bY K H0 G H σ ρ){b : B}{v : V}(p : E.nx (dput ρ i b))(w' : Wd H G H' G')(r : fO K H G' H' v b):Dn.nx (σ.set i (some v)) H' := by
  cases b with
  | p d => exact eo.nx _ H' G' _ (w.trans w') ((en.on w').A9 i r) p
  | o d =>
    obtain ⟨a, rfl, hn, o⟩ := r;exact eo.nx _ H' G' _ (w.trans w') (en.DY w' i (w.hh.free hn) hn o) p
  | n t ds =>
    obtain ⟨a, as, rfl, nd, pr, q⟩ := r;exact eo.nx _ H' G' _ (w.trans w') (en.Co w' w.hh i nd pr q) p
theorem we {K : Frag}{H0 G0 : Hp}{i : Nat}(Dn : Ends)(σ : St)(H : Hp):cS K H0 G0 (fW i te) Dn σ H -> cE K te σ H λv H1 => Dn.nx (σ.set i (some v)) H1 := by
  rintro ⟨E, G, ρ, eo, w, en, h⟩;exact ⟨G, ρ, _, w.gh, en.p, h, λb v H' G' p' w' r' => rq i eo w en p' w' r'⟩
noncomputable def dP (i : Nat)(te : DT):fJ := λE ρ => te ρ λb => E.nx (dput ρ i (.p b.val))
noncomputable def dn (i : Nat)(te : DT):fJ := λE ρ => te (bR ρ) λb => E.nx (dput (bR ρ) i (.p b.val))
theorem nO {K : Frag}{H0 G0 : Hp}{i : Nat}(Dn : Ends)(σ : St)(H : Hp):cS K H0 G0 (dP i te) Dn σ H -> cE K te σ H λv H1 => Dn.nx (σ.set i (some v)) H1 := by
  rintro ⟨E, G, ρ, eo, w, en, h⟩;refine ⟨G, ρ, _, w.gh, en.p, h, λb v H' G' p' w' r' => ?_⟩;obtain ⟨G2, w2, r2⟩ := r'.give w';exact rq i eo w en (b := .p b.val) p' w2 r2
section
variable {i : Nat} {x : Str} {px : Pos}
theorem wc (hN : X.N.Nodup)(hi : X.N[i]? = some x)(hx : Loc X.env.scope x)(he : DE X e te)(hs :autoParam (swapsWith e (some (.Name x px)) pos.line X.env = pure false) aZa._auto_1)(hf :autoParam (X.fn x = true \/ X.env.scope.names.lookup x = some .local) aZd._auto_1) :
    DS X (.Assign [.Name x px] e pos) (fW i te) := DS.mk λH0 G0 => PS.imp (df hN hi hx he.pe hs hf) we
theorem cq (hN : X.N.Nodup)(hi : X.N[i]? = some x)(hx : Loc X.env.scope x)(he : DE X e te)(hs :autoParam (swapsWith e (some (.Name x px)) pos.line X.env = pure false) aZa._auto_1)(hf :autoParam (X.fn x = true \/ X.env.scope.names.lookup x = some .local) aZd._auto_1) :
    DS X (.Assign [.Name x px] e pos) (dP i te) := DS.mk λH0 G0 => PS.imp (df hN hi hx he.pe hs hf) nO
variable {tg iter elt : Expr} {ifs : List Expr} {scope : Scope} {spos : Pos} {ti : eI} {g : Tg} {tc : gJ}
noncomputable def il (i : Nat)(te : DT)(f : Int -> Int -> Int):fJ := λE ρ => match aY ρ i with
  | some (.p (.int m)) => te (bR ρ) λb => match b.val with
    | .int n => E.nx (dput ρ i (.p (.int (f m n))))
    | _ => False
  | _ => False
end
noncomputable def ik (te : DT)(g : Tg):fJ := λE ρ => te ρ λb => g.d b.val ρ E.nx
noncomputable def ij (i : Nat)(te : DT):fJ := λE ρ => match aY ρ i with
  | some (.o (.lst ds)) => te ρ λb => ds.length < sizeLine /\ E.nx (dput ρ i (.o (.lst (ds ++ [b.val]))))
  | _ => False
noncomputable def eR (i : Nat)(te : DT):fJ := λE ρ => match aY ρ i with
  | some (.o (.lst ds)) => te (bR ρ) λb => b.val.sc = true /\ ds.length < sizeLine /\ E.nx (dput ρ i (.o (.lst (ds ++ [b.val]))))
  | _ => False
section
variable {i : Nat} {x : Str} {px apos cpos spos : Pos}
noncomputable def dq (i : Nat)(tk te : DT):fJ := λE ρ => te ρ λb => match aY ρ i with
  | some (.o (.lst ds)) => tk (bR ρ) λk => match k.val with
    | .int z => ∃ j, tW ds.length z = some j /\ E.nx (dput ρ i (.o (.lst (ds.set j b.val))))
    | _ => False
  | _ => False
noncomputable def bU (i : Nat)(tk te : DT):fJ := λE ρ => te (bR ρ) λb => b.val.sc = true /\ match aY ρ i with
  | some (.o (.lst ds)) => tk (bR ρ) λk => match k.val with
    | .int z => ∃ j, tW ds.length z = some j /\ E.nx (dput ρ i (.o (.lst (ds.set j b.val))))
    | _ => False
  | _ => False
noncomputable def dm (i : Nat)(tk te : DT)(f : Int -> Int -> Int):fJ := λE ρ => match aY ρ i with
  | some (.o (.lst ds)) => tk (bR ρ) λk => match k.val with
    | .int z => ∃ j m, tW ds.length z = some j /\ ds[j]? = some (.int m) /\ te (bR ρ) λb => match b.val with
      | .int n => E.nx (dput ρ i (.o (.lst (ds.set j (.int (f m n))))))
      | _ => False
    | _ => False
  | _ => False
end
noncomputable def wu (g : Tg)(tb : fJ)(E : kB)(xs : List D)(ρ : aD):Prop := ∃ I : Nat -> aD -> Prop, I 0 ρ /\
  (∀ i d ρ, xs[i]? = some d -> I i ρ -> g.d d ρ λρ' => tb { E with nx := I (i + 1), ct := I (i + 1), bk := E.nx } ρ') /\ ∀ ρ, I xs.length ρ -> E.nx ρ
noncomputable def gf (ti : eI)(g : Tg)(tb : fJ):fJ := λE ρ => ti ρ λxs => wu g tb E xs ρ
noncomputable def eS (ti : eI)(g : Tg)(tb : fJ):fJ := λE ρ => ti (bR ρ) λxs => wu g tb E xs (bR ρ)
theorem Wd.base {H0 G0 H9 G9 H G : Hp}(w9 : Wd H0 G0 H9 G9)(w : Wd H0 G9 H G):Wd H0 G0 H G := ⟨w.hh, w9.gg.trans w.gg, w.gh, λa h => by rw [w.old a h, w9.old a h]⟩
noncomputable def cX (K : Frag)(t : fJ):TS := λDn σ H => ∃ H0 G0, cS K H0 G0 t Dn σ H
theorem sM.x {sts : List Stmt}(h : sM X sts t):lF X sts (cX X.K t) := λpins s σ H D I ⟨H0, G0, q⟩ => h.xw H0 G0 pins s σ H D I q
theorem wx {K : Frag}{H0 G0 G H : Hp}{σ : St}{ρ : aD}{g : Tg}{tb : fJ}{J : It}{xs : List D}{E : kB}{Dn : Ends}(eo : rK K H0 G0 E Dn)(w : Wd H0 G0 H G)(en : bY K H0 G H σ ρ)(it : x9 K G J xs)(h : wu g tb E xs ρ) :
    ∃ W : Nat -> Nat -> St -> Hp -> Prop, (∃ m, W 0 m σ H) /\ ∀ i m σ H, W i m σ H ->
      (J.stop i H /\ Dn.nx σ H) \/ (J.go i H /\ ∃ N : St -> Hp -> Prop, (∀ σ' H', N σ' H' -> ∃ m', m' < m /\ W (i + 1) m' σ' H') /\ ∀ x H', J.ux i H x H' -> g.v K x σ H' λσ2 H2 => cX K tb { Dn with nx := N, ct := N, bk := Dn.nx } σ2 H2) := by
  obtain ⟨I, i0, is, ie⟩ := h;have w0 : Wd H0 G H G := ⟨w.hh, ak.refl _, w.gh, λ_ _ => rfl⟩
  refine ⟨λi m σ H => m = xs.length - i /\ i <= xs.length /\ ∃ G' ρ', Wd H0 G H G' /\ bY K H0 G' H σ ρ' /\ I i ρ', ⟨xs.length, by simp, Nat.zero_le _, G, ρ, w0, en, i0⟩, ?_⟩;rintro i m σ H ⟨rfl, hi, G', ρ', w', en', p⟩;by_cases hlt : i < xs.length
  · have hx : xs[i]? = some xs[i] := getElem?_eq_getElem hlt;refine .inr ⟨it.go i _ H G' hx w'.gg w'.gh, λσ2 H2 => ∃ G2 ρ2, Wd H0 G H2 G2 /\ bY K H0 G2 H2 σ2 ρ2 /\ I (i + 1) ρ2, by rintro σ2 H2 ⟨G2, ρ2, z⟩;exact ⟨xs.length - (i + 1), by lia, rfl, hlt, G2, ρ2, z⟩, λx H2 y => ?_⟩;obtain ⟨G2, w2, r2⟩ := it.ux i _ H G' x H2 hx w'.gg w'.gh y;refine Tg.ok w2.gh (en'.on w2) r2 (is i _ ρ' hx p) λσ3 ρ3 e3 p3 => ?_;exact ⟨H0, G, { E with nx := I (i + 1), ct := I (i + 1), bk := E.nx }, G2, ρ3, ⟨λσ4 H4 G4 ρ4 w4 e4 p4 => ⟨G4, ρ4, w4, e4, p4⟩, λσ4 H4 G4 ρ4 w4 e4 p4 => eo.nx σ4 H4 G4 ρ4 (w.base w4) e4 p4, λσ4 H4 G4 ρ4 w4 e4 p4 => ⟨G4, ρ4, w4, e4, p4⟩, λb v H4 G4 w4 r4 p4 => eo.rt b v H4 G4 (w.base w4) r4 p4⟩, w'.trans w2, e3, p3⟩
  · have e : i = xs.length := by lia
    subst e;exact .inl ⟨it.stop _ H G' rfl w'.gg w'.gh, eo.nx σ H G' ρ' (w.base w') en' (ie ρ' p)⟩
section
variable {tg iter : Expr} {body : List Stmt} {ti : eI} {g : Tg} {tb : fJ}
theorem Az (hp : PassesOwn (model X.prog X.w) X.A X.env X.xe)(hc : X.calm = true)(hi : DI X tg iter ti)(hg : PG X tg (g.v X.K))(hb : sM X body tb)(hs :autoParam (∀ x, foldedSetIterable iter X.env x = pure x) aZc._auto_1):DS X (.For tg iter body [] pos) (gf ti g tb) := DS.mk λH0 G0 =>
  PS.imp (xr hp hc hi.pi hg hb.x hs) (by rintro Dn σ H ⟨E, G, ρ, eo, w, en, h⟩;exact ⟨G, ρ, _, w.gh, en.p, h, λxs J H' G' p' w' it => wx eo (w.trans w') (en.on w') it p'⟩)
noncomputable def Eo (K : Frag)(t : eI):TI := λσ H R => ∃ (G : Hp) (ρ : aD) (P : List D -> Prop), ak G H /\ cW K G σ ρ /\ t ρ P /\ ∀ xs J H' G', P xs -> Wd H G H' G' -> (∀ G, x9 K G J xs) -> R J H'
structure Bu (X : Cx)(tg e : Expr)(t : eI):Prop where
  pi : PI X tg e (Eo X.K t)
theorem Bu.of {e : Expr}{t : TI}{t' : eI}(h : PI X tg e t)(i : ∀ σ H Q, Eo X.K t' σ H Q -> t σ H Q):Bu X tg e t' := ⟨PI.imp h i⟩
theorem Bu.di {e : Expr}{t : eI}(h : Bu X tg e t):DI X tg e t := DI.of h.pi λσ H R ⟨G, ρ, P, s, re, h, k⟩ => ⟨G, ρ, P, s, re, h, λxs J H' G' p' w' it => k xs J H' G' p' w' (it G')⟩
theorem v7 {a : Expr}{t : eI}{p : Pos}(hg : Gl X "range")(hm : X.mg "range" = none)(ha : DA X [a] t)(hs :autoParam (starEach [a] X.env = [(false, eval a X.env)]) aZa._auto_1):Bu X tg (.Call (.Name "range" p) [a] [] pos) (cy t) :=
  Bu.of (vg hg hm ha.pa hs)<|by
    rintro σ H R ⟨G, ρ, P, s, re, h, k⟩;refine ⟨G, ρ, _, s, re, h, λds vs H1 G1 p1 l1 w1 r1 => ?_⟩;split at p1
    · obtain ⟨v, rfl, rv⟩ := gC r1;cases rv;exact ⟨_, rfl, p1.1.1, p1.1.2, k _ _ H1 G1 p1.2 w1 λ_ => yE⟩
    · exact p1.elim
noncomputable def eT (ti : eI)(g : Tg)(tb : fJ):fJ := λE ρ => ti (bR ρ) λxs => wu g tb E xs ρ
end
end
noncomputable def aW : Nat -> List D -> aD
  | 0, ds => ds.map λd => some (.p d)
  | n + 1, [] => none :: aW n []
  | n + 1, d :: ds => some (.p d) :: aW n ds
theorem gG {K : Frag}{G : Hp}:∀ (n : Nat) {vs : List V} {ds : List D}, bE K G vs ds -> cW K G (vs.map some ++ List.replicate (n - vs.length) none) (aW n ds) /\ (vs.map some ++ List.replicate (n - vs.length) (none : Option V)).length = (aW n ds).length /\ ∀ i d, aY (aW n ds) i ≠ some (.o d)
  | 0, _, _, .nil => ⟨λi d h => (nomatch (show (none : Option B) = some (.p d) from h)), rfl, λi d h => (nomatch (show (none : Option B) = some (.o d) from h))⟩
  | 0, _, _, .cons (a := v) (b := d) (l₁ := vs) (l₂ := ds) r rr => by
    obtain ⟨h1, h2, h3⟩ := gG (K := K) (G := G) 0 rr;have e0 : aW 0 (d :: ds) = some (.p d) :: aW 0 ds := rfl;have e1 : (v :: vs).map some ++ List.replicate (0 - (v :: vs).length) (none : Option V) = some v :: (vs.map some ++ List.replicate (0 - vs.length) none) := by simp
    rw [e0, e1];refine ⟨λi d' h => ?_, by rw [length_cons, length_cons, h2], λi d' h => ?_⟩
    · cases i with
      | zero => cases h;exact ⟨v, rfl, r⟩
      | succ i => exact h1 i d' h
    · cases i with
      | zero => cases h
      | succ i => exact h3 i d' h
  | n + 1, _, _, .nil => by
    obtain ⟨h1, h2, h3⟩ := gG (K := K) (G := G) n (vs := []) (ds := []) .nil;have e1 : ([]:List V).map some ++ List.replicate (n + 1 - ([]:List V).length) (none : Option V) = none :: (([]:List V).map some ++ List.replicate (n - ([]:List V).length) none) := by simp [List.replicate_succ]
    rw [e1];refine ⟨λi d' h => ?_, by show _ = (none :: aW n []).length;rw [length_cons, length_cons, h2], λi d' h => ?_⟩
    · cases i with
      | zero => cases h
      | succ i => exact h1 i d' h
    · cases i with
      | zero => cases h
      | succ i => exact h3 i d' h
  | n + 1, _, _, .cons (a := v) (b := d) (l₁ := vs) (l₂ := ds) r rr => by
    obtain ⟨h1, h2, h3⟩ := gG (K := K) (G := G) n rr;have e1 : (v :: vs).map some ++ List.replicate (n + 1 - (v :: vs).length) (none : Option V) = some v :: (vs.map some ++ List.replicate (n - vs.length) none) := by simp
    rw [e1];refine ⟨λi d' h => ?_, by show _ = (some (B.p d) :: aW n ds).length;rw [length_cons, length_cons, h2], λi d' h => ?_⟩
    · cases i with
      | zero => cases h;exact ⟨v, rfl, r⟩
      | succ i => exact h1 i d' h
    · cases i with
      | zero => cases h
      | succ i => exact h3 i d' h
theorem iI : ∀ (n : Nat) (ds : List D) (i : Nat) (b : B), aY (aW n ds) i = some b -> ∃ d, b = .p d
  | 0, [], _, _, h => by cases h
  | 0, d :: ds, 0, _, h => by cases h;exact ⟨_, rfl⟩
  | 0, d :: ds, i + 1, b, h => iI 0 ds i b h
  | n + 1, [], 0, _, h => by cases h
  | n + 1, [], i + 1, b, h => iI n [] i b h
  | n + 1, d :: ds, 0, _, h => by cases h;exact ⟨_, rfl⟩
  | n + 1, d :: ds, i + 1, b, h => iI n ds i b h
section
variable {P : Program} {w : World} {K : Frag} {mg : Str -> Option Value} {base : Heap}
theorem rG {x qual : Str}{st : Stmt}{f : Addr}{fd : FuncData}{N ps : List Str}{k : Nat}{R : DR}(F : fQ K x qual st f fd)(S : aB N ps (ae st))(len : ∀ ds Q, R ds Q -> ds.length = ps.length)
    (hbody : ∀ (cdv : Value) (A : Around) (outer : List Env) (s : Shared) (H : Hp) (E : XK), cF k (A.deeper (PyProof.Rows.envOfC qual (ae st) s.heap.objs.size f cdv)) ->
      ∃ t, sM (mP gI P w K mg base N qual (ae st) f cdv A outer s H E).zR (au st) t /\ ∀ ds Q, R ds Q -> t { nx := λ_ => Q (.p .non), rt := Q } (aW N.length ds)):aI P w K mg base gI (k + 1) f fd ps (e6 K R) := by
  refine F.ok S (by rintro vs H Q E ⟨ds, G, P, s, r, h, _⟩;rw [Paired.length r];exact len ds P h) ?_;rintro cdv A outer s H vs Q E hr ⟨ds, G, P, sg, r, h, k⟩;obtain ⟨t, h1, h2⟩ := hbody cdv A outer s H E hr;obtain ⟨e1, e2, e3⟩ := gG (K := K) N.length r;refine ⟨_, h1.xw H G, _, G, _, ?_, Wd.refl sg, bY.only e2 e1 (iI _ _), h2 ds P h⟩;exact ⟨λσ H' G' ρ w' _ p => k _ _ H' G' p w' (show Rep K G' V.non D.non from .non), λσ H' G' ρ w' _ p => p.elim, λσ H' G' ρ w' _ p => p.elim, λb v H' G' w' r' p => k b v H' G' p w' r'⟩
end
end DL
namespace DL
open PySem L2
section
variable {X : Cx} {tg e : Expr} {te : DT} {pos : Pos} {es : List Expr}
theorem lP {x : Str}{i : Int}(hg : Gl X x)(h : ∃ t, X.mg x = some (.int i t))(hd :autoParam ((x == ("__debug__" : Str)) = false) aZb._auto_1):DE X (.Name x pos) (dC (.int i)) := vW (Ck hg h hd) λ_ => .int i
noncomputable def zG : DR := λds P => match ds with
  | [.lst xs] => ∃ ns : List Int, xs = ns.map D.int /\ ns ≠ [] /\ ∀ m, m ∈ ns -> (∀ n ∈ ns, n <= m) -> P (.p (.int m))
  | _ => False
theorem sW (hc : X.calm = true):CallD X (.builtin "max") zG := by
  refine ⟨_, uE hc, λH G vs ds P Q s r h k => ?_⟩;unfold zG at h;split at h
  · obtain ⟨ns, rfl, hn, h⟩ := h;obtain ⟨v, rfl, rv⟩ := gC r;obtain ⟨a, us, rfl, e, rr⟩ := rv.lst_inv;rw [kq rr] at e;exact ⟨a, ns, rfl, dD.of (s _ _ e), hn, λm h1 h2 => k _ _ H G (h m h1 h2) (Wd.refl s) (.int _)⟩
  · exact h.elim
theorem B6 {K : Frag}{G : Hp}{Src : Hp -> List (List V) -> Prop}{rows : List (List V)}{xs : List D}(hs : ∀ H, ak G H -> Src H rows)(r : Paired (λrow d => ∃ ds, d = D.tup ds /\ bE K G row ds) rows xs):x9 K G (C0 Src) xs where
  go := λi d H G' e s1 s2 => by
    obtain ⟨row, h1, h2⟩ := cH r e;exact ⟨rows, row, hs H (s1.trans s2), h1⟩
  ux := λi d H G' x H' e s1 s2 y => by
    obtain ⟨row, h1, ds, rfl, h2⟩ := cH r e;obtain ⟨row', p, h3, h4, rfl, rfl⟩ := y rows (hs H (s1.trans s2));rw [h1] at h3;cases h3;exact ⟨_, (Wd.refl s2).new h4, Rep.kX ah (bE.mono (bg (s2.free h4)) (bE.mono s1 h2))⟩
  stop := λi H G' hi s1 s2 => ⟨rows, hs H (s1.trans s2), by rw [Paired.length r, hi]⟩
noncomputable def bN : Nat -> List D -> List D
  | _, [] => []
  | k, x :: xs => .tup [.int (k : Nat), x] :: bN (k + 1) xs
theorem fm : ∀ (k : Nat) (xs : List D), (bN k xs).length = xs.length
  | _, [] => rfl
  | k, x :: xs => by show (bN (k + 1) xs).length + 1 = _;rw [fm];rfl
theorem fk : ∀ {k : Nat} {xs : List D} {i : Nat} {d : D}, (bN k xs)[i]? = some d -> ∃ x, xs[i]? = some x /\ d = .tup [.int ((k + i : Nat):Int), x]
  | _, [], _, _, h => by simp [bN] at h
  | k, x :: xs, 0, d, h => ⟨x, rfl, by simpa [bN] using h.symm⟩
  | k, x :: xs, i + 1, d, h => by
    have h' : (bN (k + 1) xs)[i]? = some d := by simpa [bN] using h
    obtain ⟨y, h1, h2⟩ := fk h';exact ⟨y, by simpa using h1, by rw [h2];congr 3;lia⟩
noncomputable def aq (t : eI):eI := λρ P => t ρ λds => match ds with
  | [.lst xs] => P (bN 0 xs)
  | _ => False
theorem vj {K : Frag}{G : Hp}{vs : List V}{ds : List D}(r : bE K G vs ds):Paired (λrow d => ∃ ds, d = D.tup ds /\ bE K G row ds) (gr vs) (bN 0 ds) := by
  refine az (by rw [jG, fm, Paired.length r]) λi row d h1 h2 => ?_;obtain ⟨x, h3, rfl⟩ := fk h2;obtain ⟨v, h4, h5⟩ := cH r h3;rw [jF h4] at h1;cases h1;exact ⟨_, rfl, .cons (by rw [Nat.zero_add];exact .int _) (.cons h5 .nil)⟩
theorem oH {elts : List Expr}{kx : Nat}{tpos : Pos}{l : Expr}{t : eI}{p : Pos}(hg : Gl X "enumerate")(hm : X.mg "enumerate" = none)(ha : DA X [l] t)(hs :autoParam (starEach [l] X.env = [(false, eval l X.env)]) aZa._auto_1):DI X (.Tuple elts kx tpos) (.Call (.Name "enumerate" p) [l] [] pos) (aq t) :=
  DI.of (zc hg hm ha.pa hs)<|by
    rintro σ H R ⟨G, ρ, P, s, re, h, k⟩;refine ⟨G, ρ, _, s, re, h, λds vs H1 G1 p1 l1 w1 r1 => ?_⟩;split at p1
    · obtain ⟨v, rfl, rv⟩ := gC r1;obtain ⟨a, us, rfl, e, rr⟩ := rv.lst_inv;exact ⟨a, us, rfl, w1.gh _ _ e, k _ _ H1 G1 p1 w1 (B6 (λH s => ⟨us, s _ _ e, rfl⟩) (vj rr))⟩
    · exact p1.elim
noncomputable def Ei (xs ys : List D):List D := (xs.zip ys).map λp => .tup [p.1, p.2]
noncomputable def bG (t : eI):eI := λρ P => t ρ λds => match ds with
  | [.lst xs, .lst ys] => P (Ei xs ys)
  | _ => False
noncomputable def ax (t : eI):eI := λρ P => t ρ λds => match ds with
  | [.lst xs] => P xs.reverse
  | _ => False
noncomputable def Ay (a : Int)(n : Nat):List D := (List.range n).map λi => D.int (a + (i : Nat) * (-1))
noncomputable def bV (t : eI):eI := λρ P => t ρ λds => match ds with
  | [.int j] => (0 <= j /\ j < 2 ^ 62) /\ P (Ay (j - 1) j.toNat)
  | _ => False
end
end DL
namespace DL
open PySem L2
noncomputable def xP (K : Frag):Sp := λvs H Q _ => ∃ (a : Addr) (ns : List Int), vs = [.ref a] /\ dD K H a (ns.map V.int) /\ ns.length <= 63 /\ ∀ H', Q (.bl true) H'
noncomputable def xE : DR := λds P => ∃ ns : List Int, ds = [.scr ns] /\ ns.length <= 63 /\ P (.p (.bl true))
theorem AL {P : Program}{w : World}{K : Frag}{mg : Str -> Option Value}{base : Heap}{k : Nat}{f : Addr}{fd : FuncData}{ps : List Str}(h : aI P w K mg base gI k f fd ps (e6 K xE)):aI P w K mg base gI k f fd ps (xP K) :=
  h.imp λvs H Q E ⟨a, ns, e, hs, hl, q⟩ => ⟨[.scr ns], H, λb => b = .p (.bl true), ak.refl _, by rw [e];exact .cons (.scr hs) .nil, ⟨ns, rfl, hl, rfl⟩, λb v H' G' hb w r => by
    subst hb;have : v = .bl true := Rep.vG r;rw [this];exact q H'⟩
theorem kn {P P' : aD -> Prop}(i : ∀ ρ, P ρ -> P' ρ):∀ {is : List Nat} {ds : List D} {ρ : aD}, putN is ds ρ P -> putN is ds ρ P'
  | [], [], ρ, h => i ρ h
  | _ :: is, _ :: ds, _, h => kn i (is := is) (ds := ds) h
  | [], _ :: _, _, h => h.elim
  | _ :: _, [], _, h => h.elim
theorem xS {g : Tg}{d : D}{ρ : aD}{P P' : aD -> Prop}(h : g.d d ρ P)(i : ∀ ρ, P ρ -> P' ρ):g.d d ρ P' := by
  cases g with
  | n j => exact i _ h
  | t is =>
    cases d with
    | tup ds => exact kn i h
    | non => exact h
    | bl _ => exact h
    | int _ => exact h
    | str _ => exact h
    | lst ds => exact kn i h
    | scr _ => exact h
    | dct _ => exact h
    | sen _ => exact h
    | ext _ => exact h
theorem mr {α β : Type}{f : α -> β}:∀ {xs : List α} {os : List β}, Paired (λx o => o = f x) xs os -> os = xs.map f
  | _, _, .nil => rfl
  | _, _, .cons h t => by rw [h, mr t];rfl
theorem jJ {α β : Type}(f : α -> Option β):∀ xs : List α, (xs.map f).filterMap id = xs.filterMap f
  | [] => rfl
  | x :: xs => by
    rw [map_cons, filterMap_cons, filterMap_cons, jJ f xs];rfl
theorem filterMap_some {α β : Type}(f : α -> β):∀ xs : List α, xs.filterMap (λx => some (f x)) = xs.map f
  | [] => rfl
  | x :: xs => by rw [filterMap_cons, filterMap_some f xs];rfl
theorem sf {xs : List D}{g : Tg}{tc : gJ}{te : DT}{ρ : aD}{Q : B -> Prop}(f : D -> Option D)(hz : xs.length <= 1000000)(h : ∀ x ∈ xs, g.d x ρ λρ' => tc ρ' λc => (c = true -> te ρ' λb => some b.val = f x) /\ (c = false -> none = f x))(q : Q (.o (.lst (xs.filterMap f)))) :
    x5 xs g tc te ρ Q := by
  refine ⟨by have : sizeLine = 16777216 := sizeLine_eq;lia, λx o => o = f x, h, λos ho => ?_⟩;rw [mr ho, jJ];exact q
theorem mh {xs : List D}{g : Tg}{te : DT}{ρ : aD}{Q : B -> Prop}(f : D -> D)(hz : xs.length <= 1000000)(h : ∀ x ∈ xs, g.d x ρ λρ' => te ρ' λb => some b.val = some (f x))(q : Q (.o (.lst (xs.map f)))) :
    x5 xs g ck te ρ Q :=
  sf (λx => some (f x)) hz (λx hx => xS (h x hx) λρ' z => ⟨λ_ => z, λe => nomatch e⟩) (by rw [filterMap_some];exact q)
theorem yy {g : Tg}{tb : fJ}{E : kB}{xs : List D}{ρ : aD}(I : Nat -> aD -> Prop)(h0 : I 0 ρ)(hs : ∀ i x ρ, xs[i]? = some x -> I i ρ -> g.d x ρ λρ' => tb { E with nx := I (i + 1), ct := I (i + 1), bk := E.nx } ρ')(hd : ∀ ρ, I xs.length ρ -> E.nx ρ):wu g tb E xs ρ := ⟨I, h0, hs, hd⟩
theorem fY {α β : Type}(p : α -> Prop)[DecidablePred p](f : α -> β):∀ xs : List α, xs.filterMap (λx => if p x then some (f x) else none) = (xs.filter λx => decide (p x)).map f
  | [] => rfl
  | x :: xs => by
    rw [filterMap_cons, filter_cons, fY p f xs];by_cases h : p x
    · rw [if_pos h, if_pos (decide_eq_true h)];rfl
    · rw [if_neg h, if_neg (by simpa using h)]
theorem lW (n : Nat)(f : Nat -> D):bN 0 ((List.range n).map f) = (List.range n).map λi => D.tup [.int (i : Nat), f i] := by
  refine List.ext_getElem? λi => ?_;have hl : (bN 0 ((List.range n).map f)).length = n := by rw [fm];simp
  by_cases h : i < n
  · have e := getElem?_eq_getElem (show i < (bN 0 ((List.range n).map f)).length by lia);obtain ⟨y, h1, h2⟩ := fk e;rw [getElem?_map, List.getElem?_range h] at h1;cases h1;rw [e, h2, getElem?_map, List.getElem?_range h, Nat.zero_add];rfl
  · rw [List.getElem?_eq_none (by lia), List.getElem?_eq_none (by simpa using h)]
theorem yp {ns : List Int}{P : B -> Prop}(h : P (.p (.int ns.sum))):Av [.lst (ns.map D.int)] P := ⟨ns, rfl, h⟩
theorem sk {lo : Int}{n : Nat}{x : D}(h : x ∈ fE lo n):∃ i : Nat, i < n /\ x = .int (lo + (i : Nat)) := by
  unfold fE at h;obtain ⟨i, hi, e⟩ := mem_map.mp h;exact ⟨i, mem_range.mp hi, e.symm⟩
end DL
namespace WS
section
variable {cb hb : List S3}
end
end WS
namespace WS
open PySem L2
noncomputable def num (i : Int):Str := Str.ofString (toString i)
noncomputable def sp : Str := ⟨#[32]⟩
noncomputable def aZ : Str := Str.ofString "hot"
noncomputable def bt : Str := Str.ofString "cold"
noncomputable def xH (k : Str)(x : S3):List Str := [k, num x.1, num x.2.1, num x.2.2]
noncomputable def row (k : Str)(x : S3):Str := Str.join sp (xH k x)
structure Ek (x : S3):Prop where
  a0 : 0 <= x.1
  a1 : x.1 < 10 ^ 10
  b0 : 0 <= x.2.1
  b1 : x.2.1 < 10 ^ 10
  c0 : 0 <= x.2.2
  c1 : x.2.2 < 10 ^ 10
theorem len_app (x y : Str):(x ++ y).length = x.length + y.length := Str.length_append x y
end WS
namespace WS
end WS
namespace WS
noncomputable def De (xs : List Int)(L : Nat):Int := (xs.drop L).sum
structure Drawn (g : Int)(hs cs : List S3)(gv wt : List Int):Prop where
  lg : gv.length = 251
  lw : wt.length = 251
  ng : ∀ x ∈ gv, 0 <= x
  nw : ∀ x ∈ wt, 0 <= x
  Ex : ∀ L : Nat, L <= 251 -> dh g hs cs (L : Nat) <= De wt L - De gv L
  all : De wt 0 - De gv 0 = dh g hs cs 0
end WS
namespace WS
end WS
namespace DL
open PySem L2
theorem tZ {α : Type}{xs : List α}{e : α -> D}{g : Tg}{te : DT}{ρ : aD}{Q : B -> Prop}(F : D -> D)(f : α -> D)(hF : ∀ x ∈ xs, F (e x) = f x)(hz : xs.length <= 1000000)(h : ∀ x ∈ xs, g.d (e x) ρ λρ' => te ρ' λb => some b.val = some (f x))(q : Q (.o (.lst (xs.map f)))) :
    x5 (xs.map e) g ck te ρ Q := by
  refine mh F (by rw [length_map];exact hz) (λd hd => ?_) ?_
  · obtain ⟨x, hx, rfl⟩ := mem_map.mp hd;rw [hF x hx];exact h x hx
  · rw [map_map, show xs.map (F ∘ e) = xs.map f from map_congr_left hF];exact q
theorem gu {α β : Type}{f g : α -> Option β}:∀ {xs : List α}, (∀ x ∈ xs, f x = g x) -> xs.filterMap f = xs.filterMap g
  | [], _ => rfl
  | x :: xs, h => by rw [filterMap_cons, filterMap_cons, h x mem_cons_self, gu λy hy => h y (mem_cons_of_mem _ hy)]
theorem yK {α : Type}{xs : List α}{e : α -> D}{g : Tg}{tc : gJ}{te : DT}{ρ : aD}{Q : B -> Prop}(F : D -> Option D)(f : α -> Option D)(hF : ∀ x ∈ xs, F (e x) = f x)(hz : xs.length <= 1000000)(h : ∀ x ∈ xs, g.d (e x) ρ λρ' => tc ρ' λc => (c = true -> te ρ' λb => some b.val = f x) /\ (c = false -> none = f x))(q : Q (.o (.lst (xs.filterMap f)))) :
    x5 (xs.map e) g tc te ρ Q := by
  refine sf F (by rw [length_map];exact hz) (λd hd => ?_) ?_
  · obtain ⟨x, hx, rfl⟩ := mem_map.mp hd;rw [hF x hx];exact h x hx
  · rw [List.filterMap_map, show xs.filterMap (F ∘ e) = xs.filterMap f from gu hF];exact q
theorem tf (xs : List D)(i : Int)(Q : B -> Prop):ll (.lst xs) (.int i) Q = ∃ d, ib xs i = some d /\ Q (.p d) := rfl
theorem tm (xs : List D)(i : Int)(Q : B -> Prop):ll (.tup xs) (.int i) Q = ∃ d, ib xs i = some d /\ Q (.p d) := rfl
theorem tj (ns : List Int)(i : Int)(Q : B -> Prop):ll (.scr ns) (.int i) Q = ∃ n, ib ns i = some n /\ Q (.p (.int n)) := rfl
theorem qg (i j : Int)(Q : B -> Prop):fy (.int i) (.int j) Q = Q (.p (.int (i + j))) := rfl
theorem qh (xs ys : List D)(Q : B -> Prop):fy (.lst xs) (.lst ys) Q = (xs.length + ys.length <= sizeLine /\ Q (.o (.lst (xs ++ ys)))) := rfl
theorem qi (x y : Str)(Q : B -> Prop):fy (.str x) (.str y) Q = (x.length + y.length <= sizeLine /\ Q (.p (.str (x ++ y)))) := rfl
theorem qj (xs ys : List D)(Q : B -> Prop):fy (.tup xs) (.tup ys) Q = (xs ≠ [] /\ ys ≠ [] /\ xs.length + ys.length <= sizeLine /\ Q (.p (.tup (xs ++ ys)))) := rfl
theorem qu (i j : Int)(Q : B -> Prop):gk (.int i) (.int j) Q = (pY i j /\ Q (.p (.int (i * j)))) := rfl
theorem qk (i j : Int)(Q : B -> Prop):fF (.int i) (.int j) Q = Q (.p (.bl (decide (i = j)))) := rfl
theorem ql (i j : Str)(Q : B -> Prop):fF (.str i) (.str j) Q = Q (.p (.bl (decide (i = j)))) := rfl
theorem sZ (i j : Bool)(Q : B -> Prop):fF (.bl i) (.bl j) Q = Q (.p (.bl (decide (i = j)))) := rfl
theorem qv (i j : Int)(Q : B -> Prop):e7 (.int i) (.int j) Q = Q (.p (.bl (!decide (i = j)))) := rfl
theorem qw (i j : Str)(Q : B -> Prop):e7 (.str i) (.str j) Q = Q (.p (.bl (!decide (i = j)))) := rfl
theorem tq (i j : Bool)(Q : B -> Prop):e7 (.bl i) (.bl j) Q = Q (.p (.bl (!decide (i = j)))) := rfl
theorem qo (xs : List D)(P : B -> Prop):fz [.lst xs] P = P (.p (.int xs.length)) := rfl
theorem qt (xs : List D)(P : B -> Prop):fz [.tup xs] P = P (.p (.int xs.length)) := rfl
theorem qp (xs : List Int)(P : B -> Prop):fz [.scr xs] P = P (.p (.int xs.length)) := rfl
noncomputable def Dy (d : D)(P : List D -> Prop):Prop := match d with
  | .lst xs => P xs
  | .scr ns => P (ns.map D.int)
  | _ => False
theorem nJ (te : DT)(ρ : aD)(P : List D -> Prop):cN te ρ P = te ρ λb => Dy b.val P := rfl
theorem tU (xs : List D)(P : List D -> Prop):Dy (.lst xs) P = P xs := rfl
theorem tV (xs : List Int)(P : List D -> Prop):Dy (.scr xs) P = P (xs.map D.int) := rfl
noncomputable def Df (d : D)(lo hi : Option Int)(Q : B -> Prop):Prop := match d with
  | .lst xs => Q (.o (.lst (hR xs lo hi)))
  | .scr ns => Q (.o (.lst ((hR ns lo hi).map D.int)))
  | .tup xs => ¬ (HT.ef xs.length 0 lo = 0 /\ HT.ef xs.length xs.length hi = xs.length) /\ Q (.p (.tup (hR xs lo hi)))
  | _ => False
theorem vT (te : DT)(tl th : xW)(ρ : aD)(Q : B -> Prop):oy te tl th ρ Q = te ρ λb => tl ρ λlo => th ρ λhi => Df b.val lo hi Q := rfl
theorem ui (xs : List D)(lo hi : Option Int)(Q : B -> Prop):Df (.lst xs) lo hi Q = Q (.o (.lst (hR xs lo hi))) := rfl
theorem uj (xs : List Int)(lo hi : Option Int)(Q : B -> Prop):Df (.scr xs) lo hi Q = Q (.o (.lst ((hR xs lo hi).map D.int))) := rfl
theorem uk (xs : List D)(lo hi : Option Int)(Q : B -> Prop):Df (.tup xs) lo hi Q = (¬ (HT.ef xs.length 0 lo = 0 /\ HT.ef xs.length xs.length hi = xs.length) /\ Q (.p (.tup (hR xs lo hi)))) := rfl
noncomputable def Bh (d : D)(lo hi st : Option Int)(Q : B -> Prop):Prop := match d with
  | .lst xs => Q (.o (.lst (n6 xs lo hi st)))
  | .scr ns => Q (.o (.lst ((n6 ns lo hi st).map D.int)))
  | _ => False
theorem tw (te : DT)(tl th ts : xW)(ρ : aD)(Q : B -> Prop):hU te tl th ts ρ Q = te ρ λb => tl ρ λlo => th ρ λhi => ts ρ λst => st ≠ some 0 /\ Bh b.val lo hi st Q := rfl
theorem rA (xs : List D)(lo hi st : Option Int)(Q : B -> Prop):Bh (.lst xs) lo hi st Q = Q (.o (.lst (n6 xs lo hi st))) := rfl
theorem rB (xs : List Int)(lo hi st : Option Int)(Q : B -> Prop):Bh (.scr xs) lo hi st Q = Q (.o (.lst ((n6 xs lo hi st).map D.int))) := rfl
theorem nB (xs : List D)(P : B -> Prop):d6 [.lst xs] P = P (.o (.lst xs)) := rfl
theorem nE (xs : List D)(P : B -> Prop):d6 [.tup xs] P = P (.o (.lst xs)) := rfl
theorem nD (xs : List Int)(P : B -> Prop):d6 [.scr xs] P = P (.o (.lst (xs.map D.int))) := rfl
theorem Dz {α : Type}(a : α)(l : List α):ib (a :: l) (0 : Int) = some a := by unfold ib tW;simp
theorem DB {α : Type}(a b : α)(l : List α):ib (a :: b :: l) (1 : Int) = some b := by
  have : ib (a :: b :: l) (((1 : Nat)):Int) = some b := gK rfl;exact this
theorem DC {α : Type}(a b c : α)(l : List α):ib (a :: b :: c :: l) (2 : Int) = some c := by
  have : ib (a :: b :: c :: l) (((2 : Nat)):Int) = some c := gK rfl;exact this
theorem DD {α : Type}(a b c d : α)(l : List α):ib (a :: b :: c :: d :: l) (3 : Int) = some d := by
  have : ib (a :: b :: c :: d :: l) (((3 : Nat)):Int) = some d := gK rfl;exact this
theorem DF {α : Type}(a b c d e : α)(l : List α):ib (a :: b :: c :: d :: e :: l) (4 : Int) = some e := by
  have : ib (a :: b :: c :: d :: e :: l) (((4 : Nat)):Int) = some e := gK rfl;exact this
theorem BW {α : Type}(a : α)(p : α -> Prop):(∃ d, some a = some d /\ p d) = p a := propext ⟨by rintro ⟨d, e, h⟩;cases e;exact h, λh => ⟨a, rfl, h⟩⟩
end DL
set_option maxHeartbeats 4000000
namespace L2
open PySem PySem.Spec PyProof.Rows
theorem bI.has {P : Program}{w : World}{H : Hp}{h : Heap}{a : Addr}{o : HO}(x : bI P w H h a o):∃ ob, h.get? a = some ob := by
  cases o with
  | lst xs => obtain ⟨_, _, _, _, e⟩ := x;exact ⟨_, e⟩
  | tup xs => obtain ⟨_, _, _, ob, e, _⟩ := x;exact ⟨_, e⟩
  | dK kvs => obtain ⟨_, _, _, _, o, _, _, e, _⟩ := x;exact ⟨_, e⟩
  | dT kvs => obtain ⟨_, _, _, _, o, _, _, e, _⟩ := x;exact ⟨_, e⟩
  | set S n => obtain ⟨o, _, _, _, e, _⟩ := x;exact ⟨_, e⟩
  | ins C dx fs => obtain ⟨_, _, _, e, _⟩ := x;exact ⟨_, e⟩
  | own y => exact x
  | xd fs => obtain ⟨_, ⟨_, _, _, e, _⟩, _⟩ := x;exact ⟨_, e⟩
  | rng lo hi => obtain ⟨_, _, _, e⟩ := x;exact ⟨_, e⟩
  | bR ob u => obtain ⟨e, _⟩ := x;exact ⟨_, e⟩
  | tbl ps =>
    unfold bI at x;first
      | exact ⟨_, x⟩
      | (obtain ⟨tb, e, _⟩ := x;exact ⟨_, e⟩)
  | met f y =>
    have e : h.get? a = some (methodObj (.ref f) (.ref y)) := x;exact ⟨_, e⟩
  | ext φ => obtain ⟨_, e, _⟩ := x;exact e
structure KB (fs : List Addr)(H H' : Hp)(h B : Heap):Prop where
  keep : ∀ b o, h.get? b = some o -> H b = none -> b ∉ fs -> B.get? b = some o
  there : ∀ b o, h.get? b = some o -> b ∉ fs -> ∃ o', B.get? b = some o'
  zw : ∀ a u, H' a = some u -> ∃ o, B.get? a = some o
theorem KB.un {fs : List Addr}{H H' : Hp}{h h1 h2 B : Heap}(k : KB fs H H' h B)(st : B.StaysIn h2)(u : Un fs [] H H' h h1)(up : h1.UpToSlots h2)
    (nf : ∀ b ∈ fs, ∀ o, h1.get? b = some o -> ∀ vs, o.data ≠ .fields vs):Un fs [] H H' h h2 where
  keep := λb o e n hb _ => st b o (k.keep b o e n hb)
  slot := λb o e n hb hx => by
    obtain ⟨sl, e1⟩ := u.slot b o e n hb hx;obtain ⟨sl', e2⟩ := up b _ e1 (nf b hb _ e1);exact ⟨sl', e2⟩
  free := u.free
  there := λb o e hx => by
    by_cases hb : b ∈ fs
    · obtain ⟨o', e1⟩ := u.there b o e hx;obtain ⟨sl, e2⟩ := up b o' e1 (nf b hb _ e1);exact ⟨_, e2⟩
    · obtain ⟨o', e1⟩ := k.there b o e hb;exact ⟨o', st b o' e1⟩
  iK := u.iK
  gS := u.gS
  iJ := u.iJ
theorem KB.aX {P : Program}{w : World}{fs : List Addr}{H H' : Hp}{h h1 h2 B : Heap}(k : KB fs H H' h B)(st1 : B.StaysIn h1)(st2 : B.StaysIn h2)(ok : hJ P w H' h1):hJ P w H' h2 := λa o e => by
  refine (ok a o e).fe (λb u hb q => ?_) (λ_ z => z) λ_ _ z => z;have : ∃ v, H' b = some v := by
    rcases hb with rfl | hb
    · exact ⟨o, e⟩
    · exact ⟨_, hb⟩
  obtain ⟨v, ev⟩ := this;obtain ⟨o', e'⟩ := k.zw b v ev;have := st1 b o' e';rw [q] at this;cases this;exact st2 b _ e'
noncomputable def fP (P : Program)(w : World):rH := λouter H s E e s' =>
  ∃ (ea : Addr) (cls a0 : Value) (H' : Hp) (B : Heap), e = .ref ea /\ Heap.FlyingW B outer ea cls a0 s'.heap /\ KB (jm outer) H H' s.heap B /\ s'.os = s.os /\ AllBare s'.gens /\
    Un (jm outer) [] H H' s.heap s'.heap /\ hJ P w H' s'.heap /\ E cls none H'
theorem fP.never {P : Program}{w : World}{outer : List Env}{H : Hp}{s s' : Shared}{e : Value}(h : fP P w outer H s (λ_ _ _ => False) e s'):False := by
  obtain ⟨_, _, _, _, _, _, _, _, _, _, _, _, z⟩ := h;exact z
theorem rY {h base : Heap}{l : List Env}(f : h.FunFrames base l):∀ b ∈ jm l, ∀ o, h.get? b = some o -> ∀ vs, o.data ≠ .fields vs := λb hb o e => by
  obtain ⟨_, o', e', d⟩ := f.mem hb;rw [e] at e';cases e';exact d
structure Body (X : Cx)(E : XK):Prop where
  ex : X.ex = []
  stack : X.stack = X.env :: X.outer
  frame : X.env.frame = some X.env.locals
  xe : ∀ e s', wpAny (model X.prog X.w) X.A (leaving X.env e) (λ_ s'' => fP X.prog X.w X.outer X.H₀ X.s₀ E e s'') (λe' s'' => fP X.prog X.w X.outer X.H₀ X.s₀ E e' s'') s' -> X.xe e s'
theorem bA {P : Program}{w : World}{K : Frag}{mg : Str -> Option Value}{base : Heap}{N : List Str}{qual : Str}{scope : Scope}{f : Addr}{cd : Value}{A : Around}{outer : List Env}{s : Shared}{H : Hp}{E : XK} :
    Body (mP (fP P w) P w K mg base N qual scope f cd A outer s H E) E := ⟨rfl, rfl, rfl, λ_ _ h => h⟩
section
variable {X : Cx} {E : XK} {pins : List (Addr × Obj)} {σ : St} {H : Hp} {s s' : Shared}
theorem Body.oP (b : Body X E):jm X.stack = X.env.locals :: X.fs := by
  rw [b.stack];show jm (X.env :: X.outer) = _;unfold jm;rw [filterMap_cons, b.frame];rfl
theorem Body.BA (b : Body X E)(I : Inv X pins σ H s){c : Addr}{o : Obj}(e : X.s₀.heap.get? c = some o)(hc : c ∉ X.fs):c ∉ jm X.stack := λz => by
  rw [b.oP] at z;rcases List.mem_cons.mp z with rfl | z
  · exact absurd (Nat.lt_of_lt_of_le (Heap.lt_size e) I.ok.above) (Nat.lt_irrefl _)
  · exact hc z
theorem Body.kb {H' : Hp}{B : Heap}(b : Body X E)(I : Inv X pins σ H s)(k : KB (jm X.stack) H H' s.heap B):KB X.fs X.H₀ H' X.s₀.heap B where
  keep := λc o e n hc => k.keep c o (I.base.keep c o e n hc (by rw [b.ex];simp)) (I.base.free c o e n (by rw [b.ex];simp)) (b.BA I e hc)
  there := λc o e hc => by
    obtain ⟨o', e'⟩ := I.base.there c o e (by rw [b.ex];simp);exact k.there c o' e' (b.BA I e hc)
  zw := k.zw
theorem Body.un {H' : Hp}{h' : Heap}(b : Body X E)(I : Inv X pins σ H s)(u : Un (jm X.stack) [] H H' s.heap h'):Un X.fs [] X.H₀ H' X.s₀.heap h' := by
  have u0 : Un (jm X.stack) [] X.H₀ H X.s₀.heap s.heap := I.base.mono (λc hc => by rw [b.oP];exact .tail _ hc) λc hc => by rw [b.ex] at hc;exact hc
  have u2 := u0.trans u;exact ⟨λc o e n hc hx => u2.keep c o e n (b.BA I e hc) hx, λc o e n _ hx => u2.any e n hx, u2.free, u2.there, u2.iK, u2.gS, u2.iJ⟩
theorem Body.passes (b : Body X E){E' : XK}(hE : ∀ cls dx H, E' cls dx H -> E cls dx H):Passes (fP X.prog X.w) X E' := by
  intro pins σ H s e s' I h;obtain ⟨ea, cls, a0, H', B, rfl, fl, k, os, bare, un, aX, q⟩ := h;refine b.xe _ _ ?_;have fl' := fl;rw [b.stack] at fl';refine wpAny_leaves_onW (by rw [I.ok.frames, b.stack]) b.frame fl' λh' fl2 up => ?_;refine ⟨ea, cls, a0, H', B, rfl, fl2, b.kb I k, os.trans I.os, bare, (b.kb I k).un fl2.1 (b.un I un) up ?_, k.aX fl.1 fl2.1 aX, hE _ _ _ q⟩;intro c hc;exact rY fl.2.2.1 c (by rw [b.oP];exact .tail _ hc)
theorem Body.raises (b : Body X E)(I : Inv X pins σ H s){ea : Addr}{cls : Value}{args : List Value}(hx : Heap.MadeExcOf s.heap s'.heap ea cls args)(os : s'.os = s.os)(bare : AllBare s'.gens)(q : E cls none H):X.xe (.ref ea) s' := by
  refine b.xe _ _ ?_;have hfr : X.A.frames = some (X.env :: X.outer) := by rw [I.ok.frames, b.stack]
  have st : (PySem.W.hideAll s.heap (jm X.stack)).StaysIn s.heap := λc o e => PySem.W.of_hideAll _ e;have ff : s.heap.FunFrames (PySem.W.hideAll s.heap (jm X.stack)) (X.env :: X.outer) := by
    have z := I.stack;rw [b.stack] at z;exact PySem.W.funFrames_hide z λenv he a ha => by
      rw [b.stack];exact List.mem_filterMap.mpr ⟨env, he, ha⟩
  have k : KB (jm X.stack) H H s.heap (PySem.W.hideAll s.heap (jm X.stack)) := by
    refine ⟨λc o e _ hc => PySem.W.hideAll_get _ e hc, λc o e hc => ⟨o, PySem.W.hideAll_get _ e hc⟩, λa u e => ?_⟩;obtain ⟨o, ho⟩ := (I.aX a u e).has;exact ⟨o, PySem.W.hideAll_get _ ho λhm => by rw [I.pJ a hm] at e;cases e⟩
  refine wpAny_leaves_madeW hfr b.frame st ff hx λh' t fl _ _ up => ?_;have u1 : Un (jm X.stack) [] H H s.heap s'.heap := Un.kept hx.keeps;refine ⟨ea, cls, .ref t, H, _, rfl, fl, b.kb I k, os.trans I.os, bare, (b.kb I k).un fl.1 (b.un I u1) up ?_, k.aX st fl.1 I.aX, q⟩;intro c hc o e;obtain ⟨_, o', e', d⟩ := ff.mem (show c ∈ jm (X.env :: X.outer) by rw [<- b.stack, b.oP];exact .tail _ hc);have := hx.keeps _ _ e';rw [e] at this;cases this;exact d
end
end L2
set_option maxHeartbeats 4000000
namespace L2
open PySem PySem.Spec PyProof.Rows
abbrev Bs : List Value := [.type "ValueError", .type "Exception", .type "BaseException", .type "object"]
noncomputable def j1 (K : Frag)(C : Addr):Prop := PySem.W.excIn K C Bs "ValueError.__new__" = true
set_option tactic.hygienic true in
theorem j1.obj {K : Frag}{h : Heap}{C : Addr}(X : K.In h)(q : j1 K C):∃ bm N nm q bs hdct sn sub ab col dd k0 k1 k2 k3 k5 mN, h.get? C = some (excClassObj nm q C N bs bm hdct sn sub ab col dd k0 k1 k2 k3 k5 "ValueError.__new__") /\ h.Ns N mN /\ mN "__init__" = none /\ OwnTail h Bs bm := by
  unfold j1 PySem.W.excIn at q;split at q
  · rename_i dd cd sl ho;split at q
    · rename_i C' bm k0 k1 k2 k3 n k5 hm hs;simp only [Bool.and_eq_true, beq_iff_eq, Bool.not_eq_true'] at q;obtain ⟨⟨⟨⟨⟨rfl, rfl⟩, hdel⟩, ht⟩, aX⟩, hni⟩ := q;obtain ⟨nm, bs, mro, ns, qn, hd, sn, sub, ab, col, del⟩ := cd;dsimp only at hm hdel aX hni;subst hm hdel;have hsl : sl = #[k0, k1, k2, k3, some (.builtin "ValueError.__new__"), k5] := by
        obtain ⟨l⟩ := sl;simp only at hs;rw [hs]
      subst hsl;exact ⟨bm, ns, nm, qn, bs, hd, sn, sub, ab, col, dd, k0, k1, k2, k3, k5, _, X _ _ ho, .of_isNs (PySem.W.isNs_of_in X aX), PySem.W.nsMap_none_of_in X aX hni, PySem.W.tail_of_in X ht⟩
    · cases q
  · cases q
section
variable {X : Cx} {E : XK} {C : Addr} {x : Str} {e₀ : Expr} {rest : List Expr} {np cpos pos : Pos} {ta : TA}
noncomputable def Bn (C : Addr)(E : XK)(ta : TA):TS := λ_ σ H => ta σ H λvs H1 => vs.length <= sizeLine /\ E (.ref C) none H1
theorem rk (b : Body X E)(hc : X.calm = true)(q : j1 X.K C)(hg : Gl X x)(hm : X.mg x = some (.ref C))(ha : PA X (e₀ :: rest) ta)(hdb :autoParam ((x == ("__debug__" : Str)) = false) aZb._auto_1)
    (he :autoParam (starEach (e₀ :: rest) X.env = (false, eval e₀ X.env) :: starEach rest X.env) aZa._auto_1) (hpl :autoParam ((backTo cpos (starEach rest X.env)).any (·.1) = false) aZa._auto_1) :
    PS X (.Raise (some (.Call (.Name x np) (e₀ :: rest) [] cpos)) none pos) (Bn C E ta) := by
  intro pins s σ H D I h;obtain ⟨tl, N, nm, qn, bs, hdct, sn, sub, ab, col, dd, k0, k1, k2, k3, k5, mN, hC, hN, hni, T⟩ := q.obj I.ok.mod.AK;refine wpAny_Raise_call_subT (C := C) (nm := nm) (q := qn) (N := N) (bs := bs) (bm := tl) (hdct := hdct) (sn := sn) (sub := sub) (ab := ab) (col := col) (dd := dd) (k0 := k0) (k1 := k1) (k2 := k2) (k3 := k3) (k5 := k5)
    PySem.F.excBase_ValueError (mN := mN) (T.hasType PySem.F.excBase_ValueError.hasBase) (I.ok.hd hc) (by rw [he];show (false || (backTo cpos (starEach rest X.env)).any (·.1)) = false;rw [hpl];rfl) hni (jN I hg hm ⟨rfl, ?_⟩ hdb)
  have hs := ha cpos pins s σ H _ I h;rw [he] at hs ⊢;refine Calls.evalArgs_plain (wpAny_mono hs ?_ λ_ _ y => y);rintro us s2 ⟨vs, H1, I1, r, hl, qE⟩;refine ⟨rfl, by show us.length <= _;rw [<- r.length];exact hl, I1.bk _ _ hC, hN.keeps I1.bk, T.keeps I1.bk, λh' e hx => ?_⟩;exact b.raises (s' := { s2 with heap := h' }) I1 hx rfl I1.bare qE
end
end L2
set_option maxHeartbeats 4000000
namespace L2
open PySem PySem.Spec PyProof.Rows PySem.W Builtin.Getset_descriptor
structure Ad (K : Frag)(C : Addr):Prop where
  ga : findIn K (.ref C) "__getattribute__" = some (some (.builtin "BaseException.__getattribute__"))
  gt : findIn K (.ref C) "__getattr__" = some none
  cls : findIn K (.ref C) "__class__" = some (some (.builtin "object.__class__"))
  get : specialIn K (.builtin "object.__class__") "__get__" = some (some (.builtin "getset_descriptor.__get__"))
  tk : takesIn K (.builtin "object.__class__") = some true
  mo : mroIn K C (.type "object") = some true
  mb : mroIn K C (.type "BaseException") = some true
  is : (clsIn K C).isSome = true
section
variable {prog : Program} {w : World} {A : Around} {E : Value -> Shared -> Prop} {s : Shared} {K : Frag} {x C : Addr}
end
section
variable {X : Cx} {C : Addr} {x : Addr} {ox : Obj}
end
end L2
set_option maxHeartbeats 4000000
namespace L2
open PySem PySem.Spec PyProof.Rows PySem.W
structure fg (X : Cx)(pins : List (Addr × Obj))(σ : St)(H0 H : Hp)(s0 s : Shared)(ea : Addr)(cls : Value)(B : Heap):Prop where
  I0 : Inv X pins σ H0 s0
  fl : ∃ a0, Heap.FlyingW B X.stack ea cls a0 s.heap
  kb : KB (jm X.stack) H0 H s0.heap B
  os : s.os = s0.os
  bare : AllBare s.gens
  un : Un (jm X.stack) [] H0 H s0.heap s.heap
  aX : hJ X.prog X.w H s.heap
section
variable {X : Cx} {pins : List (Addr × Obj)} {σ : St} {H0 H : Hp} {s0 s : Shared} {ea : Addr} {cls : Value} {B : Heap}
theorem fg.inv (F : fg X pins σ H0 H s0 s ea cls B):Inv X pins σ H s := F.I0.zE F.os F.un F.aX F.bare (λb z => absurd z (by simp))
theorem fg.step {h' : Heap}{a0 : Value}(F : fg X pins σ H0 H s0 s ea cls B)(fl : Heap.FlyingW B X.stack ea cls a0 h')(up : s.heap.UpToSlots h'):fg X pins σ H0 H s0 { s with heap := h' } ea cls B := by
  obtain ⟨a1, f1⟩ := F.fl;exact ⟨F.I0, ⟨a0, fl⟩, F.kb, F.os, F.bare, F.kb.un fl.1 F.un up (λb hb => rY f1.2.2.1 b hb), F.kb.aX f1.1 fl.1 F.aX⟩
theorem fg.of {E : XK}{e : Value}{s' : Shared}(I : Inv X pins σ H0 s0)(h : fP X.prog X.w X.stack H0 s0 E e s'):∃ ea cls H B, e = .ref ea /\ fg X pins σ H0 H s0 s' ea cls B /\ E cls none H := by
  obtain ⟨ea, cls, a0, H', B, rfl, fl, k, os, bare, un, aX, q⟩ := h;exact ⟨ea, cls, H', B, rfl, ⟨I, ⟨a0, fl⟩, k, os, bare, un, aX⟩, q⟩
theorem fg.pin (F : fg X pins σ H0 H s0 s ea cls B):∃ oe, s.heap.get? ea = some oe /\ oe.cls = cls /\ H ea = none /\ ea ≠ X.env.locals /\ ea ∉ X.fs /\ ∀ v, oe.data ≠ .cell v := by
  obtain ⟨a0, f1, f2, f3, oe, vs, T, oT, ts, he, ⟨hc, _⟩, hd, _⟩ := F.fl;have nf : ∀ b ∈ jm X.stack, b ≠ ea := λb hb z => by
    subst z;exact rY f3 _ hb _ he _ hd
  have I := F.inv;refine ⟨oe, he, hc, ?_, λz => ?_, λz => ?_, λv z => by rw [hd] at z;cases z⟩
  · cases q : H ea with
    | none => rfl
    | some u =>
      obtain ⟨o, ho⟩ := F.kb.zw ea u q;rw [f2] at ho;cases ho
  · obtain ⟨m, ⟨o, es, ep, ho, hdd, _⟩, _⟩ := I.loc;rw [<- z, he] at ho;cases ho;rw [hd] at hdd;cases hdd
  · obtain ⟨_, o', e', d⟩ := (I.jK).mem z;rw [he] at e';cases e';exact d _ hd
end
noncomputable abbrev Cx.C8 (X : Cx)(ea : Addr)(oe : Obj):Cx := { X with A := X.A.mark (some (.ref ea)), calm := false, pn := (ea, oe) :: X.pn, xe := λ_ _ => False }
theorem fg.hinv {X : Cx}{pins : List (Addr × Obj)}{σ : St}{H0 H : Hp}{s0 s : Shared}{ea : Addr}{cls : Value}{B : Heap}{oe : Obj}(F : fg X pins σ H0 H s0 s ea cls B)(he : s.heap.get? ea = some oe):Inv (X.C8 ea oe) pins σ H s := by
  have I := F.inv;obtain ⟨oe', he', hc, n, h1, h2, h3⟩ := F.pin;rw [he] at he';cases he';refine ⟨⟨I.ok.mod, I.ok.kind, I.ok.glob, I.ok.blt, I.ok.above, I.ok.inj, I.ok.has, I.ok.Bw, λz => (by cases z), ?_, I.ok.CG, I.ok.BX, I.ok.bs, I.ok.xZ, I.ok.ve, I.ok.uR, I.ok.jK, I.ok.zI⟩, I.os, I.bare, I.base, I.loc, I.cell, I.free, I.fM, λp hp => ?_, I.aX, I.len⟩
  · exact I.ok.frames
  · rcases List.mem_cons.mp hp with rfl | hp
    · exact ⟨he, n, h1, h2, h3⟩
    · exact I.pin p hp
theorem Dh {X : Cx}{pins : List (Addr × Obj)}{σ : St}{H : Hp}{s : Shared}{ea : Addr}{oe : Obj}(I : Inv (X.C8 ea oe) pins σ H s)(ok : X.Ok):Inv X pins σ H s :=
  ⟨ok, I.os, I.bare, I.base, I.loc, I.cell, I.free, I.fM, λp hp => I.pin p (.tail _ hp), I.aX, I.len⟩
noncomputable def PH (X : Cx)(hs : List ExceptHandler)(th : Value -> TS):Prop :=
  ∀ (pins : List (Addr × Obj)) (s0 s : Shared) (σ : St) (H0 H : Hp) (D : Ends) (ea : Addr) (cls : Value) (B : Heap), fg X pins σ H0 H s0 s ea cls B -> th cls D σ H ->
    wpAny (model X.prog X.w) X.A (handleBy (.ref ea) X.env hs) (SP X pins D) X.xe s
theorem A4 {X : Cx}:PH X [] (λ_ _ _ _ => False) := λ_ _ _ _ _ _ _ _ _ _ _ h => h.elim
noncomputable def uu (K : Frag)(c : Value)(ts tr : Value -> TS):Value -> TS := λcls D σ H => ∃ b, PySem.W.exmOne K cls c = some b /\ if b = true then ts cls D σ H else tr cls D σ H
section
variable {X : Cx} {y : Str} {c : Value} {np hpos : Pos} {b₀ : Stmt} {suite : List Stmt} {rest : List ExceptHandler} {ts : Addr -> Value -> TS} {tr : Value -> TS}
theorem zb (hg : Gl X y)(hm : X.mg y = some c)(hs : ∀ ea oe cls, oe.cls = cls -> lF (X.C8 ea oe) (b₀ :: suite) (ts ea cls))(hr : PH X rest tr)(hdb :autoParam ((y == ("__debug__" : Str)) = false) aZb._auto_1) :
    PH X (.ExceptHandler (some (.Name y np)) none (b₀ :: suite) hpos :: rest) (uu X.K c (λcls D σ H => ∀ ea, ts ea cls D σ H) tr) := by
  intro pins s0 s σ H0 H D ea cls B F h;obtain ⟨b, e, h⟩ := h;have I := F.inv;obtain ⟨oe, he, hc, n, h1, h2, h3⟩ := F.pin;have I2 := F.hinv he;refine wpAny_handleBy_cons (codeAny_handlers_test (jN (X := X.C8 ea oe) I2 hg hm ?_ hdb)) (by intro q;cases q);refine (PySem.W.exm_one (M := model X.prog X.w) I.iY (show PySem.W.Looks (model X.prog X.w) s.heap (typeOf (.ref ea)) cls from hc ▸ (PySem.W.Looks.ld he).andThen .now) e).here ?_;cases b with
  | false => exact hr pins s0 s σ H0 H D ea cls B F h
  | true =>
    obtain ⟨a0, fl⟩ := F.fl;refine codeAny_handlers_suite ?_;refine lands_againW fl λh₆ fl₆ up₆ => ?_;have F6 := F.step fl₆ up₆;obtain ⟨oe6, he6, hc6, _⟩ := F6.pin;have q := h ea;subst hc6;refine wpAny_mono (hs ea oe6 _ rfl pins _ σ H D (F6.hinv he6) q) (λf s' z => ?_) λ_ _ z => z.elim;cases f with
    | next => obtain ⟨σ', H', J, z⟩ := z;exact ⟨σ', H', Dh J I.ok, z⟩
    | brk => obtain ⟨σ', H', J, z⟩ := z;exact ⟨σ', H', Dh J I.ok, z⟩
    | cont => obtain ⟨σ', H', J, z⟩ := z;exact ⟨σ', H', Dh J I.ok, z⟩
    | ret u => obtain ⟨v, σ', H', J, z⟩ := z;exact ⟨v, σ', H', Dh J I.ok, z⟩
end
end L2
set_option maxHeartbeats 4000000
namespace L2
open PySem PySem.Spec PyProof.Rows PySem.W
section
variable {X : Cx} {pins : List (Addr × Obj)} {σ : St} {H : Hp} {s : Shared}
end
section
variable {X : Cx} {y n : Str} {i : Nat} {c : Value} {np hpos : Pos} {b₀ : Stmt} {suite : List Stmt} {rest : List ExceptHandler} {ts : Addr -> Value -> TS} {tr : Value -> TS}
end
section
variable {X : Cx} {CX : rH} {k : Nat} {f : Addr} {fd : FuncData} {ps : List Str} {sp : Sp} {x : Str} {p pos epos tpos : Pos} {e : Expr} {es : List Expr} {t : TA} {h₀ : ExceptHandler} {hs : List ExceptHandler} {th : Value -> TS}
end
section
variable {P : Program} {w : World} {K : Frag} {mg : Str -> Option Value} {base : Heap}
theorem fQ.x6 {x qual : Str}{st : Stmt}{f : Addr}{fd : FuncData}{N ps : List Str}{k : Nat}{sp : Sp}(F : fQ K x qual st f fd)(S : aB N ps (ae st))(len : ∀ vs H Q E, sp vs H Q E -> vs.length = ps.length)
    (hbody : ∀ (cdv : Value) (A : Around) (outer : List Env) (s : Shared) (H : Hp) (vs : List V) (Q : VK) (E : XK), cF k (A.deeper (envOfC qual (ae st) s.heap.objs.size f cdv)) -> sp vs H Q E ->
      ∃ t, lF (mP (fP P w) P w K mg base N qual (ae st) f cdv A outer s H E) (au st) t /\ t { nx := λ_ H' => Q .non H', rt := Q } (start N vs) H):aI P w K mg base (fP P w) (k + 1) f fd ps sp := by
  obtain ⟨oc, od, kV, doc, pm, an, cdv, ct, osl, rfl, lk, hcd⟩ := F.ex;exact zH lk hcd S len λA outer s H vs Q E hr hsp => hbody cdv A outer s H vs Q E hr hsp
structure BC (P : Program)(w : World)(K : Frag)(mg : Str -> Option Value)(base : Heap)(x : Str)(k : Nat)(ps : List Str)(sp : Sp):Prop where
  ex : ∃ f fd, aI P w K mg base (fP P w) k f fd ps sp /\ mg x = some (.ref f) /\ keepIn K (.ref f) = true /\ Binds K fd ps []
theorem wq {x qual : Str}{st : Stmt}{f : Addr}{fd : FuncData}{k : Nat}{ps : List Str}{sp : Sp}(F : fQ K x qual st f fd)(hm : mg x = some (.ref f))(hb : Binds K fd ps [])(ok : aI P w K mg base (fP P w) k f fd ps sp) :
    BC P w K mg base x k ps sp := ⟨f, fd, ok, hm, F.kp, hb⟩
end
theorem A1 {X : Cx}{E : XK}{x : Str}{k : Nat}{ps : List Str}{sp : Sp}{p pos : Pos}{e : Expr}{es : List Expr}{t : TA}(b : Body X E)(F : BC X.prog X.w X.K X.mg X.base x k ps sp)(hr : cF k X.A)(hg : Gl X x)(ha : PA X (e :: es) t)
    (hdb :autoParam ((x == ("__debug__" : Str)) = false) aZb._auto_1) (he :autoParam (starEach (e :: es) X.env = (false, eval e X.env) :: starEach es X.env) aZa._auto_1) (hpl :autoParam ((backTo pos (starEach es X.env)).any (·.1) = false) aZa._auto_1) :
    PE X (.Call (.Name x p) (e :: es) [] pos) (xQ sp [] E t) := by
  obtain ⟨f, fd, G, hm, hk, hb⟩ := F.ex;exact uc G hr hg hm hk hb .nil (b.passes λ_ _ _ h => h) ha hdb he hpl
end L2
set_option maxHeartbeats 4000000
namespace DL
open PySem L2
noncomputable abbrev rJ := List D -> (B -> Prop) -> (Value -> Prop) -> Prop
noncomputable def vt (K : Frag)(R : rJ):Sp := λvs H Q E => ∃ (ds : List D) (G : Hp) (P : B -> Prop) (Z : Value -> Prop), ak G H /\ bE K G vs ds /\ R ds P Z /\ (∀ b v H' G', P b -> Wd H G H' G' -> fO K H G' H' v b -> Q v H') /\ ∀ cls H', Z cls -> ak H H' -> E cls none H'
noncomputable abbrev Di (P : Program)(w : World)(K : Frag)(mg : Str -> Option Value)(base : Heap)(x : Str)(k : Nat)(ps : List Str)(R : rJ):Prop := BC P w K mg base x k ps (vt K R)
structure DX (X : Cx)(H0 : Hp)(st : Stmt)(t : fJ):Prop where
  ps : ∀ G0, PS X st (cS X.K H0 G0 t)
structure xX (X : Cx)(H0 : Hp)(st : List Stmt)(t : fJ):Prop where
  xw : ∀ G0, lF X st (cS X.K H0 G0 t)
section
variable {X : Cx} {H0 : Hp} {E : XK} {Z : Value -> Prop} {st : Stmt} {rest : List Stmt} {t u : fJ} {a b c e : Expr} {es : List Expr} {ta tb te : DT} {pos p epos : Pos} {x : Str} {k : Nat} {ps : List Str} {R : rJ} {tA : eI} {C : Addr}
theorem dx (h : DS X st t):DX X H0 st t := ⟨λG0 => h.ps H0 G0⟩
theorem Ew (h : sM X rest t):xX X H0 rest t := ⟨λG0 => h.xw H0 G0⟩
theorem lr : xX X H0 [] dU := Ew eP
theorem bW (h1 : DX X H0 st t)(h2 : xX X H0 rest u):xX X H0 (st :: rest) (fV t u) := xX.mk λG0 => lF.imp (aw (h1.ps G0) (h2.xw G0)) λDn σ H ⟨E, G, ρ, eo, w, en, h⟩ =>
  ⟨{ E with nx := u E }, G, ρ, ⟨λσ' H' G' ρ' w' en' h' => ⟨E, G', ρ', eo, w', en', h'⟩, eo.bk, eo.ct, eo.rt⟩, w, en, h⟩
theorem fj (h1 : DX X H0 st t):xX X H0 [st] t := xX.mk λG0 => aM (h1.ps G0)
theorem tL {x y : List Stmt}{tc : gJ}(hc : pZ X c tc)(ha : xX X H0 x t)(hb : xX X H0 y u):DX X H0 (.If c x y pos) (fS tc t u) := DX.mk λG0 => PS.imp (gB hc.pt (ha.xw G0) (hb.xw G0))<|by
  rintro Dn σ H ⟨E, G, ρ, eo, w, en, h⟩;obtain ⟨G1, w1, sg, e1⟩ := en.freeze w;refine ⟨G1, bR ρ, _, w1.gh, e1.p, h, λc H' G' p' w' => ?_⟩;cases c with
  | true => exact oW ⟨E, G, ρ, eo, w.back w', en.back w'.hh, p'.1 rfl⟩
  | false => exact kS ⟨E, G, ρ, eo, w.back w', en.back w'.hh, p'.2 rfl⟩
noncomputable def rS (Z : Value -> Prop)(c : Value)(t : eI):fJ := λ_ ρ => t (bR ρ) λ_ => Z c
theorem jE {np cpos : Pos}(bd : Body X E)(hZ : ∀ cls H', Z cls -> ak H0 H' -> E cls none H')(hc : X.calm = true)(q : j1 X.K C)(hg : Gl X x)(hm : X.mg x = some (.ref C))(ha : DA X (e :: es) tA)(hn :autoParam ((e :: es).length <= 1000) aZb._auto_1)(hdb :autoParam ((x == ("__debug__" : Str)) = false) aZb._auto_1)
    (he :autoParam (starEach (e :: es) X.env = (false, eval e X.env) :: starEach es X.env) aZa._auto_1) (hpl :autoParam ((backTo cpos (starEach es X.env)).any (·.1) = false) aZa._auto_1) :
    DX X H0 (.Raise (some (.Call (.Name x np) (e :: es) [] cpos)) none pos) (rS Z (.ref C) tA) := DX.mk λG0 => PS.imp (rk bd hc q hg hm ha.pa hdb he hpl)<|by
  rintro Dn σ H ⟨Ed, G, ρ, eo, w, en, h⟩;obtain ⟨G1, w1, sg, e1⟩ := en.freeze w;exact ⟨G1, bR ρ, _, w1.gh, e1.p, h, λds vs H' G' p' l' w' r' => ⟨by rw [Paired.length r', l'];exact Nat.le_of_lt (iV hn), hZ _ _ p' (w.hh.trans w'.hh)⟩⟩
section
variable (bd : Body X E) (hZ : ∀ cls H', Z cls -> ak H0 H' -> E cls none H') (F : Di X.prog X.w X.K X.mg X.base x k ps R) (hr : cF k X.A) (hg : Gl X x) (ha : DA X (e :: es) tA)
include bd hZ F hr hg ha
theorem jD (hdb :autoParam ((x == ("__debug__" : Str)) = false) aZb._auto_1)(he :autoParam (starEach (e :: es) X.env = (false, eval e X.env) :: starEach es X.env) aZa._auto_1)(hpl :autoParam ((backTo pos (starEach es X.env)).any (·.1) = false) aZa._auto_1)
    (hs :autoParam (swapsWith (.Call (.Name x p) (e :: es) [] pos) none epos.line X.env = pure false) aZa._auto_1):DX X H0 (.Expr (.Call (.Name x p) (e :: es) [] pos) epos) (λE ρ => tA (bR ρ) λds => R ds (λ_ => E.nx ρ) Z) :=
  DX.mk λG0 => PS.imp (dZ (A1 bd F hr hg ha.pa hdb he hpl) hs)<|by
    rintro Dn σ H ⟨Ed, G, ρ, eo, w, en, h⟩;obtain ⟨G1, w1, sg, e1⟩ := en.freeze w;refine ⟨G1, bR ρ, _, w1.gh, e1.p, h, λds vs H' G' p' l' w' r' => ?_⟩;show vt X.K R (vs ++ []) H' _ E;rw [append_nil];exact ⟨ds, G', _, Z, w'.gh, r', p', λb v H2 G2 p2 w2 r2 => eo.nx σ H2 G ρ (w.back (w'.trans w2)) (en.back (w'.trans w2).hh) p2, λcls H2 z s2 => hZ cls H2 z ((w.hh.trans w'.hh).trans s2)⟩
end
end
section
variable {X : Cx} {H0 : Hp} {tg iter : Expr} {body : List Stmt} {ti : eI} {g : Tg} {tb : fJ} {pos : Pos}
end
section
variable {P : Program} {w : World} {K : Frag} {mg : Str -> Option Value} {base : Heap}
theorem wW {x qual : Str}{st : Stmt}{f : Addr}{fd : FuncData}{N ps : List Str}{k : Nat}{R : rJ}(F : fQ K x qual st f fd)(S : aB N ps (ae st))(len : ∀ ds Q Z, R ds Q Z -> ds.length = ps.length)
    (hbody : ∀ (cdv : Value) (A : Around) (outer : List Env) (s : Shared) (H : Hp) (E : XK) (Z : Value -> Prop), cF k (A.deeper (PyProof.Rows.envOfC qual (ae st) s.heap.objs.size f cdv)) -> (∀ cls H', Z cls -> ak H H' -> E cls none H') ->
      ∃ t, xX (mP (fP P w) P w K mg base N qual (ae st) f cdv A outer s H E) H (au st) t /\ ∀ ds Q, R ds Q Z -> t { nx := λ_ => Q (.p .non), rt := Q } (aW N.length ds)):aI P w K mg base (fP P w) (k + 1) f fd ps (vt K R) := by
  refine F.x6 S (by rintro vs H Q E ⟨ds, G, P, Z, s, r, h, _⟩;rw [Paired.length r];exact len ds P Z h) ?_;rintro cdv A outer s H vs Q E hr ⟨ds, G, P, Z, sg, r, h, k, kz⟩;obtain ⟨t, h1, h2⟩ := hbody cdv A outer s H E Z hr kz;obtain ⟨e1, e2, e3⟩ := gG (K := K) N.length r;refine ⟨_, h1.xw G, _, G, _, ?_, Wd.refl sg, bY.only e2 e1 (iI _ _), h2 ds P h⟩;exact ⟨λσ H' G' ρ w' _ p => k _ _ H' G' p w' (show Rep K G' V.non D.non from .non), λσ H' G' ρ w' _ p => p.elim, λσ H' G' ρ w' _ p => p.elim, λb v H' G' w' r' p => k b v H' G' p w' r'⟩
theorem aI.drop {f : Addr}{fd : FuncData}{ps : List Str}{k : Nat}{sp : Sp}(F : aI P w K mg base (fP P w) k f fd ps sp)(h : ∀ vs H Q E, sp vs H Q E -> sp vs H Q E0):aI P w K mg base gI k f fd ps sp := by
  refine ⟨F.len, λA outer s H args us vs Q E hr he hb hv hs => codeAny_mono (F.run A outer s H args us vs Q E0 hr he hb hv (h _ _ _ _ hs)) λr s' q => ?_⟩;cases r with
  | error e => exact (fP.never (show fP P w outer H s (λ_ _ _ => False) e s' from q)).elim
  | ok fl => cases fl <;> exact q
end
structure p6 (K : Frag)(mg : Str -> Option Value)(x : Str)(C : Addr):Prop where
  er : j1 K C
  at_ : mg x = some (.ref C)
  get : Ad K C
end DL
set_option maxHeartbeats 4000000
namespace DL
open PySem L2
section
variable {X : Cx} {o e : Expr} {es : List Expr} {te : DT} {tA : eI} {pos : Pos}
noncomputable def Au (a : Str)(ds : List D)(P : B -> Prop):Prop := match ds with
  | [.str y] => (y.length == 0) = false /\ a.length + 2 <= sizeLine /\ P (.o (.lst ((Txt.split a y).map D.str)))
  | _ => False
noncomputable def Ar (sep : Str)(ds : List D)(P : B -> Prop):Prop := match ds with
  | [.lst xs] => ∃ ts : List Str, xs = ts.map D.str /\ JoinOk sep ts = true /\ P (.p (.str (Str.join sep ts)))
  | _ => False
noncomputable def BP : DR := λds P => match ds with
  | [.str x] => ∃ n, PySem.intText? x = some n /\ x.length <= 640 /\ P (.p (.int n))
  | _ => False
noncomputable abbrev vx := aD -> Str -> (Str -> Prop) -> Prop
noncomputable def cJ (K : Frag)(t : vx):TJ := λσ H acc R => ∃ (G : Hp) (ρ : aD) (P : Str -> Prop), ak G H /\ cW K G σ ρ /\ t ρ acc P /\ ∀ out H' G', P out -> Wd H G H' G' -> R out H'
structure DJ (X : Cx)(es : List Expr)(t : vx):Prop where
  pj : PJ X es (cJ X.K t)
theorem PJ.imp {t t' : TJ}(h : PJ X es t)(i : ∀ σ H acc R, t' σ H acc R -> t σ H acc R):PJ X es t' := λpins s σ H acc R I q => h pins s σ H acc R I (i σ H acc R q)
noncomputable def v8 : vx := λ_ acc P => P acc
noncomputable def v9 (x : Str)(t : vx):vx := λρ acc P => (acc ++ x).length <= sizeLine /\ t ρ (acc ++ x) P
noncomputable def wa (te : DT)(t : vx):vx := λρ acc P => te ρ λb => match b.val with
  | .str y => y.length <= sizeLine /\ (acc ++ y).length <= sizeLine /\ t ρ (acc ++ y) P
  | .int i => i.natAbs.log2 < 1920 /\ (acc ++ (toString i : Str)).length <= sizeLine /\ t ρ (acc ++ (toString i : Str)) P
  | _ => False
theorem lU : DJ X [] v8 := ⟨PJ.imp A5 (by rintro σ H acc R ⟨G, ρ, P, s, re, h, k⟩;exact k _ H G h (Wd.refl s))⟩
theorem fA {x : Str}{j : Nat}{t : vx}(h : DJ X es t):DJ X (.Constant (.str x) j pos :: es) (v9 x t) :=
  ⟨PJ.imp (A6 h.pj) (by rintro σ H acc R ⟨G, ρ, P, s, re, h, k⟩;exact ⟨h.1, G, ρ, P, s, re, h.2, k⟩)⟩
set_option tactic.hygienic true in
theorem fX {value : Expr}{t : vx}(hv : DE X value te)(h : DJ X es t):DJ X (.FormattedValue value (-1) none pos :: es) (wa te t) :=
  ⟨PJ.imp (A7 hv.pe h.pj)<|by
    rintro σ H acc R ⟨G, ρ, P, s, re, h, k⟩;refine ⟨G, ρ, _, s, re, h, λb v H1 G1 p1 w1 r1 => ?_⟩;obtain ⟨G1', w1', r1'⟩ := r1.give w1;split at p1
    · rename_i y ey;rw [ey] at r1';cases r1';exact ⟨y, .inl ⟨rfl, p1.1⟩, p1.2.1, G1', ρ, P, w1'.gh, re.mono w1'.gg, p1.2.2, λout H2 G2 q w2 => k out H2 G2 q (w1'.trans w2)⟩
    · rename_i i ei;rw [ei] at r1';cases r1';exact ⟨_, .inr ⟨i, rfl, p1.1, rfl⟩, p1.2.1, G1', ρ, P, w1'.gh, re.mono w1'.gg, p1.2.2, λout H2 G2 q w2 => k out H2 G2 q (w1'.trans w2)⟩
    · exact p1.elim⟩
noncomputable def Aq (t : vx):DT := λρ Q => t ρ Str.empty λout => out.length <= sizeLine /\ Q (.p (.str out))
theorem lO {v1 v2 : Expr}{rest : List Expr}{t : vx}(h : DJ X (v1 :: v2 :: rest) t):DE X (.JoinedStr (v1 :: v2 :: rest) pos) (Aq t) :=
  DE.of (y9 h.pj) (by rintro σ H Q ⟨G, ρ, P, s, re, h, k⟩;exact ⟨G, ρ, _, s, re, h, λout H' G' p' w' => ⟨p'.1, k _ _ H' G' p'.2 w' (.str _)⟩⟩)
end
theorem qr (x : Str)(P : B -> Prop):fz [.str x] P = (x.length <= sizeLine /\ P (.p (.int x.length))) := rfl
theorem nG (a y : Str)(P : B -> Prop):Au a [.str y] P = ((y.length == 0) = false /\ a.length + 2 <= sizeLine /\ P (.o (.lst ((Txt.split a y).map D.str)))) := rfl
theorem nF (sep : Str)(xs : List D)(P : B -> Prop):Ar sep [.lst xs] P = ∃ ts : List Str, xs = ts.map D.str /\ JoinOk sep ts = true /\ P (.p (.str (Str.join sep ts))) := rfl
theorem qm (x : Str)(P : B -> Prop):BP [.str x] P = ∃ n, PySem.intText? x = some n /\ x.length <= 640 /\ P (.p (.int n)) := rfl
end DL
set_option maxHeartbeats 4000000
namespace L2
open PySem PySem.Spec PyProof.Rows PySem.W
noncomputable def EX (X : Cx)(e : Expr)(t : XK -> TE):Prop := ∀ (pins : List (Addr × Obj)) (s : Shared) (σ : St) (H : Hp) (Q : VK) (E : XK) (xh : Value -> Shared -> Prop), Inv X pins σ H s -> t E σ H Q ->
  (∀ ea cls H0 H' s0 s' B, fg X pins σ H0 H' s0 s' ea cls B -> E cls none H' -> xh (.ref ea) s') -> wpAny (model X.prog X.w) X.A (eval e X.env) (EP X pins σ Q) xh s
noncomputable def TB (X : Cx)(b : List Stmt)(t : (Value -> TS) -> TS):Prop := ∀ (pins : List (Addr × Obj)) (s : Shared) (σ : St) (H : Hp) (D : Ends) (th : Value -> TS) (xh : Value -> Shared -> Prop), Inv X pins σ H s -> t th D σ H ->
  (∀ ea cls H0 H' s0 s' B, fg X pins σ H0 H' s0 s' ea cls B -> th cls D σ H' -> xh (.ref ea) s') -> wpAny (model X.prog X.w) X.A (execs b X.env) (SP X pins D) xh s
section
variable {X : Cx} {k : Nat} {f C : Addr} {fd : FuncData} {ps : List Str} {sp : Sp} {x m : Str} {p pos apos epos tpos : Pos} {e o : Expr} {es : List Expr} {ta : TE} {t : TA} {te : XK -> TE} {h₀ : ExceptHandler} {hs : List ExceptHandler} {th : Value -> TS}
theorem Be {pins : List (Addr × Obj)}{σ : St}{H : Hp}{s : Shared}{Q : VK}{E : XK}{xh : Value -> Shared -> Prop}{us : List Value}{vs : List V}(F : aI X.prog X.w X.K X.mg X.base (fP X.prog X.w) k f fd ps sp)(hr : cF k X.A)(hb : Binds X.K fd ps [])(I : Inv X pins σ H s)(r : Vals vs us)(h : sp vs H Q E)
    (hx : ∀ ea cls H0 H' s0 s' B, fg X pins σ H0 H' s0 s' ea cls B -> E cls none H' -> xh (.ref ea) s'):wpAny (model X.prog X.w) X.A (call (.ref f) us) (EP X pins σ Q) xh s := by
  have hl : us.length = ps.length := by rw [<- r.length];exact F.len _ _ _ _ h
  have hb' := hb s us I.iY (by rw [append_nil];exact hl);rw [append_nil] at hb';refine wpAny_call (codeAny_mono (F.run X.A X.stack s H ⟨us, []⟩ us vs Q E hr I.AA hb' r h) λr s' hq => ?_);cases r with
  | error e =>
    obtain ⟨ea, cls, H', B, rfl, F1, q1⟩ := fg.of I (show fP X.prog X.w X.stack H s E e s' from hq);exact hx ea cls H H' s s' B F1 q1
  | ok fl =>
    cases fl with
    | ret u => exact I.after hq
    | next => exact False.elim hq
    | brk => exact False.elim hq
    | cont => exact False.elim hq
theorem jI {pl : Sem Bool}(he : PE X.zR o ta)(c : h7 X.K C)(hm : Meth X.K C m f)(F : aI X.prog X.w X.K X.mg X.base (fP X.prog X.w) k f fd ps sp)(hr : cF k X.A)(hb : Binds X.K fd ps [])(ha : PA X.zR (e :: es) t)
    (hst :autoParam (starEach (e :: es) X.env = (false, eval e X.env) :: starEach es X.env) aZa._auto_1) (hpl :autoParam ((backTo pos (starEach es X.env)).any (·.1) = false) aZa._auto_1)
    (ht :autoParam (eval (.Call (.Attribute o m apos) (e :: es) [] pos) X.env = (do
      let ov <- eval o X.env
      standAt apos.atName
      let (f, first) <- holding [ov] (getMethod ov m pl)
      callWith pos f first (backTo pos (starEach (e :: es) X.env)) (backToKw pos (keywordEach [] X.env)))) aZa._auto_1) :
    EX X (.Call (.Attribute o m apos) (e :: es) [] pos) (λE => uv C m sp [] E ta t) := by
  intro pins s σ H Q E xh I h hx;refine methodCall_KW (pl := pl) (wpAny_mono (he pins s σ H _ (I.kA _) h) (λu s1 z => ?_) λ_ _ z => z.elim) ht;obtain ⟨y, H1, I1', rx, a, dx, fs, ex, ea, l, q⟩ := z;have I1 : Inv X pins σ H1 s1 := I1'.fD;subst ex;obtain rfl : u = Value.ref a := rx;refine gT I1 ea c hm l ?_;refine callWith_K (first := [.ref a]) (h₀ := X.base) I.ok.mod.AK hm.kp (wpAny_mono (ha pos pins s1 σ H1 _ (I1.kA _) q) (λus s2 z => ?_) λ_ _ z => z.elim) hst hpl;obtain ⟨vs, H2, I2', r, q2⟩ := z;have I2 : Inv X pins σ H2 s2 := I2'.fD;exact ⟨I2.iY, Be (us := .ref a :: us) (vs := .ref a :: vs) F hr hb I2 (.cons rfl r) (by rw [append_nil] at q2;exact q2) hx⟩
theorem jX (he : EX X e te)(hsw :autoParam (swapsWith e none epos.line X.env = pure false) aZa._auto_1):TB X [.Expr e epos] (λth D σ H => te (λcls _ H' => th cls D σ H') σ H λ_ H1 => D.nx σ H1) := by
  intro pins s σ H D th xh I h hx;refine wpAny_execs_cons (wpAny_Expr_any (wpAny_mono (he pins s σ H _ _ xh I h hx) (λv s1 z => ?_) λ_ _ z => z) I.quiet hsw);obtain ⟨y, H1, J, _, z⟩ := z;exact wpAny_execs_nil (show SP X pins D .next s1 from ⟨σ, H1, J, z⟩)
theorem uw {c : Expr}{a b : List Stmt}{tc : TT}{ua ub : (Value -> TS) -> TS}(hc : PT X.zR c tc)(ha : TB X a ua)(hb : TB X b ub):TB X [.If c a b epos] (λth => CN tc (ua th) (ub th)) := by
  intro pins s σ H D th xh I h hx;refine wpAny_execs_cons (wpAny_If (wpAny_mono (hc pins s σ H _ (I.kA _) h) (λd s1 z => ?_) λ_ _ z => z.elim));obtain ⟨H1, I1', q1⟩ := z;have I1 : Inv X pins σ H1 s1 := I1'.fD;have fin : ∀ (f : Flow) (s2 : Shared), SP X pins D f s2 -> (match f with | Flow.next => wpAny (model X.prog X.w) X.A (execs [] X.env) (SP X pins D) xh s2 | f => SP X pins D f s2) := λf s2 q => by
    cases f with
    | next => exact wpAny_execs_nil q
    | ret v => exact q
    | brk => exact q
    | cont => exact q
  cases d with
  | true => exact cm (ha pins s1 σ H1 D th xh I1 q1 hx) fin
  | false => exact cm (hb pins s1 σ H1 D th xh I1 q1 hx) fin
theorem A8 {E : XK}{b : List Stmt}{tb : (Value -> TS) -> TS}(bd : Body X E)(hb : TB X b tb)(hh : PH X (h₀ :: hs) th):PS X (.Try b (h₀ :: hs) [] [] tpos) (tb th) := by
  intro pins s σ H D I h;refine wpAny_Try_except ?_;refine wpAny_mono (hb pins s σ H D th (λe s1 => wpAny (model X.prog X.w) X.A (noteFrame e X.env) (λ_ s₂ => wpAny (model X.prog X.w) X.A (setFlight e none) (λ_ s₃ => wpAny (model X.prog X.w) X.A (handleBy e X.env (h₀ :: hs)) (SP X pins D) X.xe s₃) X.xe s₂) X.xe s1) I h λea cls H0 H' s0 s' B F1 q1 => ?_) (λf s1 q => ?_) λ_ _ z => z
  · obtain ⟨a0, fl⟩ := F1.fl;have fl' := fl;rw [bd.stack] at fl';have I1 := F1.I0;refine wpAny_looks_onW (by rw [I1.ok.frames, bd.stack]) bd.frame fl' λh4 held4 up4 => ?_;refine wpAny_landsW held4 λh5 fl5 up5 => ?_;rw [<- bd.stack] at fl5;exact hh pins s0 _ σ H0 H' D ea cls B (F1.step fl5 (up4.trans up5)) q1
  · cases f with
    | next => exact wpAny_execs_nil q
    | ret v => exact q
    | brk => exact q
    | cont => exact q
end
end L2
set_option maxHeartbeats 4000000
namespace L2
open PySem PySem.Spec PyProof.Rows PySem.W
section
variable {X : Cx} {pins : List (Addr × Obj)} {σ : St} {H : Hp} {s : Shared}
end
section
variable {X : Cx} {E : XK} {pins : List (Addr × Obj)} {σ : St} {H0 H : Hp} {s0 s : Shared} {ea : Addr} {cls : Value} {B : Heap}
end
section
variable {X : Cx} {E : XK} {y n : Str} {i : Nat} {c : Value} {np hpos : Pos} {b₀ : Stmt} {suite : List Stmt} {rest : List ExceptHandler} {ts : Addr -> Value -> TS} {tr : Value -> TS}
end
end L2
namespace L2
open PySem PySem.Spec PyProof.Rows
section
variable {κ : Type} [DecidableEq κ]
noncomputable def gH (kvs : List (κ × V))(k : κ):Option V := (kvs.find? λkv => decide (kv.1 = k)).map (·.2)
noncomputable def putK (kvs : List (κ × V))(k : κ)(v : V):List (κ × V) :=
  if (kvs.any λkv => decide (kv.1 = k)) = true then kvs.map (λkv => if kv.1 = k then (kv.1, v) else kv) else kvs ++ [(k, v)]
noncomputable def e5 (kvs : List (κ × V))(k : κ):List (κ × V) := kvs.filter λkv => decide (kv.1 ≠ k)
theorem iM {p : κ × V}{r : List (κ × V)}{k : κ}(e : p.1 = k):gH (p :: r) k = some p.2 := by simp [gH, List.find?_cons, e]
theorem iL {p : κ × V}{r : List (κ × V)}{k : κ}(e : ¬ p.1 = k):gH (p :: r) k = gH r k := by simp [gH, List.find?_cons, e]
theorem mJ (k : κ):∀ kvs : List (κ × V), (kvs.any λkv => decide (kv.1 = k)) = (gH kvs k).isSome
  | [] => rfl
  | p :: r => by
    rw [List.any_cons];by_cases e : p.1 = k
    · simp only [iM e, decide_eq_true e, Bool.true_or, Option.isSome_some]
    · rw [iL e, decide_eq_false e, Bool.false_or];exact mJ k r
theorem kF (kvs : List (κ × V))(k : κ)(v : V):(putK kvs k v).length <= kvs.length + 1 := by
  unfold putK;split
  · rw [length_map];lia
  · rw [length_append, length_cons, List.length_nil];lia
theorem xy {kvs : List (κ × V)}{k : κ}(v : V)(h : gH kvs k = none):putK kvs k v = kvs ++ [(k, v)] := by
  unfold putK;rw [mJ, h];exact if_neg (by decide)
theorem jh.iQ {o : Option V}{u : Option Value}(r : jh o u):o.isSome = u.isSome := by
  cases o with
  | none => cases u with
    | none => rfl
    | some _ => exact (show False from r).elim
  | some _ => cases u with
    | none => exact (show False from r).elim
    | some _ => rfl
theorem KV.val {kvs : List (κ × V)}{vs : List (κ × Value)}(r : KV kvs vs)(k : κ):jh (gH kvs k) (valueAt vs k) := by
  unfold KV at r;induction r with
  | nil => exact True.intro
  | @cons p q ps qs h t ih =>
    obtain ⟨h1, h2⟩ := h;by_cases e : p.1 = k
    · have e' : q.1 = k := h1.symm.trans e;have b : valueAt (q :: qs) k = some q.2 := by simp [valueAt, List.find?_cons, e']
      rw [iM e, b];exact h2
    · have e' : ¬ q.1 = k := λz => e (h1.trans z);have b : valueAt (q :: qs) k = valueAt qs k := by simp [valueAt, List.find?_cons, e']
      rw [iL e, b];exact ih
theorem KV.any {kvs : List (κ × V)}{vs : List (κ × Value)}(r : KV kvs vs)(k : κ):(kvs.any λkv => decide (kv.1 = k)) = vs.any λkv => decide (kv.1 = k) := by
  unfold KV at r;induction r with
  | nil => rfl
  | cons h t ih => rw [List.any_cons, List.any_cons, ih, h.1]
theorem KV.Bc {kvs : List (κ × V)}{vs : List (κ × Value)}(r : KV kvs vs)(k : κ){y : V}{u : Value}(ry : RelV y u) :
    KV (kvs.map λkv => if kv.1 = k then (kv.1, y) else kv) (vs.map λkv => if kv.1 = k then (kv.1, u) else kv) := by
  unfold KV at r ⊢;induction r with
  | nil => exact .nil
  | @cons p q ps qs h t ih =>
    rw [map_cons, map_cons];refine .cons ?_ ih;obtain ⟨h1, h2⟩ := h;by_cases e : p.1 = k
    · rw [if_pos e, if_pos (h1.symm.trans e)];exact ⟨h1, ry⟩
    · rw [if_neg e, if_neg (λz => e (h1.trans z))];exact ⟨h1, h2⟩
theorem KV.put {kvs : List (κ × V)}{vs : List (κ × Value)}(r : KV kvs vs)(k : κ){y : V}{u : Value}(ry : RelV y u):KV (putK kvs k y) (stored vs k u) := by
  unfold putK stored;rw [r.any k];by_cases e : (vs.any λkv => decide (kv.1 = k)) = true
  · rw [if_pos e, if_pos e];exact r.Bc k ry
  · rw [if_neg e, if_neg e];exact Paired.snoc r ⟨rfl, ry⟩
theorem KV.drop {kvs : List (κ × V)}{vs : List (κ × Value)}(r : KV kvs vs)(k : κ):KV (e5 kvs k) (without vs k) := by
  unfold KV at r ⊢;unfold e5 without;induction r with
  | nil => exact .nil
  | @cons p q ps qs h t ih =>
    obtain ⟨h1, h2⟩ := h;rw [filter_cons, filter_cons];by_cases e : p.1 = k
    · have a : ¬ decide (p.1 ≠ k) = true := by simp [e]
      have b : ¬ decide (q.1 ≠ k) = true := by simp [h1.symm.trans e]
      rw [if_neg a, if_neg b];exact ih
    · have e' : ¬ q.1 = k := λz => e (h1.trans z);have a : decide (p.1 ≠ k) = true := by simp [e]
      have b : decide (q.1 ≠ k) = true := by simp [e']
      rw [if_pos a, if_pos b];exact .cons ⟨h1, h2⟩ ih
theorem KV.length {kvs : List (κ × V)}{vs : List (κ × Value)}(r : KV kvs vs):kvs.length = vs.length := Paired.length r
theorem qB (kvs : List (κ × V))(k : κ):(e5 kvs k).length <= kvs.length := List.length_filter_le _ _
end
theorem qQ {P : Program}{w : World}{k : Key}{u : Value}(r : RelV (kV k) u):(bc P w).is k u = true := by
  cases k with
  | inl i => obtain ⟨t, e⟩ := (show ∃ t, u = Value.int i t from r);subst e;exact qT P w i t
  | inr x => obtain ⟨t, e⟩ := (show ∃ t, u = Value.str x t from r);subst e;exact qU P w x t
theorem nS {P : Program}{w : World}:∀ {ks : List Key} {us : List Value}, Vals (ks.map kV) us -> ItemsAre (bc P w) ks us
  | [], _, r => by rw [List.map_nil] at r;cases r;exact .nil
  | k :: ks, _, r => by
    rw [map_cons] at r;cases r with
    | cons h t => exact .cons (qQ h) (nS t)
noncomputable abbrev KT (H : Hp):List (List Key × V) -> List (List Key × Addr × Value) -> Prop := Paired λp q => p.1 = q.1 /\ H q.2.1 = some (.tup (p.1.map kV)) /\ RelV p.2 q.2.2
theorem KT.val {H : Hp}{kvs : List (List Key × V)}{xs : List (List Key × Addr × Value)}(r : KT H kvs xs)(k : List Key):jh (gH kvs k) ((atKey xs k).map (·.2)) := by
  induction r with
  | nil => exact True.intro
  | @cons p q ps qs h t ih =>
    obtain ⟨h1, _, h2⟩ := h;by_cases e : p.1 = k
    · have e' : q.1 = k := h1.symm.trans e;have b : atKey (q :: qs) k = some q.2 := by simp [atKey, List.find?_cons, e']
      rw [iM e, b];exact h2
    · have e' : ¬ q.1 = k := λz => e (h1.trans z);have b : atKey (q :: qs) k = atKey qs k := by simp [atKey, List.find?_cons, e']
      rw [iL e, b];exact ih
theorem KT.Bc {H : Hp}{kvs : List (List Key × V)}{xs : List (List Key × Addr × Value)}(r : KT H kvs xs)(k : List Key){y : V}{u : Value}(ry : RelV y u) :
    KT H (kvs.map λkv => if kv.1 = k then (kv.1, y) else kv) (xs.map (putAt k u)) := by
  induction r with
  | nil => exact .nil
  | @cons p q ps qs h t ih =>
    rw [map_cons, map_cons];refine .cons ?_ ih;obtain ⟨h1, h2, h3⟩ := h;unfold putAt;by_cases e : p.1 = k
    · rw [if_pos e, if_pos (h1.symm.trans e)];exact ⟨h1, h2, ry⟩
    · rw [if_neg e, if_neg (λz => e (h1.trans z))];exact ⟨h1, h2, h3⟩
theorem KT.put {H : Hp}{kvs : List (List Key × V)}{xs : List (List Key × Addr × Value)}(r : KT H kvs xs)(k : List Key){b : Addr}{y : V}{u : Value}(hb : H b = some (.tup (k.map kV)))(ry : RelV y u) :
    KT H (putK kvs k y) (storedH xs k b u) := by
  have e : (kvs.any λkv => decide (kv.1 = k)) = (atKey xs k).isSome := by
    rw [mJ, (r.val k).iQ, Option.isSome_map]
  unfold putK storedH;rw [e];by_cases q : (atKey xs k).isSome = true
  · rw [if_pos q, if_pos q];exact r.Bc k ry
  · rw [if_neg q, if_neg q];exact Paired.snoc r ⟨rfl, hb, ry⟩
theorem KT.keeps {H H' : Hp}{kvs : List (List Key × V)}{xs : List (List Key × Addr × Value)}(r : KT H kvs xs)(ht : ∀ b ys, H b = some (.tup ys) -> H' b = some (.tup ys)):KT H' kvs xs :=
  Paired.yN r λ_ _ z => ⟨z.1, ht _ _ z.2.1, z.2.2⟩
section
variable {P : Program} {w : World} {H : Hp} {h : Heap} {a : Addr}
theorem zW {u : HO}(ok : hJ P w H h)(e : Rd H a u):bI P w H h a u := e.ok ok
theorem tH {kvs : List (Key × V)}(ok : hJ P w H h)(e : Rd H a (.dK kvs)):kvs.length <= sizeLine /\ (a == sysModules) = false /\ ∃ vs, KV kvs vs /\ h.DictOf (bc P w) a vs :=
  show bI P w H h a (.dK kvs) from zW ok e
theorem kD {kvs : List (Key × V)}(ok : hJ P w H h)(e : H a = some (.dK kvs)):kvs.length <= sizeLine /\ (a == sysModules) = false /\ ∃ vs, KV kvs vs /\ h.DictOf (bc P w) a vs := tH ok (.inl e)
theorem se {ks : List Key}(ok : hJ P w H h)(e : H a = some (.tup (ks.map kV))):(tupleKind (bc P w)).is h ks a := by
  obtain ⟨_, its, r, o, h1, h2, n, h3⟩ := (show bI P w H h a (.tup (ks.map kV)) from ok a _ e)
  exact ⟨o, its.toArray, n, h1, h2, h3, by simpa using nS r⟩
theorem wg {kvs : List (List Key × V)}(ok : hJ P w H h)(e : Rd H a (.dT kvs)):kvs.length <= sizeLine /\ (a == sysModules) = false /\
    ∃ xs, KT H kvs xs /\ h.DictOfH (tupleKind (bc P w)) a xs := by
  obtain ⟨z, y, xs, r, o, es, ep, h1, h2, h3, h4, h5⟩ := (show bI P w H h a (.dT kvs) from zW ok e)
  refine ⟨z, y, xs, r, o, es, ep, h1, h2, h3, h4, λx hx => ?_, h5⟩;have all : ∀ {l : List (List Key × V)} {m : List (List Key × Addr × Value)}, KT H l m -> ∀ x ∈ m, (tupleKind (bc P w)).is h x.1 x.2.1 := by
    intro l m q;induction q with
    | nil => intro x hx;exact nomatch hx
    | @cons p q ps qs hq t ih =>
      intro x hx;rcases List.mem_cons.mp hx with e | hx
      · subst e;exact se ok (by rw [<- hq.1];exact hq.2.1)
      · exact ih x hx
  exact all r x hx
theorem BS {kvs : List (List Key × V)}(ok : hJ P w H h)(e : H a = some (.dT kvs)):kvs.length <= sizeLine /\ (a == sysModules) = false /\
    ∃ xs, KT H kvs xs /\ h.DictOfH (tupleKind (bc P w)) a xs := wg ok (.inl e)
end
noncomputable def uy (H : Hp)(a : Addr)(y : V)(r : Option V):Prop :=
  (∃ kvs k, Rd H a (.dK kvs) /\ y = kV k /\ r = gH kvs k) \/ ∃ kvs k b, Rd H a (.dT kvs) /\ y = .ref b /\ H b = some (.tup (k.map kV)) /\ r = gH kvs k
noncomputable def vv (H : Hp)(a : Addr)(y v : V)(H' : Hp):Prop :=
  (∃ kvs k, H a = some (.dK kvs) /\ y = kV k /\ kvs.length < sizeLine /\ H' = upd H a (.dK (putK kvs k v))) \/
  ∃ kvs k b, H a = some (.dT kvs) /\ y = .ref b /\ H b = some (.tup (k.map kV)) /\ kvs.length < sizeLine /\ H' = upd H a (.dT (putK kvs k v))
theorem uy.k {H : Hp}{a : Addr}{kvs : List (Key × V)}{k : Key}(e : H a = some (.dK kvs)):uy H a (kV k) (gH kvs k) := .inl ⟨kvs, k, .inl e, rfl, rfl⟩
theorem vv.k {H : Hp}{a : Addr}{kvs : List (Key × V)}{k : Key}{v : V}(e : H a = some (.dK kvs))(hl : kvs.length < sizeLine):vv H a (kV k) v (upd H a (.dK (putK kvs k v))) := .inl ⟨kvs, k, e, rfl, hl, rfl⟩
section
variable {X : Cx} {pins : List (Addr × Obj)} {σ : St} {H : Hp} {s : Shared} {a : Addr} {y v : V} {u r : Value} {o : Option V} {A : Around} {E : Value -> Shared -> Prop}
theorem Inv.big (I : Inv X pins σ H s):sysModules < s.heap.objs.size := by
  have h : mainGlobals < s.heap.objs.size := (I.mod.glob.keeps I.bk).lt;exact Nat.lt_trans (by decide) h
theorem Dv {Q : Value -> Shared -> Prop}(hu : A.units + 1 < cLine)(I : Inv X pins σ H s)(g : uy H a y o)(ry : RelV y u)(h : ∀ s', Inv X pins σ H s' -> Q (.bool o.isSome) s') :
    wpAny (model X.prog X.w) A (compareOp .In u (.ref a)) Q E s := by
  rcases g with ⟨kvs, k, e, ey, l⟩ | ⟨kvs, k, b, e, ey, eb, l⟩
  · subst ey;obtain ⟨z, hd, vs, rel, dd⟩ := tH I.aX e;refine wpAny_in_of (qQ ry) hd dd.mapOf ?_;rw [<- (rel.val k).iQ, <- l];exact h _ (I.tok _)
  · subst ey;cases (show u = Value.ref b from ry);obtain ⟨z, hd, xs, rel, dd⟩ := wg I.aX e;refine wpAny_in_heap (tupleKind_room_in1 hu) (se I.aX eb) hd dd ?_;have q := (rel.val k).iQ;rw [Option.isSome_map] at q;rw [<- q, <- l];exact h _ (I.tok _)
theorem jB {h' : Heap}{t' : Nat}{ob : HO}(I : Inv X pins σ H s)(mu : BF (H a))(hs : Heap.SameBut a s.heap h')(he : ∃ q, h'.get? a = some q)(new : bI X.prog X.w (upd H a ob) h' a ob) :
    Inv X pins σ (upd H a ob) { s with heap := h', toks := t' } :=
  I.write (x := a) (e := a) mu (.inl rfl) (λb q hb z => (hs.2 b hb).trans z) he new
theorem rV {P : Program}{w : World}{H' : Hp}{h' : Heap}{kvs : List (Key × V)}{vs : List (Key × Value)}(z : kvs.length <= sizeLine)(hd : (a == sysModules) = false)(rel : KV kvs vs)(dd : h'.DictOf (bc P w) a vs) :
    bI P w H' h' a (.dK kvs) := ⟨z, hd, vs, rel, dd⟩
theorem uJ {H' : Hp}{Q : Unit -> Shared -> Prop}(hu : A.units + 1 < cLine)(I : Inv X pins σ H s)(g : vv H a y v H')(ry : RelV y u)(rv : RelV v r)(h : ∀ s', Inv X pins σ H' s' -> Q () s') :
    wpAny (model X.prog X.w) A (setItem (.ref a) u r) Q E s := by
  rcases g with ⟨kvs, k, e, ey, l, eH⟩ | ⟨kvs, k, b, e, ey, eb, l, eH⟩
  · subst ey eH;obtain ⟨z, hd, vs, rel, dd⟩ := kD I.aX e;have hz : vs.length <= sizeLine := by rw [<- rel.length];exact z
    have hl : (putK kvs k v).length <= sizeLine := by have := kF kvs k v;lia
    refine wpAny_setItem_pairs (hsz := hz) (qQ ry) dd λh' dd' hs => h _ ?_;have he : ∃ q, h'.get? a = some q := let ⟨q, _, _, hq, _⟩ := dd';⟨q, hq⟩
    exact jB I (by rw [e];exact True.intro) hs he (rV hl hd (rel.put k rv) dd')
  · subst ey eH;cases (show u = Value.ref b from ry);obtain ⟨z, hd, xs, rel, dd⟩ := BS I.aX e;have hz : xs.length <= sizeLine := by rw [<- Paired.length rel];exact z
    have hl : (putK kvs k v).length <= sizeLine := by have := kF kvs k v;lia
    refine wpAny_setItem_heap (hsz := hz) (tupleKind_room_in1 hu) (se I.aX eb) dd λh' dd' hs => h _ ?_;obtain ⟨q, es, ep, hq, h2, h3, h4, _, h5⟩ := dd';refine jB I (by rw [e];exact True.intro) hs ⟨q, hq⟩ ⟨hl, hd, _, (rel.put k eb rv).keeps λc ys ec => ?_, q, es, ep, hq, h2, h3, h4, h5⟩;rw [af (ix ec e (λz => nomatch z))];exact ec
end
section
variable {X : Cx} {pins : List (Addr × Obj)} {σ : St} {H : Hp} {s : Shared} {a : Addr} {kvs : List (Key × V)} {k : Key} {u : Value} {A : Around} {E : Value -> Shared -> Prop}
theorem Bx {Q : Unit -> Shared -> Prop}(I : Inv X pins σ H s)(e : H a = some (.dK kvs))(ry : RelV (kV k) u)(l : (gH kvs k).isSome = true)(h : ∀ s', Inv X pins σ (upd H a (.dK (e5 kvs k))) s' -> Q () s') :
    wpAny (model X.prog X.w) A (delItem (.ref a) u) Q E s := by
  obtain ⟨z, hd, vs, rel, dd⟩ := kD I.aX e;refine wpAny_delItem_slot dd.typeIs (by decide) PySem.F.slot_dict_delitem
    (call_meetsIn PySem.F.slot_dict_delitem dd.typeIs PySem.F.entry_dict_delitem (PySem.F.args_dict_delitem_2 _ _) (meets_dict_delitem_pairs (bc X.prog X.w) a (qQ ry)) ⟨vs, dd, by rw [<- rel.length];exact z, by rw [<- (rel.val k).iQ];exact l, λh' dd' hs => h _ ?_⟩)
  have he : ∃ q, h'.get? a = some q := let ⟨q, _, _, hq, _⟩ := dd';⟨q, hq⟩
  exact jB I (by rw [e];exact True.intro) hs he (rV (Nat.le_trans (qB kvs k) z) hd (rel.drop k) dd')
theorem BR {v : V}{more : List Value}{Q : Value -> Shared -> Prop}(I : Inv X pins σ H s)(e : H a = some (.dK kvs))(ry : RelV (kV k) u)(l : gH kvs k = some v)(hm : more = [] \/ ∃ x, more = [x])
    (h : ∀ w' s', Inv X pins σ (upd H a (.dK (e5 kvs k))) s' -> RelV v w' -> Q w' s'):wpAny (model X.prog X.w) A (call (.builtin "dict.pop") (.ref a :: u :: more)) Q E s := by
  obtain ⟨z, hd, vs, rel, dd⟩ := kD I.aX e;obtain ⟨w', hw, rw'⟩ := jh.some_of (v := v) (o := valueAt vs k) (by rw [<- l];exact rel.val k);have hp : (keyPart u).isSome = true := by
    cases k with
    | inl i => obtain ⟨t, q⟩ := (show ∃ t, u = Value.int i t from ry);subst q;rfl
    | inr x => obtain ⟨t, q⟩ := (show ∃ t, u = Value.str x t from ry);subst q;rfl
  have ha : argsOk "dict.pop" ⟨.ref a :: u :: more, []⟩ := by
    rcases hm with q | ⟨x, q⟩
    · subst q;exact PySem.F.args_dict_pop_2 _ _
    · subst q;exact PySem.F.args_dict_pop_3 _ _ _
  refine call_meetsIn PySem.F.slot_dict_pop dd.typeIs PySem.F.entry_dict_pop ha (meets_dict_pop_there (bc X.prog X.w) a (qQ ry) more hm hp)
    ⟨vs, w', dd, by rw [<- rel.length];exact z, hw, λh' dd' hs => h w' _ ?_ rw'⟩
  have he : ∃ q, h'.get? a = some q := let ⟨q, _, _, hq, _⟩ := dd';⟨q, hq⟩
  exact jB I (by rw [e];exact True.intro) hs he (rV (Nat.le_trans (qB kvs k) z) hd (rel.drop k) dd')
theorem BQ {Q : Value -> Shared -> Prop}(I : Inv X pins σ H s)(e : Rd H a (.dK kvs))(h : ∀ t s', Inv X pins σ H s' -> Q (.int kvs.length t) s'):wpAny (model X.prog X.w) A (call (.builtin "len") [.ref a]) Q E s := by
  obtain ⟨z, hd, vs, rel, dd⟩ := tH I.aX e;refine call_len_dict hd dd (by rw [<- rel.length];rw [sizeLine_eq] at z;lia) ?_;rw [<- rel.length];exact h _ _ (I.tok _)
end
noncomputable def BG (i : Expr):Prop := ∀ ov iv, subscripted i false ov iv = operate [ov, iv] (getItem ov iv)
noncomputable def Ea (ty td : TE):TE := λσ H Q => ty σ H λy H1 => td σ H1 λx H2 => ∃ a o, x = .ref a /\ uy H2 a y o /\ Q (.bl o.isSome) H2
noncomputable def CC (td ty tv : TE):TS := λD σ H => tv σ H λv H1 => td σ H1 λx H2 => ty σ H2 λy H3 => ∃ a H4, x = .ref a /\ vv H3 a y v H4 /\ D.nx σ H4
section
variable {X : Cx} {o i e value : Expr} {pos pos' tpos : Pos} {td ty tv : TE}
theorem wZ (hu : X.A.units + 1 < cLine)(hi : PE X i ty)(ho : PE X o td):PC X .In i o (Ea ty td) := by
  intro pins s σ H Q I h;refine cm (hi pins s σ H _ I h) λiv s1 ⟨y, H1, I1, ry, q1⟩ => cm (ho pins s1 σ H1 _ I1 q1) ?_;rintro u s2 ⟨x, H2, I2, rx, a, ov, ex, g, q2⟩;subst ex;obtain rfl : u = Value.ref a := rx;exact Dv hu I2 g ry λs3 I3 => ⟨.bl ov.isSome, H2, I3, rfl, q2⟩
theorem zg (hu : X.A.units + 1 < cLine)(ho : PE X o td)(hi : PE X i ty)(hv : PE X value tv)(hs : swapsWith value (some (.Subscript o i pos')) pos.line X.env = pure false) :
    PS X (.Assign [.Subscript o i pos'] value pos) (CC td ty tv) := by
  intro pins s σ H D I h;refine wpAny_Assign_Subscript (cm (hv pins s σ H _ I h) λr s1 ⟨v, H1, I1, rv, q1⟩ => cm (ho pins s1 σ H1 _ I1 q1) λu s2 ⟨x, H2, I2, rx, q2⟩ => cm (hi pins s2 σ H2 _ I2 q2) ?_) hs;rintro iv s3 ⟨y, H3, I3, ry, a, H4, ex, g, q3⟩;subst ex;obtain rfl : u = Value.ref a := rx;exact uJ hu I3 g ry rv λs4 I4 => ⟨σ, H4, I4, q3⟩
end
theorem wb {P : Program}{w : World}{H : Hp}(h : Heap)(hb : sysModules < h.objs.size):bI P w H (h.push { cls := .type "dict", data := .dict #[] }) h.objs.size (.dK []) :=
  ⟨Nat.zero_le _, beq_eq_false_iff_ne.mpr (Ne.symm (Nat.ne_of_lt hb)), [], .nil, Heap.DictOf.new h⟩
noncomputable def Bl : TE := λ_ H Q => ∀ p, H p = none -> Q (.ref p) (upd H p (.dK []))
section
variable {X : Cx} {pos : Pos}
theorem rb : PE X (.Dict [] [] pos) Bl := λpins s σ H Q I h =>
  wpAny_Dict_empty ⟨.ref s.heap.objs.size, _, I.laid (a := s.heap.objs.size) (o := .dK []) (t' := s.toks) (λ_ _ q => Heap.get?_push_of_some _ q) (Nat.le_refl _) (wb s.heap I.big), rfl, h _ (I.aX.fresh (Nat.le_refl _))⟩
end
structure M1 (X : Cx)(o : Expr)(m : Str)(apos : Pos)(e : Expr)(cpos : Pos):Prop where
  base : attributeBase o m X.env (eval o X.env) = eval o X.env
  Ep : ((backTo cpos (starEach [e] X.env)).all (λx => !x.1) && (backToKw cpos (keywordEach [] X.env)).all (λx => x.1.isSome)
    && decide (([e]:List Expr).length + ([]:List Keyword).length + (if ([]:List Keyword).isEmpty then 0 else 1) < 30)) = true
  line : (apos.endLine == cpos.line) = true
  trees : backTo cpos (starEach [e] X.env) = [(false, eval e X.env)]
structure M2 (X : Cx)(o : Expr)(m : Str)(apos : Pos)(e f : Expr)(cpos : Pos):Prop where
  base : attributeBase o m X.env (eval o X.env) = eval o X.env
  Ep : ((backTo cpos (starEach [e, f] X.env)).all (λx => !x.1) && (backToKw cpos (keywordEach [] X.env)).all (λx => x.1.isSome)
    && decide (([e, f]:List Expr).length + ([]:List Keyword).length + (if ([]:List Keyword).isEmpty then 0 else 1) < 30)) = true
  line : (apos.endLine == cpos.line) = true
  trees : backTo cpos (starEach [e, f] X.env) = [(false, eval e X.env), (false, eval f X.env)]
noncomputable def Ej (H : Hp)(a : Addr):Prop := (∃ kvs, Rd H a (.dK kvs)) \/ ∃ kvs, Rd H a (.dT kvs)
theorem AE {X : Cx}{pins : List (Addr × Obj)}{σ : St}{H : Hp}{s : Shared}{a : Addr}(I : Inv X pins σ H s)(d : Ej H a) :
    s.TypeIs (.ref a) "dict" /\ (∀ b, Value.ref a = .ref b -> ∃ ob, s.heap.get? b = some ob /\ ob.dict = none) /\ (a == sysModules) = false := by
  rcases d with ⟨kvs, e⟩ | ⟨kvs, e⟩
  · obtain ⟨_, hd, vs, _, dd⟩ := tH I.aX e;refine ⟨dd.typeIs, λb q => ?_, hd⟩;cases q;obtain ⟨ob, _, _, h1, h2, _⟩ := dd;exact ⟨ob, h1, h2.2.1⟩
  · obtain ⟨_, hd, xs, _, dd⟩ := wg I.aX e;refine ⟨dd.typeIs, λb q => ?_, hd⟩;cases q;obtain ⟨ob, _, _, h1, h2, _⟩ := dd;exact ⟨ob, h1, h2.2.1⟩
section
variable {X : Cx} {pins : List (Addr × Obj)} {σ : St} {H : Hp} {s : Shared} {a : Addr} {y d : V} {u r : Value} {o : Option V} {A : Around} {E : Value -> Shared -> Prop}
end
noncomputable def Bm (td ty : TE):TE := λσ H Q => td σ H λx H1 => ∃ a, x = .ref a /\ Ej H1 a /\ ty σ H1 λy H2 => ∃ kvs k v, H2 a = some (.dK kvs) /\ y = kV k /\ gH kvs k = some v /\ Q v (upd H2 a (.dK (e5 kvs k)))
section
variable {X : Cx} {o e f : Expr} {apos cpos : Pos} {td ty tx : TE}
theorem xa (ho : PE X o td)(he : PE X e ty)(m : M1 X o "pop" apos e cpos):PE X (.Call (.Attribute o "pop" apos) [e] [] cpos) (Bm td ty) := by
  intro pins s σ H Q I h;refine wpAny_Call_method m.base m.Ep m.line PySem.F.plainAttrs_dict PySem.F.slot_dict_pop PySem.F.type_dict_pop (cm (ho pins s σ H _ I h) ?_);rintro u s1 ⟨x, H1, I1, rx, a, ex, d, q1⟩;subst ex;obtain rfl : u = Value.ref a := rx;obtain ⟨t1, t2, _⟩ := AE I1 d;refine ⟨t1, t2, ?_⟩;rw [m.trees];refine Calls.callWith_builtin rfl (Calls.evalArgs_plain (Calls.spliced_cons (cm (he pins s1 σ H1 _ I1 q1) λiv s2 ⟨y, H2, I2, ry, kvs, k, v, ea, ey, l, q2⟩ => Calls.spliced_nil ?_)));subst ey;exact BR I2 ea ry l (.inl rfl) λw' s3 I3 rw' => ⟨v, _, I3, rw', q2⟩
end
section
variable {X : Cx} {pins : List (Addr × Obj)} {σ : St} {H : Hp} {s : Shared} {a : Addr} {kvs : List (Key × V)} {A : Around} {E : Value -> Shared -> Prop}
end
section
variable {X : Cx} {pins : List (Addr × Obj)} {σ : St} {H : Hp} {s : Shared} {a : Addr} {y : V} {u : Value} {A : Around} {E : Value -> Shared -> Prop}
end
section
variable {X : Cx}
theorem uB : fI X (.builtin "len") (λxs H Q => ∃ a kvs, xs = [V.ref a] /\ H a = some (.dK kvs) /\ Q (.int kvs.length) H) := by
  intro pins s σ H xs us Q I r h;obtain ⟨a, kvs, rfl, ha, q⟩ := h;obtain ⟨u, rfl, ru⟩ := vals1 r;cases ru;exact BQ I (.inl ha) λt s' I' => ⟨.int kvs.length, H, I', ⟨t, rfl⟩, q⟩
end
section
variable {κ : Type} [DecidableEq κ]
theorem uM {p : κ × V}{r : List (κ × V)}{k : κ}(e : p.1 = k):e5 (p :: r) k = e5 r k := by
  unfold e5;rw [filter_cons, if_neg (by simp [e])]
theorem uL {p : κ × V}{r : List (κ × V)}{k : κ}(e : ¬ p.1 = k):e5 (p :: r) k = p :: e5 r k := by
  unfold e5;rw [filter_cons, if_pos (by simp [e])]
end
end L2
set_option maxHeartbeats 4000000
namespace L2
open PySem PySem.Spec PyProof.Rows PySem.W
noncomputable def sQ (v d : Addr):HO := .ext λh => h.IsValuesView v d
theorem pL {prog : Program}{w : World}{d : Addr}(hd : (d == sysModules) = false):MeetsIn prog w (Builtin.«dict.values» ⟨[.ref d], []⟩) (λA R s => s.TypeIs (.ref d) "dict" /\
    R (.ok (.ret (.ref s.heap.objs.size))) { s with heap := s.heap.push { cls := .type "dict_values", data := .fields #[.ref d] } }) :=
  .of_wp<|by
    rintro A R s ⟨ty, h⟩;unfold Builtin.«dict.values»;show wpAny _ _ (Builtin.Dict.noArgs "values" ⟨[.ref d], []⟩ >>= λd => Builtin.Dict.showsAll d >>= λ_ => newFields "dict_values" [.ref d] >>= λr => ret r) _ _ s;refine wpAny_bind ?_;unfold Builtin.Dict.noArgs;refine wpAny_bind (wpAny_notOrdered_dict ty ?_);show wpAny _ _ (pure d) _ _ s;refine wpAny_pure ?_;unfold Builtin.Dict.showsAll;rw [hd];refine wpAny_bind (wpAny_pure ?_);refine wpAny_bind ?_;show wpAny _ _ (if (#[Value.ref d]:Array Value).size > sizeLine + 2 then ((unsupported "record:memory" : Sem PUnit) >>= λ_ => newObjAsIs (.type "dict_values") (.fields #[.ref d]) none) else newObjAsIs (.type "dict_values") (.fields #[.ref d]) none) _ _ s;rw [if_neg (by show ¬ 1 > sizeLine + 2;lia)];unfold newObjAsIs;refine wpAny_bind (wpAny_alloc ?_);exact wpAny_pure (wpAny_pure ⟨_, rfl, h⟩)
section
variable {X : Cx}
noncomputable def zm : V -> List V -> Hp -> VK -> Prop := λx vs H Q => ∃ d kvs, x = .ref d /\ vs = [] /\ H d = some (.dK kvs) /\ ∀ v, H v = none -> Q (.ref v) (upd H v (sQ v d))
theorem vd : C4 X "dict.values" zm := by
  rintro pins s σ H x xs v us Q I rx r ⟨d, kvs, rfl, rfl, e, q⟩;cases r;cases (show v = Value.ref d from rx);obtain ⟨z, hd, vs, rel, dd⟩ := kD I.aX e;refine call_meetsIn PySem.F.slot_dict_values dd.typeIs PySem.F.entry_dict_values (PySem.F.args_dict_values_1 _) (pL hd) ⟨dd.typeIs, ?_⟩;have e1 : (s.heap.push { cls := .type "dict_values", data := .fields #[.ref d] }).get? s.heap.objs.size = some ({ cls := .type "dict_values", data := .fields #[.ref d] }:Obj) := Heap.get?_push_size _ rfl;refine ⟨.ref s.heap.objs.size, _, I.laid (t' := s.toks) (λb u q => Heap.get?_push_of_some _ q) (Nat.le_refl _) (o := sQ s.heap.objs.size d) ⟨⟨_, e1, rfl, rfl⟩, ⟨_, e1⟩, λh1 h2 p k => ?_⟩, rfl, q _ (I.aX.fresh (Nat.le_refl _))⟩;obtain ⟨o, p1, p2, p3⟩ := p;exact ⟨o, k _ p1, p2, p3⟩
noncomputable def Bb : List V -> Hp -> VK -> Prop := λxs H Q => ∃ v d kvs, xs = [V.ref v] /\ H v = some (sQ v d) /\ H d = some (.dK kvs) /\ ∀ l, H l = none -> Q (.ref l) (upd H l (.lst (kvs.map (·.2))))
theorem rQ (hc : X.calm = true):fI X (.type "list") Bb := by
  intro pins s σ H xs us Q I r h;obtain ⟨v, d, kvs, rfl, ev, ed, q⟩ := h;obtain ⟨u, rfl, ru⟩ := vals1 r;cases ru;obtain ⟨z, hd, vs, rel, dd⟩ := kD I.aX ed;have vw : s.heap.IsValuesView v d := ((I.aX v _ ev : bI _ _ _ _ _ (sQ v d))).1;obtain ⟨o, es, ep, dA⟩ := id dd;have hl : kvs.length = vs.length := rel.length;refine kdl_call (kdl_values (knd := bc X.prog X.w) (ep := ep)) (I.ok.hd hc) ⟨vw, o, es, dA⟩ (by rw [<- hl];exact z) λh' tk acc' c' k' hD hacc => ?_;have ea : acc'.toList = vs.map (·.2) := by
    refine List.ext_getElem? λj => ?_;rw [getElem?_map, Array.getElem?_toList];by_cases hj : j < vs.length
    · have h1 : acc'[j]? = some (acc'[j]'(by rw [hacc.1];exact hj)) := Array.getElem?_eq_getElem _;obtain ⟨k, e1⟩ := hacc.2 j _ h1;rw [h1, e1];rfl
    · rw [Array.getElem?_eq_none (by rw [hacc.1];lia), List.getElem?_eq_none (by lia)];rfl
  have rv : Vals (kvs.map (·.2)) (vs.map (·.2)) := by
    clear ea hacc hD dA dd q z hl ed;induction rel with
    | nil => exact .nil
    | cons f _ ih => exact .cons f.2 ih
  refine ⟨.ref _, _, I.laid (t' := tk) k' (Nat.le_refl _) (o := .lst (kvs.map (·.2))) ⟨by rw [length_map];exact z, vs.map (·.2), c', rv, ?_⟩, rfl, q _ (I.aX.fresh (Nat.le_refl _))⟩;rw [<- ea, Array.toArray_toList];exact hD
end
end L2
namespace DL
open PySem L2
noncomputable def d3 (p : Int × Int × Int):D := .tup [.int p.1, .int p.2.1, .int p.2.2]
theorem yv {K : Frag}{G : Hp}{es : List (Key × V)}{kvs : List (Int × Int × Int × Int)}(h : Paired (E3 G) es kvs):bE K G (es.map (·.2)) (kvs.map λp => d3 p.2) := by
  induction h with
  | nil => exact .nil
  | cons f _ ih =>
    obtain ⟨_, t, e, g⟩ := f;refine .cons ?_ ih;show Rep K G _ (d3 _);dsimp only;rw [e];exact Rep.kX g (.cons (.int _) (.cons (.int _) (.cons (.int _) .nil)))
theorem Rep.tI {K : Frag}{G : Hp}{v : V}{kvs : List (Int × Int × Int × Int)}(h : Rep K G v (.ext (.dki kvs))):∃ a es, v = .ref a /\ G a = some (.dK es) /\ Paired (E3 G) es kvs := by
  cases h with
  | ext h => obtain ⟨es, h1, h2⟩ := h;exact ⟨_, es, rfl, h1, h2⟩
section
variable {X : Cx} {o : Expr} {te : DT}
noncomputable def t4 (d : D)(Q : B -> Prop):Prop := match d with
  | .ext (.dki kvs) => Q (.o (.lst (kvs.map λp => d3 p.2)))
  | _ => False
noncomputable def rR (te : DT):DT := λρ Q => te ρ λb => t4 b.val Q
set_option tactic.hygienic true in
theorem qy {apos cpos pl pos : Pos}(hc : X.calm = true)(hgl : Gl X "list")(hml : X.mg "list" = none)(ho : DE X o te)(hbase :autoParam (attributeBase o "values" X.env (eval o X.env) = eval o X.env) aZa._auto_1)(hline :autoParam ((apos.endLine == cpos.line) = true) aZa._auto_1)
    (he :autoParam (starEach [.Call (.Attribute o "values" apos) [] [] cpos] X.env = (false, eval (.Call (.Attribute o "values" apos) [] [] cpos) X.env) :: starEach [] X.env) aZa._auto_1):DE X (.Call (.Name "list" pl) [.Call (.Attribute o "values" apos) [] [] cpos] [] pos) (rR te) := by
  have hp := aj (w6 PySem.F.plainAttrs_dict PySem.F.slot_dict_values PySem.F.type_dict_values vd ho.pe hbase hline) aN he;refine DE.of (n3 (rQ hc) hgl hml boot_list hp (he := he) (hpl := rfl)) ?_;rintro σ H Q ⟨G, ρ, P, s, re, h, k⟩;refine ⟨G, ρ, _, s, re, h, λb v H1 G1 p1 w1 r1 => ?_⟩;obtain ⟨G2, w2, r2⟩ := r1.give w1;unfold t4 at p1;split at p1
  · rename_i kvs e;rw [e] at r2;obtain ⟨a, es, rfl, g1, pr⟩ := r2.tI;have h1 := w2.gh _ _ g1;refine ⟨.inr (.inr (.inl ⟨rfl, .inl ⟨_, h1⟩⟩)), a, es, rfl, rfl, h1, λy hy => ?_⟩;have na : a ≠ y := aH h1 hy;refine ⟨y, a, es, rfl, ah, by rw [af na];exact h1, λl hl => ?_⟩;have ly : l ≠ y := λz => by rw [z, ah] at hl;cases hl
    rw [af ly] at hl;have g2l : G2 l = none := w2.gh.free hl;have g2y : G2 y = none := w2.gh.free hy;refine k _ _ _ G2 p1 ((w2.own (w2.hh.free hy) g2y).own (w2.hh.free hl) g2l) ⟨l, rfl, w2.hh.free hl, g2l, _, ah, yv pr⟩
  · exact p1.elim
end
end DL
set_option maxHeartbeats 4000000
namespace DL
open PySem L2
theorem Rep.gW {K : Frag}{G : Hp}{v : V}{C : Addr}{g n : Int}{hs cs : List (Int × Int × Int × Int)}(h : Rep K G v (.ext (.obj C g hs cs n))):∃ a dx b c, v = .ref a /\ G a = some (.ins C dx (eB g b c n)) /\ bz G G b hs /\ bz G G c cs := by
  cases h with
  | ext h => obtain ⟨dx, b, c, h1, h2, h3⟩ := h;exact ⟨_, dx, b, c, rfl, h1, h2, h3⟩
theorem Bd {α : Type}{a : α}{p : Prop}:(a = a /\ p) = p := by simp
theorem BK (d : D):(B.p d).val = d := rfl
theorem BJ (d : D):(B.o d).val = d := rfl
theorem vL (ds : List D):(B.n .tup ds).val = .tup ds := rfl
theorem vJ (ds : List D):(B.n .lst ds).val = .lst ds := rfl
theorem zC (g : Int)(x y : D):(B.n (.wk g) [x, y]).val = .tup [.int g, x, y] := rfl
theorem vK (C : Addr)(g n : Int)(hs cs : List (Int × Int × Int × Int)):(B.n (.obj C g n) [.ext (.dki hs), .ext (.dki cs)]).val = .ext (.obj C g hs cs n) := rfl
noncomputable def mS (C : Addr)(f : Int -> List (Int × Int × Int × Int) -> List (Int × Int × Int × Int) -> Int -> Prop):D -> Prop
  | .ext (.obj C' g hs cs n) => C' = C /\ f g hs cs n
  | _ => False
theorem lB {C : Addr}{f : Int -> List (Int × Int × Int × Int) -> List (Int × Int × Int × Int) -> Int -> Prop}{d : D}(h : mS C f d):∃ g hs cs n, d = .ext (.obj C g hs cs n) /\ f g hs cs n := by
  unfold mS at h;split at h
  · obtain ⟨rfl, h⟩ := h;exact ⟨_, _, _, _, rfl, h⟩
  · exact h.elim
noncomputable abbrev Sel := Int -> List (Int × Int × Int × Int) -> List (Int × Int × Int × Int) -> Int -> D
noncomputable def Bf : Sel := λg _ _ _ => .int g
noncomputable def xJ : Sel := λ_ hs _ _ => .ext (.dki hs)
noncomputable def sF : Sel := λ_ _ cs _ => .ext (.dki cs)
noncomputable def Ap (C : Addr)(sel : Sel)(te : DT):DT := λρ Q => te ρ λb => mS C (λg hs cs n => Q (.p (sel g hs cs n))) b.val
noncomputable def sP (f : Str)(sel : Sel):Prop := ∀ (K : Frag) (G : Hp) g hs cs n b c, bz G G b hs -> bz G G c cs -> ∃ v, (eB g b c n).lookup f = some v /\ Rep K G v (sel g hs cs n)
theorem uh : sP "gap" Bf := λK G g hs cs n b c h1 h2 => ⟨.int g, rfl, .int g⟩
theorem xK : sP "hots" xJ := λK G g hs cs n b c h1 h2 => ⟨.ref b, rfl, .ext h1⟩
theorem vm : sP "colds" sF := λK G g hs cs n b c h1 h2 => ⟨.ref c, rfl, .ext h2⟩
section
variable {X : Cx} {C : Addr} {o e : Expr} {es : List Expr} {te : DT} {ta : eI} {m f x : Str} {k : Nat} {ps : List Str} {pos apos epos : Pos} {R : DR}
theorem oC {sel : Sel}(cl : h7 X.K C)(na : eA X.K C f)(so : sP f sel)(ho : DE X o te)(hb :autoParam (attributeBase o f X.env (eval o X.env) = eval o X.env) aZa._auto_1):DE X (.Attribute o f pos) (Ap C sel te) :=
  DE.of (gb ho.pe hb)<|by
    rintro σ H Q ⟨G, ρ, P, s, re, h, k⟩;refine ⟨G, ρ, _, s, re, h, λb v H1 G1 p1 w1 r1 => ?_⟩;obtain ⟨G2, w2, r2⟩ := r1.give w1;obtain ⟨g, hs, cs, n, e, p1⟩ := lB p1;rw [e] at r2;obtain ⟨a, dx, y, z, rfl, h1, h2, h3⟩ := r2.gW;obtain ⟨v, l, rv⟩ := so X.K G2 g hs cs n y z h2 h3;exact ⟨a, C, dx, _, v, rfl, w2.gh _ _ h1, cl, na, l, k _ _ H1 G2 p1 w2 rv⟩
structure vq (P : Program)(w : World)(K : Frag)(mg : Str -> Option Value)(base : Heap)(C : Addr)(m : Str)(k : Nat)(ps : List Str)(R : DR):Prop where
  ex : ∃ f fd, aI P w K mg base gI k f fd ps (e6 K R) /\ Meth K C m f /\ Binds K fd ps []
structure xY (P : Program)(w : World)(K : Frag)(mg : Str -> Option Value)(base : Heap)(C : Addr)(m : Str)(k : Nat)(ps : List Str)(R : rJ):Prop where
  ex : ∃ f fd, aI P w K mg base (fP P w) k f fd ps (vt K R) /\ Meth K C m f /\ Binds K fd ps []
noncomputable def sN (m : Str):Prop := ∀ g b c n, (eB g b c n).lookup m = none
theorem kH {P : Program}{w : World}{K : Frag}{mg : Str -> Option Value}{base : Heap}{f : Addr}{fd : FuncData}(ok : aI P w K mg base gI k f fd ps (e6 K R))(hm : Meth K C m f)(hb : Binds K fd ps []):vq P w K mg base C m k ps R := ⟨f, fd, ok, hm, hb⟩
theorem j7 {P : Program}{w : World}{K : Frag}{mg : Str -> Option Value}{base : Heap}{f : Addr}{fd : FuncData}{R : rJ}(ok : aI P w K mg base (fP P w) k f fd ps (vt K R))(hm : Meth K C m f)(hb : Binds K fd ps []):xY P w K mg base C m k ps R := ⟨f, fd, ok, hm, hb⟩
theorem xY.drop {P : Program}{w : World}{K : Frag}{mg : Str -> Option Value}{base : Heap}{R : rJ}(F : xY P w K mg base C m k ps R):vq P w K mg base C m k ps (λds Q => R ds Q λ_ => False) := by
  obtain ⟨f, fd, G, h1, h2⟩ := F.ex;exact ⟨f, fd, aI.drop (G.imp (sp' := e6 K λds Q => R ds Q λ_ => False) (by rintro vs H Q E ⟨ds, g, P, a, b, c, d⟩;exact ⟨ds, g, P, _, a, b, c, d, λ_ _ z => z.elim⟩)) (λvs H Q E z => z), h1, h2⟩
noncomputable def As (C : Addr)(R : DR)(te : DT)(ta : eI):DT := λρ Q => te ρ λb => mS C (λg hs cs n => ta ρ λds => R (.ext (.obj C g hs cs n) :: ds) Q) b.val
theorem t5 {K : Frag}{C : Addr}{m : Str}{sp : Sp}{E : XK}{te : DT}{ta : eI}{len : Nat}{σ : St}{H G : Hp}{ρ : aD}{Q : VK}(nf : sN m)(s : ak G H)(re : cW K G σ ρ){W : Int -> List (Int × Int × Int × Int) -> List (Int × Int × Int × Int) -> Int -> List D -> Prop}
    (h : te ρ λb => mS C (λg hs cs n => ta ρ (W g hs cs n)) b.val)
    (k : ∀ g hs cs n ds v vs H2 G2, W g hs cs n ds -> Wd H G H2 G2 -> Rep K G2 v (.ext (.obj C g hs cs n)) -> bE K G2 vs ds -> sp (v :: vs) H2 Q E):uv C m sp [] E (cE K te) (cA K len ta) σ H Q := by
  refine ⟨G, ρ, _, s, re, h, λb v H1 G1 p1 w1 r1 => ?_⟩;obtain ⟨G2, w2, r2⟩ := r1.give w1;obtain ⟨g, hs, cs, n, e, p1⟩ := lB p1;rw [e] at r2;obtain ⟨a, dx, y, z, rfl, h1, h2, h3⟩ := id r2.gW;refine ⟨a, dx, _, rfl, w2.gh _ _ h1, nf g y z n, G2, ρ, _, w2.gh, re.mono w2.gg, p1, λds vs H3 G3 p3 l3 w3 r3 => ?_⟩;show sp (V.ref a :: (vs ++ [])) H3 Q E;rw [append_nil];exact k g hs cs n ds _ vs H3 G3 p3 (w2.trans w3) (r2.mono w3.gg) r3
theorem lR {pl : Sem Bool}(F : vq X.prog X.w X.K X.mg X.base C m k ps R)(cl : h7 X.K C)(nf : sN m)(hr : cF k X.A)(ho : DE X o te)(ha : DA X (e :: es) ta)
    (hst :autoParam (starEach (e :: es) X.env = (false, eval e X.env) :: starEach es X.env) aZa._auto_1) (hpl :autoParam ((backTo pos (starEach es X.env)).any (·.1) = false) aZa._auto_1)
    (ht :autoParam (eval (.Call (.Attribute o m apos) (e :: es) [] pos) X.env = (do
      let ov <- eval o X.env
      standAt apos.atName
      let (f, first) <- holding [ov] (getMethod ov m pl)
      callWith pos f first (backTo pos (starEach (e :: es) X.env)) (backToKw pos (keywordEach [] X.env)))) aZa._auto_1):DE X (.Call (.Attribute o m apos) (e :: es) [] pos) (As C R te ta) := by
  obtain ⟨f, fd, F, hm, hb⟩ := F.ex;exact DE.of (eD (pl := pl) ho.pe cl hm F hr hb .nil q8 ha.pa hst hpl ht) λσ H Q ⟨G, ρ, P, s, re, h, k⟩ =>
    t5 nf s re h λg hs cs n ds v vs H2 G2 p2 w2 r2 rr => ⟨_, G2, P, w2.gh, .cons r2 rr, p2, nR k w2⟩
noncomputable def vR (C : Addr)(R : DR)(te : DT):DT := λρ Q => te ρ λb => mS C (λg hs cs n => R [.ext (.obj C g hs cs n)] Q) b.val
theorem fL {pl : Sem Bool}(F : vq X.prog X.w X.K X.mg X.base C m k ps R)(cl : h7 X.K C)(nf : sN m)(hr : cF k X.A)(ho : DE X o te)
    (ht :autoParam (eval (.Call (.Attribute o m apos) [] [] pos) X.env = (do
      let ov <- eval o X.env
      standAt apos.atName
      let (f, first) <- holding [ov] (getMethod ov m pl)
      callWith pos f first (backTo pos (starEach [] X.env)) (backToKw pos (keywordEach [] X.env)))) aZa._auto_1):DE X (.Call (.Attribute o m apos) [] [] pos) (vR C R te) := by
  obtain ⟨f, fd, F, hm, hb⟩ := F.ex;refine DE.of (xg (pl := pl) ho.pe cl hm F hr hb .nil q8 ht) ?_;rintro σ H Q ⟨G, ρ, P, s, re, h, k⟩;refine ⟨G, ρ, _, s, re, h, λb v H1 G1 p1 w1 r1 => ?_⟩;obtain ⟨G2, w2, r2⟩ := r1.give w1;obtain ⟨g, hs, cs, n, e, p1⟩ := lB p1;rw [e] at r2;obtain ⟨a, dx, y, z, rfl, h1, h2, h3⟩ := id r2.gW;exact ⟨a, dx, _, rfl, w2.gh _ _ h1, nf g y z n, [_], G2, P, w2.gh, .cons r2 .nil, p1, nR k w2⟩
end
section
variable {X : Cx} {H0 : Hp} {E : XK} {Z : Value -> Prop} {o e : Expr} {es : List Expr} {te : DT} {pos apos epos : Pos} {m : Str} {k : Nat} {ps : List Str} {R : rJ} {tA : eI} {C : Addr} {pl : Sem Bool}
variable (bd : Body X E) (hZ : ∀ cls H', Z cls -> ak H0 H' -> E cls none H') (F : xY X.prog X.w X.K X.mg X.base C m k ps R) (cl : h7 X.K C) (nf : sN m) (hr : cF k X.A) (ho : DE X o te) (ha : DA X (e :: es) tA)
noncomputable def vS (C : Addr)(R : rJ)(Z : Value -> Prop)(te : DT)(ta : eI):DT := λρ Q => te ρ λb => mS C (λg hs cs n => ta ρ λds => R (.ext (.obj C g hs cs n) :: ds) Q Z) b.val
include bd hZ F cl nf hr ho ha
theorem qD (hst :autoParam (starEach (e :: es) X.env = (false, eval e X.env) :: starEach es X.env) aZa._auto_1)(hpl :autoParam ((backTo pos (starEach es X.env)).any (·.1) = false) aZa._auto_1)
    (ht :autoParam (eval (.Call (.Attribute o m apos) (e :: es) [] pos) X.env = (do
      let ov <- eval o X.env
      standAt apos.atName
      let (f, first) <- holding [ov] (getMethod ov m pl)
      callWith pos f first (backTo pos (starEach (e :: es) X.env)) (backToKw pos (keywordEach [] X.env)))) aZa._auto_1)
    (hs :autoParam (swapsWith (.Call (.Attribute o m apos) (e :: es) [] pos) none epos.line X.env = pure false) aZa._auto_1):DX X H0 (.Expr (.Call (.Attribute o m apos) (e :: es) [] pos) epos) (λE ρ => vS C R Z te tA (bR ρ) λ_ => E.nx ρ) := by
  obtain ⟨f, fd, F, hm, hb⟩ := F.ex;refine DX.mk λG0 => PS.imp (dZ (eD (pl := pl) ho.pe cl hm F hr hb .nil (bd.passes λ_ _ _ h => h) ha.pa hst hpl ht) hs) ?_;rintro Dn σ H ⟨Ed, G, ρ, eo, w, en, h⟩;obtain ⟨G1, w1, sg, e1⟩ := en.freeze w;exact t5 nf w1.gh e1.p h λg hs cs n ds v vs H2 G2 p2 w2 r2 rr => ⟨_, G2, _, Z, w2.gh, .cons r2 rr, p2, λb v H3 G3 p3 w3 r3 => eo.nx σ H3 G ρ (w.back (w2.trans w3)) (en.back (w2.trans w3).hh) p3, λcls H3 z s3 => hZ cls H3 z ((w.hh.trans w2.hh).trans s3)⟩
end
section
variable {X : Cx} {e : Expr} {te : DT} {pos p : Pos}
noncomputable def cG (kvs : List (Int × Int × Int × Int))(n : Int):Bool := decide (n ∈ kvs.map (·.1))
theorem mK {G : Hp}{es : List (Key × V)}{kvs : List (Int × Int × Int × Int)}(n : Int)(h : Paired (E3 G) es kvs):(gH es (Sum.inl n)).isSome = cG kvs n := by
  unfold cG;induction h with
  | nil => rfl
  | @cons a b l r f _ ih =>
    by_cases c : b.1 = n
    · rw [iM (by rw [f.1, c]), decide_eq_true (by rw [map_cons, c];exact mem_cons_self)];rfl
    · rw [iL (by rw [f.1];intro z;exact c (Sum.inl.inj z)), ih, decide_eq_decide, map_cons, List.mem_cons];exact ⟨.inr, λz => z.resolve_left λy => c y.symm⟩
noncomputable def BO : D2 := λx y Q => match x, y with
  | .int n, .ext (.dki kvs) => Q (.p (.bl (cG kvs n)))
  | _, _ => False
noncomputable def tp : DR := λds Q => match ds with
  | [.ext (.dki kvs)] => Q (.p (.int kvs.length))
  | _ => False
theorem ym : CallD X (.builtin "len") tp := by
  refine ⟨_, uB, λH G vs ds P Q s r h k => ?_⟩;unfold tp at h;split at h
  · obtain ⟨v, rfl, rv⟩ := gC r;obtain ⟨a, es, rfl, g, pr⟩ := rv.tI;refine ⟨a, es, rfl, s _ _ g, ?_⟩;rw [Paired.length pr];exact k _ _ H G h (Wd.refl s) (.int _)
  · exact h.elim
end
end DL
set_option maxHeartbeats 4000000
namespace DL
open PySem L2
noncomputable def zx (b0 b1 b2 : B)(Q : B -> Prop):Prop := match b0.val, b1, b2 with
  | .int g, .o d1, .o d2 => Q (.n (.wk g) [d1, d2])
  | _, _, _ => False
noncomputable def vU (t0 t1 t2 : DT):DT := λρ Q => t0 ρ λb0 => t1 ρ λb1 => t2 ρ λb2 => zx b0 b1 b2 Q
section
variable {X : Cx} {e0 e1 e2 : Expr} {t0 t1 t2 : DT} {pos : Pos}
set_option tactic.hygienic true in
theorem yq {kx}(h0 : DE X e0 t0)(h1 : DE X e1 t1)(h2 : DE X e2 t2)(hs0 :autoParam (starEach (e0 :: [e1, e2]) X.env = (false, eval e0 X.env) :: starEach [e1, e2] X.env) aZa._auto_1)(hs1 :autoParam (starEach (e1 :: [e2]) X.env = (false, eval e1 X.env) :: starEach [e2] X.env) aZa._auto_1)(hs2 :autoParam (starEach (e2 :: []) X.env = (false, eval e2 X.env) :: starEach [] X.env) aZa._auto_1):DE X (.Tuple [e0, e1, e2] kx pos) (vU t0 t1 t2) := by
  refine DE.of (iC (aj h0.pe (aj h1.pe (aj h2.pe aN hs2) hs1) hs0)) ?_;rintro σ H Q ⟨G, ρ, P, s, re, h, k⟩;refine ⟨G, ρ, _, s, re, h, λb0 v0 H1 G1 p1 w1 r1 => ?_⟩;obtain ⟨G1', w1', r1'⟩ := r1.give w1;refine ⟨G1', ρ, _, w1'.gh, re.mono w1'.gg, p1, λb1 v1 H2 G2 p2 w2 r2 => ?_⟩;refine ⟨G2, ρ, _, w2.gh, (re.mono w1'.gg).mono w2.gg, p2, λb2 v2 H3 G3 p3 w3 r3 => ?_⟩;unfold zx at p3;split at p3
  · rename_i g d1 d2 e;rw [e] at r1';cases r1';obtain ⟨l1, rfl, n1, o1⟩ := r2;obtain ⟨l2, rfl, n2, o2⟩ := r3;have o1' : dN X.K G3 H3 l1 d1 := o1.fe w3.gg (by rw [w3.old l1 o1.chg];exact o1.1) λo q => w3.hh _ _ q;have l12 : l1 ≠ l2 := λz => o1.there (z ▸ n2);have w := (w1'.trans w2).trans w3;refine ⟨(show 3 <= sizeLine by decide), λp hp => ?_⟩;have st : ∀ (a : Addr) (d : D), dN X.K G3 H3 a d -> dN X.K (upd G3 p (.tup [.int g, .ref l1, .ref l2])) (upd H3 p (.tup [.int g, .ref l1, .ref l2])) a d := λa d o => by
      have ne : a ≠ p := λz => o.there (z ▸ hp);exact o.fe ((ak.refl _).upd (w.gh.free hp)) (by rw [af ne];exact o.1) λob q => by rw [af ne];exact q
    refine k _ _ _ _ p3 (w.new hp) ⟨p, [l1, l2], rfl, by simp [l12], .cons ⟨w1'.hh.free n1, st _ _ o1'⟩ (.cons ⟨(w1'.trans w2).hh.free n2, st _ _ o2⟩ .nil), ?_⟩;exact ⟨l1, l2, rfl, ah⟩
  · exact p3.elim
end
theorem bY.oS {K : Frag}{H0 G H : Hp}{σ : St}{ρ : aD}{i j : Nat}{t : Ct}{dss ds : List D}(e : bY K H0 G H σ ρ)(h1 : aY ρ i = some (.n t dss))(hj : dss[j]? = some (.lst ds)) :
    ∃ a as x vs, σ[i]? = some (some (.ref a)) /\ t.On True G H a as /\ as[j]? = some x /\ H x = some (.lst vs) /\ bE K G vs ds /\ H0 x = none /\ G x = none /\ ∀ vs' ds', bE K G vs' ds' -> bY K H0 G (upd H x (.lst vs')) σ (dput ρ i (.n t (dss.set j (.lst ds')))) := by
  obtain ⟨o, e⟩ := e;obtain ⟨a, k1, as, nd, pr, q⟩ := e.n i t dss h1;obtain ⟨x, hx, x0, xo, gx, vs, ex, rx⟩ := cH pr hj;have mx : x ∈ as := mem_of_getElem? hx;refine ⟨a, as, x, vs, k1, q.imp (ak.refl _) λf g _ => ⟨trivial, g, λ_ z => z⟩, hx, ex, rx, x0, gx, λvs' ds' r => ?_⟩;refine ⟨o, by rw [iu];exact e.len, λj' d q => ?_, λj' d q => ?_, λj' t' dss' q' => ?_⟩
  · rcases cx q with ⟨rfl, _, q⟩ | ⟨hne, q⟩
    · cases q
    · exact e.p j' d q
  · rcases cx q with ⟨rfl, _, q⟩ | ⟨hne, q⟩
    · cases q
    · obtain ⟨b, k1, k2, k2', k3⟩ := e.o j' d q;refine ⟨b, k1, k2, k2', k3.fe (ak.refl _) k3.1 λo z => ?_⟩;have : b ≠ x := by
        rintro rfl;exact hne (xo.symm.trans k2')
      rw [af this];exact z
  · rcases cx q' with ⟨rfl, _, q'⟩ | ⟨hne, q'⟩
    · cases q';refine ⟨a, k1, as, nd, az (by rw [length_set];exact Paired.length pr) λk y d h3 h4 => ?_, ?_⟩
      · by_cases c : j = k
        · subst c;rw [hx] at h3;cases h3;have hl : j < dss.length := (List.getElem?_eq_some_iff.mp hj).1;rw [List.getElem?_set_self hl] at h4;cases h4;exact ⟨x0, xo, gx, vs', ah, r⟩
        · rw [List.getElem?_set_ne c] at h4;obtain ⟨z0, z1, z2⟩ := eN pr k y d h3 h4;have ny : y ≠ x := by
            rintro rfl;obtain ⟨l1, e1⟩ := List.getElem?_eq_some_iff.mp hx;obtain ⟨l2, e2⟩ := List.getElem?_eq_some_iff.mp h3;exact c ((List.getElem_inj nd).mp (e1.trans e2.symm))
          exact ⟨z0, z1, z2.fe (ak.refl _) z2.1 λob z => by rw [af ny];exact z⟩
      · unfold Ct.On at q ⊢;cases to : t.own with
        | true =>
          rw [to] at q;have na : a ≠ x := λz => q.2.2.1 (z ▸ mx);exact ⟨q.1, q.2.1, q.2.2.1, Ct.lI to (λob z => by rw [af na];exact z) q.2.2.2⟩
        | false =>
          rw [to] at q;exact q
    · obtain ⟨b, k1, k2⟩ := e.n j' t' dss' q';refine ⟨b, k1, k2.fe (ak.refl _) λy z1 z2 z3 z4 => ⟨z3, z2, λo z => ?_⟩⟩;have : y ≠ x := by
        rintro rfl;exact hne (xo.symm.trans z2)
      rw [af this];exact z
noncomputable def oz (i j : Nat)(te : DT):fJ := λE ρ => match aY ρ i with
  | some (.n (.wk g) dss) => ∃ ds, dss[j]? = some (.lst ds) /\ ds.length < sizeLine /\ te ρ λb => E.nx (dput ρ i (.n (.wk g) (dss.set j (.lst (ds ++ [b.val])))))
  | _ => False
section
variable {X : Cx} {e : Expr} {te : DT} {i j : Nat} {x : Str} {px ipos xpos apos cpos spos : Pos} {n : Int} {jj : Nat}
set_option tactic.hygienic true in
theorem lV (hn : n = ((j + 1 : Nat):Int))(hj : j < 2)(hN : X.N[i]? = some x)(hv : Ag X.env.scope x)(he : DE X e te)(hns : BG (.Constant (.int n) jj ipos))(hd :autoParam ((x == ("__debug__" : Str)) = false) aZb._auto_1)(hcd :autoParam ((x == ("__classdict__" : Str)) = false) aZb._auto_1)
    (hbase :autoParam (attributeBase (.Subscript (.Name x px) (.Constant (.int n) jj ipos) xpos) "append" X.env (eval (.Subscript (.Name x px) (.Constant (.int n) jj ipos) xpos) X.env) = eval (.Subscript (.Name x px) (.Constant (.int n) jj ipos) xpos) X.env) aZa._auto_1)
    (hfew :autoParam (((backTo cpos (starEach (e :: []) X.env)).all (λx => !x.1) && (backToKw cpos (keywordEach [] X.env)).all (λx => x.1.isSome)
      && decide ((e :: []).length + ([]:List Keyword).length + (if ([]:List Keyword).isEmpty then 0 else 1) < 30)) = true) aZa._auto_1)
    (hline :autoParam ((apos.endLine == cpos.line) = true) aZa._auto_1) (hs :autoParam (starEach (e :: []) X.env = (false, eval e X.env) :: starEach [] X.env) aZa._auto_1) (hplain :autoParam ((backTo cpos (starEach [] X.env)).any (·.1) = false) aZa._auto_1)
    (hsw :autoParam (swapsWith (.Call (.Attribute (.Subscript (.Name x px) (.Constant (.int n) jj ipos) xpos) "append" apos) [e] [] cpos) none spos.line X.env = pure false) aZa._auto_1) :
    DS X (.Expr (.Call (.Attribute (.Subscript (.Name x px) (.Constant (.int n) jj ipos) xpos) "append" apos) [e] [] cpos) spos) (oz i j te) := DS.mk λH0 G0 =>
  PS.imp (dZ (nZ PySem.F.plainAttrs_list PySem.F.slot_list_append PySem.F.type_list_append iS (jR r9 (mv hN hv hd hcd) cf hns) (aj he.pe aN hs) hbase hfew hline hs hplain) hsw)<|by
    rintro Dn σ H ⟨E, G, ρ, eo, w, en, h⟩;unfold oz at h;split at h
    · rename_i g dss q;obtain ⟨ds, hdj, hz, h⟩ := h;obtain ⟨a, as, u, vs, k1, on1, hu, eu, ru, _, _, _⟩ := en.oS q hdj;obtain ⟨y, z, rfl, ga⟩ : ∃ y z, as = [y, z] /\ G a = some (.tup [.int g, .ref y, .ref z]) := on1;have C6 : ib [V.int g, .ref y, .ref z] n = some (.ref u) := by
        rw [hn];refine gK ?_;rw [List.getElem?_cons_succ, show [V.ref y, V.ref z] = [y, z].map V.ref from rfl, getElem?_map, hu];rfl
      refine ⟨_, k1, a, _, n, _, rfl, rfl, mM.of (w.gh _ _ ga), C6, .inl ⟨rfl, _, dD.of eu⟩, G, ρ, _, w.gh, en.p, h, λb v H' G' p' w' r' => ?_⟩;obtain ⟨G2, w2, r2⟩ := r'.give w';obtain ⟨a', as', u', vs', k1', on', hu', eu', ru', h0', gu', nx⟩ := (en.on w2).oS q hdj;rw [k1] at k1';cases k1';obtain ⟨y', z', rfl, ga'⟩ : ∃ y z, as' = [y, z] /\ G2 a = some (.tup [.int g, .ref y, .ref z]) := on';rw [w2.gg _ _ ga] at ga';cases ga';rw [hu] at hu';cases hu';exact ⟨u, vs', v, rfl, rfl, eu', by rw [Paired.length ru'];exact hz, eo.nx σ _ G2 _ ((w.trans w2).own h0' gu') (nx _ _ (eM ru' (.cons r2 .nil))) p'⟩
    · exact h.elim
end
end DL
set_option maxHeartbeats 4000000
namespace DL
open PySem L2
open Classical in
section
variable {K : Frag} {H H1 H' G G' : Hp} {y : Addr} {o : HO}
end
end DL
set_option maxHeartbeats 4000000
namespace L2
open PySem PySem.Spec PyProof.Rows PySem.W
section
variable {X : Cx} {pins : List (Addr × Obj)} {σ : St} {H : Hp} {s : Shared} {a : Addr}
theorem B5 {P : Program}{w : World}{k : Key}{u : Value}(h : (bc P w).is k u = true):RelV (kV k) u := by
  rcases bK (show mf k u = true from h) with ⟨i, t, rfl, rfl⟩ | ⟨x, t, rfl, rfl⟩
  · exact ⟨t, rfl⟩
  · exact ⟨t, rfl⟩
theorem Inv.B1 {kvs : List (Key × V)}{o : Obj}(I : Inv X pins σ H s)(e : H a = some (.dK kvs))(ho : s.heap.get? a = some o):Inv X pins σ (upd H a (.bR o (.dK kvs))) s := by
  obtain ⟨z, hd, vs, rel, dd⟩ := kD I.aX e;have := jB (t' := s.toks) (ob := .bR o (.dK kvs)) I (by rw [e];exact True.intro) (Heap.SameBut.refl a s.heap) ⟨o, ho⟩ ⟨ho, z, hd, vs, rel, dd⟩;exact this
theorem Inv.AM {kvs : List (Key × V)}{o : Obj}(I : Inv X pins σ H s)(n : ∀ o u, X.H₀ a ≠ some (.bR o u))(e : H a = some (.bR o (.dK kvs))):Inv X pins σ (upd H a (.dK kvs)) s := by
  have ne : ∀ b, H b = none -> b ≠ a := λb z y => by subst y;rw [e] at z;cases z
  have nt : ∀ b xs, H b = some (.tup xs) -> b ≠ a := λb xs z y => by subst y;rw [e] at z;cases z
  have no : ∀ b y, H b = some (.own y) -> b ≠ a := λb y z q => by subst q;rw [e] at z;cases z
  refine ⟨I.ok, I.os, I.bare, ⟨I.base.keep, I.base.slot, λb o h1 h2 h3 => ?_, I.base.there, λb xs h1 => ?_, λb o u h1 => ?_, λb ps h1 => ?_⟩, I.loc, I.cell, ?_, λx c h => ?_, λp hp => ?_, λb u q => ?_, I.len⟩
  · have := I.base.free b o h1 h2 h3;rw [af (ne _ this)];exact this
  · have := I.base.iK b xs h1;rw [af (nt _ _ this)];exact this
  · have := I.base.gS b o u h1;have nb : b ≠ a := λy => by subst y;exact n o u h1
    rw [af nb];exact this
  · obtain ⟨m, h2⟩ := I.base.iJ b ps h1;have nb : b ≠ a := λy => by subst y;rw [e] at h2;cases h2
    exact ⟨m, by rw [af nb];exact h2⟩
  · rw [af (ne _ I.free)];exact I.free
  · rw [af (ne _ (I.fM x c h))];exact I.fM x c h
  · obtain ⟨h1, h2, h3⟩ := I.pin p hp;exact ⟨h1, by rw [af (ne _ h2)];exact h2, h3⟩
  · have st : ∀ {b u}, bI X.prog X.w H s.heap b u -> bI X.prog X.w (upd H a (.dK kvs)) s.heap b u := λ{b u} z => z.fe (λ_ _ _ q => q) (λc q => by rw [af (no _ _ q)];exact q) λc xs q => by rw [af (nt _ _ q)];exact q
    by_cases hb : b = a
    · subst hb;rw [ah] at q;cases q;exact st (I.aX b _ e).2
    · rw [af hb] at q;exact st (I.aX b u q)
theorem xt {st : Stmt}{t : TS}(h : PS X st t):PS X st (λD σ H => ∃ d, (∃ kvs, H d = some (.dK kvs)) /\ t { nx := λσ' H' => ∃ o kvs, H' d = some (.bR o (.dK kvs)) /\ D.nx σ' (upd H' d (.dK kvs)), rt := λ_ _ => False, bk := λ_ _ => False, ct := λ_ _ => False } σ H) := by
  intro pins s σ H D I ⟨d, ⟨kvs, hd⟩, q⟩;have n0 : ∀ o u, X.H₀ d ≠ some (.bR o u) := λo u z => by
    have := I.base.gS _ _ _ z;rw [hd] at this;cases this
  refine wpAny_mono (h pins s σ H _ I q) (λf s' z => ?_) λ_ _ z => z;cases f with
  | next => obtain ⟨σ', H', J, o, kvs', e, z⟩ := z;exact ⟨σ', _, J.AM n0 e, z⟩
  | brk => obtain ⟨_, _, _, z⟩ := z;exact z.elim
  | cont => obtain ⟨_, _, _, z⟩ := z;exact z.elim
  | ret u => obtain ⟨_, _, _, _, _, z⟩ := z;exact z.elim
noncomputable def h9 (v d : Addr):HO := .ext λh => h.IsItemsView v d
noncomputable def xC : V -> List V -> Hp -> VK -> Prop := λx vs H Q => ∃ d kvs, x = .ref d /\ vs = [] /\ H d = some (.dK kvs) /\ ∀ v, H v = none -> Q (.ref v) (upd H v (h9 v d))
theorem wM : C4 X "dict.items" xC := by
  rintro pins s σ H x xs v us Q I rx r ⟨d, kvs, rfl, rfl, e, q⟩;cases r;cases (show v = Value.ref d from rx);obtain ⟨z, hd, vs, rel, dd⟩ := kD I.aX e;refine call_meetsIn PySem.F.slot_dict_items dd.typeIs PySem.F.entry_dict_items (PySem.F.args_dict_items_1 _) (meets_dict_items (bc X.prog X.w) d hd) ⟨⟨_, dd⟩, ?_⟩;have e1 : (s.heap.push { cls := .type "dict_items", data := .fields #[.ref d] }).get? s.heap.objs.size = some ({ cls := .type "dict_items", data := .fields #[.ref d] }:Obj) := Heap.get?_push_size _ rfl;refine ⟨.ref s.heap.objs.size, _, I.laid (t' := s.toks) (λb u q => Heap.get?_push_of_some _ q) (Nat.le_refl _) (o := h9 s.heap.objs.size d) ⟨⟨_, e1, rfl, rfl⟩, ⟨_, e1⟩, λh1 h2 p k => ?_⟩, rfl, q _ (I.aX.fresh (Nat.le_refl _))⟩;obtain ⟨o, p1, p2, p3⟩ := p;exact ⟨o, k _ p1, p2, p3⟩
noncomputable def Dj (d : Addr)(o : Obj)(kvs : List (Key × V)):It :=
  ⟨λi H => H d = some (.bR o (.dK kvs)) /\ i < kvs.length, λi H x H' => ∃ k v p, kvs[i]? = some (k, v) /\ H p = none /\ x = .ref p /\ H' = upd H p (.tup [kV k, v]), λi H => H d = some (.bR o (.dK kvs)) /\ i = kvs.length⟩
theorem zL {o : Obj}{kvs : List (Key × V)}{es : Array DictEntry}{ep : Nat}(I : Inv X pins σ H s)(e : H a = some (.bR o (.dK kvs)))(hd : o.data = .dict es ep):∃ vs, KV kvs vs /\ s.heap.DictAt (bc X.prog X.w) a vs ep := by
  obtain ⟨ho, z, _, vs, rel, o', es', ep', h1, h2, h3, h4⟩ := I.aX a _ e;rw [ho] at h1;cases h1;rw [hd] at h3;cases h3;exact ⟨vs, rel, o, es, ho, h2, hd, h4⟩
theorem sJ {P : Program}{w : World}{K : Frag}{elts : List Expr}{kx : Nat}{pos : Pos}(d it : Addr)(o : Obj)(kvs : List (Key × V))(es : Array DictEntry)(ep : Nat)(hd : o.data = .dict es ep) :
    Turn P w K (.Tuple elts kx pos) (Dj d o kvs) [it] it (λi h => ∃ ok ov, IsItemIter h it d i kvs.length ep ok ov) where
  mem := by simp
  obj := by
    rintro i h ⟨_, _, st⟩ b hb;have e : b = it := by simpa using hb
    subst e;exact ⟨_, st, λv z => by cases z⟩
  keep := by rintro i h h' ⟨ok, ov, st⟩ k;exact ⟨ok, ov, k it (by simp) _ st⟩
  self := by rintro A i s Q E ⟨ok, ov, st⟩ q;exact kcp_self st q
  item := by
    intro X hP hw hK hc i pins s σ H E I hf ⟨ok, ov, st⟩ hg;subst hP hw hK;obtain ⟨e, hi⟩ := hg;obtain ⟨vs, rel, da⟩ := zL I e hd;obtain ⟨f0, f1, f2, f3, f4, f5⟩ := hf it (by simp);have hl := rel.length;have ek := getElem?_eq_getElem hi;have hx := getElem?_eq_getElem (l := vs) (i := i) (by lia);obtain ⟨q1, q2⟩ := DL.eN rel i _ _ ek hx;have nd : d ≠ it := λz => by rw [<- z, e] at f0;cases f0
    rw [hl] at st;refine wpAny_pyNext_items_item (knd := bc X.prog X.w) (k := vs[i].1) (v := vs[i].2) st da hx λkey h' hkey ho hT hsz hk => ?_;refine ⟨_, rfl, ?_⟩;refine wpAny_letOwnedTupleGo_items (s := { s with heap := h' }) ho λh2 he hs => ?_;have nT : s.heap.objs.size ≠ it := Nat.ne_of_gt (Heap.lt_size st);have kk : ∀ b o, b ∉ [it] -> s.heap.get? b = some o -> h2.get? b = some o := λb o hb q => hs.extBut b o (by simpa using hb) (hk b o (by simpa using hb) q);have hT2 : h2.IsTuple s.heap.objs.size #[key, vs[i].2] := ⟨_, hs.extBut _ _ nT hT, rfl, _, rfl⟩
    have I2 : Inv X pins σ (upd H s.heap.objs.size (.tup [kV kvs[i].1, kvs[i].2])) { s with heap := h2 } := I.zZ (t' := s.toks) (us := [key, vs[i].2]) (λb hb => hf b hb) kk (Nat.le_refl _) hT2 (.cons (by rw [q1];exact B5 hkey) (.cons q2 .nil)) (gF (Nat.le_of_ble_eq_true rfl));refine ⟨.ref s.heap.objs.size, _, I2, rfl, ⟨kvs[i].1, kvs[i].2, _, ek, I.aX.fresh (Nat.le_refl _), rfl, rfl⟩, ⟨_, _, by rw [hl];exact he⟩, λb hb => ?_⟩;have e : b = it := by simpa using hb
    subst e;rw [af (Ne.symm nT)];exact f0
  done := by
    intro X hP hw hK hc i pins s σ H E I hf ⟨ok, ov, st⟩ hg;subst hP hw hK;obtain ⟨e, hi⟩ := hg;obtain ⟨vs, rel, da⟩ := zL I e hd;obtain ⟨f0, f1, f2, f3, f4, f5⟩ := hf it (by simp);have hl := rel.length;rw [hl] at st hi;subst hi;exact wpAny_pyNext_items_end (knd := bc X.prog X.w) (I.ok.hd hc) st da (by simp) λh' hx => ⟨rfl, I.turned (t' := s.toks) (λb o hb e => hx b o hb e) f0 f1 f3 f4 f5⟩
noncomputable def rZ (K : Frag)(to : TE):TI := λσ H R => CK K "dict" xC to σ H (λv H2 => ∃ d kvs vw, v = .ref vw /\ H2 vw = some (h9 vw d) /\ H2 d = some (.dK kvs) /\ ∀ o, R (Dj d o kvs) (upd H2 d (.bR o (.dK kvs))))
theorem xk {elts : List Expr}{kx : Nat}{tpos apos cpos : Pos}{o : Expr}{to : TE}(ho : PE X o to)(hbase :autoParam (attributeBase o "items" X.env (eval o X.env) = eval o X.env) aZa._auto_1)(hline :autoParam ((apos.endLine == cpos.line) = true) aZa._auto_1) :
    PI X (.Tuple elts kx tpos) (.Call (.Attribute o "items" apos) [] [] cpos) (rZ X.K to) := by
  intro pins s σ H R I h;have pe := w6 (apos := apos) (cpos := cpos) PySem.F.plainAttrs_dict PySem.F.slot_dict_items PySem.F.type_dict_items wM ho hbase hline;have hq := h;unfold rZ at hq;refine cm (pe pins s σ H _ I hq) ?_;rintro v s1 ⟨y, H2, I2, rv, d, kvs, vw, e, ev, ed, q⟩;subst e;cases rv;have hv : s1.heap.IsItemsView vw d := ((I2.aX vw _ ev : bI _ _ _ _ _ (h9 vw d))).1;obtain ⟨z, hdd, vs, rel, dd⟩ := kD I2.aX ed;obtain ⟨o, es, ep, h1, h2, h3, h4⟩ := id dd;refine wpAny_pyIter_items (knd := bc X.prog X.w) (kvs := vs) (ep := ep) hv ⟨o, es, h1, h2, h3, h4⟩ ?_;have I3 := (I2.kept (t' := s1.toks) (h' := s1.heap.push { cls := .type "dict_itemiterator", data := .fields #[.none, .bool false, .ref d, .int 0 0, .int vs.length 0, .int ep 0, .none, .none] }) λb o e => Heap.get?_push_of_some _ e).B1 ed (Heap.get?_push_of_some _ h1);refine ⟨s1.heap.objs.size, [s1.heap.objs.size], _, _, _, rfl, I3, sJ d _ o kvs es ep h3, ⟨.none, .none, by rw [rel.length];exact Heap.get?_push_size _ rfl⟩, λb hb => ?_, q o⟩;have e : b = s1.heap.objs.size := by simpa using hb
  subst e;exact I2.wz (Nat.le_refl _) (by rw [af (Nat.ne_of_gt (Heap.lt_size h1))];exact I2.aX.fresh (Nat.le_refl _))
end
end L2
namespace DL
open PySem L2
noncomputable def iB : aD -> aD
  | [] => []
  | some (.p (.int n)) :: r => some (.p (.int n)) :: iB r
  | some (.p (.str x)) :: r => some (.p (.str x)) :: iB r
  | _ :: r => none :: iB r
set_option tactic.hygienic true in
theorem nX : ∀ {ρ : aD} {i : Nat} {b : B}, aY (iB ρ) i = some b -> ∃ d, b = .p d /\ d.sc = true /\ aY ρ i = some (.p d)
  | [], _, _, h => by cases h
  | o :: r, 0, b, h => by
    unfold iB at h;split at h
    · rename_i e;cases e
    · rename_i e;cases e;cases h;exact ⟨_, rfl, rfl, rfl⟩
    · rename_i e;cases e;cases h;exact ⟨_, rfl, rfl, rfl⟩
    · cases h
  | o :: r, i + 1, b, h => by
    have : aY (iB r) i = some b := by
      unfold iB at h;split at h
      · rename_i e;cases e
      · rename_i e;cases e;exact h
      · rename_i e;cases e;exact h
      · rename_i e;cases e;exact h
    exact nX (ρ := r) this
noncomputable def yo (p : Int × Int × Int × Int):D := .tup [.int p.1, d3 p.2]
theorem Rep.CH {K : Frag}{G G' : Hp}{a : Addr}{o : Obj}{es : List (Key × V)}{v : V}{d : D}(h : Rep K G v d)(ha : G a = some (.bR o (.dK es)))(ne : ∀ b, b ≠ a -> G' b = G b):Rep K G' v d := by
  have nl : ∀ b u, G b = some u -> (∀ o k, u ≠ .bR o (.dK k)) -> G' b = some u := λb u z n => by
    rw [ne b, z];rintro rfl;rw [ha] at z;cases z;exact n _ _ rfl
  have dk : ∀ b kvs, bz G G b kvs -> bz G' G' b kvs := by rintro b kvs ⟨es, e, p⟩;exact ⟨es, nl _ _ e (λ_ _ z => (nomatch z)), Paired.imp' (by rintro _ _ ⟨h1, t, h2, h3⟩;exact ⟨h1, t, h2, nl _ _ h3 (λ_ _ z => (nomatch z))⟩) p⟩
  have rdT : ∀ b kvs, Rd G b (.dT kvs) -> Rd G' b (.dT kvs) := λb kvs z => by
    rcases z with z | ⟨o', z⟩
    · exact .inl (nl _ _ z λ_ _ y => nomatch y)
    · exact .inr ⟨o', nl _ _ z λ_ _ y => nomatch y⟩
  induction h with
  | non => exact .non
  | bl b => exact .bl b
  | int i => exact .int i
  | str x => exact .str x
  | tup h l r ih => exact .tup (nl _ _ h λ_ _ z => nomatch z) l ih
  | lst h l r ih => exact .lst (nl _ _ h λ_ _ z => nomatch z) l ih
  | scr h =>
    rcases h with (h | ⟨o, h⟩) | h
    · exact .scr (.inl (.inl (nl _ _ h λ_ _ z => nomatch z)))
    · exact .scr (.inl (.inr ⟨o, nl _ _ h λ_ _ z => nomatch z⟩))
    · exact .scr (.inr h)
  | dct h => exact .dct (rdT _ _ h)
  | sen h => exact .sen (rdT _ _ h)
  | @ext a x h =>
    refine .ext ?_;cases x with
    | any => trivial
    | dki kvs => exact dk _ _ h
    | dks kvs => exact nl _ _ h λ_ _ z => nomatch z
    | rws n hs cs =>
      obtain ⟨lh, lk, h1, ⟨vs, e1, p1⟩, ⟨us, e2, p2⟩⟩ := h;have kt := λt xs (e : G t = some (.tup xs)) => nl t _ e λ_ _ z => nomatch z;exact ⟨lh, lk, nl _ _ h1 (λ_ _ z => (nomatch z)), ⟨vs, nl _ _ e1 (λ_ _ z => (nomatch z)), p1.on kt⟩, ⟨us, nl _ _ e2 (λ_ _ z => (nomatch z)), p2.on kt⟩⟩
    | obj C g hs cs n =>
      obtain ⟨dx, b, c, h1, h2, h3⟩ := h;exact ⟨dx, b, c, nl _ _ h1 (λ_ _ z => (nomatch z)), dk _ _ h2, dk _ _ h3⟩
theorem u6 {K : Frag}{G : Hp}{d : Addr}{o : Obj}{es : List (Key × V)}{kvs : List (Int × Int × Int × Int)}(ha : G d = some (.bR o (.dK es)))(pr : Paired (E3 G) es kvs):x9 K G (Dj d o es) (kvs.map yo) where
  go := λi x H G' e s1 s2 => ⟨(s1.trans s2) _ _ ha, by
    have := (List.getElem?_eq_some_iff.mp e).1;rw [length_map] at this;rw [Paired.length pr];exact this⟩
  ux := by
    rintro i x H G' y H' e s1 s2 ⟨k, v, p, h1, h2, h3, h4⟩;subst h3 h4;rw [getElem?_map] at e;obtain ⟨q, e1, rfl⟩ := Option.map_eq_some_iff.mp e;obtain ⟨f1, t, f2, f3⟩ := eN pr i _ _ h1 e1;have f1' : k = Sum.inl q.1 := f1;have f2' : v = .ref t := f2;subst f1' f2';refine ⟨_, (Wd.refl s2).new h2, Rep.kX ah (.cons (.int _) (.cons ?_ .nil))⟩;have nt : t ≠ p := aH (s2 _ _ (s1 _ _ f3)) h2;exact Rep.kX (by rw [af nt];exact s1 _ _ f3) (.cons (.int _) (.cons (.int _) (.cons (.int _) .nil)))
  stop := λi H G' hi s1 s2 => ⟨(s1.trans s2) _ _ ha, by rw [hi, length_map, Paired.length pr]⟩
section
variable {X : Cx} {elt : Expr} {elts : List Expr} {kx : Nat} {tpos px ap apos cpos : Pos} {ifs : List Expr} {scope : Scope} {pos : Pos} {g : Tg} {tc : gJ} {te : DT} {i : Nat} {x f : Str} {C : Addr}
noncomputable def vQ (i : Nat)(C : Addr)(pk : Bool)(fr : List (Option Nat))(g : Tg)(tc : gJ)(te : DT):DT := λρ Q => match aY ρ i with
  | some (.p d) => mS C (λ_ hs ks _ => x5 ((bif pk then hs else ks).map yo) g tc te (bw (iw fr (iB ρ))) Q) d
  | _ => False
set_option tactic.hygienic true in
theorem yI (pk : Bool){fr : List (Option Nat)}(cl : h7 X.K C)(na : eA X.K C f)(hf : ∀ g b c n, (eB g b c n).lookup f = some (V.ref (bif pk then b else c)))(htg : xR fr g = true)(σ : St)(H : Hp)(Q : VK):cE X.K (vQ i C pk fr g tc te) σ H Q ->
    ∃ d, (∃ kvs, H d = some (.dK kvs)) /\ Dg (rZ X.K (CM X.K (zu i) f)) fr (g.v X.K) (cT X.K tc) (cE X.K te) σ H λv H' => ∃ o kvs, H' d = some (.bR o (.dK kvs)) /\ Q v (upd H' d (.dK kvs)) := by
  rintro ⟨G, ρ, P, sg, re, h, k⟩;unfold vQ at h;split at h
  · rename_i dd q;obtain ⟨v, hv1, rp⟩ := re i _ q;obtain ⟨g0, h0, k0, n0, ed, hq⟩ := lB h;clear h;subst ed;obtain ⟨a, dx, b, c, rfl, ha, hb, hcc⟩ := rp.gW;have hl := hf g0 b c n0;obtain ⟨es, eg, pr⟩ : bz G G (bif pk then b else c) (bif pk then h0 else k0) := by cases pk with | true => exact hb | false => exact hcc
    generalize (bif pk then b else c) = d at hl eg;generalize (bif pk then h0 else k0) = kvs at hq pr;have eH := sg _ _ eg;refine ⟨d, ⟨es, eH⟩, ?_⟩;refine ⟨_, hv1, a, C, dx, _, _, rfl, sg _ _ ha, cl, na, hl, .inr (.inr (.inl ⟨rfl, .inl ⟨_, eH⟩⟩)), d, es, rfl, rfl, eH, λvw hvw => ?_⟩;have nv : d ≠ vw := aH eH hvw;refine ⟨d, es, vw, rfl, ah, by rw [af nv];exact eH, λo => ?_⟩;have hfd : (upd (upd H vw (h9 vw d)) d (.bR o (.dK es))) d = some (.bR o (.dK es)) := ah;have hfo : ∀ y u, y ≠ d -> H y = some u -> (upd (upd H vw (h9 vw d)) d (.bR o (.dK es))) y = some u := λy u n e => by rw [af n, af (aH e hvw)];exact e
    have hfn : ∀ y, (upd (upd H vw (h9 vw d)) d (.bR o (.dK es))) y = none -> H y = none /\ y ≠ d := λy e => by
      have n : y ≠ d := λz => by rw [z, ah] at e;cases e
      rw [af n] at e;have n2 : y ≠ vw := λz => by rw [z, ah] at e;cases e
      rw [af n2] at e;exact ⟨e, n⟩
    generalize upd (upd H vw (h9 vw d)) d (.bR o (.dK es)) = Hf at hfd hfo hfn;let G1 : Hp := upd G d (.bR o (.dK es))
    have g1d : G1 d = some (.bR o (.dK es)) := ah;have g1n : ∀ y, y ≠ d -> G1 y = G y := λy n => af n;have s1 : ak G1 Hf := λy u e => by
      by_cases n : y = d
      · subst n;rw [g1d] at e;rw [hfd];exact e
      · rw [g1n y n] at e;exact hfo y u n (sg _ _ e)
    have re1 : cW X.K G1 σ (iB ρ) := λj d' e => by
      obtain ⟨d2, e1, e2, e3⟩ := nX e;cases e1;obtain ⟨u, h1, h2⟩ := re j d' e3;exact ⟨u, h1, h2.sc e2⟩
    have pr1 : Paired (E3 G1) es kvs := Paired.imp' (by rintro _ _ ⟨h1, t, h2, h3⟩;exact ⟨h1, t, h2, by rw [g1n t (ix h3 eg (by intro z;cases z))];exact h3⟩) pr;refine λD hD => tY (K := X.K) (fr := fr) (g := g) (tc := tc) (te := te) (Q := λv H' => ∃ o kvs, H' d = some (.bR o (.dK kvs)) /\ Q v (upd H' d (.dK kvs))) htg re1 (P := P) (λb v H2 G2 p2 w2 r2 => ?_) hq (Wd.refl s1) (u6 g1d pr1) D hD;have hG2 : G2 d = some (.bR o (.dK es)) := w2.gg _ _ g1d;let G3 : Hp := λy => if y = d then some (.dK es) else G2 y
    have g3d : G3 d = some (.dK es) := if_pos rfl;have g3n : ∀ y, y ≠ d -> G3 y = G2 y := λy n => if_neg n;have sw : ∀ {v d'}, Rep X.K G2 v d' -> Rep X.K G3 v d' := λ{v d'} z => z.CH hG2 g3n;have w3 : Wd H G (upd H2 d (.dK es)) G3 := by
      refine ⟨λy u e => ?_, λy u e => ?_, λy u e => ?_, λy z => ?_⟩
      · by_cases n : y = d
        · subst n;rw [eH] at e;rw [ah];exact e
        · rw [af n];exact w2.hh _ _ (hfo y u n e)
      · by_cases n : y = d
        · subst n;rw [eg] at e;rw [g3d];exact e
        · rw [g3n y n];exact w2.gg _ _ (by rw [g1n y n];exact e)
      · by_cases n : y = d
        · subst n;rw [g3d] at e;rw [ah];exact e
        · rw [g3n y n] at e;rw [af n];exact w2.gh _ _ e
      · by_cases n : y = d
        · subst n;rw [g3d, eg]
        · rw [g3n y n, <- g1n y n];obtain ⟨u, h1, h2⟩ := z;exact w2.old y ⟨u, hfo y u n h1, h2⟩
    refine ⟨o, es, w2.hh _ _ hfd, k b v _ G3 p2 w3 ?_⟩;have own : ∀ {x d'}, Hf x = none -> dN X.K G2 H2 x d' -> H x = none /\ dN X.K G3 (upd H2 d (.dK es)) x d' := λ{x d'} n w => by
      obtain ⟨n1, n2⟩ := hfn x n;refine ⟨n1, by rw [g3n x n2];exact w.1, ?_⟩;have w' := w.2;cases d' with
      | lst ds =>
        obtain ⟨vs, h1, h2⟩ := w';exact ⟨vs, by rw [af n2];exact h1, Paired.imp' (λ_ _ z => sw z) h2⟩
      | dct _ => exact (af n2).trans w'
      | sen _ => exact (af n2).trans w'
      | ext x =>
        cases x with
        | dki kvs =>
          obtain ⟨es', e1, p1⟩ := w';exact ⟨es', by rw [af n2];exact e1, Paired.imp' (λ_ _ ⟨h1, t, h2, h3⟩ => ⟨h1, t, h2, by rw [g3n t λz => by rw [z, hG2] at h3;cases h3];exact h3⟩) p1⟩
        | dks kvs => exact (af n2).trans w'
        | any => exact w'.elim
        | obj _ _ _ _ _ => exact w'.elim
        | rws _ _ _ => exact w'.elim
      | _ => exact w'.elim
    cases b with
    | p d' => exact sw r2
    | o d' =>
      obtain ⟨y, e, n, w⟩ := r2;obtain ⟨n', w'⟩ := own n w;exact ⟨y, e, n', w'⟩
    | n t ds =>
      obtain ⟨y, as, e, nd, pr2, on⟩ := r2;refine ⟨y, as, e, nd, Paired.imp' (λ_ _ z => own z.1 z.2) pr2, ?_⟩;have tu : ∀ z xs, G2 z = some (.tup xs) -> G3 z = some (.tup xs) := λz xs ez => by rw [g3n z λw => by rw [w, hG2] at ez;cases ez];exact ez
      unfold Ct.On at on ⊢;cases eo : t.own with
      | true =>
        rw [eo] at on;obtain ⟨o1, o2, o3, o4⟩ := on;obtain ⟨n1, n2⟩ := hfn y o1;exact ⟨n1, by rw [g3n y n2];exact o2, o3, Ct.lI eo (λo e => by rw [af n2];exact e) o4⟩
      | false =>
        rw [eo] at on;cases t with
        | tup => exact tu _ _ on
        | lst => cases eo
        | obj _ _ _ => cases eo
        | wk g => obtain ⟨b, c, e, h⟩ := on;exact ⟨b, c, e, tu _ _ h⟩
        | fnd x p => obtain ⟨b, c, e, t, h1, h2, h3⟩ := on;exact ⟨b, c, e, t, h1, tu _ _ h2, tu _ _ h3⟩
  · exact h.elim
theorem nN {m : Nat}{y : Str}{py spos : Pos}(pk : Bool)(hNd : X.N.Nodup)(hy : X.N[m]? = some y)(hly : Loc X.env.scope y)(N' : List Str)(fr : List (Option Nat))(hc : X.calm = true)(hNx : X.N[i]? = some x)(hv : Ag X.env.scope x)(cl : h7 X.K C)(na : eA X.K C f)(hf : ∀ g b c n, (eB g b c n).lookup f = some (V.ref (bif pk then b else c)))
    (hg : ∀ cl fp C s H, PG (pM X scope N' cl fp C s H) (.Tuple elts kx tpos) (g.v X.K)) (ht : ∀ cl fp C s H, x8 (pM X scope N' cl fp C s H) ifs tc) (he : ∀ cl fp C s H, DE (pM X scope N' cl fp C s H) elt te)
    {sc0 : Scope} {N0 : List Str} (htg :autoParam (xR fr g = true) aZb._auto_1) (hsw :autoParam (swapsWith (.ListComp elt [⟨.Tuple elts kx tpos, .Call (.Attribute (.Attribute (.Name x px) f ap) "items" apos) [] [] cpos, ifs, 0⟩] scope pos) (some (.Name y py)) spos.line X.env = pure true) aZa._auto_1) (hsc :autoParam (X.env.scope = sc0) aZa._auto_1) (hN :autoParam (X.N = N0) aZa._auto_1) (aX :autoParam (iO sc0 N0 scope N' fr = true) aZe._auto_1)
    (hs :autoParam (∀ y, foldedSetIterable (.Call (.Attribute (.Attribute (.Name x px) f ap) "items" apos) [] [] cpos) X.env y = pure y) aZc._auto_1) (hfn :autoParam (X.fn y = true \/ X.env.scope.names.lookup y = some .local) aZg._auto_1) (hd :autoParam ((x == ("__debug__" : Str)) = false) aZb._auto_1) (hcd :autoParam ((x == ("__classdict__" : Str)) = false) aZb._auto_1)
    (hb1 :autoParam (attributeBase (.Name x px) f X.env (eval (.Name x px) X.env) = eval (.Name x px) X.env) aZa._auto_1) (hbase :autoParam (attributeBase (.Attribute (.Name x px) f ap) "items" X.env (eval (.Attribute (.Name x px) f ap) X.env) = eval (.Attribute (.Name x px) f ap) X.env) aZa._auto_1) (hline :autoParam ((apos.endLine == cpos.line) = true) aZa._auto_1) :
    DS X (.Assign [.Name y py] (.ListComp elt [⟨.Tuple elts kx tpos, .Call (.Attribute (.Attribute (.Name x px) f ap) "items" apos) [] [] cpos, ifs, 0⟩] scope pos) spos) (dP m (vQ i C pk fr g tc te)) := DS.mk λH0 G0 =>
  PS.imp (xt (xu (tc := cT X.K tc) (te := cE X.K te) hNd hy hly N' fr hc (xk (elts := elts) (kx := kx) (tpos := tpos) (apos := apos) (cpos := cpos) (gb (pos := ap) (mv (pos := px) hNx hv hd hcd) hb1) hbase hline) hg (λcl fp C s H => (ht cl fp C s H).pf) (λcl fp C s H => (he cl fp C s H).pe) hsw hsc hN aX hs hfn)) λDn σ H h => yI pk cl na hf htg σ H _ (nO Dn σ H h)
end
end DL
namespace L2
open PySem PySem.Spec PyProof.Rows PyProof
section
variable {X : Cx}
noncomputable def zk : V -> List V -> Hp -> VK -> Prop := λx vs H Q => ∃ l xs i y, x = .ref l /\ vs = [.int i, y] /\ H l = some (.lst xs) /\ 0 <= i /\ i < 2 ^ 63 /\ xs.length < sizeLine /\ Q .non (upd H l (.lst (xs.take i.toNat ++ y :: xs.drop i.toNat)))
theorem yA (its : List Value)(u : Value)(k : Nat):((its.toArray.extract 0 (min k its.toArray.size)).push u ++ its.toArray.extract (min k its.toArray.size)) = (its.take k ++ u :: its.drop k).toArray := by
  apply Array.ext';by_cases h : k <= its.length
  · simp [Nat.min_eq_left h];exact take_of_length_le (by rw [length_drop];exact Nat.le_refl _)
  · have h' : its.length <= k := by lia
    simp [Nat.min_eq_right h', take_of_length_le h', List.drop_eq_nil_of_le h']
theorem vc : C3 X "list.insert" zk := by
  intro pins s σ H x vs v us Q I rx rv h;obtain ⟨l, xs, i, y, rfl, rfl, hH, h0, h1, hz, q⟩ := h;cases rx;cases rv with
  | cons ri rv =>
  obtain ⟨t, rfl⟩ := ri;obtain ⟨u, rfl, ru⟩ := vals1 rv;obtain ⟨z, its, n, r, hl, e⟩ := I.qS hH;refine call_meets F.slot_list_insert ⟨_, e, rfl⟩ F.entry_list_insert (F.args_list_insert_3 _ _ _) (AutoSeq1.list_insert_list_int_val_1 l its.toArray n i t u (by rw [fitsIndex_both (by lia) h1];decide) (by rw [size_toArray];lia)) ⟨e, ?_⟩;refine ⟨.non, _, I.yL (its' := its.take i.toNat ++ u :: its.drop i.toNat) hH e ?_ ((Vals.take _ r).append (.cons ru (Vals.drop _ r))) ?_, rfl, q⟩
  · dsimp only;rw [if_neg (by lia)];exact yA its u i.toNat
  · rw [length_append, length_cons, length_take, length_drop];lia
end
end L2
set_option maxHeartbeats 4000000
namespace DL
open PySem L2
noncomputable def oA (i j : Nat)(te : DT):fJ := λE ρ => match aY ρ i with
  | some (.n (.wk g) dss) => ∃ ds, dss[j]? = some (.lst ds) /\ ds.length < sizeLine /\ te ρ λb => E.nx (dput ρ i (.n (.wk g) (dss.set j (.lst (b.val :: ds)))))
  | _ => False
section
variable {X : Cx} {e : Expr} {te : DT} {i j : Nat} {x : Str} {px ipos xpos apos cpos spos zpos : Pos} {n : Int} {jj j0 : Nat}
set_option tactic.hygienic true in
theorem wd (hn : n = ((j + 1 : Nat):Int))(hj : j < 2)(hN : X.N[i]? = some x)(hv : Ag X.env.scope x)(he : DE X e te)(hns : BG (.Constant (.int n) jj ipos))(hd :autoParam ((x == ("__debug__" : Str)) = false) aZb._auto_1)(hcd :autoParam ((x == ("__classdict__" : Str)) = false) aZb._auto_1)
    (hbase :autoParam (attributeBase (.Subscript (.Name x px) (.Constant (.int n) jj ipos) xpos) "insert" X.env (eval (.Subscript (.Name x px) (.Constant (.int n) jj ipos) xpos) X.env) = eval (.Subscript (.Name x px) (.Constant (.int n) jj ipos) xpos) X.env) aZa._auto_1)
    (hfew :autoParam (((backTo cpos (starEach (.Constant (.int 0) j0 zpos :: [e]) X.env)).all (λx => !x.1) && (backToKw cpos (keywordEach [] X.env)).all (λx => x.1.isSome)
      && decide ((Expr.Constant (.int 0) j0 zpos :: [e]).length + ([]:List Keyword).length + (if ([]:List Keyword).isEmpty then 0 else 1) < 30)) = true) aZa._auto_1)
    (hline :autoParam ((apos.endLine == cpos.line) = true) aZa._auto_1) (hs :autoParam (starEach (.Constant (.int 0) j0 zpos :: [e]) X.env = (false, eval (.Constant (.int 0) j0 zpos) X.env) :: starEach [e] X.env) aZa._auto_1) (hs2 :autoParam (starEach [e] X.env = (false, eval e X.env) :: starEach [] X.env) aZa._auto_1) (hplain :autoParam ((backTo cpos (starEach [e] X.env)).any (·.1) = false) aZa._auto_1)
    (hsw :autoParam (swapsWith (.Call (.Attribute (.Subscript (.Name x px) (.Constant (.int n) jj ipos) xpos) "insert" apos) [.Constant (.int 0) j0 zpos, e] [] cpos) none spos.line X.env = pure false) aZa._auto_1) :
    DS X (.Expr (.Call (.Attribute (.Subscript (.Name x px) (.Constant (.int n) jj ipos) xpos) "insert" apos) [.Constant (.int 0) j0 zpos, e] [] cpos) spos) (oA i j te) := DS.mk λH0 G0 =>
  PS.imp (dZ (nZ PySem.F.plainAttrs_list PySem.F.slot_list_insert PySem.F.type_list_insert vc (jR r9 (mv hN hv hd hcd) cf hns) (aj cf (aj he.pe aN hs2) hs) hbase hfew hline hs hplain) hsw)<|by
    rintro Dn σ H ⟨E, G, ρ, eo, w, en, h⟩;unfold oA at h;split at h
    · rename_i g dss q;obtain ⟨ds, hdj, hz, h⟩ := h;obtain ⟨a, as, u, vs, k1, on1, hu, eu, ru, _, _, _⟩ := en.oS q hdj;obtain ⟨y, z, rfl, ga⟩ : ∃ y z, as = [y, z] /\ G a = some (.tup [.int g, .ref y, .ref z]) := on1;have C6 : ib [V.int g, .ref y, .ref z] n = some (.ref u) := by
        rw [hn];refine gK ?_;rw [List.getElem?_cons_succ, show [V.ref y, V.ref z] = [y, z].map V.ref from rfl, getElem?_map, hu];rfl
      refine ⟨_, k1, a, _, n, _, rfl, rfl, mM.of (w.gh _ _ ga), C6, .inl ⟨rfl, _, dD.of eu⟩, G, ρ, _, w.gh, en.p, h, λb v H' G' p' w' r' => ?_⟩;obtain ⟨G2, w2, r2⟩ := r'.give w';obtain ⟨a', as', u', vs', k1', on', hu', eu', ru', h0', gu', nx⟩ := (en.on w2).oS q hdj;rw [k1] at k1';cases k1';obtain ⟨y', z', rfl, ga'⟩ : ∃ y z, as' = [y, z] /\ G2 a = some (.tup [.int g, .ref y, .ref z]) := on';rw [w2.gg _ _ ga] at ga';cases ga';rw [hu] at hu';cases hu';exact ⟨u, vs', 0, v, rfl, rfl, eu', by decide, by lia, by rw [Paired.length ru'];exact hz, eo.nx σ _ G2 _ ((w.trans w2).own h0' gu') (nx _ _ (.cons r2 ru')) p'⟩
    · exact h.elim
end
end DL
set_option maxHeartbeats 4000000
namespace L2
open PySem PySem.Spec PyProof.Rows PySem.SeqAt PySem.MeetsSeq
open AutoSeq1 (wpAny_loadPart')
end L2
namespace DL
open PySem L2 PySem.SeqAt
end DL
set_option maxHeartbeats 4000000
namespace DL
open PySem L2
section
variable {X : Cx} {i : Nat} {x : Str} {px pos : Pos} {te : DT}
variable {tg iter elt : Expr} {ifs : List Expr} {scope : Scope} {spos : Pos} {ti : eI} {g : Tg} {tc : gJ}
end
theorem lJ {K : Frag}{t : DT}{σ : St}{H : Hp}{Q : VK}(ρ : aD)(P : B -> Prop)(re : cW K H σ ρ)(h : t ρ P)(k : ∀ b v H', P b -> ak H H' -> Rep K H' v b.val -> Q v H'):cE K t σ H Q :=
  ⟨H, ρ, P, ak.refl _, re, h, λb v H' G' p w r => by
    obtain ⟨G2, w2, r2⟩ := r.give w;exact k b v H' p w.hh (r2.mono w2.gh)⟩
theorem yx {K : Frag}{Gs : Hp}{J : It}{xs : List D}{g : TG}{tb : TS}{En : Ends}{σ : St}{H : Hp}(it : x9 K Gs J xs)(Pv : Nat -> St -> Hp -> Prop)(h0 : Pv 0 σ H)(hg : ∀ i σ H, Pv i σ H -> ak Gs H)
    (hs : ∀ i d x σ H H', xs[i]? = some d -> Pv i σ H -> ak H H' -> Rep K H' x d -> g x σ H' λσ2 H2 => tb { En with nx := Pv (i + 1), ct := Pv (i + 1), bk := En.nx } σ2 H2) (hd : ∀ σ H, Pv xs.length σ H -> En.nx σ H) :
    ∃ W : Nat -> Nat -> St -> Hp -> Prop, (∃ m, W 0 m σ H) /\ ∀ i m σ H, W i m σ H ->
      (J.stop i H /\ En.nx σ H) \/ (J.go i H /\ ∃ N : St -> Hp -> Prop, (∀ σ' H', N σ' H' -> ∃ m', m' < m /\ W (i + 1) m' σ' H') /\ ∀ x H', J.ux i H x H' -> g x σ H' λσ2 H2 => tb { En with nx := N, ct := N, bk := En.nx } σ2 H2) := by
  refine ⟨λi m σ H => m = xs.length - i /\ i <= xs.length /\ Pv i σ H, ⟨xs.length, by simp, Nat.zero_le _, h0⟩, ?_⟩;rintro i m σ H ⟨rfl, hi, p⟩;have sg := hg i σ H p;by_cases hlt : i < xs.length
  · have hx := getElem?_eq_getElem hlt;refine .inr ⟨it.go i _ H Gs hx (ak.refl _) sg, Pv (i + 1), λσ' H' n => ⟨xs.length - (i + 1), by lia, rfl, hlt, n⟩, λx H' y => ?_⟩;obtain ⟨G2, w2, r2⟩ := it.ux i _ H Gs x H' hx (ak.refl _) sg y;exact hs i _ x σ H H' hx p w2.hh (r2.mono w2.gh)
  · have e : i = xs.length := by lia
    subst e;exact .inl ⟨it.stop _ H Gs rfl (ak.refl _) sg, hd σ H p⟩
end DL
namespace L2
open PySem PySem.Spec PyProof.Rows
theorem Bt {q : Program}{loose : List Str}{XP : (Str -> Option Value) -> Heap -> Prop}{α : Type}{Yf : Shared -> α}{Ya : World -> α}{r : PySem.W.RowW}{d : DefRec}{kwd : List (Str × Expr)}{run : Value -> List Value -> Sem Value}{YP : World -> Heap -> Prop}
    (W : PySem.W.WalkO q loose XP YP r d kwd run) (hY : ∀ w s, Yf s = Ya w -> YP w s.heap) (hYk : ∀ w h h', YP w h -> (∀ b o, h.get? b = some o -> h'.get? b = some o) -> YP w h'):PySem.W.WalkX q loose XP Yf Ya r d kwd run :=
  λw s₀ s₁ mg mb G y a o pm cd doc dV kV h1 h2 h3 h4 h5 h6 args vals as L p1 p2 p3 p4 p5 => W w s₀ s₁ mg mb G (hYk _ _ _ (hY w s₀ y) L.keeps) a o pm cd doc dV kV h1 h2 h3 h4 h5 h6 args vals as p1 p2 p3 p4 p5
end L2
set_option maxHeartbeats 4000000
namespace WS
open PySem L2 DL
local macro_rules | `(tactic| walk_at "rs1") => do let ns := ("fV dU gn fS fW dP d7 gf bo dC h8 dI lj gN dX nH fU d8 d5 eL gm fR mR cM eU bu fG gj dO la lN fT bB d9 gi ck aY dput bR gw aW Tg.d putN cy aq bG ax bw iw mQ List.map List.length tf tm tj qg qh qi qj qu qk ql sZ qv qw tq qo qt qp nJ tU tV vT ui uj uk tw rA rB nB nE nD nG nF qm v8 v9 wa Aq qr rS Ap mS Bf xJ sF As vR vS BO tp yC BK BJ vL vJ zC vK rR t4 vU zx oz vQ oA iB cond_true cond_false".splitOn " ").toArray.map λs => Lean.mkIdent s.toName;`(tactic| dsimp only [$[$ns:ident],*])
local macro_rules | `(tactic| walk_at "rsx") => `(tactic| set_option simprocs false in simp only [Dz, DB, DC, DD, DF, BW, Bd, true_and])
local macro_rules | `(tactic| walk_at "rs") => `(tactic| repeat (first | walk_at "rs1" | walk_at "rsx"))
local macro_rules | `(tactic| walk_at "v") => `(tactic| first | exact Or.inl rfl | exact Or.inr (Or.inl rfl) | exact Or.inr (Or.inr rfl))
local macro_rules | `(tactic| walk_at "rs2") => do let ns := ("dU gn fS fW dP d7 gf bo dC h8 dI lj gN dX nH fU d8 d5 eL gm fR mR cM eU bu fG gj dO la lN fT bB d9 gi ck aY dput bR gw aW Tg.d putN cy aq bG ax bw iw mQ List.map List.length tf tm tj qg qh qi qj qu qk ql sZ qv qw tq qo qt qp nJ tU tV vT ui uj uk tw rA rB nB nE nD nG nF qm v8 v9 wa Aq qr rS Ap mS Bf xJ sF As vR vS BO tp yC BK BJ vL vJ zC vK rR t4 vU zx oz vQ oA iB cond_true cond_false".splitOn " ").toArray.map λs => Lean.mkIdent s.toName;`(tactic| dsimp only [$[$ns:ident],*])
noncomputable def top (i : Nat):Stmt := PySem.Challenge.pw_warmshare_k31_least_told.main.body.getD i (.Pass ⟨0, 0, 0, 0⟩)
structure iX (mg : Str -> Option Value):Prop where
  ni : mg "len" = none
  vD : mg "list" = none
  BI : mg "sum" = none
  sS : mg "max" = none
  yi : mg "range" = none
  qc : mg "enumerate" = none
  gL : mg "isinstance" = none
  vC : mg "int" = none
  Ai : mg "bool" = none
  yj : mg "tuple" = none
  zB : mg "min" = none
  wB : ∃ t, mg "LEVELS" = some (.int 250 t)
  jc : ∃ t, mg "MOST_DEGREE" = some (.int 200 t)
  oQ : ∃ t, mg "LEAST_RATE" = some (.int 1 t)
  qK : ∃ t, mg "MOST_RATE" = some (.int 1000000000 t)
  gy : ∃ t, mg "MOST_OF_A_KIND" = some (.int 12 t)
noncomputable abbrev cZ : Stmt := top 27
theorem mC : aB ["script", "k"] ["script", "k"] (ae cZ) := ⟨rfl, rfl, rfl, by decide +kernel, rfl, by decide +kernel, by decide +kernel⟩
noncomputable abbrev bp : Stmt := inClass (top 25) 0
theorem i7 : aB ["self", "gap"] ["self", "gap"] (ae bp) := ⟨rfl, rfl, rfl, by decide +kernel, rfl, by decide +kernel, by decide +kernel⟩
noncomputable abbrev bT : Stmt := inClass (top 25) 4
theorem kr : aB ["self"] ["self"] (ae bT) := ⟨rfl, rfl, rfl, by decide +kernel, rfl, by decide +kernel, by decide +kernel⟩
noncomputable abbrev cU : Stmt := top 12
theorem mZ : aB ["bands", "level"] ["bands", "level"] (ae cU) := ⟨rfl, rfl, rfl, by decide +kernel, rfl, by decide +kernel, by decide +kernel⟩
noncomputable abbrev cR : Stmt := top 11
theorem jg : aB ["works", "gap"] ["works"] (ae cR) := ⟨rfl, rfl, rfl, by decide +kernel, rfl, by decide +kernel, by decide +kernel⟩
noncomputable abbrev dz : Stmt := top 10
theorem pE : aB ["works"] ["works"] (ae dz) := ⟨rfl, rfl, rfl, by decide +kernel, rfl, by decide +kernel, by decide +kernel⟩
noncomputable abbrev dF : Stmt := top 8
theorem m5 : aB ["works", "level"] ["works", "level"] (ae dF) := ⟨rfl, rfl, rfl, by decide +kernel, rfl, by decide +kernel, by decide +kernel⟩
noncomputable abbrev cg : Stmt := top 9
theorem mB : aB ["works"] ["works"] (ae cg) := ⟨rfl, rfl, rfl, by decide +kernel, rfl, by decide +kernel, by decide +kernel⟩
noncomputable abbrev dJ : Stmt := top 14
theorem m7 : aB ["works"] ["works"] (ae dJ) := ⟨rfl, rfl, rfl, by decide +kernel, rfl, by decide +kernel, by decide +kernel⟩
noncomputable abbrev dH : Stmt := top 15
theorem m6 : aB ["works"] ["works"] (ae dH) := ⟨rfl, rfl, rfl, by decide +kernel, rfl, by decide +kernel, by decide +kernel⟩
noncomputable abbrev g7 : Stmt := top 16
theorem ro : aB ["works", "heat"] ["works"] (ae g7) := ⟨rfl, rfl, rfl, by decide +kernel, rfl, by decide +kernel, by decide +kernel⟩
noncomputable abbrev bS : Stmt := inClass (top 25) 5
theorem gE : aB ["self", "works"] ["self"] (ae bS) := ⟨rfl, rfl, rfl, by decide +kernel, rfl, by decide +kernel, by decide +kernel⟩
noncomputable abbrev cC : Stmt := top 23
theorem kW : aB ["number", "least", "most"] ["number", "least", "most"] (ae cC) := ⟨rfl, rfl, rfl, by decide +kernel, rfl, by decide +kernel, by decide +kernel⟩
noncomputable abbrev cB : Stmt := top 22
theorem fc : aB ["kind", "stream", "start", "goal"] ["kind", "stream"] (ae cB) := ⟨rfl, rfl, rfl, by decide +kernel, rfl, by decide +kernel, by decide +kernel⟩
noncomputable abbrev bL : Stmt := inClass (top 25) 10
theorem jW : aB ["self", "kind"] ["self", "kind"] (ae bL) := ⟨rfl, rfl, rfl, by decide +kernel, rfl, by decide +kernel, by decide +kernel⟩
noncomputable abbrev bj : Stmt := inClass (top 25) 9
theorem iG : aB ["self", "kind", "stream"] ["self", "kind", "stream"] (ae bj) := ⟨rfl, rfl, rfl, by decide +kernel, rfl, by decide +kernel, by decide +kernel⟩
noncomputable abbrev bh : Stmt := inClass (top 25) 12
theorem iF : aB ["self", "works"] ["self", "works"] (ae bh) := ⟨rfl, rfl, rfl, by decide +kernel, rfl, by decide +kernel, by decide +kernel⟩
noncomputable abbrev aT : Stmt := inClass (top 25) 6
theorem cV : aB ["self", "kind", "start", "goal", "rate", "stream", "works"] ["self", "kind", "start", "goal", "rate"] (ae aT) := ⟨rfl, rfl, rfl, by decide +kernel, rfl, by decide +kernel, by decide +kernel⟩
noncomputable abbrev bC : Stmt := inClass (top 25) 11
theorem ju : aB ["self", "number"] ["self", "number"] (ae bC) := ⟨rfl, rfl, rfl, by decide +kernel, rfl, by decide +kernel, by decide +kernel⟩
noncomputable abbrev ay : Stmt := inClass (top 25) 7
theorem bQ : aB ["self", "number", "hots", "colds"] ["self", "number"] (ae ay) := ⟨rfl, rfl, rfl, by decide +kernel, rfl, by decide +kernel, by decide +kernel⟩
noncomputable abbrev ee : Stmt := top 28
theorem pF : aB ["found"] ["found"] (ae ee) := ⟨rfl, rfl, rfl, by decide +kernel, rfl, by decide +kernel, by decide +kernel⟩
noncomputable abbrev cK : Stmt := top 34
theorem dM : aB ["streams", "rows", "gap", "works", "found", "told", "number", "one"] ["streams", "rows", "gap"] (ae cK) := ⟨rfl, rfl, rfl, by decide +kernel, rfl, by decide +kernel, by decide +kernel⟩
noncomputable abbrev eO : Stmt := top 29
theorem iH : aB ["cell", "k", "number"] ["cell", "k"] (ae eO) := ⟨rfl, rfl, rfl, by decide +kernel, rfl, by decide +kernel, by decide +kernel⟩
noncomputable abbrev br : Stmt := inClass (top 25) 3
theorem fh : aB ["self", "number", "streams"] ["self", "number"] (ae br) := ⟨rfl, rfl, rfl, by decide +kernel, rfl, by decide +kernel, by decide +kernel⟩
noncomputable abbrev fv : Stmt := top 32
theorem mD : aB ["streams", "rows", "cell", "kind"] ["streams", "rows", "cell"] (ae fv) := ⟨rfl, rfl, rfl, by decide +kernel, rfl, by decide +kernel, by decide +kernel⟩
noncomputable abbrev dG : Stmt := top 30
theorem cj : aB ["cell", "base", "low", "high", "far", "rate"] ["cell", "base"] (ae dG) := ⟨rfl, rfl, rfl, by decide +kernel, rfl, by decide +kernel, by decide +kernel⟩
noncomputable abbrev bM : Stmt := inClass (top 25) 8
theorem fN : aB ["self", "kind", "stream", "streams"] ["self", "kind", "stream"] (ae bM) := ⟨rfl, rfl, rfl, by decide +kernel, rfl, by decide +kernel, by decide +kernel⟩
noncomputable abbrev bD : Stmt := inClass (top 25) 1
theorem jv : aB ["self", "start", "goal", "rate"] ["self", "start", "goal", "rate"] (ae bD) := ⟨rfl, rfl, rfl, by decide +kernel, rfl, by decide +kernel, by decide +kernel⟩
noncomputable abbrev bq : Stmt := inClass (top 25) 2
theorem i8 : aB ["self", "start", "goal", "rate"] ["self", "start", "goal", "rate"] (ae bq) := ⟨rfl, rfl, rfl, by decide +kernel, rfl, by decide +kernel, by decide +kernel⟩
noncomputable abbrev fw : Stmt := top 31
theorem d4 : aB ["streams", "rows", "cell", "base", "most", "low", "high", "rate", "kind", "number"] ["streams", "rows", "cell", "base", "most"] (ae fw) := ⟨rfl, rfl, rfl, by decide +kernel, rfl, by decide +kernel, by decide +kernel⟩
noncomputable abbrev de : Stmt := top 33
theorem bO : aB ["streams", "cell", "base", "low", "high", "rate", "way", "done"] ["streams", "cell", "base"] (ae de) := ⟨rfl, rfl, rfl, by decide +kernel, rfl, by decide +kernel, by decide +kernel⟩
noncomputable abbrev jV : Stmt := top 35
theorem g8 : aB ["script", "first", "gap", "base", "streams", "rows", "most", "cell", "way"] ["script"] (ae jV) := ⟨rfl, rfl, rfl, by decide +kernel, rfl, by decide +kernel, by decide +kernel⟩
structure h7 where
  cv : Addr
  ar : Addr
  aE : Addr
  Full : Addr
  aK : Addr
structure dB (K : Frag)(mg : Str -> Option Value)(cs : h7):Prop where
  rF : p6 K mg "HeatError" cs.cv
  kP : p6 K mg "NoMeasure" cs.ar
  g9 : p6 K mg "WrongWay" cs.aE
  xV : p6 K mg "Full" cs.Full
  mL : p6 K mg "NoStream" cs.aK
  oU : kitOne K (.ref cs.ar) (.ref cs.cv) = some true
  gR : PySem.W.exmOne K (.ref cs.ar) (.ref cs.cv) = some true
  oV : kitOne K (.ref cs.ar) (.ref cs.ar) = some true
  oN : PySem.W.exmOne K (.ref cs.ar) (.ref cs.ar) = some true
  pT : kitOne K (.ref cs.ar) (.ref cs.aE) = some false
  pP : PySem.W.exmOne K (.ref cs.ar) (.ref cs.aE) = some false
  tT : kitOne K (.ref cs.ar) (.ref cs.Full) = some false
  tN : PySem.W.exmOne K (.ref cs.ar) (.ref cs.Full) = some false
  pS : kitOne K (.ref cs.ar) (.ref cs.aK) = some false
  pO : PySem.W.exmOne K (.ref cs.ar) (.ref cs.aK) = some false
  yF : kitOne K (.ref cs.ar) (.type "ValueError") = some true
  pW : kitOne K (.ref cs.aE) (.ref cs.cv) = some true
  hX : PySem.W.exmOne K (.ref cs.aE) (.ref cs.cv) = some true
  pX : kitOne K (.ref cs.aE) (.ref cs.ar) = some false
  pR : PySem.W.exmOne K (.ref cs.aE) (.ref cs.ar) = some false
  qO : kitOne K (.ref cs.aE) (.ref cs.aE) = some true
  qI : PySem.W.exmOne K (.ref cs.aE) (.ref cs.aE) = some true
  u5 : kitOne K (.ref cs.aE) (.ref cs.Full) = some false
  uQ : PySem.W.exmOne K (.ref cs.aE) (.ref cs.Full) = some false
  qN : kitOne K (.ref cs.aE) (.ref cs.aK) = some false
  qH : PySem.W.exmOne K (.ref cs.aE) (.ref cs.aK) = some false
  zO : kitOne K (.ref cs.aE) (.type "ValueError") = some true
  tR : kitOne K (.ref cs.Full) (.ref cs.cv) = some true
  jH : PySem.W.exmOne K (.ref cs.Full) (.ref cs.cv) = some true
  tS : kitOne K (.ref cs.Full) (.ref cs.ar) = some false
  tM : PySem.W.exmOne K (.ref cs.Full) (.ref cs.ar) = some false
  uZ : kitOne K (.ref cs.Full) (.ref cs.aE) = some false
  uO : PySem.W.exmOne K (.ref cs.Full) (.ref cs.aE) = some false
  yB : kitOne K (.ref cs.Full) (.ref cs.Full) = some true
  yw : PySem.W.exmOne K (.ref cs.Full) (.ref cs.Full) = some true
  uY : kitOne K (.ref cs.Full) (.ref cs.aK) = some false
  uN : PySem.W.exmOne K (.ref cs.Full) (.ref cs.aK) = some false
  C9 : kitOne K (.ref cs.Full) (.type "ValueError") = some true
  pU : kitOne K (.ref cs.aK) (.ref cs.cv) = some true
  hV : PySem.W.exmOne K (.ref cs.aK) (.ref cs.cv) = some true
  pV : kitOne K (.ref cs.aK) (.ref cs.ar) = some false
  pQ : PySem.W.exmOne K (.ref cs.aK) (.ref cs.ar) = some false
  qM : kitOne K (.ref cs.aK) (.ref cs.aE) = some false
  qG : PySem.W.exmOne K (.ref cs.aK) (.ref cs.aE) = some false
  u3 : kitOne K (.ref cs.aK) (.ref cs.Full) = some false
  uP : PySem.W.exmOne K (.ref cs.aK) (.ref cs.Full) = some false
  qL : kitOne K (.ref cs.aK) (.ref cs.aK) = some true
  qF : PySem.W.exmOne K (.ref cs.aK) (.ref cs.aK) = some true
  zN : kitOne K (.ref cs.aK) (.type "ValueError") = some true
structure dR (K : Frag)(mg : Str -> Option Value)(CS : Addr):Prop where
  cl : L2.h7 K CS
  wN : eA K CS "gap"
  j8 : eA K CS "hots"
  iT : eA K CS "colds"
  lx : eA K CS "spent"
  at_ : mg "Streams" = some (.ref CS)
section
variable {cs : h7} {CS : Addr}
variable {Pt : Addr} {P : Program} {w : World} {K : Frag} {mg : Str -> Option Value} {base : Heap} {f : Addr} {fd : FuncData}
noncomputable def dW (g : Int)(hs cs : List S3):D := .tup [.int g, .lst (hs.map d3), .lst (cs.map d3)]
theorem t7 : ∀ l : List S3, iy (l.map d3) = true
  | [] => fB
  | x :: l => by rw [map_cons, fu, t7 l, show bf (d3 x) = true by unfold d3;simp only [lA, fu, fB, lz, Bool.and_true]];rfl
theorem oF : ∀ l : List S3, gP (l.map d3) <= 1
  | [] => by rw [List.map_nil, gp];exact Nat.zero_le _
  | x :: l => by
    have h := oF l;have e : dep (d3 x) = 1 := by unfold d3;simp only [lq, ft, gp, lp];rfl
    rw [map_cons, ft, e];lia
theorem j9 (g : Int)(hs cs : List S3):bf (dW g hs cs) = true := by
  unfold dW;simp only [lA, fu, fB, lz, oY, t7, Bool.and_true]
theorem v5 (g : Int)(hs cs : List S3):dep (dW g hs cs) <= 3 := by
  have h1 := oF hs;have h2 := oF cs;unfold dW;simp only [lq, ft, gp, lp, tG];lia
theorem BV {g : Int}{hs cs : List S3}{P : B -> Prop}(h : P (.p (.bl true))):Du (dW g hs cs) (dW g hs cs) P := by
  refine ⟨⟨j9 _ _ _, j9 _ _ _, by have := v5 g hs cs;lia⟩, ?_⟩;rw [iD _ (j9 _ _ _)];exact h
structure dS (g : Int)(hs cs : List S3):Prop where
  g0 : 0 <= g
  g1 : g <= 50
  nh : hs.length <= 12
  nc : cs.length <= 12
  By : ∀ x ∈ hs, p8 x
  uH : ∀ x ∈ cs, lE x
theorem lt1000 {n : Nat}(h : n <= 1000):n < sizeLine := iV h
noncomputable def Sm (n : Int):Prop := n.natAbs < 10 ^ 40
theorem Dc : Str.empty.length = 0 := rfl
theorem t6 {m : Nat}(h : m < 10 ^ 40):(toString m).length <= 40 := (Nat.length_repr_le_iff (by decide)).mpr h
theorem nW {n : Int}(h : Sm n):(Str.ofString (toString n)).length <= 41 := by
  rw [PySem.ofString_length];cases n with
  | ofNat m => exact Nat.le_trans (t6 (m := m) h) (by decide)
  | negSucc m =>
    have e : toString (Int.negSucc m) = "-" ++ toString (m + 1) := rfl;have := t6 (m := m + 1) h;rw [e, String.length_append];have c : "-".length = 1 := rfl;lia
theorem nV {n : Int}(h : Sm n):n.natAbs.log2 < 1920 := by
  by_cases hz : n.natAbs = 0
  · rw [hz];decide
  · exact Nat.lt_trans ((Nat.log2_lt hz).mpr (Nat.lt_trans h (show 10 ^ 40 < 2 ^ 200 by decide))) (by decide)
theorem pH (n : Nat)(h : n < 10 ^ 40):Sm (n : Int) := h
theorem jA : ¬ bt = Str.ofString "hot" := by decide +kernel
theorem tQ : ¬ aZ = Str.ofString "cold" := by decide +kernel
noncomputable def fb (cs : h7):rJ := λds Q Z => ∃ n a b : Int, ds = [.int n, .int a, .int b] /\ Sm n /\ Sm a /\ Sm b /\ if n < a \/ b < n then Z (.ref cs.ar) else Q (.p .non)
theorem kU (T : iX mg)(TX : dB K mg cs)(TC : dR K mg CS)(F : fQ K "check_within" "check_within" cC f fd):aI P w K mg base (fP P w) 1 f fd ["number", "least", "most"] (vt K (fb cs)) := by
  refine wW F kW (λds Q Z h => by obtain ⟨n, a, b, rfl, hn, ha, hb, q⟩ := h;rfl) λcdv A outer s H E Z hr hZ => ⟨_, (fj (tL (DW.dt (tK (cc wU (dv 0) (dv 1) (aQ _)) (wm (cc Cc (dv 0) (dv 2) (aQ _))))) (fj (jE bA hZ rfl TX.kP.er (by rfl) TX.kP.at_ (aa (lO (fX (dv 0) (fA (fX (dv 1) (fA (fX (dv 2) lU)))))) ai))) lr)), λds Q h => ?_⟩
  obtain ⟨n, a, b, rfl, hn, ha, hb, q⟩ := h;walk_at "rs";have l1 := nW hn;have l2 := nW ha;have l3 := nW hb;have c1 : (Str.ofString " is not from ").length = 13 := by decide +kernel
  have c2 : (Str.ofString " to ").length = 4 := by decide +kernel
  have sz : sizeLine = 16777216 := sizeLine_eq;have g1 := nV hn;have g2 := nV ha;have g3 := nV hb;simp only [len_app, Dc, c1, c2];refine ⟨λz => ⟨λ_ => ⟨g1, by lia, by lia, g2, by lia, by lia, g3, by lia, by lia, ?_⟩, λz => (by cases z)⟩, λz => ⟨λy => ⟨g1, by lia, by lia, g2, by lia, by lia, g3, by lia, by lia, ?_⟩, λy => ?_⟩⟩
  · rw [if_pos (.inl (of_decide_eq_true z))] at q;exact q
  · rw [if_pos (.inr (of_decide_eq_true y))] at q;exact q
  · rw [if_neg (λw => w.elim (of_decide_eq_false z) (of_decide_eq_false y))] at q;exact q
noncomputable def bZ (k : Str)(x : S3):Nat := if x.1 < 0 \/ 200 < x.1 \/ x.2.1 < 0 \/ 200 < x.2.1 \/ x.2.2 < 1 \/ 1000000000 < x.2.2 then 1 else if (k = aZ /\ x.1 <= x.2.1) \/ (k = bt /\ x.2.1 <= x.1) then 2 else 0
noncomputable def hG (cs : h7):rJ := λds Q Z => ∃ (k : Str) (x : S3), ds = [.str k, d3 x] /\ (k = aZ \/ k = bt) /\ Sm x.1 /\ Sm x.2.1 /\ Sm x.2.2 /\
  if bZ k x = 1 then Z (.ref cs.ar) else if bZ k x = 2 then Z (.ref cs.aE) else Q (.p .non)
theorem kT (T : iX mg)(TX : dB K mg cs)(TC : dR K mg CS)(FX_check_within : BC P w K mg base "check_within" 1 ["number", "least", "most"] (vt K (fb cs)))(F : fQ K "check_stream" "check_stream" cB f fd):aI P w K mg base (fP P w) 2 f fd ["kind", "stream"] (vt K (hG cs)) := by
  refine wW F fc (λds Q Z h => by obtain ⟨k, x, rfl, hk, h1, h2, h3, q⟩ := h;rfl) λcdv A outer s H E Z hr hZ => ⟨_, (bW (dx (cq (i := 2) fc.nd rfl (Or.inl rfl) (dg (dv 1) ag)))
      (bW (dx (cq (i := 3) fc.nd rfl (Or.inl rfl) (dg (dv 1) ag)))
      (bW (jD bA hZ FX_check_within (hr.mono (by decide)) (by rfl) (aa (dv 2) (aa ag (aa (lP (by rfl) T.jc) ai))))
      (bW (jD bA hZ FX_check_within (hr.mono (by decide)) (by rfl) (aa (dv 3) (aa ag (aa (lP (by rfl) T.jc) ai))))
      (bW (jD bA hZ FX_check_within (hr.mono (by decide)) (by rfl) (aa (dg (dv 1) ag) (aa (lP (by rfl) T.oQ) (aa (lP (by rfl) T.qK) ai))))
      (bW (tL (DW.dt (rW (cc kI (dv 0) oE (aQ _)) (oM (cc zT (dv 3) (dv 2) (aQ _))))) (fj (jE bA hZ rfl TX.g9.er (by rfl) TX.g9.at_ (aa (lO (fA (fX (dv 2) (fA (fX (dv 3) lU))))) ai))) lr)
      (fj (tL (DW.dt (rW (cc kI (dv 0) oE (aQ _)) (oM (cc Cd (dv 3) (dv 2) (aQ _))))) (fj (jE bA hZ rfl TX.g9.er (by rfl) TX.g9.at_ (aa (lO (fA (fX (dv 2) (fA (fX (dv 3) lU))))) ai))) lr)))))))), λds Q h => ?_⟩
  obtain ⟨k, x, rfl, hk, h1, h2, h3, q⟩ := h;repeat (first | dsimp only [fb, d3] | walk_at "rs1" | walk_at "rsx")
  have s0 : Sm 0 := pH 0 (by decide);have s2 : Sm 200 := pH 200 (by decide);have l1 := nW h1;have l2 := nW h2;have c0 : (Str.ofString "a hot stream is cooled, not brought from ").length = 41 := by decide +kernel
  have c1 : (Str.ofString "a cold stream is warmed, not brought from ").length = 42 := by decide +kernel
  have c2 : (Str.ofString " to ").length = 4 := by decide +kernel
  have sz : sizeLine = 16777216 := sizeLine_eq;have g1 := nV h1;have g2 := nV h2;unfold bZ at q;refine ⟨x.1, 0, 200, rfl, h1, s0, s2, jM (λz => ?_) λz => ⟨x.2.1, 0, 200, rfl, h2, s0, s2, jM (λz2 => ?_) λz2 => ⟨x.2.2, 1, 1000000000, rfl, h3, pH 1 (by decide), pH 1000000000 (by decide), jM (λz3 => ?_) λz3 => ?_⟩⟩⟩
  · rw [if_pos (if_pos (by lia))] at q;exact q
  · rw [if_pos (if_pos (by lia))] at q;exact q
  · rw [if_pos (if_pos (by lia))] at q;exact q
  have nb : ¬ (x.1 < 0 \/ 200 < x.1 \/ x.2.1 < 0 \/ 200 < x.2.1 \/ x.2.2 < 1 \/ 1000000000 < x.2.2) := by lia
  simp only [if_neg nb] at q;simp only [len_app, Dc, c0, c1, c2];rcases hk with rfl | rfl
  · refine ⟨λ_ => ⟨λy => ⟨by lia, g1, by lia, by lia, g2, by lia, by lia, ?_⟩, λy => ⟨λw => absurd (of_decide_eq_true w) tQ, λ_ => ⟨λw => (by cases w), λ_ => ?_⟩⟩⟩, λw => absurd rfl (of_decide_eq_false w)⟩
    · rw [if_pos (show (aZ = aZ /\ x.1 <= x.2.1) \/ (aZ = bt /\ x.2.1 <= x.1) from .inl ⟨rfl, of_decide_eq_true y⟩), if_neg (by decide), if_pos rfl] at q;exact q
    · rw [if_neg (show ¬ ((aZ = aZ /\ x.1 <= x.2.1) \/ (aZ = bt /\ x.2.1 <= x.1)) from λw => w.elim (λw => of_decide_eq_false y w.2) λw => tQ w.1), if_neg (by decide), if_neg (by decide)] at q;exact q
  · refine ⟨λw => absurd (of_decide_eq_true w) jA, λ_ => ⟨λw => (by cases w), λ_ => ⟨λ_ => ⟨λy => ⟨by lia, g1, by lia, by lia, g2, by lia, by lia, ?_⟩, λy => ?_⟩, λw => absurd rfl (of_decide_eq_false w)⟩⟩⟩
    · rw [if_pos (show (bt = aZ /\ x.1 <= x.2.1) \/ (bt = bt /\ x.2.1 <= x.1) from .inr ⟨rfl, of_decide_eq_true y⟩), if_neg (by decide), if_pos rfl] at q;exact q
    · rw [if_neg (show ¬ ((bt = aZ /\ x.1 <= x.2.1) \/ (bt = bt /\ x.2.1 <= x.1)) from λw => w.elim (λw => jA w.1) λw => of_decide_eq_false y w.2), if_neg (by decide), if_neg (by decide)] at q;exact q
theorem mulR {i j : Int}(h : -(2 ^ 64) < j /\ j < 2 ^ 64):pY i j := .inr h
theorem mulL {i j : Int}(h : -(2 ^ 64) < i /\ i < 2 ^ 64):pY i j := .inl h
local macro_rules | `(tactic| walk_at "side") => `(tactic| first | decide | lia | exact mulR (by decide) | exact mulL (by decide) | exact ⟨by decide, by decide, by decide⟩ | exact ⟨by lia, by decide⟩ | exact mulL ⟨by lia, by lia⟩ | exact mulR ⟨by lia, by lia⟩ | exact ⟨by lia, by lia⟩)
local macro_rules | `(tactic| walk_at "go") => `(tactic| repeat (refine ⟨by walk_at "side", ?_⟩))
noncomputable def fi (c k : Int):Int := ((c + 977 * k + 1) * 48271 % 2147483647) * ((c + 977 * k + 1) * 48271 % 2147483647) % 2147483629 * 69621 % 2147483587 / 8
theorem Bj (c k : Int):0 <= fi c k := Int.ediv_nonneg (Int.emod_nonneg _ (by decide)) (by decide)
noncomputable def aF : DR := λds P => match ds with
  | [.int c, .int k] => P (.p (.int (fi c k)))
  | _ => False
set_option tactic.hygienic true in
theorem qZ (T : iX mg)(TX : dB K mg cs)(TC : dR K mg CS)(F : fQ K "_law_stir" "_law_stir" eO f fd):aI P w K mg base gI 1 f fd ["cell", "k"] (e6 K aF) := by
  refine rG F iH (λds Q h => by unfold aF at h;split at h <;> first | rfl | exact h.elim) λcdv A outer s H E hr => ⟨_, (aL (cq (i := 2) iH.nd rfl (Or.inl rfl) (aJ bH (aJ gz (aJ cP (aJ cP (dv 0) (aJ gz ag (dv 1))) ag) ag) ag))
      (aL (cq (i := 2) iH.nd rfl (Or.inl rfl) (aJ bH (aJ gz (dv 2) (dv 2)) ag))
      (aO (bF (aJ yP (aJ bH (aJ gz (dv 2) ag) ag) ag))))), λds Q h => ?_⟩
  unfold aF at h;split at h;rotate_left
  · exact h.elim
  rename_i c k;try dsimp only [fV, dU, gn, eV, eW, fS, fW, dP, eY, eX, dn, il, ik, ij, eR, dq, bU, dm, d7, gf, eS, eT, bo, dC, h8, dI, lj, fF, e7, gN, dX, nH, fU, d8, d5, iq, eL, gm, fR, mR, ip, cM, eU, bu, fG, gj, dO, la, fz, lN, ig, fT, d6, ll, bB, d9, oy, hU, fy, gk, gi, ck, aY, dput, bR, gw, B.val, aW, Tg.d, putN, cN, eZ, cy, du, bV, aq, bG, ax, bw, iw, mQ, List.map, List.length]
  have h0 : 0 <= ((c + 977 * k + 1) * 48271 % 2147483647 : Int) := Int.emod_nonneg _ (by decide);have h1 : ((c + 977 * k + 1) * 48271 % 2147483647 : Int) < 2147483647 := Int.emod_lt_of_pos _ (by decide);walk_at "go";exact h
theorem B8 {α β : Type}{f g : α -> β}{l : List α}(h : ∀ x ∈ l, f x = g x):l.map f = l.map g := map_congr_left h
noncomputable def kM : DR := λds P => ∃ g hs cs, ds = [dW g hs cs] /\ hs.length <= 12 /\ P (.o (.lst ((uW hs).map d3)))
theorem o6 (T : iX mg)(TX : dB K mg cs)(TC : dR K mg CS)(F : fQ K "hot_bands" "hot_bands" dz f fd):aI P w K mg base gI 1 f fd ["works"] (e6 K kM) := by
  refine rG F pE (λds Q h => by obtain ⟨g, hs, cs, rfl, hl, q⟩ := h;rfl) λcdv A outer s H E hr => ⟨_, (aO (bF (lQ (g := (.t [0, 1, 2])) (tc := ck) (te := (fG (bu (bo 1) (bu (bo 0) (bu (bo 2) eU))))) (sc0 := ae dz) (N0 := ["works"]) ["start", "goal", "rate"] [none, none, none] rfl (gQ (dg (dv 0) ag)) (λ_ _ _ _ _ => (gZ rfl (aR (aS (i := 0) (show (["start", "goal", "rate"]:List Str).Nodup by decide +kernel) rfl (Or.inl rfl)) (aR (aS (i := 1) (show (["start", "goal", "rate"]:List Str).Nodup by decide +kernel) rfl (Or.inl rfl)) (aR (aS (i := 2) (show (["start", "goal", "rate"]:List Str).Nodup by decide +kernel) rfl (Or.inl rfl)) fo))))) (λ_ _ _ _ _ => gq) (λ_ _ _ _ _ => (gO (aa (dv 1) (aa (dv 0) (aa (dv 2) ai)))))))), λds Q h => ?_⟩
  obtain ⟨g, hs, cs, rfl, hl, q⟩ := h;try dsimp only [fV, dU, gn, eV, eW, fS, fW, dP, eY, eX, dn, il, ik, ij, eR, dq, bU, dm, d7, gf, eS, eT, bo, dC, h8, dI, lj, fF, e7, gN, dX, nH, fU, d8, d5, iq, eL, gm, fR, mR, ip, cM, eU, bu, fG, gj, dO, la, fz, lN, ig, fT, d6, ll, bB, d9, oy, hU, fy, gk, gi, ck, aY, dput, bR, gw, B.val, aW, Tg.d, putN, cN, eZ, cy, du, bV, aq, bG, ax, bw, iw, mQ, List.map, List.length, dW]
  refine ⟨_, rfl, ?_⟩;refine mh (λx => match x with | .tup [a, b, c] => .tup [b, a, c] | d => d) (by rw [length_map];lia) (λx hx => ?_) ?_
  · obtain ⟨y, hy, rfl⟩ := mem_map.mp hx;rfl
  · rw [map_map];unfold uW at q;rw [map_map] at q;exact q
noncomputable def jT : DR := λds P => ∃ g hs cs, ds = [dW g hs cs] /\ cs.length <= 12 /\ P (.o (.lst ((nz g cs).map d3)))
theorem mT (T : iX mg)(TX : dB K mg cs)(TC : dR K mg CS)(F : fQ K "cold_bands" "cold_bands" cR f fd):aI P w K mg base gI 1 f fd ["works"] (e6 K jT) := by
  refine rG F jg (λds Q h => by obtain ⟨g, hs, cs, rfl, hl, q⟩ := h;rfl) λcdv A outer s H E hr => ⟨_, (aL (cq (i := 1) jg.nd rfl (Or.inr rfl) (dg (dv 0) ag))
      (aO (bF (lQ (g := (.t [0, 1, 2])) (tc := ck) (te := (fG (bu (h8 _ (bo 0) (bo 3)) (bu (h8 _ (bo 1) (bo 3)) (bu (bo 2) eU))))) (sc0 := ae cR) (N0 := ["works", "gap"]) ["start", "goal", "rate", "gap"] [none, none, none, some 1] rfl (gQ (dg (dv 0) ag)) (λ_ _ _ _ _ => (gZ rfl (aR (aS (i := 0) (show (["start", "goal", "rate", "gap"]:List Str).Nodup by decide +kernel) rfl (Or.inl rfl)) (aR (aS (i := 1) (show (["start", "goal", "rate", "gap"]:List Str).Nodup by decide +kernel) rfl (Or.inl rfl)) (aR (aS (i := 2) (show (["start", "goal", "rate", "gap"]:List Str).Nodup by decide +kernel) rfl (Or.inl rfl)) fo))))) (λ_ _ _ _ _ => gq) (λ_ _ _ _ _ => (gO (aa (aJ cP (dv 0) (dv 3)) (aa (aJ cP (dv 1) (dv 3)) (aa (dv 2) ai))))))))), λds Q h => ?_⟩
  obtain ⟨g, hs, cs, rfl, hl, q⟩ := h;try dsimp only [fV, dU, gn, eV, eW, fS, fW, dP, eY, eX, dn, il, ik, ij, eR, dq, bU, dm, d7, gf, eS, eT, bo, dC, h8, dI, lj, fF, e7, gN, dX, nH, fU, d8, d5, iq, eL, gm, fR, mR, ip, cM, eU, bu, fG, gj, dO, la, fz, lN, ig, fT, d6, ll, bB, d9, oy, hU, fy, gk, gi, ck, aY, dput, bR, gw, B.val, aW, Tg.d, putN, cN, eZ, cy, du, bV, aq, bG, ax, bw, iw, mQ, List.map, List.length, dW]
  refine ⟨_, rfl, _, rfl, ?_⟩;refine mh (λx => match x with | .tup [.int a, .int b, c] => .tup [.int (a + g), .int (b + g), c] | d => d) (by rw [length_map];lia) (λx hx => ?_) ?_
  · obtain ⟨y, hy, rfl⟩ := mem_map.mp hx;rfl
  · rw [map_map];unfold nz at q;rw [map_map] at q;exact q
noncomputable def jU : DR := λds P => ∃ (bs : List S3) (L : Int), ds = [.lst (bs.map d3), .int L] /\ bs.length <= 12 /\ (∀ b ∈ bs, 0 <= b.2.2 /\ b.2.2 <= 1000000000) /\ P (.p (.int (above bs L)))
theorem mU (T : iX mg)(TX : dB K mg cs)(TC : dR K mg CS)(F : fQ K "heat_above" "heat_above" cU f fd):aI P w K mg base gI 1 f fd ["bands", "level"] (e6 K jU) := by
  refine rG F mZ (λds Q h => by obtain ⟨bs, L, rfl, hl, hb, q⟩ := h;rfl) λcdv A outer s H E hr => ⟨_, (aO (bF (cw (Am rfl) (by rfl) T.BI boot_sum (aa (lQ (g := (.t [0, 1, 2])) (tc := ck) (te := (h8 _ (bo 2) (la _ (bu (dC _) (bu (h8 _ (bo 1) (la _ (bu (bo 0) (bu (bo 3) eU)))) eU))))) (sc0 := ae cU) (N0 := ["bands", "level"]) ["low", "high", "rate", "level"] [none, none, none, some 1] rfl (gQ (dv 0)) (λ_ _ _ _ _ => (gZ rfl (aR (aS (i := 0) (show (["low", "high", "rate", "level"]:List Str).Nodup by decide +kernel) rfl (Or.inl rfl)) (aR (aS (i := 1) (show (["low", "high", "rate", "level"]:List Str).Nodup by decide +kernel) rfl (Or.inl rfl)) (aR (aS (i := 2) (show (["low", "high", "rate", "level"]:List Str).Nodup by decide +kernel) rfl (Or.inl rfl)) fo))))) (λ_ _ _ _ _ => gq) (λ_ _ _ _ _ => (aJ gz (dv 2) (cw (sV rfl) (by rfl) T.sS boot_max (aa ag (aa (aJ ke (dv 1) (cw (sV rfl) (by rfl) T.sS boot_max (aa (dv 0) (aa (dv 3) ai)))) ai)))))) ai)))), λds Q h => ?_⟩
  obtain ⟨bs, L, rfl, hl, hb, q⟩ := h;try dsimp only [fV, dU, gn, eV, eW, fS, fW, dP, eY, eX, dn, il, ik, ij, eR, dq, bU, dm, d7, gf, eS, eT, bo, dC, h8, dI, lj, fF, e7, gN, dX, nH, fU, d8, d5, iq, eL, gm, fR, mR, ip, cM, eU, bu, fG, gj, dO, la, fz, lN, ig, fT, d6, ll, bB, d9, oy, hU, fy, gk, gi, ck, aY, dput, bR, gw, B.val, aW, Tg.d, putN, cN, eZ, cy, du, bV, aq, bG, ax, bw, iw, mQ, List.map, List.length]
  refine mh (λx => match x with | .tup [.int a, .int b, .int c] => .int (oj (a, b, c) L) | d => d) (by rw [length_map];lia) (λx hx => ?_) ?_
  · obtain ⟨y, hy, rfl⟩ := mem_map.mp hx;have := hb y hy;try dsimp only [fV, dU, gn, eV, eW, fS, fW, dP, eY, eX, dn, il, ik, ij, eR, dq, bU, dm, d7, gf, eS, eT, bo, dC, h8, dI, lj, fF, e7, gN, dX, nH, fU, d8, d5, iq, eL, gm, fR, mR, ip, cM, eU, bu, fG, gj, dO, la, fz, lN, ig, fT, d6, ll, bB, d9, oy, hU, fy, gk, gi, ck, aY, dput, bR, gw, B.val, aW, Tg.d, putN, cN, eZ, cy, du, bV, aq, bG, ax, bw, iw, mQ, List.map, List.length, d3]
    exact ⟨mulL ⟨by lia, by lia⟩, rfl⟩
  · rw [map_map];have e : List.map ((λx => match x with | .tup [.int a, .int b, .int c] => .int (oj (a, b, c) L) | d => d) ∘ d3) bs = (bs.map λb => oj b L).map D.int := by
      rw [map_map];exact B8 λy _ => rfl
    rw [e];exact yp q
theorem dS.Dx {g : Int}{hs cs : List S3}(o : dS g hs cs):∀ b ∈ uW hs, 0 <= b.2.2 /\ b.2.2 <= 1000000000 := λb hb => by
  obtain ⟨x, hx, rfl⟩ := mem_map.mp hb;have h := o.By x hx;exact ⟨by have := h.r0;show 0 <= x.2.2;lia, h.r1⟩
theorem dS.BN {g : Int}{hs cs : List S3}(o : dS g hs cs):∀ b ∈ nz g cs, 0 <= b.2.2 /\ b.2.2 <= 1000000000 := λb hb => by
  obtain ⟨x, hx, rfl⟩ := mem_map.mp hb;have h := o.uH x hx;exact ⟨by have := h.r0;show 0 <= x.2.2;lia, h.r1⟩
theorem wG (hs : List S3):(uW hs).length = hs.length := by unfold uW;simp
theorem uI (g : Int)(cs : List S3):(nz g cs).length = cs.length := by unfold nz;simp
noncomputable def g4 : DR := λds P => ∃ g hs cs L, ds = [dW g hs cs, .int L] /\ dS g hs cs /\ P (.p (.int (dh g hs cs L)))
theorem mV (T : iX mg)(TX : dB K mg cs)(TC : dR K mg CS)(F_heat_above : Fn P w K mg base "heat_above" 1 ["bands", "level"] (e6 K jU))(F_cold_bands : Fn P w K mg base "cold_bands" 1 ["works"] (e6 K jT))(F_hot_bands : Fn P w K mg base "hot_bands" 1 ["works"] (e6 K kM))(F : fQ K "lack_above" "lack_above" dF f fd):aI P w K mg base gI 2 f fd ["works", "level"] (e6 K g4) := by
  refine rG F m5 (λds Q h => by obtain ⟨g, hs, cs, L, rfl, ok, q⟩ := h;rfl) λcdv A outer s H E hr => ⟨_, (aO (bF (aJ ke (aP F_heat_above (hr.mono (by decide)) (by rfl) (aa (aP F_cold_bands (hr.mono (by decide)) (by rfl) (aa (dv 0) ai)) (aa (dv 1) ai))) (aP F_heat_above (hr.mono (by decide)) (by rfl) (aa (aP F_hot_bands (hr.mono (by decide)) (by rfl) (aa (dv 0) ai)) (aa (dv 1) ai)))))), λds Q h => ?_⟩
  obtain ⟨g, hs, cs, L, rfl, ok, q⟩ := h;try dsimp only [fV, dU, gn, eV, eW, fS, fW, dP, eY, eX, dn, il, ik, ij, eR, dq, bU, dm, d7, gf, eS, eT, bo, dC, h8, dI, lj, fF, e7, gN, dX, nH, fU, d8, d5, iq, eL, gm, fR, mR, ip, cM, eU, bu, fG, gj, dO, la, fz, lN, ig, fT, d6, ll, bB, d9, oy, hU, fy, gk, gi, ck, aY, dput, bR, gw, B.val, aW, Tg.d, putN, cN, eZ, cy, du, bV, aq, bG, ax, bw, iw, mQ, List.map, List.length]
  refine ⟨g, hs, cs, rfl, ok.nc, ?_⟩;try dsimp only [fV, dU, gn, eV, eW, fS, fW, dP, eY, eX, dn, il, ik, ij, eR, dq, bU, dm, d7, gf, eS, eT, bo, dC, h8, dI, lj, fF, e7, gN, dX, nH, fU, d8, d5, iq, eL, gm, fR, mR, ip, cM, eU, bu, fG, gj, dO, la, fz, lN, ig, fT, d6, ll, bB, d9, oy, hU, fy, gk, gi, ck, aY, dput, bR, gw, B.val, aW, Tg.d, putN, cN, eZ, cy, du, bV, aq, bG, ax, bw, iw, mQ, List.map, List.length]
  refine ⟨_, L, rfl, by rw [uI];exact ok.nc, ok.BN, g, hs, cs, rfl, ok.nh, ?_⟩;try dsimp only [fV, dU, gn, eV, eW, fS, fW, dP, eY, eX, dn, il, ik, ij, eR, dq, bU, dm, d7, gf, eS, eT, bo, dC, h8, dI, lj, fF, e7, gN, dX, nH, fU, d8, d5, iq, eL, gm, fR, mR, ip, cM, eU, bu, fG, gj, dO, la, fz, lN, ig, fT, d6, ll, bB, d9, oy, hU, fy, gk, gi, ck, aY, dput, bR, gw, B.val, aW, Tg.d, putN, cN, eZ, cy, du, bV, aq, bG, ax, bw, iw, mQ, List.map, List.length]
  exact ⟨_, L, rfl, by rw [wG];exact ok.nh, ok.Dx, q⟩
noncomputable def eC (g : Int)(hs cs : List S3):List Int := (List.range 251).map λi => dh g hs cs (i : Nat)
noncomputable def gd : DR := λds P => ∃ g hs cs, ds = [dW g hs cs] /\ dS g hs cs /\ P (.o (.lst ((eC g hs cs).map D.int)))
theorem ml (T : iX mg)(TX : dB K mg cs)(TC : dR K mg CS)(F_lack_above : Fn P w K mg base "lack_above" 2 ["works", "level"] (e6 K g4))(F : fQ K "lacks_above" "lacks_above" cg f fd):aI P w K mg base gI 3 f fd ["works"] (e6 K gd) := by
  refine rG F mB (λds Q h => by obtain ⟨g, hs, cs, rfl, ok, q⟩ := h;rfl) λcdv A outer s H E hr => ⟨_, (aO (bF (lQ (g := (.n 0)) (tc := ck) (te := (dO _ (bu (bo 1) (bu (bo 0) eU)))) (sc0 := ae cg) (N0 := ["works"]) ["level", "works"] [none, some 0] rfl (v7 (by rfl) T.yi (aa (aJ cP (lP (by rfl) T.wB) ag) ai)).di (λ_ _ _ _ _ => (aS (i := 0) (show (["level", "works"]:List Str).Nodup by decide +kernel) rfl (Or.inl rfl))) (λ_ _ _ _ _ => gq) (λ_ _ _ _ _ => (aP F_lack_above (hr.mono (by decide)) (by rfl) (aa (dv 1) (aa (dv 0) ai))))))), λds Q h => ?_⟩
  obtain ⟨g, hs, cs, rfl, ok, q⟩ := h;try dsimp only [fV, dU, gn, eV, eW, fS, fW, dP, eY, eX, dn, il, ik, ij, eR, dq, bU, dm, d7, gf, eS, eT, bo, dC, h8, dI, lj, fF, e7, gN, dX, nH, fU, d8, d5, iq, eL, gm, fR, mR, ip, cM, eU, bu, fG, gj, dO, la, fz, lN, ig, fT, d6, ll, bB, d9, oy, hU, fy, gk, gi, ck, aY, dput, bR, gw, B.val, aW, Tg.d, putN, cN, eZ, cy, du, bV, aq, bG, ax, bw, iw, mQ, List.map, List.length]
  refine ⟨by decide, ?_⟩;refine mh (λx => match x with | .int L => .int (dh g hs cs L) | d => d) (by rw [mI];decide) (λx hx => ?_) ?_
  · obtain ⟨i, hi, rfl⟩ := sk hx;exact ⟨g, hs, cs, _, rfl, ok, rfl⟩
  · have e : List.map (λx => match x with | D.int L => D.int (dh g hs cs L) | d => d) (fE 0 (Int.toNat (250 + 1))) = (eC g hs cs).map D.int := by
      unfold fE eC;rw [map_map, map_map];refine B8 λi _ => ?_;show D.int (dh g hs cs (0 + (i : Nat))) = D.int (dh g hs cs (i : Nat));rw [Int.zero_add]
    rw [e];exact q
theorem va {g : Int}{hs cs : List S3}{n : Int}(h : n ∈ eC g hs cs):∃ i : Nat, i < 251 /\ n = dh g hs cs (i : Nat) := by
  unfold eC at h;obtain ⟨i, hi, e⟩ := mem_map.mp h;exact ⟨i, mem_range.mp hi, e.symm⟩
theorem wI {g : Int}{hs cs : List S3}{i : Nat}(h : i < 251):dh g hs cs (i : Nat) ∈ eC g hs cs := mem_map.mpr ⟨i, mem_range.mpr h, rfl⟩
structure cn (g : Int)(hs cs : List S3)(m : Int):Prop where
  z : 0 <= m
  ub : ∀ i : Nat, i < 251 -> dh g hs cs (i : Nat) <= m
  at' : m = 0 \/ ∃ i : Nat, i < 251 /\ m = dh g hs cs (i : Nat)
theorem cn.uniq {g : Int}{hs cs : List S3}{m m' : Int}(h : cn g hs cs m)(h' : cn g hs cs m'):m = m' := by
  have key : ∀ {a b : Int}, cn g hs cs a -> cn g hs cs b -> a <= b := λ{a b} x y => by
    rcases x.at' with e | ⟨i, hi, e⟩
    · rw [e];exact y.z
    · rw [e];exact y.ub i hi
  exact Int.le_antisymm (key h h') (key h' h)
noncomputable def dE : DR := λds P => ∃ g hs cs, ds = [dW g hs cs] /\ dS g hs cs /\ ∀ m, cn g hs cs m -> P (.p (.int m))
theorem mY (T : iX mg)(TX : dB K mg cs)(TC : dR K mg CS)(F_lacks_above : Fn P w K mg base "lacks_above" 3 ["works"] (e6 K gd))(F : fQ K "least_heat" "least_heat" dJ f fd):aI P w K mg base gI 4 f fd ["works"] (e6 K dE) := by
  refine rG F m7 (λds Q h => by obtain ⟨g, hs, cs, rfl, ok, q⟩ := h;rfl) λcdv A outer s H E hr => ⟨_, (aO (bF (cw (sW rfl) (by rfl) T.sS boot_max (aa (aJ cP (jk (aa ag ai)) (aP F_lacks_above (hr.mono (by decide)) (by rfl) (aa (dv 0) ai))) ai)))), λds Q h => ?_⟩
  obtain ⟨g, hs, cs, rfl, ok, q⟩ := h;try dsimp only [fV, dU, gn, eV, eW, fS, fW, dP, eY, eX, dn, il, ik, ij, eR, dq, bU, dm, d7, gf, eS, eT, bo, dC, h8, dI, lj, fF, e7, gN, dX, nH, fU, d8, d5, iq, eL, gm, fR, mR, ip, cM, eU, bu, fG, gj, dO, la, fz, lN, ig, fT, d6, ll, bB, d9, oy, hU, fy, gk, gi, ck, aY, dput, bR, gw, B.val, aW, Tg.d, putN, cN, eZ, cy, du, bV, aq, bG, ax, bw, iw, mQ, List.map, List.length]
  refine ⟨g, hs, cs, rfl, ok, ?_⟩;try dsimp only [fV, dU, gn, eV, eW, fS, fW, dP, eY, eX, dn, il, ik, ij, eR, dq, bU, dm, d7, gf, eS, eT, bo, dC, h8, dI, lj, fF, e7, gN, dX, nH, fU, d8, d5, iq, eL, gm, fR, mR, ip, cM, eU, bu, fG, gj, dO, la, fz, lN, ig, fT, d6, ll, bB, d9, oy, hU, fy, gk, gi, ck, aY, dput, bR, gw, B.val, aW, Tg.d, putN, cN, eZ, cy, du, bV, aq, bG, ax, bw, iw, mQ, List.map, List.length]
  refine ⟨by rw [length_map];unfold eC;rw [length_map, length_range];exact gF (by decide), 0 :: eC g hs cs, rfl, List.cons_ne_nil _ _, λm h1 h2 => q m ⟨h2 0 mem_cons_self, λi hi => h2 _ (mem_cons_of_mem _ (wI hi)), ?_⟩⟩;rcases List.mem_cons.mp h1 with e | e
  · exact .inl e
  · obtain ⟨i, hi, e⟩ := va e;exact .inr ⟨i, hi, e⟩
noncomputable def g6 : DR := λds P => ∃ g hs cs, ds = [dW g hs cs] /\ dS g hs cs /\ ∀ m, cn g hs cs m -> P (.p (.int (m - dh g hs cs 0)))
theorem mX (T : iX mg)(TX : dB K mg cs)(TC : dR K mg CS)(F_least_heat : Fn P w K mg base "least_heat" 4 ["works"] (e6 K dE))(F_lack_above : Fn P w K mg base "lack_above" 2 ["works", "level"] (e6 K g4))(F : fQ K "least_cold" "least_cold" dH f fd):aI P w K mg base gI 5 f fd ["works"] (e6 K g6) := by
  refine rG F m6 (λds Q h => by obtain ⟨g, hs, cs, rfl, ok, q⟩ := h;rfl) λcdv A outer s H E hr => ⟨_, (aO (bF (aJ ke (aP F_least_heat (hr.mono (by decide)) (by rfl) (aa (dv 0) ai)) (aP F_lack_above (hr.mono (by decide)) (by rfl) (aa (dv 0) (aa ag ai)))))), λds Q h => ?_⟩
  obtain ⟨g, hs, cs, rfl, ok, q⟩ := h;try dsimp only [fV, dU, gn, eV, eW, fS, fW, dP, eY, eX, dn, il, ik, ij, eR, dq, bU, dm, d7, gf, eS, eT, bo, dC, h8, dI, lj, fF, e7, gN, dX, nH, fU, d8, d5, iq, eL, gm, fR, mR, ip, cM, eU, bu, fG, gj, dO, la, fz, lN, ig, fT, d6, ll, bB, d9, oy, hU, fy, gk, gi, ck, aY, dput, bR, gw, B.val, aW, Tg.d, putN, cN, eZ, cy, du, bV, aq, bG, ax, bw, iw, mQ, List.map, List.length]
  refine ⟨g, hs, cs, rfl, ok, λm hm => ?_⟩;try dsimp only [fV, dU, gn, eV, eW, fS, fW, dP, eY, eX, dn, il, ik, ij, eR, dq, bU, dm, d7, gf, eS, eT, bo, dC, h8, dI, lj, fF, e7, gN, dX, nH, fU, d8, d5, iq, eL, gm, fR, mR, ip, cM, eU, bu, fG, gj, dO, la, fz, lN, ig, fT, d6, ll, bB, d9, oy, hU, fy, gk, gi, ck, aY, dput, bR, gw, B.val, aW, Tg.d, putN, cN, eZ, cy, du, bV, aq, bG, ax, bw, iw, mQ, List.map, List.length]
  exact ⟨g, hs, cs, 0, rfl, ok, q m hm⟩
noncomputable def jx (g : Int)(hs cs : List S3)(m : Int)(d : D):Prop := (m = 0 /\ d = .non) \/ (m ≠ 0 /\ ∃ L : Nat, L < 251 /\ d = .int (L : Nat) /\ dh g hs cs (L : Nat) = m /\ ∀ i : Nat, i < 251 -> dh g hs cs (i : Nat) = m -> i <= L)
noncomputable def pB : DR := λds P => ∃ g hs cs, ds = [dW g hs cs] /\ dS g hs cs /\ ∀ m d, cn g hs cs m -> jx g hs cs m d -> P (.p d)
theorem rX {g : Int}{hs cs : List S3}{x : D}(h : x ∈ bN 0 ((eC g hs cs).map D.int)):∃ i : Nat, i < 251 /\ x = .tup [.int (i : Nat), .int (dh g hs cs (i : Nat))] := by
  obtain ⟨i, hi⟩ := List.getElem?_of_mem h;obtain ⟨y, h1, h2⟩ := fk hi;rw [getElem?_map] at h1;unfold eC at h1;rw [getElem?_map] at h1;have hlt : i < 251 := by
    rcases Nat.lt_or_ge i 251 with z | z
    · exact z
    · rw [List.getElem?_eq_none (by rw [length_range];exact z)] at h1;cases h1
  rw [List.getElem?_range hlt] at h1;cases h1;rw [Nat.zero_add] at h2;exact ⟨i, hlt, h2⟩
theorem wX (T : iX mg)(TX : dB K mg cs)(TC : dR K mg CS)(F_least_heat : Fn P w K mg base "least_heat" 4 ["works"] (e6 K dE))(F_lacks_above : Fn P w K mg base "lacks_above" 3 ["works"] (e6 K gd))(F : fQ K "pinch" "pinch" g7 f fd):aI P w K mg base gI 5 f fd ["works"] (e6 K pB) := by
  refine rG F ro (λds Q h => by obtain ⟨g, hs, cs, rfl, ok, q⟩ := h;rfl) λcdv A outer s H E hr => ⟨_, (aL (cq (i := 1) ro.nd rfl (Or.inr rfl) (aP F_least_heat (hr.mono (by decide)) (by rfl) (aa (dv 0) ai)))
      (aL (ja (cc kI (dv 1) ag (aQ _)) (aO (bF vX)) eP)
      (aO (bF (cw (sW rfl) (by rfl) T.sS boot_max (aa (lQ (g := (.t [0, 1])) (tc := (eL (h8 _ (bo 1) (bo 2)))) (te := (bo 0)) (sc0 := ae g7) (N0 := ["works", "heat"]) ["level", "lack", "heat"] [none, none, some 1] rfl (oH (by rfl) T.qc (aa (aP F_lacks_above (hr.mono (by decide)) (by rfl) (aa (dv 0) ai)) ai)) (λ_ _ _ _ _ => (gZ rfl (aR (aS (i := 0) (show (["level", "lack", "heat"]:List Str).Nodup by decide +kernel) rfl (Or.inl rfl)) (aR (aS (i := 1) (show (["level", "lack", "heat"]:List Str).Nodup by decide +kernel) rfl (Or.inl rfl)) fo)))) (λ_ _ _ _ _ => (lT (cc kI (dv 1) (dv 2) (aQ _)))) (λ_ _ _ _ _ => (dv 0))) ai)))))), λds Q h => ?_⟩
  obtain ⟨g, hs, cs, rfl, ok, q⟩ := h;try dsimp only [fV, dU, gn, eV, eW, fS, fW, dP, eY, eX, dn, il, ik, ij, eR, dq, bU, dm, d7, gf, eS, eT, bo, dC, h8, dI, lj, fF, e7, gN, dX, nH, fU, d8, d5, iq, eL, gm, fR, mR, ip, cM, eU, bu, fG, gj, dO, la, fz, lN, ig, fT, d6, ll, bB, d9, oy, hU, fy, gk, gi, ck, aY, dput, bR, gw, B.val, aW, Tg.d, putN, cN, eZ, cy, du, bV, aq, bG, ax, bw, iw, mQ, List.map, List.length]
  refine ⟨g, hs, cs, rfl, ok, λm hm => ?_⟩;try dsimp only [fV, dU, gn, eV, eW, fS, fW, dP, eY, eX, dn, il, ik, ij, eR, dq, bU, dm, d7, gf, eS, eT, bo, dC, h8, dI, lj, fF, e7, gN, dX, nH, fU, d8, d5, iq, eL, gm, fR, mR, ip, cM, eU, bu, fG, gj, dO, la, fz, lN, ig, fT, d6, ll, bB, d9, oy, hU, fy, gk, gi, ck, aY, dput, bR, gw, B.val, aW, Tg.d, putN, cN, eZ, cy, du, bV, aq, bG, ax, bw, iw, mQ, List.map, List.length]
  refine ⟨λh0 => q m .non hm (.inl ⟨of_decide_eq_true h0, rfl⟩), λh0 => ?_⟩;have h0' : m ≠ 0 := of_decide_eq_false h0;refine ⟨g, hs, cs, rfl, ok, ?_⟩;try dsimp only [fV, dU, gn, eV, eW, fS, fW, dP, eY, eX, dn, il, ik, ij, eR, dq, bU, dm, d7, gf, eS, eT, bo, dC, h8, dI, lj, fF, e7, gN, dX, nH, fU, d8, d5, iq, eL, gm, fR, mR, ip, cM, eU, bu, fG, gj, dO, la, fz, lN, ig, fT, d6, ll, bB, d9, oy, hU, fy, gk, gi, ck, aY, dput, bR, gw, B.val, aW, Tg.d, putN, cN, eZ, cy, du, bV, aq, bG, ax, bw, iw, mQ, List.map, List.length]
  refine sf (λx => match x with | .tup [a, .int b] => if b = m then some a else none | _ => none) (by rw [fm, length_map];unfold eC;simp) (λx hx => ?_) ?_
  · obtain ⟨i, hi, rfl⟩ := rX hx;try dsimp only [fV, dU, gn, eV, eW, fS, fW, dP, eY, eX, dn, il, ik, ij, eR, dq, bU, dm, d7, gf, eS, eT, bo, dC, h8, dI, lj, fF, e7, gN, dX, nH, fU, d8, d5, iq, eL, gm, fR, mR, ip, cM, eU, bu, fG, gj, dO, la, fz, lN, ig, fT, d6, ll, bB, d9, oy, hU, fy, gk, gi, ck, aY, dput, bR, gw, B.val, aW, Tg.d, putN, cN, eZ, cy, du, bV, aq, bG, ax, bw, iw, mQ, List.map, List.length]
    refine ⟨λc => ?_, λc => ?_⟩
    · rw [if_pos (of_decide_eq_true c)]
    · rw [if_neg (of_decide_eq_false c)]
  · have hfm : ∃ ns : List Int, (bN 0 ((eC g hs cs).map D.int)).filterMap (λx => match x with | .tup [a, .int b] => if b = m then some a else none | _ => none) = ns.map D.int /\ ∀ n, n ∈ ns ↔ ∃ i : Nat, i < 251 /\ n = (i : Nat) /\ dh g hs cs (i : Nat) = m := by
      have e : (eC g hs cs).map D.int = (List.range 251).map λi => D.int (dh g hs cs (i : Nat)) := by unfold eC;rw [map_map];rfl
      refine ⟨((List.range 251).filter λi => decide (dh g hs cs (i : Nat) = m)).map λi => ((i : Nat):Int), ?_, λn => ⟨λh => ?_, λ⟨i, hi, e1, e2⟩ => ?_⟩⟩
      · rw [e, lW, List.filterMap_map, map_map];exact fY (λi : Nat => dh g hs cs (i : Nat) = m) (λi => D.int (i : Nat)) (List.range 251)
      · obtain ⟨i, hi, e⟩ := mem_map.mp h;obtain ⟨h1, h2⟩ := List.mem_filter.mp hi;exact ⟨i, mem_range.mp h1, e.symm, of_decide_eq_true h2⟩
      · exact mem_map.mpr ⟨i, List.mem_filter.mpr ⟨mem_range.mpr hi, decide_eq_true e2⟩, e1.symm⟩
    obtain ⟨ns, e1, e2⟩ := hfm;rw [e1];refine ⟨ns, rfl, ?_, λL h1 h2 => ?_⟩
    · rcases hm.at' with e | ⟨i, hi, e⟩
      · exact absurd e h0'
      · exact List.ne_nil_of_mem ((e2 _).mpr ⟨i, hi, rfl, e.symm⟩)
    · obtain ⟨i, hi, rfl, e⟩ := (e2 _).mp h1;refine q m _ hm (.inr ⟨h0', i, hi, rfl, e, λj hj ej => ?_⟩);have := h2 _ ((e2 _).mpr ⟨j, hj, rfl, ej⟩);lia
noncomputable abbrev cL := List (Int × S3)
noncomputable abbrev oD (CS : Addr)(g : Int)(hs ks : cL)(n : Int):D := .ext (.obj CS g hs ks n)
noncomputable def vals (l : cL):List S3 := l.map (·.2)
noncomputable def allOf (k : Str)(hs ks : cL):cL := if k = aZ then hs else ks
noncomputable def ko (CS : Addr):DR := λds Q => ∃ (g : Int) (hs ks : cL) (n : Int) (k : Str), ds = [oD CS g hs ks n, .str k] /\ Q (.p (.ext (.dki (allOf k hs ks))))
noncomputable def uq (CS : Addr):Sp := λvs H Q _ => ∃ (a dx b c : Addr) (g n : Int) (k : Str), vs = [.ref a, .str k] /\ H a = some (.ins CS dx (eB g b c n)) /\ Q (.ref (if k = aZ then b else c)) H
theorem oO (g : Int)(b c : Addr)(n : Int):(eB g b c n).lookup ("hots" : Str) = some (V.ref b) := rfl
theorem lX (g : Int)(b c : Addr)(n : Int):(eB g b c n).lookup ("colds" : Str) = some (V.ref c) := rfl
theorem lY (g : Int)(b c : Addr)(n : Int):(eB g b c n).lookup ("spent" : Str) = some (V.int n) := rfl
theorem jO (T : iX mg)(TX : dB K mg cs)(TC : dR K mg CS)(F : fQ K "all_of" "Streams.all_of" bL f fd):aI P w K mg base gI 1 f fd ["self", "kind"] (uq CS) := by
  refine F.ok jW (λvs H Q E h => ?_) λcdv A outer s H vs Q E hr h => ?_
  · obtain ⟨a, dx, b, c, g, n, k, rfl, _⟩ := h;rfl
  · obtain ⟨a, dx, b, c, g, n, k, rfl, h1, q⟩ := h;refine ⟨_, aw (gB (eF jd (pv 1) ki (aQ _)) (aM (eE (gb (pv 0) rfl))) fq) (aM (eE (gb (pv 0) rfl))), ?_⟩;refine ⟨_, rfl, rfl, _, rfl, ?_⟩;refine jM (λz => ?_) λz => ?_
    · rw [if_pos (show k = aZ by have := of_decide_eq_true z;exact V.str.inj this)] at q;exact ⟨_, rfl, a, CS, dx, _, _, rfl, h1, TC.cl, TC.j8, oO g b c n, q⟩
    · rw [if_neg (show ¬ k = aZ from λe => z (decide_eq_true (congrArg V.str e)))] at q;exact ⟨_, rfl, a, CS, dx, _, _, rfl, h1, TC.cl, TC.iT, lX g b c n, q⟩
theorem vB {fa : Addr}{fda : FuncData}(F : aI P w K mg base gI 1 fa fda ["self", "kind"] (uq CS))(m : Meth K CS "all_of" fa)(b : Binds K fda ["self", "kind"] []):vq P w K mg base CS "all_of" 1 ["self", "kind"] (ko CS) := by
  refine kH (F.imp ?_) m b;rintro vs H Q E ⟨ds, G, P, s, r, ⟨g, hs, ks, n, k, e, q⟩, kk⟩;subst e;cases r with
  | cons r1 r => cases r with
    | cons r2 r =>
      cases r;cases r2;obtain ⟨a, dx, b, c, rfl, h1, h2, h3⟩ := Rep.gW r1;refine ⟨a, dx, b, c, g, n, k, rfl, s _ _ h1, kk _ _ H G q (Wd.refl s) ?_⟩;show Rep K G _ _;unfold allOf;split
      · exact .ext h2
      · exact .ext h3
noncomputable def cY (CS : Addr):DR := λds Q => ∃ (g : Int) (hs ks : cL) (n : Int), ds = [oD CS g hs ks n] /\ Q (.n (.wk g) [.lst ((vals hs).map d3), .lst ((vals ks).map d3)])
theorem kg (T : iX mg)(TX : dB K mg cs)(TC : dR K mg CS)(F : fQ K "works" "Streams.works" bT f fd):aI P w K mg base gI 1 f fd ["self"] (e6 K (cY CS)) := by
  refine rG F kr (λds Q h => by obtain ⟨g, hs, ks, n, rfl, q⟩ := h;rfl) λcdv A outer s H E hr => ⟨_, (aO (bF (yq (oC TC.cl TC.wN uh (dv 0)) (qy rfl (by rfl) T.vD (oC TC.cl TC.j8 xK (dv 0))) (qy rfl (by rfl) T.vD (oC TC.cl TC.iT vm (dv 0)))))), λds Q h => ?_⟩
  obtain ⟨g, hs, ks, n, rfl, q⟩ := h;walk_at "rs";unfold vals at q;rw [map_map, map_map] at q;exact q
noncomputable def e8 (CS : Addr):DR := λds Q => ∃ (g : Int) (hs ks : cL) (n : Int), ds = [oD CS g hs ks n] /\ dS g (vals hs) (vals ks) /\ ∀ m d, cn g (vals hs) (vals ks) m -> jx g (vals hs) (vals ks) m d -> Q (.p (.tup [.int m, .int (m - dh g (vals hs) (vals ks) 0), d]))
theorem kf (T : iX mg)(TX : dB K mg cs)(TC : dR K mg CS)(FM_Streams_works : vq P w K mg base CS "works" 1 ["self"] (cY CS))(F_least_heat : Fn P w K mg base "least_heat" 4 ["works"] (e6 K dE))(F_least_cold : Fn P w K mg base "least_cold" 5 ["works"] (e6 K g6))(F_pinch : Fn P w K mg base "pinch" 5 ["works"] (e6 K pB))(F : fQ K "least" "Streams.least" bS f fd):aI P w K mg base gI 6 f fd ["self"] (e6 K (e8 CS)) := by
  refine rG F gE (λds Q h => by obtain ⟨g, hs, ks, n, rfl, ok, q⟩ := h;rfl) λcdv A outer s H E hr => ⟨_, (aL (cq (i := 1) gE.nd rfl (Or.inl rfl) (fL FM_Streams_works TC.cl (λ_ _ _ _ => rfl) (hr.mono (by decide)) (dv 0)))
      (aO (bF (gO (aa (aP F_least_heat (hr.mono (by decide)) (by rfl) (aa (dv 1) ai)) (aa (aP F_least_cold (hr.mono (by decide)) (by rfl) (aa (dv 1) ai)) (aa (aP F_pinch (hr.mono (by decide)) (by rfl) (aa (dv 1) ai)) ai))))))), λds Q h => ?_⟩
  obtain ⟨g, hs, ks, n, rfl, ok, q⟩ := h;walk_at "rs";refine ⟨g, hs, ks, n, rfl, ?_⟩;walk_at "rs";refine ⟨g, vals hs, vals ks, rfl, ok, λm hm => ?_⟩;walk_at "rs";refine ⟨g, vals hs, vals ks, rfl, ok, λm2 hm2 => ?_⟩;obtain rfl := hm2.uniq hm;walk_at "rs";refine ⟨g, vals hs, vals ks, rfl, ok, λm3 d hm3 hd => ?_⟩;obtain rfl := hm3.uniq hm;walk_at "rs";exact q _ _ hm hd
noncomputable def jt (cs : h7)(CS : Addr):rJ := λds Q Z => ∃ (g : Int) (hs ks : cL) (n i : Int), ds = [oD CS g hs ks n, .int i] /\ Sm i /\
  if cG hs i = true then Q (.p (.ext (.dki hs))) else if cG ks i = true then Q (.p (.ext (.dki ks))) else Z (.ref cs.aK)
noncomputable def pI (cs : h7)(CS : Addr):Sp := λvs H Q E => ∃ (a dx b c : Addr) (g n i : Int) (hs ks : cL), vs = [.ref a, .int i] /\ H a = some (.ins CS dx (eB g b c n)) /\ bz H H b hs /\ bz H H c ks /\ Sm i /\
  if cG hs i = true then Q (.ref b) H else if cG ks i = true then Q (.ref c) H else ∀ H', ak H H' -> E (.ref cs.aK) none H'
theorem jq (T : iX mg)(TX : dB K mg cs)(TC : dR K mg CS)(F : fQ K "home_of" "Streams.home_of" bC f fd):aI P w K mg base (fP P w) 1 f fd ["self", "number"] (pI cs CS) := by
  refine F.x6 ju (λvs H Q E h => ?_) λcdv A outer s H vs Q E hr h => ?_
  · obtain ⟨a, dx, b, c, g, n, i, hs, ks, rfl, _⟩ := h;rfl
  · obtain ⟨a, dx, b, c, g, n, i, hs, ks, rfl, ha, ⟨es, hb, pb⟩, ⟨et, hc, pc⟩, hi, q⟩ := h;refine ⟨_, aw (gB (xx (wZ (wH hr) (pv 1) (gb (pv 0) rfl))) (aM (eE (gb (pv 0) rfl))) fq) (aw (gB (xx (wZ (wH hr) (pv 1) (gb (pv 0) rfl))) (aM (eE (gb (pv 0) rfl))) fq)
      (aM (rk bA rfl TX.mL.er (by rfl) TX.mL.at_ (aa (lO (fA (fX (dv 1) (fA lU)))) ai).pa))), ?_⟩
    refine ⟨_, rfl, _, rfl, a, CS, dx, _, _, rfl, ha, TC.cl, TC.j8, oO g b c n, b, _, rfl, uy.k (k := Sum.inl i) hb, _, rfl, ?_⟩;rw [mK i pb];by_cases f1 : cG hs i = true
    · rw [if_pos f1] at q;rw [f1];exact oW ⟨_, rfl, a, CS, dx, _, _, rfl, ha, TC.cl, TC.j8, oO g b c n, q⟩
    rw [if_neg f1] at q;rw [Bool.not_eq_true _ |>.mp f1];refine kS ?_;refine ⟨_, rfl, _, rfl, a, CS, dx, _, _, rfl, ha, TC.cl, TC.iT, lX g b c n, c, _, rfl, uy.k (k := Sum.inl i) hc, _, rfl, ?_⟩;rw [mK i pc];by_cases f2 : cG ks i = true
    · rw [if_pos f2] at q;rw [f2];exact oW ⟨_, rfl, a, CS, dx, _, _, rfl, ha, TC.cl, TC.iT, lX g b c n, q⟩
    rw [if_neg f2] at q;rw [Bool.not_eq_true _ |>.mp f2];refine kS ?_;have l1 := nW hi;have c1 : (Str.ofString "no stream of the number ").length = 24 := by decide +kernel
    have c2 : (Str.ofString " is in").length = 6 := by decide +kernel
    have sz : sizeLine = 16777216 := sizeLine_eq;refine ⟨H, [none, some (.p (.int i))], λ_ => True, ak.refl _, λj d e => ?_, ?_, λds vs H' G' _ l w' r' => ⟨by rw [Paired.length r', l];exact Nat.le_of_lt (iV (by decide)), q H' w'.hh⟩⟩
    · match j, e with
      | 1, e => cases e;exact ⟨_, rfl, .int i⟩
    · walk_at "rs";simp only [len_app, Dc, c1, c2];exact ⟨by lia, nV hi, by lia, by lia, by lia, trivial⟩
theorem uV {fa : Addr}{fda : FuncData}(F : aI P w K mg base (fP P w) 1 fa fda ["self", "number"] (pI cs CS))(m : Meth K CS "home_of" fa)(b : Binds K fda ["self", "number"] []):xY P w K mg base CS "home_of" 1 ["self", "number"] (jt cs CS) := by
  refine j7 (F.imp ?_) m b;rintro vs H Q E ⟨ds, G, P, Z, s, r, ⟨g, hs, ks, n, i, e, hi, q⟩, kk, kz⟩;subst e;cases r with
  | cons r1 r => cases r with
    | cons r2 r =>
      cases r;cases r2;obtain ⟨a, dx, b, c, rfl, h1, h2, h3⟩ := Rep.gW r1;refine ⟨a, dx, b, c, g, n, i, hs, ks, rfl, s _ _ h1, h2.mono s (s b), h3.mono s (s c), hi, ?_⟩;by_cases f1 : cG hs i = true
      · rw [if_pos f1] at q ⊢;exact kk _ _ H G q (Wd.refl s) (.ext h2)
      rw [if_neg f1] at q ⊢;by_cases f2 : cG ks i = true
      · rw [if_pos f2] at q ⊢;exact kk _ _ H G q (Wd.refl s) (.ext h3)
      rw [if_neg f2] at q ⊢;exact λH' s' => kz _ _ q s'
noncomputable def dw (cs : h7)(CS : Addr):rJ := λds Q Z => ∃ (g : Int) (hs ks : cL) (n : Int) (k : Str) (x : S3), ds = [oD CS g hs ks n, .str k, d3 x] /\ (k = aZ \/ k = bt) /\ Sm x.1 /\ Sm x.2.1 /\ Sm x.2.2 /\
  if 12 <= (allOf k hs ks).length then Z (.ref cs.Full) else if bZ k x = 1 then Z (.ref cs.ar) else if bZ k x = 2 then Z (.ref cs.aE) else Q (.p .non)
theorem iA (T : iX mg)(TX : dB K mg cs)(TC : dR K mg CS)(FX_check_stream : BC P w K mg base "check_stream" 2 ["kind", "stream"] (vt K (hG cs))){a_Streams_all_of : Addr}{fd_Streams_all_of : FuncData}(FV_Streams_all_of : aI P w K mg base gI 1 a_Streams_all_of fd_Streams_all_of ["self", "kind"] (uq CS))(MV_Streams_all_of : Meth K CS "all_of" a_Streams_all_of)(BV_Streams_all_of : Binds K fd_Streams_all_of ["self", "kind"] [])(F : fQ K "check_new" "Streams.check_new" bj f fd):aI P w K mg base (fP P w) 3 f fd ["self", "kind", "stream"] (vt K (dw cs CS)) := by
  have FM_Streams_all_of := vB FV_Streams_all_of MV_Streams_all_of BV_Streams_all_of;refine wW F iG (λds Q Z h => by obtain ⟨g, hs, ks, n, k, x, rfl, hk, h1, h2, h3, q⟩ := h;rfl) λcdv A outer s H E Z hr hZ => ⟨_, (bW (tL (cc zT (cw ym (by rfl) T.ni PySem.boot_len (aa (lR FM_Streams_all_of TC.cl (λ_ _ _ _ => rfl) (hr.mono (by decide)) (dv 0) (aa (dv 1) ai)) ai)) (lP (by rfl) T.gy) (aQ _)) (fj (jE bA hZ rfl TX.xV.er (by rfl) TX.xV.at_ (aa (lO (fA (fX (lP (by rfl) T.gy) (fA (fX (dv 1) (fA lU)))))) ai))) lr)
      (fj (jD bA hZ FX_check_stream (hr.mono (by decide)) (by rfl) (aa (dv 1) (aa (dv 2) ai))))), λds Q h => ?_⟩
  obtain ⟨g, hs, ks, n, k, x, rfl, hk, h1, h2, h3, q⟩ := h;walk_at "rs";refine ⟨g, hs, ks, n, k, rfl, ?_⟩;walk_at "rs";have c0 : (Str.ofString "there are ").length = 10 := by decide +kernel
  have c1 : (Str.ofString (toString (12 : Int))).length = 2 := by decide +kernel
  have c2 : (Str.ofString " ").length = 1 := by decide +kernel
  have c3 : (Str.ofString " streams in").length = 11 := by decide +kernel
  have sz : sizeLine = 16777216 := sizeLine_eq;have lk : k.length <= 4 := by rcases hk with rfl | rfl <;> decide +kernel
  simp only [len_app, Dc, c0, c1, c2, c3];refine ⟨λz => ⟨by lia, by decide, by lia, by lia, by lia, by lia, by lia, by lia, ?_⟩, λz => ⟨k, x, rfl, hk, h1, h2, h3, ?_⟩⟩
  · have := of_decide_eq_true z;rw [if_pos (by lia)] at q;exact q
  · have := of_decide_eq_false z;rw [if_neg (by lia)] at q;exact q
noncomputable def cu (CS : Addr):DR := λds Q => ∃ (g : Int) (hs ks : cL) (n : Int) (as bs : List S3), ds = [oD CS g hs ks n, dW g as bs] /\ dS g (vals hs) (vals ks) /\ dS g as bs /\
  ∀ m m', cn g as bs m -> cn g (vals hs) (vals ks) m' -> Q (.p (.int (m - m')))
theorem iz (T : iX mg)(TX : dB K mg cs)(TC : dR K mg CS)(F_least_heat : Fn P w K mg base "least_heat" 4 ["works"] (e6 K dE))(FM_Streams_works : vq P w K mg base CS "works" 1 ["self"] (cY CS))(F : fQ K "change_to" "Streams.change_to" bh f fd):aI P w K mg base gI 5 f fd ["self", "works"] (e6 K (cu CS)) := by
  refine rG F iF (λds Q h => by obtain ⟨g, hs, ks, n, as, bs, rfl, ok, ok', q⟩ := h;rfl) λcdv A outer s H E hr => ⟨_, (aO (bF (aJ ke (aP F_least_heat (hr.mono (by decide)) (by rfl) (aa (dv 1) ai)) (aP F_least_heat (hr.mono (by decide)) (by rfl) (aa (fL FM_Streams_works TC.cl (λ_ _ _ _ => rfl) (hr.mono (by decide)) (dv 0)) ai))))), λds Q h => ?_⟩
  obtain ⟨g, hs, ks, n, as, bs, rfl, ok, ok', q⟩ := h;walk_at "rs";refine ⟨g, as, bs, rfl, ok', λm hm => ?_⟩;walk_at "rs";refine ⟨g, hs, ks, n, rfl, ?_⟩;walk_at "rs";refine ⟨g, vals hs, vals ks, rfl, ok, λm' hm' => ?_⟩;walk_at "rs";exact q m m' hm hm'
noncomputable def lD (cs : h7)(CS : Addr):Sp := λvs H Q E => ∃ (a dx b c t : Addr) (g n : Int) (hs ks : cL) (k : Str) (x : S3) (es : List (Key × V)), vs = [.ref a, .str k, .ref t] /\ H a = some (.ins CS dx (eB g b c n)) /\ bz H H b hs /\ bz H H c ks /\
  H (if k = aZ then b else c) = some (.dK es) /\ es.length < sizeLine /\ H t = some (.tup [.int x.1, .int x.2.1, .int x.2.2]) /\ (k = aZ \/ k = bt) /\ Sm x.1 /\ Sm x.2.1 /\ Sm x.2.2 /\
  if 12 <= (allOf k hs ks).length then ∀ H', ak H H' -> E (.ref cs.Full) none H' else if bZ k x = 1 then ∀ H', ak H H' -> E (.ref cs.ar) none H' else if bZ k x = 2 then ∀ H', ak H H' -> E (.ref cs.aE) none H' else
    ∀ H1, ak H H1 -> Q (.int (n + 1)) (upd (upd H1 a (.ins CS dx (eB g b c (n + 1)))) (if k = aZ then b else c) (.dK (putK es (Sum.inl (n + 1)) (.ref t))))
theorem jP (T : iX mg)(TX : dB K mg cs)(TC : dR K mg CS)(FMX_Streams_check_new : xY P w K mg base CS "check_new" 3 ["self", "kind", "stream"] (dw cs CS)){a_Streams_all_of : Addr}{fd_Streams_all_of : FuncData}(FV_Streams_all_of : aI P w K mg base gI 1 a_Streams_all_of fd_Streams_all_of ["self", "kind"] (uq CS))(MV_Streams_all_of : Meth K CS "all_of" a_Streams_all_of)(BV_Streams_all_of : Binds K fd_Streams_all_of ["self", "kind"] [])(F : fQ K "put_in" "Streams.put_in" bM f fd):aI P w K mg base (fP P w) 4 f fd ["self", "kind", "stream"] (lD cs CS) := by
  refine F.x6 fN (λvs H Q E h => ?_) λcdv A outer s H vs Q E hr h => ?_
  · obtain ⟨a, dx, b, c, t, g, n, hs, ks, k, x, es, rfl, _⟩ := h;rfl
  · obtain ⟨a, dx, b, c, t, g, n, hs, ks, k, x, es, rfl, ha, hb, hc, hd, hl, ht, hk, s1, s2, s3, q⟩ := h;obtain ⟨f1, fd1, F1, m1, b1⟩ := FMX_Streams_check_new.ex;refine ⟨_, aw (dZ (eD (pv 0) TC.cl m1 F1 (hr.mono (by decide)) b1 .nil (bA.passes λ_ _ _ h => h) (aj (pv 1) (aj (pv 2) aN))))
      (aw (df (i := 3) fN.nd rfl (Or.inl rfl) (eD (pv 0) TC.cl MV_Streams_all_of FV_Streams_all_of (hr.mono (by decide)) BV_Streams_all_of .nil q8 (aj (pv 1) aN)))
      (aw (vi (pv 0) cf AD)
      (aw (zg (wH hr) (pv 3) (gb (pv 0) rfl) (pv 2) rfl)
      (aM (eE (gb (pv 0) rfl)))))), ?_⟩
    have rep : bE K H [.ref a, .str k, .ref t] [oD CS g hs ks n, .str k, d3 x] := .cons (.ext ⟨dx, b, c, ha, hb, hc⟩) (.cons (.str k) (.cons (Rep.kX ht (.cons (.int _) (.cons (.int _) (.cons (.int _) .nil)))) .nil));refine ⟨_, rfl, a, dx, _, rfl, ha, rfl, _, rfl, _, rfl, ?_⟩;by_cases f1 : 12 <= (allOf k hs ks).length
    · rw [if_pos f1] at q;exact ⟨_, H, λ_ => False, λcls => cls = .ref cs.Full, ak.refl _, rep, ⟨g, hs, ks, n, k, x, rfl, hk, s1, s2, s3, by rw [if_pos f1]⟩, λ_ _ _ _ z => z.elim, λcls H' e s' => e ▸ q H' s'⟩
    rw [if_neg f1] at q;by_cases f2 : bZ k x = 1
    · rw [if_pos f2] at q;exact ⟨_, H, λ_ => False, λcls => cls = .ref cs.ar, ak.refl _, rep, ⟨g, hs, ks, n, k, x, rfl, hk, s1, s2, s3, by rw [if_neg f1, if_pos f2]⟩, λ_ _ _ _ z => z.elim, λcls H' e s' => e ▸ q H' s'⟩
    rw [if_neg f2] at q;by_cases f3 : bZ k x = 2
    · rw [if_pos f3] at q;exact ⟨_, H, λ_ => False, λcls => cls = .ref cs.aE, ak.refl _, rep, ⟨g, hs, ks, n, k, x, rfl, hk, s1, s2, s3, by rw [if_neg f1, if_neg f2, if_pos f3]⟩, λ_ _ _ _ z => z.elim, λcls H' e s' => e ▸ q H' s'⟩
    rw [if_neg f3] at q;refine ⟨_, H, λ_ => True, λ_ => False, ak.refl _, rep, ⟨g, hs, ks, n, k, x, rfl, hk, s1, s2, s3, by rw [if_neg f1, if_neg f2, if_neg f3];trivial⟩, λb0 v0 H1 G1 _ w1 _ => ?_, λ_ _ z => z.elim⟩;have ha1 := w1.hh _ _ ha;have hd1 := w1.hh _ _ hd;have q1 := q H1 w1.hh;generalize hy : (if k = aZ then b else c) = y at hd1 q1;have nay : a ≠ y := ix ha1 hd1 (by intro z;cases z);have pf : gc "spent" (V.int (n + 1)) (eB g b c n) = eB g b c (n + 1) := rfl;refine ⟨_, rfl, a, dx, _, rfl, ha1, rfl, _, rfl, a, dx, b, c, g, n, k, rfl, ha1, ?_⟩;rw [hy];refine ⟨_, rfl, a, CS, dx, _, _, rfl, ha1, TC.cl, TC.lx, lY g b c n, n, 1, rfl, rfl, dx, _, ha1, (show 4 < 1000 by decide), ?_⟩;rw [pf];refine ⟨_, rfl, _, rfl, _, rfl, a, CS, dx, _, _, rfl, ah, TC.cl, TC.lx, lY g b c (n + 1), y, _, rfl, vv.k (k := Sum.inl (n + 1)) (by rw [af nay.symm];exact hd1) hl, ?_⟩;exact ⟨_, rfl, a, CS, dx, _, _, rfl, (by rw [af nay];exact ah), TC.cl, TC.lx, lY g b c (n + 1), q1⟩
noncomputable def kO (k : Str)(cs : h7)(CS : Addr):Sp := λvs H Q E => ∃ (a dx b c : Addr) (g n : Int) (hs ks : cL) (x : S3) (es : List (Key × V)), vs = [.ref a, .int x.1, .int x.2.1, .int x.2.2] /\ H a = some (.ins CS dx (eB g b c n)) /\ bz H H b hs /\ bz H H c ks /\
  H (if k = aZ then b else c) = some (.dK es) /\ es.length < sizeLine /\ Sm x.1 /\ Sm x.2.1 /\ Sm x.2.2 /\
  if 12 <= (allOf k hs ks).length then ∀ H', ak H H' -> E (.ref cs.Full) none H' else if bZ k x = 1 then ∀ H', ak H H' -> E (.ref cs.ar) none H' else if bZ k x = 2 then ∀ H', ak H H' -> E (.ref cs.aE) none H' else
    ∀ H1 t, ak H H1 -> H t = none -> H1 t = some (.tup [.int x.1, .int x.2.1, .int x.2.2]) -> Q (.int (n + 1)) (upd (upd H1 a (.ins CS dx (eB g b c (n + 1)))) (if k = aZ then b else c) (.dK (putK es (Sum.inl (n + 1)) (.ref t))))
theorem xA {k : Str}{H H1 : Hp}{Q : VK}{E : XK}{a dx b c t : Addr}{g n : Int}{hs ks : cL}{x : S3}{es : List (Key × V)}(hk : k = aZ \/ k = bt)(s : ak H H1)(nt : H t = none)(et : H1 t = some (.tup [.int x.1, .int x.2.1, .int x.2.2]))(ha : H a = some (.ins CS dx (eB g b c n)))(hb : bz H H b hs)(hc : bz H H c ks)
    (hd : H (if k = aZ then b else c) = some (.dK es)) (hl : es.length < sizeLine) (s1 : Sm x.1) (s2 : Sm x.2.1) (s3 : Sm x.2.2)
    (q : if 12 <= (allOf k hs ks).length then ∀ H', ak H H' -> E (.ref cs.Full) none H' else if bZ k x = 1 then ∀ H', ak H H' -> E (.ref cs.ar) none H' else if bZ k x = 2 then ∀ H', ak H H' -> E (.ref cs.aE) none H' else
      ∀ H1 t, ak H H1 -> H t = none -> H1 t = some (.tup [.int x.1, .int x.2.1, .int x.2.2]) -> Q (.int (n + 1)) (upd (upd H1 a (.ins CS dx (eB g b c (n + 1)))) (if k = aZ then b else c) (.dK (putK es (Sum.inl (n + 1)) (.ref t))))):lD cs CS [.ref a, .str k, .ref t] H1 Q E := by
  refine ⟨a, dx, b, c, t, g, n, hs, ks, k, x, es, rfl, s _ _ ha, hb.mono s (s b), hc.mono s (s c), s _ _ hd, hl, et, hk, s1, s2, s3, ?_⟩;by_cases f1 : 12 <= (allOf k hs ks).length
  · rw [if_pos f1] at q ⊢;exact λH' s' => q H' (s.trans s')
  rw [if_neg f1] at q ⊢;by_cases f2 : bZ k x = 1
  · rw [if_pos f2] at q ⊢;exact λH' s' => q H' (s.trans s')
  rw [if_neg f2] at q ⊢;by_cases f3 : bZ k x = 2
  · rw [if_pos f3] at q ⊢;exact λH' s' => q H' (s.trans s')
  rw [if_neg f3] at q ⊢;exact λH' s' => q H' t (s.trans s') nt (s' _ _ et)
theorem jr (T : iX mg)(TX : dB K mg cs)(TC : dR K mg CS){a_Streams_put_in : Addr}{fd_Streams_put_in : FuncData}(FV_Streams_put_in : aI P w K mg base (fP P w) 4 a_Streams_put_in fd_Streams_put_in ["self", "kind", "stream"] (lD cs CS))(MV_Streams_put_in : Meth K CS "put_in" a_Streams_put_in)(BV_Streams_put_in : Binds K fd_Streams_put_in ["self", "kind", "stream"] [])(F : fQ K "put_hot" "Streams.put_hot" bD f fd):aI P w K mg base (fP P w) 5 f fd ["self", "start", "goal", "rate"] (kO aZ cs CS) := by
  refine F.x6 jv (λvs H Q E h => ?_) λcdv A outer s H vs Q E hr h => ?_
  · obtain ⟨a, dx, b, c, g, n, hs, ks, x, es, rfl, _⟩ := h;rfl
  · obtain ⟨a, dx, b, c, g, n, hs, ks, x, es, rfl, ha, hb, hc, hd, hl, s1, s2, s3, q⟩ := h;refine ⟨_, aM (eE (eD (pv 0) TC.cl MV_Streams_put_in FV_Streams_put_in (hr.mono (by decide)) BV_Streams_put_in .nil (bA.passes λ_ _ _ h => h) (aj ki (aj (iC (aj (pv 1) (aj (pv 2) (aj (pv 3) aN)))) aN)))), ?_⟩;refine ⟨_, rfl, a, dx, _, rfl, ha, rfl, _, rfl, _, rfl, _, rfl, (show 3 <= sizeLine by decide), λt ht => ?_⟩;exact xA (.inl rfl) (bg ht) ht ah ha hb hc hd hl s1 s2 s3 q
theorem i4 (T : iX mg)(TX : dB K mg cs)(TC : dR K mg CS){a_Streams_put_in : Addr}{fd_Streams_put_in : FuncData}(FV_Streams_put_in : aI P w K mg base (fP P w) 4 a_Streams_put_in fd_Streams_put_in ["self", "kind", "stream"] (lD cs CS))(MV_Streams_put_in : Meth K CS "put_in" a_Streams_put_in)(BV_Streams_put_in : Binds K fd_Streams_put_in ["self", "kind", "stream"] [])(F : fQ K "put_cold" "Streams.put_cold" bq f fd):aI P w K mg base (fP P w) 5 f fd ["self", "start", "goal", "rate"] (kO bt cs CS) := by
  refine F.x6 i8 (λvs H Q E h => ?_) λcdv A outer s H vs Q E hr h => ?_
  · obtain ⟨a, dx, b, c, g, n, hs, ks, x, es, rfl, _⟩ := h;rfl
  · obtain ⟨a, dx, b, c, g, n, hs, ks, x, es, rfl, ha, hb, hc, hd, hl, s1, s2, s3, q⟩ := h;refine ⟨_, aM (eE (eD (pv 0) TC.cl MV_Streams_put_in FV_Streams_put_in (hr.mono (by decide)) BV_Streams_put_in .nil (bA.passes λ_ _ _ h => h) (aj ki (aj (iC (aj (pv 1) (aj (pv 2) (aj (pv 3) aN)))) aN)))), ?_⟩;refine ⟨_, rfl, a, dx, _, rfl, ha, rfl, _, rfl, _, rfl, _, rfl, (show 3 <= sizeLine by decide), λt ht => ?_⟩;exact xA (.inr rfl) (bg ht) ht ah ha hb hc hd hl s1 s2 s3 q
noncomputable def xM (CS : Addr):Sp := λvs H Q _ => ∃ (a dx : Addr) (g : Int), vs = [.ref a, .int g] /\ H a = some (.ins CS dx []) /\ ∀ b c, H b = none -> H c = none -> b ≠ c -> Q .non (upd (upd (upd H b (.dK [])) c (.dK [])) a (.ins CS dx (eB g b c 0)))
theorem iZ (T : iX mg)(TX : dB K mg cs)(TC : dR K mg CS)(F : fQ K "__init__" "Streams.__init__" bp f fd):aI P w K mg base gI 1 f fd ["self", "gap"] (xM CS) := by
  refine F.ok i7 (λvs H Q E h => ?_) λcdv A outer s H vs Q E hr h => ?_
  · obtain ⟨a, dx, g, rfl, _⟩ := h;rfl
  · obtain ⟨a, dx, g, rfl, ha, q⟩ := h;refine ⟨_, aw (ph (pv 0) (pv 1) rfl) (aw (ph (pv 0) rb rfl) (aw (ph (pv 0) rb rfl) (aM (ph (pv 0) cf rfl)))), ?_⟩;refine ⟨_, rfl, _, rfl, a, CS, dx, [], rfl, ha, TC.cl, TC.wN, (show 0 < 1000 by decide), λb hb => ?_⟩;have nab : a ≠ b := λz => by rw [<- z, ah] at hb;cases hb
    rw [af nab.symm] at hb;refine ⟨_, rfl, a, CS, dx, gc "gap" (V.int g) [], rfl, (by rw [af nab];exact ah), TC.cl, TC.j8, (show 1 < 1000 by decide), λc hc => ?_⟩;have nac : a ≠ c := λz => by rw [<- z, ah] at hc;cases hc
    rw [af nac.symm] at hc;have nbc : b ≠ c := λz => by rw [<- z, ah] at hc;cases hc
    rw [af nbc.symm, af nac.symm] at hc;refine ⟨_, rfl, a, CS, dx, gc "hots" (V.ref b) (gc "gap" (V.int g) []), rfl, (by rw [af nac];exact ah), TC.cl, TC.iT, (show 2 < 1000 by decide), ?_⟩;refine ⟨_, rfl, a, CS, dx, _, rfl, ah, TC.cl, TC.lx, (show 3 < 1000 by decide), ?_⟩;have e : ∀ f1 f2 f3 f4 : HO, upd (upd (upd (upd (upd (upd H a f1) b (.dK [])) a f2) c (.dK [])) a f3) a f4 = upd (upd (upd H b (.dK [])) c (.dK [])) a f4 := by
      intro f1 f2 f3 f4;funext y
      by_cases ya : y = a
      · subst ya;rw [ah, ah]
      · rw [af ya, af ya, af ya];by_cases yc : y = c
        · subst yc;rw [ah, ah]
        · rw [af yc, af yc, af ya];by_cases yb : y = b
          · subst yb;rw [ah, ah]
          · rw [af yb, af ya, af yb]
    show Q V.non _;rw [e];exact q b c hb hc nbc
noncomputable def n5 (cs : h7)(CS : Addr):Sp := λvs H Q E => ∃ (a dx b c : Addr) (g n i : Int) (hs ks : cL), vs = [.ref a, .int i] /\ H a = some (.ins CS dx (eB g b c n)) /\ bz H H b hs /\ bz H H c ks /\ Sm i /\
  if cG hs i = true then ∃ es v, H b = some (.dK es) /\ gH es (Sum.inl i) = some v /\ Q v (upd H b (.dK (e5 es (Sum.inl i)))) else if cG ks i = true then ∃ es v, H c = some (.dK es) /\ gH es (Sum.inl i) = some v /\ Q v (upd H c (.dK (e5 es (Sum.inl i)))) else ∀ H', ak H H' -> E (.ref cs.aK) none H'
theorem i5 (T : iX mg)(TX : dB K mg cs)(TC : dR K mg CS){a_Streams_home_of : Addr}{fd_Streams_home_of : FuncData}(FV_Streams_home_of : aI P w K mg base (fP P w) 1 a_Streams_home_of fd_Streams_home_of ["self", "number"] (pI cs CS))(MV_Streams_home_of : Meth K CS "home_of" a_Streams_home_of)(BV_Streams_home_of : Binds K fd_Streams_home_of ["self", "number"] [])(F : fQ K "take_out" "Streams.take_out" br f fd):aI P w K mg base (fP P w) 2 f fd ["self", "number"] (n5 cs CS) := by
  refine F.x6 fh (λvs H Q E h => ?_) λcdv A outer s H vs Q E hr h => ?_
  · obtain ⟨a, dx, b, c, g, n, i, hs, ks, rfl, _⟩ := h;rfl
  · obtain ⟨a, dx, b, c, g, n, i, hs, ks, rfl, ha, hb, hc, hi, q⟩ := h;refine ⟨_, aw (df (i := 2) fh.nd rfl (Or.inl rfl) (eD (pv 0) TC.cl MV_Streams_home_of FV_Streams_home_of (hr.mono (by decide)) BV_Streams_home_of .nil (bA.passes λ_ _ _ h => h) (aj (pv 1) aN))) (aM (eE (xa (pv 2) (pv 1) ⟨rfl, rfl, rfl, rfl⟩))), ?_⟩;refine ⟨_, rfl, a, dx, _, rfl, ha, rfl, _, rfl, a, dx, b, c, g, n, i, hs, ks, rfl, ha, hb, hc, hi, ?_⟩;by_cases f1 : cG hs i = true
    · rw [if_pos f1] at q ⊢;obtain ⟨es, v, e1, e2, q⟩ := q;exact ⟨_, rfl, b, rfl, .inl ⟨_, .inl e1⟩, _, rfl, es, Sum.inl i, v, e1, rfl, e2, q⟩
    rw [if_neg f1] at q ⊢;by_cases f2 : cG ks i = true
    · rw [if_pos f2] at q ⊢;obtain ⟨es, v, e1, e2, q⟩ := q;exact ⟨_, rfl, c, rfl, .inl ⟨_, .inl e1⟩, _, rfl, es, Sum.inl i, v, e1, rfl, e2, q⟩
    rw [if_neg f2] at q ⊢;exact q
noncomputable def rE (k : Str)(x : S3)(hs ks : cL):List S3 := if k = aZ then vals hs ++ [x] else vals hs
noncomputable def rD (k : Str)(x : S3)(hs ks : cL):List S3 := if k = aZ then vals ks else vals ks ++ [x]
noncomputable def cQ (cs : h7)(CS : Addr):rJ := λds Q Z => ∃ (g : Int) (hs ks : cL) (n : Int) (k : Str) (x : S3), ds = [oD CS g hs ks n, .str k, .int x.1, .int x.2.1, .int x.2.2] /\ (k = aZ \/ k = bt) /\ Sm x.1 /\ Sm x.2.1 /\ Sm x.2.2 /\ dS g (vals hs) (vals ks) /\
  if 12 <= (allOf k hs ks).length then Z (.ref cs.Full) else if bZ k x = 1 then Z (.ref cs.ar) else if bZ k x = 2 then Z (.ref cs.aE) else
    ∀ m m', cn g (rE k x hs ks) (rD k x hs ks) m -> cn g (vals hs) (vals ks) m' -> Q (.p (.int (m - m')))
theorem yT {g : Int}{hs ks : cL}{k : Str}{x : S3}(ok : dS g (vals hs) (vals ks))(hk : k = aZ \/ k = bt)(f1 : ¬ 12 <= (allOf k hs ks).length)(f2 : ¬ bZ k x = 1)(f3 : ¬ bZ k x = 2):dS g (rE k x hs ks) (rD k x hs ks) := by
  unfold allOf at f1;unfold bZ at f2 f3;have nb : ¬ (x.1 < 0 \/ 200 < x.1 \/ x.2.1 < 0 \/ 200 < x.2.1 \/ x.2.2 < 1 \/ 1000000000 < x.2.2) := λz => f2 (if_pos z);rw [if_neg nb] at f3;have nw : ¬ ((k = aZ /\ x.1 <= x.2.1) \/ (k = bt /\ x.2.1 <= x.1)) := λz => f3 (if_pos z);unfold rE rD;rcases hk with rfl | rfl
  · rw [if_pos rfl] at f1;rw [if_pos rfl, if_pos rfl];have nw' : ¬ x.1 <= x.2.1 := λz => nw (.inl ⟨rfl, z⟩);refine ⟨ok.g0, ok.g1, ?_, ok.nc, λy hy => ?_, ok.uH⟩
    · unfold vals;rw [length_append, length_map];show _ + 1 <= 12;lia
    · rcases mem_append.mp hy with h | h
      · exact ok.By y h
      · rw [mem_singleton.mp h];exact ⟨by lia, by lia, by lia, by lia, by lia⟩
  · have ch : ¬ bt = aZ := jA;rw [if_neg ch] at f1;rw [if_neg ch, if_neg ch];have nw' : ¬ x.2.1 <= x.1 := λz => nw (.inr ⟨rfl, z⟩);refine ⟨ok.g0, ok.g1, ok.nh, ?_, ok.By, λy hy => ?_⟩
    · unfold vals;rw [length_append, length_map];show _ + 1 <= 12;lia
    · rcases mem_append.mp hy with h | h
      · exact ok.uH y h
      · rw [mem_singleton.mp h];exact ⟨by lia, by lia, by lia, by lia, by lia⟩
theorem gX (T : iX mg)(TX : dB K mg cs)(TC : dR K mg CS)(FMX_Streams_check_new : xY P w K mg base CS "check_new" 3 ["self", "kind", "stream"] (dw cs CS))(FM_Streams_works : vq P w K mg base CS "works" 1 ["self"] (cY CS))(FM_Streams_change_to : vq P w K mg base CS "change_to" 5 ["self", "works"] (cu CS))(F : fQ K "change_with" "Streams.change_with" aT f fd):aI P w K mg base (fP P w) 6 f fd ["self", "kind", "start", "goal", "rate"] (vt K (cQ cs CS)) := by
  refine wW F cV (λds Q Z h => by obtain ⟨g, hs, ks, n, k, x, rfl, hk, h1, h2, h3, ok, q⟩ := h;rfl) λcdv A outer s H E Z hr hZ => ⟨_, (bW (dx (cq (i := 5) cV.nd rfl (Or.inl rfl) (gO (aa (dv 2) (aa (dv 3) (aa (dv 4) ai))))))
      (bW (qD bA hZ FMX_Streams_check_new TC.cl (λ_ _ _ _ => rfl) (hr.mono (by decide)) (dv 0) (aa (dv 1) (aa (dv 5) ai)))
      (bW (dx (wc (i := 6) cV.nd rfl (Or.inl rfl) (fL FM_Streams_works TC.cl (λ_ _ _ _ => rfl) (hr.mono (by decide)) (dv 0))))
      (bW (dx (ja (cc kI (dv 1) oE (aQ _)) (aO (lV (i := 6) (j := 0) rfl (by decide) rfl (by walk_at "v") (dv 5) (λ_ _ => rfl))) (aO (lV (i := 6) (j := 1) rfl (by decide) rfl (by walk_at "v") (dv 5) (λ_ _ => rfl)))))
      (fj (dx (bF (lR FM_Streams_change_to TC.cl (λ_ _ _ _ => rfl) (hr.mono (by decide)) (dv 0) (aa (dv 6) ai))))))))), λds Q h => ?_⟩
  obtain ⟨g, hs, ks, n, k, x, rfl, hk, h1, h2, h3, ok, q⟩ := h;walk_at "rs";refine ⟨g, hs, ks, n, k, x, rfl, hk, h1, h2, h3, ?_⟩;by_cases f1 : 12 <= (allOf k hs ks).length
  · rw [if_pos f1] at q ⊢;exact q
  rw [if_neg f1] at q ⊢;by_cases f2 : bZ k x = 1
  · rw [if_pos f2] at q ⊢;exact q
  rw [if_neg f2] at q ⊢;by_cases f3 : bZ k x = 2
  · rw [if_pos f3] at q ⊢;exact q
  rw [if_neg f3] at q ⊢;refine ⟨g, hs, ks, n, rfl, ?_⟩;walk_at "rs";have ok2 := yT ok hk f1 f2 f3;have lh : ((vals hs).map d3).length < sizeLine := by rw [length_map];exact lt1000 (Nat.le_trans ok.nh (by decide))
  have lc : ((vals ks).map d3).length < sizeLine := by rw [length_map];exact lt1000 (Nat.le_trans ok.nc (by decide))
  refine ⟨λz => ?_, λz => ?_⟩
  · have e : k = aZ := of_decide_eq_true z;unfold rE rD at ok2 q;rw [if_pos e, if_pos e] at ok2 q;refine ⟨_, rfl, lh, g, hs, ks, n, vals hs ++ [x], vals ks, ?_, ok, ok2, q⟩;unfold dW;rw [map_append];rfl
  · have e : ¬ k = aZ := of_decide_eq_false z;unfold rE rD at ok2 q;rw [if_neg e, if_neg e] at ok2 q;refine ⟨_, rfl, lc, g, hs, ks, n, vals hs, vals ks ++ [x], ?_, ok, ok2, q⟩;unfold dW;rw [map_append];rfl
noncomputable def bJ (l : cL)(i : Int):cL := l.filter λp => decide (p.1 ≠ i)
theorem qR {l : cL}{n : Int}(hl : l.length <= 12){ρ : aD}{tc : gJ}{te : DT}{Q : B -> Prop}(h : ∀ p ∈ l, (Tg.t [0, 1]).d (yo p) ρ λρ' => tc ρ' λc => (c = true -> te ρ' λb => some b.val = if decide (p.1 ≠ n) = true then some (d3 p.2) else none) /\ (c = false -> none = if decide (p.1 ≠ n) = true then some (d3 p.2) else none))(q : Q (.o (.lst ((vals (bJ l n)).map d3)))):x5 (l.map yo) (Tg.t [0, 1]) tc te ρ Q := by
  refine yK (xs := l) (e := yo) (λd => match d with | .tup [.int k, d] => if decide (k ≠ n) = true then some d else none | _ => none) (λp => if decide (p.1 ≠ n) = true then some (d3 p.2) else none) (λp _ => rfl) (by lia) h ?_;have e : l.filterMap (λp => if decide (p.1 ≠ n) = true then some (d3 p.2) else none) = (vals (bJ l n)).map d3 := by
    unfold vals bJ;rw [map_map, <- fY];congr 1;funext p
    by_cases z : p.1 ≠ n
    · rw [if_pos (decide_eq_true z), if_pos z];rfl
    · rw [if_neg (by simpa using z), if_neg z]
  rw [e];exact q
noncomputable def dQ (cs : h7)(CS : Addr):rJ := λds Q Z => ∃ (g : Int) (hs ks : cL) (n i : Int), ds = [oD CS g hs ks n, .int i] /\ Sm i /\ dS g (vals hs) (vals ks) /\
  if cG hs i = true \/ cG ks i = true then ∀ m m', cn g (vals (bJ hs i)) (vals (bJ ks i)) m -> cn g (vals hs) (vals ks) m' -> Q (.p (.int (m - m'))) else Z (.ref cs.aK)
theorem yS {g i : Int}{hs ks : cL}(ok : dS g (vals hs) (vals ks)):dS g (vals (bJ hs i)) (vals (bJ ks i)) := by
  have l1 : ∀ l : cL, (vals (bJ l i)).length <= (vals l).length := λl => by unfold vals bJ;rw [length_map, length_map];exact List.length_filter_le _ _
  have l2 : ∀ (l : cL) (x : S3), x ∈ vals (bJ l i) -> x ∈ vals l := λl x hx => by
    unfold vals bJ at *;obtain ⟨p, hp, rfl⟩ := mem_map.mp hx;exact mem_map.mpr ⟨p, (List.mem_filter.mp hp).1, rfl⟩
  exact ⟨ok.g0, ok.g1, Nat.le_trans (l1 hs) ok.nh, Nat.le_trans (l1 ks) ok.nc, λx hx => ok.By x (l2 hs x hx), λx hx => ok.uH x (l2 ks x hx)⟩
theorem fH (T : iX mg)(TX : dB K mg cs)(TC : dR K mg CS){a_Streams_home_of : Addr}{fd_Streams_home_of : FuncData}(FV_Streams_home_of : aI P w K mg base (fP P w) 1 a_Streams_home_of fd_Streams_home_of ["self", "number"] (pI cs CS))(MV_Streams_home_of : Meth K CS "home_of" a_Streams_home_of)(BV_Streams_home_of : Binds K fd_Streams_home_of ["self", "number"] [])(FM_Streams_change_to : vq P w K mg base CS "change_to" 5 ["self", "works"] (cu CS))(F : fQ K "change_without" "Streams.change_without" ay f fd):aI P w K mg base (fP P w) 6 f fd ["self", "number"] (vt K (dQ cs CS)) := by
  have FMX_Streams_home_of := uV FV_Streams_home_of MV_Streams_home_of BV_Streams_home_of;refine wW F bQ (λds Q Z h => by obtain ⟨g, hs, ks, n, i, rfl, hi, ok, q⟩ := h;rfl) λcdv A outer s H E Z hr hZ => ⟨_, (bW (qD bA hZ FMX_Streams_home_of TC.cl (λ_ _ _ _ => rfl) (hr.mono (by decide)) (dv 0) (aa (dv 1) ai))
      (bW (dx (nN true (m := 2) bQ.nd rfl (Or.inl rfl) (g := (.t [0, 1])) (tc := (eL (h8 _ (bo 0) (bo 2)))) (te := (bo 1)) (sc0 := ae ay) (N0 := ["self", "number", "hots", "colds"]) ["own", "stream", "number"] [none, none, some 1] rfl (i := 0) rfl (by walk_at "v") TC.cl TC.j8 (λ_ _ _ _ => rfl) (λ_ _ _ _ _ => (gZ rfl (aR (aS (i := 0) (show (["own", "stream", "number"]:List Str).Nodup by decide +kernel) rfl (Or.inl rfl)) (aR (aS (i := 1) (show (["own", "stream", "number"]:List Str).Nodup by decide +kernel) rfl (Or.inl rfl)) fo)))) (λ_ _ _ _ _ => (lT (cc wV (dv 0) (dv 2) (aQ _)))) (λ_ _ _ _ _ => (dv 1))))
      (bW (dx (nN false (m := 3) bQ.nd rfl (Or.inl rfl) (g := (.t [0, 1])) (tc := (eL (h8 _ (bo 0) (bo 2)))) (te := (bo 1)) (sc0 := ae ay) (N0 := ["self", "number", "hots", "colds"]) ["own", "stream", "number"] [none, none, some 1] rfl (i := 0) rfl (by walk_at "v") TC.cl TC.iT (λ_ _ _ _ => rfl) (λ_ _ _ _ _ => (gZ rfl (aR (aS (i := 0) (show (["own", "stream", "number"]:List Str).Nodup by decide +kernel) rfl (Or.inl rfl)) (aR (aS (i := 1) (show (["own", "stream", "number"]:List Str).Nodup by decide +kernel) rfl (Or.inl rfl)) fo)))) (λ_ _ _ _ _ => (lT (cc wV (dv 0) (dv 2) (aQ _)))) (λ_ _ _ _ _ => (dv 1))))
      (fj (dx (bF (lR FM_Streams_change_to TC.cl (λ_ _ _ _ => rfl) (hr.mono (by decide)) (dv 0) (aa (gO (aa (oC TC.cl TC.wN uh (dv 0)) (aa (dv 2) (aa (dv 3) ai)))) ai)))))))), λds Q h => ?_⟩
  obtain ⟨g, hs, ks, n, i, rfl, hi, ok, q⟩ := h;walk_at "rs";refine ⟨g, hs, ks, n, i, rfl, hi, ?_⟩;have lh : hs.length <= 12 := by have := ok.nh;unfold vals at this;rw [length_map] at this;exact this
  have lk : ks.length <= 12 := by have := ok.nc;unfold vals at this;rw [length_map] at this;exact this
  by_cases hin : cG hs i = true \/ cG ks i = true
  · rw [if_pos hin] at q;have turn : ∀ p : Int × S3, (Tg.t [0, 1]).d (yo p) [none, none, some (B.p (D.int i))] λρ' => eL (h8 e7 (bo 0) (bo 2)) ρ' λc => (c = true -> bo 1 ρ' λb => some b.val = if decide (p.1 ≠ i) = true then some (d3 p.2) else none) /\ (c = false -> none = if decide (p.1 ≠ i) = true then some (d3 p.2) else none) := λp => by
      unfold yo;walk_at "rs";refine ⟨λz => ?_, λz => ?_⟩
      · rw [if_pos (by rw [decide_not];exact z)]
      · rw [if_neg (by rw [decide_not, z];decide)]
    have body : x5 (List.map yo hs) (Tg.t [0, 1]) (eL (h8 e7 (bo 0) (bo 2))) (bo 1) [none, none, some (B.p (D.int i))] λb => x5 (List.map yo ks) (Tg.t [0, 1]) (eL (h8 e7 (bo 0) (bo 2))) (bo 1) [none, none, some (B.p (D.int i))] λb_1 => cu CS [D.ext (Ext.obj CS g hs ks n), D.tup [D.int g, b.val, b_1.val]] Q :=
      qR lh (λp _ => turn p) (qR lk (λp _ => turn p) ⟨g, hs, ks, n, vals (bJ hs i), vals (bJ ks i), rfl, ok, yS ok, λm m' h1 h2 => q m m' h1 h2⟩)
    by_cases h1 : cG hs i = true
    · rw [if_pos h1];exact body
    · rw [if_neg h1, if_pos (hin.resolve_left h1)];exact body
  · rw [if_neg hin] at q;rw [if_neg λz => hin (.inl z), if_neg λz => hin (.inr z)];exact q
noncomputable def vO (ns : List Int)(k : Int):Int := if k < ns.length then ns.getD k.toNat 0 else 0
noncomputable def je : DR := λds P => ∃ (ns : List Int) (k : Int), ds = [.scr ns, .int k] /\ 0 <= k /\ P (.p (.int (vO ns k)))
theorem mn (T : iX mg)(TX : dB K mg cs)(TC : dR K mg CS)(F : fQ K "_law_cell_at" "_law_cell_at" cZ f fd):aI P w K mg base gI 1 f fd ["script", "k"] (e6 K je) := by
  refine rG F mC (λds Q h => by obtain ⟨ns, k, rfl, k0, q⟩ := h;rfl) λcdv A outer s H E hr => ⟨_, (aL (ja (cc wU (dv 1) (cw lK (by rfl) T.ni PySem.boot_len (aa (dv 0) ai)) (aQ _)) (aO (bF (dg (dv 0) (dv 1)))) eP)
      (aO (bF ag))), λds Q h => ?_⟩
  obtain ⟨ns, k, rfl, k0, q⟩ := h;obtain ⟨n, rfl⟩ : ∃ n : Nat, k = (n : Nat) := ⟨k.toNat, by lia⟩
  walk_at "rs";unfold vO at q;refine ⟨λz => ?_, λz => ?_⟩
  · have hz := of_decide_eq_true z;rw [if_pos hz] at q;have e := getElem?_eq_getElem (l := ns) (i := n) (by lia);refine ⟨ns.getD n 0, ?_, q⟩;rw [getD_eq_getElem?_getD, e];exact gK e
  · rw [if_neg (of_decide_eq_false z)] at q;exact q
theorem ic {t1 u : fJ}{E : kB}{ρ : aD}(C : aD -> Prop)(tail : ∀ ρ, C ρ -> u E ρ)(head : ∀ N : aD -> Prop, (∀ ρ, C ρ -> N ρ) -> t1 { E with nx := N } ρ):fV t1 u E ρ := head _ tail
noncomputable def lH (k : Str)(x : S3):Prop := (k = aZ /\ p8 x) \/ (k = bt /\ lE x)
theorem lH.bad {k : Str}{x : S3}(o : lH k x):bZ k x = 0 := by
  unfold bZ;rcases o with ⟨rfl, h⟩ | ⟨rfl, h⟩
  · have := h.lo;have := h.lt;have := h.hi;have := h.r0;have := h.r1;rw [if_neg (by lia), if_neg];rintro (⟨_, z⟩ | ⟨z, _⟩)
    · lia
    · exact tQ z
  · have := h.lo;have := h.lt;have := h.hi;have := h.r0;have := h.r1;rw [if_neg (by lia), if_neg];rintro (⟨z, _⟩ | ⟨_, z⟩)
    · exact jA z
    · lia
theorem um {i : Int}(h0 : -10000000000 <= i)(h1 : i <= 10000000000):Sm i := by
  unfold Sm;lia
theorem lH.sm {k : Str}{x : S3}(o : lH k x):Sm x.1 /\ Sm x.2.1 /\ Sm x.2.2 := by
  rcases o with ⟨_, h⟩ | ⟨_, h⟩ <;> (have := h.lo;have := h.lt;have := h.hi;have := h.r0;have := h.r1;exact ⟨um (by lia) (by lia), um (by lia) (by lia), um (by lia) (by lia)⟩)
theorem B9 {i j : Int}(h : -(2 ^ 64) < j /\ j < 2 ^ 64):pY i j := .inr h
theorem cD (c k m : Int)(hm : 0 < m):0 <= fi c k % m /\ fi c k % m < m := ⟨Int.emod_nonneg _ (by lia), Int.emod_lt_of_pos _ hm⟩
theorem B7 {a b c d i lo hi : Int}(h0 : 0 <= i)(h1 : i < 4)(ha : lo <= a /\ a <= hi)(hb : lo <= b /\ b <= hi)(hc : lo <= c /\ c <= hi)(hd : lo <= d /\ d <= hi):∃ v : Int, ib [D.int a, .int b, .int c, .int d] i = some (.int v) /\ (lo <= v /\ v <= hi) := by
  obtain rfl | rfl | rfl | rfl : i = 0 \/ i = 1 \/ i = 2 \/ i = 3 := by lia
  · exact ⟨a, rfl, ha⟩
  · exact ⟨b, rfl, hb⟩
  · exact ⟨c, rfl, hc⟩
  · exact ⟨d, rfl, hd⟩
structure vy (lo hi ra : Int):Prop where
  l0 : 0 <= lo
  lt : lo < hi
  h1 : hi <= 200
  r0 : 1 <= ra
  r1 : ra <= 1000000000
theorem vy.By {lo hi ra : Int}(d : vy lo hi ra):lH aZ (hi, lo, ra) := .inl ⟨rfl, d.l0, d.lt, d.h1, d.r0, d.r1⟩
theorem vy.uH {lo hi ra : Int}(d : vy lo hi ra):lH bt (lo, hi, ra) := .inr ⟨rfl, d.l0, d.lt, d.h1, d.r0, d.r1⟩
noncomputable def kN : DR := λds P => ∃ i : Int, ds = [.int i] /\ P (.p (.bl true))
theorem o8 (T : iX mg)(TX : dB K mg cs)(TC : dR K mg CS)(F : fQ K "_law_whole" "_law_whole" ee f fd):aI P w K mg base gI 1 f fd ["found"] (e6 K kN) := by
  refine rG F pF (λds Q h => by obtain ⟨i, rfl, q⟩ := h;rfl) λcdv A outer s H E hr => ⟨_, (aO (bF (vV (rT (T := "int") (by simp) (by rfl) T.gL (dv 0) (o9 (v := .ty "int") (by rfl) T.vC boot_int rfl)) (vY (Ax (rT (T := "bool") (by simp) (by rfl) T.gL (dv 0) (o9 (v := .ty "bool") (by rfl) T.Ai boot_bool rfl))))))), λds Q h => ?_⟩
  obtain ⟨i, rfl, q⟩ := h;walk_at "rs";have b1 : zM "int" (D.int i) = true := rfl;have b2 : zM "bool" (D.int i) = false := rfl;rw [b1, b2];exact ⟨λ_ => q, λz => (nomatch z)⟩
noncomputable def g5 : DR := λds Q => ∃ (c b : Int), ds = [.int c, .int b] /\ 0 <= b /\ b < 200 /\ ∀ lo hi ra, vy lo hi ra -> Q (.o (.lst [.int lo, .int hi, .int ra]))
theorem mW (T : iX mg)(TX : dB K mg cs)(TC : dR K mg CS)(F_law_stir : Fn P w K mg base "_law_stir" 1 ["cell", "k"] (e6 K aF))(F : fQ K "_law_stream" "_law_stream" dG f fd):aI P w K mg base gI 2 f fd ["cell", "base"] (e6 K g5) := by
  refine rG F cj (λds Q h => by obtain ⟨c, b, rfl, b0, b1, q⟩ := h;rfl) λcdv A outer s H E hr => ⟨_, (aL (cq (i := 2) cj.nd rfl (Or.inl rfl) (cw (sX rfl) (by rfl) T.zB boot_min (aa (aJ cP (dv 1) (aJ bH (aP F_law_stir (hr.mono (by decide)) (by rfl) (aa (dv 0) (aa ag ai))) ag)) (aa ag ai))))
      (aL (cq (i := 3) cj.nd rfl (Or.inl rfl) (cw (sX rfl) (by rfl) T.zB boot_min (aa (aJ cP (aJ cP (dv 2) ag) (aJ bH (aP F_law_stir (hr.mono (by decide)) (by rfl) (aa (dv 0) (aa ag ai))) ag)) (aa ag ai))))
      (aL (ja (cc kI (aJ bH (aP F_law_stir (hr.mono (by decide)) (by rfl) (aa (dv 0) (aa ag ai))) ag) ag (aQ _)) (aL (cq (i := 2) cj.nd rfl (Or.inl rfl) (aJ bH (aP F_law_stir (hr.mono (by decide)) (by rfl) (aa (dv 0) (aa ag ai))) ag))
      (aO (cq (i := 3) cj.nd rfl (Or.inl rfl) (aJ cP (aJ cP (dv 2) ag) (aJ bH (aP F_law_stir (hr.mono (by decide)) (by rfl) (aa (dv 0) (aa ag ai))) (aJ ke ag (dv 2))))))) eP)
      (aL (cq (i := 4) cj.nd rfl (Or.inl rfl) (aJ cP (aJ gz (aP F_law_stir (hr.mono (by decide)) (by rfl) (aa (dv 0) (aa ag ai))) ag) (aJ bH (aP F_law_stir (hr.mono (by decide)) (by rfl) (aa (dv 0) (aa ag ai))) ag)))
      (aL (cq (i := 5) cj.nd rfl (Or.inl rfl) (dg (jk (aa (aJ cP ag (aJ bH (dv 4) ag)) (aa (aJ cP ag (aJ bH (dv 4) (aJ o5 ag ag))) (aa (aJ o5 ag ag) (aa (aJ cP ag (aJ bH (dv 4) (aJ o5 ag ag))) ai))))) (aJ bH (aP F_law_stir (hr.mono (by decide)) (by rfl) (aa (dv 0) (aa ag ai))) ag)))
      (aO (bF (jk (aa (dv 2) (aa (dv 3) (aa (dv 5) ai))))))))))), λds Q h => ?_⟩
  obtain ⟨c, b, rfl, b0, b1, q⟩ := h;refine ic (λρ => ∃ low : Int, 0 <= low /\ low <= 199 /\ ρ = [some (.p (.int c)), some (.p (.int b)), some (.p (.int low)), none, none, none]) ?_ λN hN => ?_;rotate_left
  · repeat (first | dsimp only [aF] | walk_at "rs1" | walk_at "rsx")
    have m := cD c 2 12 (by decide);exact ⟨by decide, hN _ ⟨_, by split <;> lia, by split <;> lia, rfl⟩⟩
  rintro ρ ⟨low, l0, l1, rfl⟩;refine ic (λρ => ∃ high : Int, low < high /\ high <= 200 /\ ρ = [some (.p (.int c)), some (.p (.int b)), some (.p (.int low)), some (.p (.int high)), none, none]) ?_ λN hN => ?_;rotate_left
  · repeat (first | dsimp only [aF] | walk_at "rs1" | walk_at "rsx")
    have m := cD c 3 12 (by decide);exact ⟨by decide, hN _ ⟨_, by split <;> lia, by split <;> lia, rfl⟩⟩
  rintro ρ ⟨high, g0, g1, rfl⟩;refine ic (λρ => ∃ low high : Int, 0 <= low /\ low < high /\ high <= 200 /\ ρ = [some (.p (.int c)), some (.p (.int b)), some (.p (.int low)), some (.p (.int high)), none, none]) ?_ λN hN => ?_;rotate_left
  · repeat (first | dsimp only [aF] | walk_at "rs1" | walk_at "rsx")
    have m := cD c 2 200 (by decide);have m' := cD c 3 (200 - fi c 2 % 200) (by lia);exact ⟨by decide, λ_ => ⟨by decide, by lia, hN _ ⟨_, _, m.1, by lia, by lia, rfl⟩⟩, λ_ => hN _ ⟨low, high, l0, g0, g1, rfl⟩⟩
  clear l0 l1 g0 g1 low high;rintro ρ ⟨low, high, l0, g0, g1, rfl⟩;refine ic (λρ => ∃ uS : Int, 0 <= uS /\ ρ = [some (.p (.int c)), some (.p (.int b)), some (.p (.int low)), some (.p (.int high)), some (.p (.int uS)), none]) ?_ λN hN => ?_;rotate_left
  · repeat (first | dsimp only [aF] | walk_at "rs1" | walk_at "rsx")
    have m := cD c 10 8 (by decide);have s := Bj c 7;exact ⟨B9 (by decide), by decide, hN _ ⟨_, by lia, rfl⟩⟩
  rintro ρ ⟨uS, f0, rfl⟩;refine ic (λρ => ∃ rate : Int, 1 <= rate /\ rate <= 1000000000 /\ ρ = [some (.p (.int c)), some (.p (.int b)), some (.p (.int low)), some (.p (.int high)), some (.p (.int uS)), some (.p (.int rate))]) ?_ λN hN => ?_;rotate_left
  · repeat (first | dsimp only [aF] | walk_at "rs1" | walk_at "rsx")
    have e9 : (10 : Int) ^ Int.toNat 9 = 1000000000 := by decide
    rw [e9];have m := cD c 8 4 (by decide);have a1 := Int.emod_nonneg uS (b := 9) (by decide);have a2 := Int.emod_lt_of_pos uS (b := 9) (by decide);have a3 := Int.emod_nonneg uS (b := 1000000000) (by decide);have a4 := Int.emod_lt_of_pos uS (b := 1000000000) (by decide);obtain ⟨v, hv, v0, v1⟩ := B7 (a := 1 + uS % 9) (b := 1 + uS % 1000000000) (c := 1000000000) (d := 1 + uS % 1000000000) (lo := 1) (hi := 1000000000) m.1 m.2 (by lia) (by lia) (by lia) (by lia);have cp : Aa 10 9 := ⟨by decide, by decide, by decide⟩
    exact ⟨by decide, cp, by decide, cp, cp, by decide, by decide, _, hv, hN _ ⟨v, v0, v1, rfl⟩⟩
  rintro ρ ⟨rate, r0, r1, rfl⟩;walk_at "rs";exact q low high rate ⟨l0, g0, g1, r0, r1⟩
noncomputable def ow (p : Int × S3):D := .tup [.int p.1, d3 p.2]
noncomputable abbrev eJ (hs ks : cL):D := .lst [.lst (hs.map ow), .lst (ks.map ow)]
noncomputable def iE (CS : Addr):DR := λds Q => ∃ (g n : Int) (hs ks : cL), ds = [oD CS g hs ks n, eJ hs ks, .int g] /\ dS g (vals hs) (vals ks) /\ (∀ p ∈ ks, Sm p.1) /\ Q (.p (.bl true))
theorem mw {g : Int}{hs cs : List S3}{m : Int}{d d' : D}(h : jx g hs cs m d)(h' : jx g hs cs m d'):d = d' := by
  rcases h with ⟨e, rfl⟩ | ⟨e, L, hL, rfl, h1, h2⟩ <;> rcases h' with ⟨e', rfl⟩ | ⟨e', L', hL', rfl, h1', h2'⟩
  · rfl
  · exact absurd e e'
  · exact absurd e' e
  · have := h2 L' hL' h1';have := h2' L hL h1;rw [show L = L' by lia]
theorem AB {m c : Int}{d : D}(hd : d = .non \/ ∃ L : Int, d = .int L):bf (.tup [.int m, .int c, d]) = true /\ dep (.tup [.int m, .int c, d]) <= 60 := by
  rcases hd with rfl | ⟨L, rfl⟩ <;> (simp only [lA, fu, fB, lz, yO, lq, ft, gp, lp, yr];decide)
theorem yn {α : Type}{xs : List α}{lo hi : Option Int}{x : α}(h : x ∈ hR xs lo hi):x ∈ xs := mem_of_mem_drop (mem_of_mem_take h)
theorem Ca {g : Int}{hs cs : List S3}{P : B -> Prop}(h : P (.p (.bl false))):C7 (dW g hs cs) (dW g hs cs) P := by
  refine ⟨⟨j9 _ _ _, j9 _ _ _, by have := v5 g hs cs;lia⟩, ?_⟩;rw [iD _ (j9 _ _ _)];exact h
theorem o7 (T : iX mg)(TX : dB K mg cs)(TC : dR K mg CS)(FM_Streams_least : vq P w K mg base CS "least" 6 ["self"] (e8 CS))(FM_Streams_works : vq P w K mg base CS "works" 1 ["self"] (cY CS))(FMX_Streams_change_with : xY P w K mg base CS "change_with" 6 ["self", "kind", "start", "goal", "rate"] (cQ cs CS))(FMX_Streams_change_without : xY P w K mg base CS "change_without" 6 ["self", "number"] (dQ cs CS))(F_law_whole : Fn P w K mg base "_law_whole" 1 ["found"] (e6 K kN))(F_least_heat : Fn P w K mg base "least_heat" 4 ["works"] (e6 K dE))(F_least_cold : Fn P w K mg base "least_cold" 5 ["works"] (e6 K g6))(F_pinch : Fn P w K mg base "pinch" 5 ["works"] (e6 K pB))(F : fQ K "_law_right" "_law_right" cK f fd):aI P w K mg base gI 7 f fd ["streams", "rows", "gap"] (e6 K (iE CS)) := by
  refine rG F dM (λds Q h => by obtain ⟨g, n, hs, ks, rfl, ok, sm, q⟩ := h;rfl) λcdv A outer s H E hr => ⟨_, (aL (cq (i := 3) dM.nd rfl (Or.inl rfl) (gO (aa (dv 2) (aa (lQ (g := (.n 0)) (tc := ck) (te := (h8 ll (bo 0) (dC _))) (sc0 := ae cK) (N0 := ["streams", "rows", "gap", "works", "found", "told", "number", "one"]) ["one"] [none] rfl (gQ (dg (dv 1) ag)) (λ_ _ _ _ _ => (aS (i := 0) (show (["one"]:List Str).Nodup by decide +kernel) rfl (Or.inl rfl))) (λ_ _ _ _ _ => gq) (λ_ _ _ _ _ => (dg (dv 0) ag))) (aa (lQ (g := (.n 0)) (tc := ck) (te := (h8 ll (bo 0) (dC _))) (sc0 := ae cK) (N0 := ["streams", "rows", "gap", "works", "found", "told", "number", "one"]) ["one"] [none] rfl (gQ (dg (dv 1) ag)) (λ_ _ _ _ _ => (aS (i := 0) (show (["one"]:List Str).Nodup by decide +kernel) rfl (Or.inl rfl))) (λ_ _ _ _ _ => gq) (λ_ _ _ _ _ => (dg (dv 0) ag))) ai)))))
      (aL (cq (i := 4) dM.nd rfl (Or.inl rfl) (fL FM_Streams_least TC.cl (λ_ _ _ _ => rfl) (hr.mono (by decide)) (dv 0)))
      (aL (ja (DW.dt (tK (oJ (oK (rT (T := "tuple") (by simp) (by rfl) T.gL (dv 4) (o9 (v := .ty "tuple") (by rfl) T.yj boot_tuple rfl)))) (tK (cc wV (cw lK (by rfl) T.ni PySem.boot_len (aa (dv 4) ai)) ag (aQ _)) (tK (oJ (oK (aP F_law_whole (hr.mono (by decide)) (by rfl) (aa (dg (dv 4) ag) ai)))) (wm (oJ (oK (aP F_law_whole (hr.mono (by decide)) (by rfl) (aa (dg (dv 4) ag) ai))))))))) (aO (bF qx)) eP)
      (aL (ja (DW.dt (rW (cc yQ (dg (dv 4) ag) vX (aQ _)) (oM (oJ (oK (aP F_law_whole (hr.mono (by decide)) (by rfl) (aa (dg (dv 4) ag) ai))))))) (aO (bF qx)) eP)
      (aL (ja (cc (oZ hr) (dv 4) (gO (aa (aP F_least_heat (hr.mono (by decide)) (by rfl) (aa (dv 3) ai)) (aa (aP F_least_cold (hr.mono (by decide)) (by rfl) (aa (dv 3) ai)) (aa (aP F_pinch (hr.mono (by decide)) (by rfl) (aa (dv 3) ai)) ai)))) (aQ _)) (aO (bF qx)) eP)
      (aL (wc (i := 5) dM.nd rfl (Or.inl rfl) (fL FM_Streams_works TC.cl (λ_ _ _ _ => rfl) (hr.mono (by decide)) (dv 0)))
      (aL (ja (cc (oZ hr) (dv 5) (dv 3) (aQ _)) (aO (bF qx)) eP)
      (aL (lV (i := 5) (j := 0) rfl (by decide) rfl (by walk_at "v") (gO (aa ag (aa ag (aa ag ai)))) (λ_ _ => rfl))
      (aL (wd (i := 5) (j := 1) rfl (by decide) rfl (by walk_at "v") (gO (aa ag (aa ag (aa (aJ o5 ag ag) ai)))) (λ_ _ => rfl))
      (aL (ja (cc (oZ hr) (fL FM_Streams_least TC.cl (λ_ _ _ _ => rfl) (hr.mono (by decide)) (dv 0)) (dv 4) (aQ _)) (aO (bF qx)) eP)
      (aL (ja (cc wU (cw lK (by rfl) T.ni PySem.boot_len (aa (dg (dv 1) ag) ai)) ag (aQ _)) (aO (tJ (lR FMX_Streams_change_with.drop TC.cl (λ_ _ _ _ => rfl) (hr.mono (by decide)) (dv 0) (aa oE (aa ag (aa ag (aa ag ai))))))) eP)
      (aL (Az (g := (.t [6, 7])) PassesOwn.never rfl (gQ (qz (dg (dv 1) ag) yt (oI ag))) (gZ rfl (aR (aS (i := 6) dM.nd rfl (Or.inl rfl)) (aR (aS (i := 7) dM.nd rfl (Or.inl rfl)) fo))) (aO (tJ (lR FMX_Streams_change_without.drop TC.cl (λ_ _ _ _ => rfl) (hr.mono (by decide)) (dv 0) (aa (dv 6) ai)))))
      (aO (bF (vV (oB (wR hr) (fL FM_Streams_least TC.cl (λ_ _ _ _ => rfl) (hr.mono (by decide)) (dv 0)) (dv 4) (aQ _)) (vY (oB (wR hr) (fL FM_Streams_works TC.cl (λ_ _ _ _ => rfl) (hr.mono (by decide)) (dv 0)) (dv 3) (aQ _)))))))))))))))))), λds Q h => ?_⟩
  obtain ⟨g, n, hs, ks, rfl, ok, sm, q⟩ := h;have lh : hs.length <= 12 := by have := ok.nh;unfold vals at this;rw [length_map] at this;exact this
  have lk : ks.length <= 12 := by have := ok.nc;unfold vals at this;rw [length_map] at this;exact this
  refine ic (λρ => ρ = [some (B.p (oD CS g hs ks n)), some (B.p (eJ hs ks)), some (B.p (.int g)), some (B.p (dW g (vals hs) (vals ks))), none, none, none, none]) ?_ λN hN => ?_;rotate_left
  · walk_at "rs";refine tZ (λd => match d with | .tup [_, x] => x | d => d) (λp => d3 p.2) (λ_ _ => rfl) (by lia) (λp hp => ?_) ?_
    · unfold ow;walk_at "rs"
    refine tZ (λd => match d with | .tup [_, x] => x | d => d) (λp => d3 p.2) (λ_ _ => rfl) (by lia) (λp hp => ?_) ?_
    · unfold ow;walk_at "rs"
    refine hN _ ?_;unfold dW vals;rw [map_map, map_map];rfl
  rintro ρ rfl;refine ic (λρ => ∃ m d, cn g (vals hs) (vals ks) m /\ jx g (vals hs) (vals ks) m d /\ ρ = [some (B.p (oD CS g hs ks n)), some (B.p (eJ hs ks)), some (B.p (.int g)), some (B.p (dW g (vals hs) (vals ks))), some (B.p (.tup [.int m, .int (m - dh g (vals hs) (vals ks) 0), d])), none, none, none]) ?_ λN hN => ?_;rotate_left
  · walk_at "rs";exact ⟨g, hs, ks, n, rfl, ok, λm d hm hd => hN _ ⟨m, d, hm, hd, rfl⟩⟩
  rintro ρ ⟨m, d, hm, hd, rfl⟩;have dk : d = .non \/ ∃ L : Int, d = .int L := by
    rcases hd with ⟨_, rfl⟩ | ⟨_, L, _, rfl, _⟩
    · exact .inl rfl
    · exact .inr ⟨_, rfl⟩
  have eqv := AB (m := m) (c := m - dh g (vals hs) (vals ks) 0) dk;generalize ec : m - dh g (vals hs) (vals ks) 0 = c0 at eqv;have same : ∀ {P : B -> Prop}, P (.p (.bl false)) -> C7 (.tup [.int m, .int c0, d]) (.tup [.int m, .int c0, d]) P := λ{P} h => by
    refine ⟨⟨eqv.1, eqv.1, by have := eqv.2;lia⟩, ?_⟩;rw [iD _ eqv.1];exact h
  have same' : ∀ {P : B -> Prop}, P (.p (.bl true)) -> Du (.tup [.int m, .int c0, d]) (.tup [.int m, .int c0, d]) P := λ{P} h => by
    refine ⟨⟨eqv.1, eqv.1, by have := eqv.2;lia⟩, ?_⟩;rw [iD _ eqv.1];exact h
  have lst : ∀ {P : B -> Prop}, P (.p (.tup [.int m, .int c0, d])) -> e8 CS [oD CS g hs ks n] P := λ{P} h => ⟨g, hs, ks, n, rfl, ok, λm2 d2 h2 e2 => by
    obtain rfl := h2.uniq hm;obtain rfl := mw e2 hd;rw [ec];exact h⟩
  have b1 : zM "tuple" (.tup [.int m, .int c0, d]) = true := rfl;have b2 : decide (((0 + 1 + 1 + 1 : Nat):Int) = 3) = true := by decide
  refine ic (λρ => ρ = [some (B.p (oD CS g hs ks n)), some (B.p (eJ hs ks)), some (B.p (.int g)), some (B.p (dW g (vals hs) (vals ks))), some (B.p (.tup [.int m, .int c0, d])), none, none, none]) ?_ λN hN => ?_;rotate_left
  · walk_at "rs";rw [b1, b2];refine ⟨λz => (nomatch z), λ_ => ⟨λz => (nomatch z), λ_ => ⟨m, rfl, ?_⟩⟩⟩;walk_at "rs";refine ⟨λz => (nomatch z), λ_ => ⟨c0, rfl, ?_⟩⟩;walk_at "rs";exact ⟨λz => (nomatch z), λ_ => hN _ rfl⟩
  rintro ρ rfl;refine ic (λρ => ρ = [some (B.p (oD CS g hs ks n)), some (B.p (eJ hs ks)), some (B.p (.int g)), some (B.p (dW g (vals hs) (vals ks))), some (B.p (.tup [.int m, .int c0, d])), none, none, none]) ?_ λN hN => ?_;rotate_left
  · rcases dk with rfl | ⟨L, rfl⟩
    · walk_at "rs";exact ⟨λz => (nomatch z), λ_ => ⟨λz => (nomatch z), λ_ => hN _ rfl⟩⟩
    · walk_at "rs";refine ⟨λ_ => ⟨L, rfl, ?_⟩, λz => (nomatch z)⟩;walk_at "rs";exact ⟨λz => (nomatch z), λ_ => hN _ rfl⟩
  rintro ρ rfl;refine ic (λρ => ρ = [some (B.p (oD CS g hs ks n)), some (B.p (eJ hs ks)), some (B.p (.int g)), some (B.p (dW g (vals hs) (vals ks))), some (B.p (.tup [.int m, .int c0, d])), none, none, none]) ?_ λN hN => ?_;rotate_left
  · walk_at "rs";refine ⟨g, vals hs, vals ks, rfl, ok, λm1 h1 => ?_⟩;obtain rfl := h1.uniq hm;walk_at "rs";refine ⟨g, vals hs, vals ks, rfl, ok, λm2 h2 => ?_⟩;obtain rfl := h2.uniq hm;walk_at "rs";refine ⟨g, vals hs, vals ks, rfl, ok, λm3 d3 h3 e3 => ?_⟩;obtain rfl := h3.uniq hm;obtain rfl := mw e3 hd;walk_at "rs";rw [ec];exact same ⟨λz => (nomatch z), λ_ => hN _ rfl⟩
  rintro ρ rfl;refine ic (λρ => ρ = [some (B.p (oD CS g hs ks n)), some (B.p (eJ hs ks)), some (B.p (.int g)), some (B.p (dW g (vals hs) (vals ks))), some (B.p (.tup [.int m, .int c0, d])), some (.n (.wk g) [.lst ((vals hs).map d3), .lst ((vals ks).map d3)]), none, none]) ?_ λN hN => ?_;rotate_left
  · walk_at "rs";exact ⟨g, hs, ks, n, rfl, hN _ rfl⟩
  rintro ρ rfl;refine ic (λρ => ρ = [some (B.p (oD CS g hs ks n)), some (B.p (eJ hs ks)), some (B.p (.int g)), some (B.p (dW g (vals hs) (vals ks))), some (B.p (.tup [.int m, .int c0, d])), some (.n (.wk g) [.lst ((vals hs).map d3), .lst ((vals ks).map d3)]), none, none]) ?_ λN hN => ?_;rotate_left
  · walk_at "rs";exact Ca ⟨λz => (nomatch z), λ_ => hN _ rfl⟩
  rintro ρ rfl;have lv1 : ((vals hs).map d3).length < sizeLine := by rw [length_map];exact lt1000 (Nat.le_trans ok.nh (by decide))
  have lv2 : ((vals ks).map d3).length < sizeLine := by rw [length_map];exact lt1000 (Nat.le_trans ok.nc (by decide))
  refine ic (λρ => ∃ d1, ρ = [some (B.p (oD CS g hs ks n)), some (B.p (eJ hs ks)), some (B.p (.int g)), some (B.p (dW g (vals hs) (vals ks))), some (B.p (.tup [.int m, .int c0, d])), some (.n (.wk g) [d1, .lst ((vals ks).map d3)]), none, none]) ?_ λN hN => ?_;rotate_left
  · walk_at "rs";exact ⟨_, rfl, lv1, hN _ ⟨_, rfl⟩⟩
  rintro ρ ⟨d1, rfl⟩;refine ic (λρ => ∃ y5, ρ = [some (B.p (oD CS g hs ks n)), some (B.p (eJ hs ks)), some (B.p (.int g)), some (B.p (dW g (vals hs) (vals ks))), some (B.p (.tup [.int m, .int c0, d])), some y5, none, none]) ?_ λN hN => ?_;rotate_left
  · walk_at "rs";exact ⟨_, rfl, lv2, ⟨by decide, by decide, by decide⟩, hN _ ⟨_, rfl⟩⟩
  rintro ρ ⟨y5, rfl⟩;refine ic (λρ => ∃ y5, ρ = [some (B.p (oD CS g hs ks n)), some (B.p (eJ hs ks)), some (B.p (.int g)), some (B.p (dW g (vals hs) (vals ks))), some (B.p (.tup [.int m, .int c0, d])), some y5, none, none]) ?_ λN hN => ?_;rotate_left
  · walk_at "rs";refine lst ?_;walk_at "rs";exact same ⟨λz => (nomatch z), λ_ => hN _ ⟨_, rfl⟩⟩
  clear y5;rintro ρ ⟨y5, rfl⟩;refine ic (λρ => ∃ y5, ρ = [some (B.p (oD CS g hs ks n)), some (B.p (eJ hs ks)), some (B.p (.int g)), some (B.p (dW g (vals hs) (vals ks))), some (B.p (.tup [.int m, .int c0, d])), some y5, none, none]) ?_ λN hN => ?_;rotate_left
  · walk_at "rs";refine ⟨λz => ?_, λ_ => hN _ ⟨_, rfl⟩⟩;have hz := of_decide_eq_true z;rw [length_map] at hz;have o : lH aZ (120, 80, 5) := .inl ⟨rfl, by decide, by decide, by decide, by decide, by decide⟩;refine ⟨g, hs, ks, n, aZ, (120, 80, 5), rfl, .inl rfl, um (by decide) (by decide), um (by decide) (by decide), um (by decide) (by decide), ok, ?_⟩;rw [if_neg (by unfold allOf;rw [if_pos rfl];lia), if_neg (by rw [o.bad];decide), if_neg (by rw [o.bad];decide)];exact λ_ _ _ _ => hN _ ⟨_, rfl⟩
  clear y5;rintro ρ ⟨y5, rfl⟩;refine ic (λρ => ∃ y5 y6 y7, ρ = [some (B.p (oD CS g hs ks n)), some (B.p (eJ hs ks)), some (B.p (.int g)), some (B.p (dW g (vals hs) (vals ks))), some (B.p (.tup [.int m, .int c0, d])), some y5, y6, y7]) ?_ λN hN => ?_;rotate_left
  · repeat (first | walk_at "rs2" | walk_at "rsx")
    refine yy (λ_ ρ => ∃ y6 y7, ρ = [some (B.p (oD CS g hs ks n)), some (B.p (eJ hs ks)), some (B.p (.int g)), some (B.p (dW g (vals hs) (vals ks))), some (B.p (.tup [.int m, .int c0, d])), some y5, y6, y7]) ⟨_, _, rfl⟩ ?_ (by rintro ρ ⟨y6, y7, e⟩;exact hN ρ ⟨y5, y6, y7, e⟩);rintro i x ρ hx ⟨y6, y7, rfl⟩;obtain ⟨p, hp, rfl⟩ := mem_map.mp (yn (mem_of_getElem? hx));unfold ow;walk_at "rs";refine ⟨g, hs, ks, n, p.1, rfl, sm p hp, ok, ?_⟩;rw [if_pos (.inr (decide_eq_true (mem_map.mpr ⟨p, hp, rfl⟩)))];exact λ_ _ _ _ => ⟨_, _, rfl⟩
  clear y5;rintro ρ ⟨y5, y6, y7, rfl⟩;walk_at "rs";refine lst ?_;walk_at "rs";refine same' ?_;walk_at "rs";refine ⟨λ_ => ⟨g, hs, ks, n, rfl, ?_⟩, λz => (nomatch z)⟩;walk_at "rs";exact BV q
noncomputable def clsAt (cs : h7)(i : Nat):Addr := if i = 0 then cs.Full else if i = 1 then cs.ar else if i = 2 then cs.aE else cs.aK
theorem An (TX : dB K mg cs){i : Nat}(hi : i < 4):PySem.W.exmOne K (.ref (clsAt cs i)) (.ref cs.cv) = some true := by
  obtain rfl | rfl | rfl | rfl : i = 0 \/ i = 1 \/ i = 2 \/ i = 3 := by lia
  · exact TX.jH
  · exact TX.gR
  · exact TX.hX
  · exact TX.hV
noncomputable def j3 (k : Str)(x : S3)(hs ks : cL):Nat := if 12 <= (allOf k hs ks).length then 0 else if bZ k x = 1 then 1 else if bZ k x = 2 then 2 else 9
theorem wj {k : Str}{x : S3}{hs ks : cL}{Z : Value -> Prop}{W : Prop}(hd : j3 k x hs ks < 4)(hz : Z (.ref (clsAt cs (j3 k x hs ks)))):if 12 <= (allOf k hs ks).length then Z (.ref cs.Full) else if bZ k x = 1 then Z (.ref cs.ar) else if bZ k x = 2 then Z (.ref cs.aE) else W := by
  unfold j3 at hd hz;by_cases f1 : 12 <= (allOf k hs ks).length
  · rw [if_pos f1] at hz ⊢;exact hz
  rw [if_neg f1] at hd hz ⊢;by_cases f2 : bZ k x = 1
  · rw [if_pos f2] at hz ⊢;exact hz
  rw [if_neg f2] at hd hz ⊢;by_cases f3 : bZ k x = 2
  · rw [if_pos f3] at hz ⊢;exact hz
  rw [if_neg f3] at hd;exact absurd hd (by decide)
theorem yu {k : Str}{x : S3}{hs ks : cL}{H : Hp}{E : XK}{W : Prop}(hd : j3 k x hs ks < 4)(hz : ∀ H', ak H H' -> E (.ref (clsAt cs (j3 k x hs ks))) none H'):if 12 <= (allOf k hs ks).length then ∀ H', ak H H' -> E (.ref cs.Full) none H' else if bZ k x = 1 then ∀ H', ak H H' -> E (.ref cs.ar) none H' else if bZ k x = 2 then ∀ H', ak H H' -> E (.ref cs.aE) none H' else W :=
  wj (Z := λcls => ∀ H', ak H H' -> E cls none H') hd hz
theorem sC {k : Str}{x : S3}{hs ks : cL}{H : Hp}{E : XK}{Q : VK}{a dx b c : Addr}{g n : Int}(ha : H a = some (.ins CS dx (eB g b c n)))(hb : bz H H b hs)(hc : bz H H c ks)(nh : hs.length <= 12)(nk : ks.length <= 12)(h1 : Sm x.1)(h2 : Sm x.2.1)(h3 : Sm x.2.2)(hd : j3 k x hs ks < 4)
    (hz : ∀ H', ak H H' -> E (.ref (clsAt cs (j3 k x hs ks))) none H'):kO k cs CS [.ref a, .int x.1, .int x.2.1, .int x.2.2] H Q E := by
  obtain ⟨es, e, l⟩ : ∃ es : List (Key × V), H (if k = aZ then b else c) = some (.dK es) /\ es.length <= 12 := by
    obtain ⟨e1, x1, p1⟩ := hb;obtain ⟨e2, x2, p2⟩ := hc;by_cases f : k = aZ
    · rw [if_pos f];exact ⟨e1, x1, by rw [Paired.length p1];exact nh⟩
    · rw [if_neg f];exact ⟨e2, x2, by rw [Paired.length p2];exact nk⟩
  exact ⟨a, dx, b, c, g, n, hs, ks, x, es, rfl, ha, hb, hc, e, lt1000 (Nat.le_trans l (by decide)), h1, h2, h3, yu hd hz⟩
noncomputable def Nums (hs : cL)(n : Int):Prop := (hs.map (·.1)).Nodup /\ ∀ p ∈ hs, 1 <= p.1 /\ p.1 <= n
structure Ob (CS : Addr)(H : Hp)(a dx b c : Addr)(g n : Int)(hs ks : cL):Prop where
  ne : b ≠ c
  ia : H a = some (.ins CS dx (eB g b c n))
  hb : bz H H b hs
  hc : bz H H c ks
  n0 : 0 <= n
  nh : Nums hs n
  nk : Nums ks n
  dj : ∀ p ∈ hs, ∀ r ∈ ks, p.1 ≠ r.1
noncomputable def Kept (ex : List Addr)(H H' : Hp):Prop := ∀ y o, H y = some o -> y ∉ ex -> H' y = some o
theorem Kept.trans {ex : List Addr}{H H' H2 : Hp}(h : Kept ex H H')(h' : Kept ex H' H2):Kept ex H H2 := λy o e n => h' y o (h y o e n) n
theorem Kept.of {ex : List Addr}{H H' : Hp}(h : ak H H'):Kept ex H H' := λy o e _ => h y o e
section
variable {H H1 H2 : Hp} {a dx b c : Addr} {g n : Int} {hs ks : cL}
theorem Ob.mono (O : Ob CS H a dx b c g n hs ks)(s : ak H H1):Ob CS H1 a dx b c g n hs ks :=
  ⟨O.ne, s _ _ O.ia, O.hb.mono s (s b), O.hc.mono s (s c), O.n0, O.nh, O.nk, O.dj⟩
theorem Ob.rep (O : Ob CS H a dx b c g n hs ks):Rep K H (.ref a) (oD CS g hs ks n) := .ext ⟨dx, b, c, O.ia, O.hb, O.hc⟩
theorem Ob.Em (O : Ob CS H a dx b c g n hs ks):a ≠ b /\ a ≠ c := by
  obtain ⟨eb, xb, pb⟩ := O.hb;obtain ⟨ec, xc, pc⟩ := O.hc;exact ⟨ix O.ia xb (by intro z;cases z), ix O.ia xc (by intro z;cases z)⟩
theorem Ob.lst (O : Ob CS H a dx b c g n hs ks){y : Addr}{xs : List V}(e : H y = some (.lst xs)):y ∉ [a, b, c] := by
  obtain ⟨eb, xb, pb⟩ := O.hb;obtain ⟨ec, xc, pc⟩ := O.hc;intro m;rcases List.mem_cons.mp m with rfl | m
  · rw [O.ia] at e;cases e
  rcases List.mem_cons.mp m with rfl | m
  · rw [xb] at e;cases e
  rcases List.mem_cons.mp m with rfl | m
  · rw [xc] at e;cases e
  · cases m
theorem Ob.tup (O : Ob CS H a dx b c g n hs ks){y : Addr}{xs : List V}(e : H y = some (.tup xs)):y ∉ [a, b, c] := by
  obtain ⟨eb, xb, pb⟩ := O.hb;obtain ⟨ec, xc, pc⟩ := O.hc;intro m;rcases List.mem_cons.mp m with rfl | m
  · rw [O.ia] at e;cases e
  rcases List.mem_cons.mp m with rfl | m
  · rw [xb] at e;cases e
  rcases List.mem_cons.mp m with rfl | m
  · rw [xc] at e;cases e
  · cases m
theorem j2 {y : Addr}{l : cL}(h : bz H H y l)(kb : ∀ o, H y = some o -> H2 y = some o)(kt : ∀ t xs, H t = some (.tup xs) -> H2 t = some (.tup xs)):bz H2 H2 y l := by
  obtain ⟨es, e, p⟩ := h;exact ⟨es, kb _ e, Paired.imp' (by rintro _ _ ⟨h1, t, h2, h3⟩;exact ⟨h1, t, h2, kt _ _ h3⟩) p⟩
noncomputable def km (k : Str)(hs : cL)(n : Int)(x : S3):cL := if k = aZ then hs ++ [(n, x)] else hs
noncomputable def kj (k : Str)(ks : cL)(n : Int)(x : S3):cL := if k = aZ then ks else ks ++ [(n, x)]
theorem Nums.more {l : cL}(h : Nums l n):Nums l (n + 1) := ⟨h.1, λp hp => ⟨(h.2 p hp).1, by have := (h.2 p hp).2;lia⟩⟩
theorem Nums.snoc {l : cL}{x : S3}(h : Nums l n)(n0 : 0 <= n):Nums (l ++ [(n + 1, x)]) (n + 1) := by
  refine ⟨?_, λp hp => ?_⟩
  · rw [map_append, nodup_append];refine ⟨h.1, by simp, λp hp r hr z => ?_⟩;obtain ⟨q, hq, rfl⟩ := mem_map.mp hp;have := (h.2 q hq).2;simp at hr;lia
  · rcases mem_append.mp hp with hp | hp
    · exact h.more.2 p hp
    · rw [mem_singleton.mp hp];exact ⟨by show 1 <= n + 1;lia, Int.le_refl _⟩
theorem Nums.no {l : cL}(h : Nums l n):cG l (n + 1) = false := by
  unfold cG;refine decide_eq_false λm => ?_;obtain ⟨p, hp, e⟩ := mem_map.mp m;have := (h.2 p hp).2;lia
theorem uo {y t : Addr}{l : cL}{x : S3}{es : List (Key × V)}(p : Paired (E3 H) es l)(kt : ∀ t xs, H t = some (.tup xs) -> H2 t = some (.tup xs))(no : cG l (n + 1) = false)(et : H2 t = some (.tup [.int x.1, .int x.2.1, .int x.2.2]))(e : H2 y = some (.dK (putK es (Sum.inl (n + 1)) (.ref t)))):bz H2 H2 y (l ++ [(n + 1, x)]) := by
  have nv : gH es (Sum.inl (n + 1)) = none := by
    have := mK (n + 1) p;rw [no] at this;exact Option.not_isSome_iff_eq_none.mp (by rw [this];decide)
  rw [xy _ nv] at e;exact ⟨_, e, Paired.snoc (Paired.imp' (by rintro _ _ ⟨h1, t, h2, h3⟩;exact ⟨h1, t, h2, kt _ _ h3⟩) p) ⟨rfl, t, rfl, et⟩⟩
theorem ue {k : Str}{x : S3}{E : XK}{Q : VK}(O : Ob CS H a dx b c g n hs ks)(hk : k = aZ \/ k = bt)(nh : hs.length <= 12)(nk : ks.length <= 12)(f1 : (allOf k hs ks).length < 12)(f2 : bZ k x = 0)(h1 : Sm x.1)(h2 : Sm x.2.1)(h3 : Sm x.2.2)
    (q : ∀ H2, Ob CS H2 a dx b c g (n + 1) (km k hs (n + 1) x) (kj k ks (n + 1) x) -> Kept [a, b, c] H H2 -> Q (.int (n + 1)) H2):kO k cs CS [.ref a, .int x.1, .int x.2.1, .int x.2.2] H Q E := by
  obtain ⟨nab, nac⟩ := O.Em;obtain ⟨eb, xb, pb⟩ := id O.hb;obtain ⟨ec, xc, pc⟩ := id O.hc;have lb : eb.length <= 12 := by rw [Paired.length pb];exact nh
  have lc : ec.length <= 12 := by rw [Paired.length pc];exact nk
  rcases hk with rfl | rfl
  · refine ⟨a, dx, b, c, g, n, hs, ks, x, eb, rfl, O.ia, O.hb, O.hc, by rw [if_pos rfl];exact xb, lt1000 (Nat.le_trans lb (by decide)), h1, h2, h3, ?_⟩;rw [if_neg (by lia), if_neg (by rw [f2];decide), if_neg (by rw [f2];decide)];intro H1 t s nt et;rw [if_pos rfl];have kt : ∀ (y : Addr) (o : HO), H1 y = some o -> y ≠ a -> y ≠ b -> (upd (upd H1 a (.ins CS dx (eB g b c (n + 1)))) b (.dK (putK eb (Sum.inl (n + 1)) (.ref t)))) y = some o := λy o e z1 z2 => by
      rw [af z2, af z1];exact e
    have tb : ∀ y xs, H1 y = some (.tup xs) -> (upd (upd H1 a (.ins CS dx (eB g b c (n + 1)))) b (.dK (putK eb (Sum.inl (n + 1)) (.ref t)))) y = some (.tup xs) := λy xs e =>
      kt y _ e (ix e (s _ _ O.ia) (by intro z;cases z)) (ix e (s _ _ xb) (by intro z;cases z))
    refine q _ ⟨O.ne, by rw [af nab];exact ah, ?_, ?_, by have := O.n0;lia, ?_, ?_, ?_⟩ λy o e m => kt y o (s _ _ e) (λz => m (by simp [z])) λz => m (by simp [z])
    · unfold km;rw [if_pos rfl];exact uo pb (λy xs e => tb y xs (s _ _ e)) O.nh.no (tb _ _ et) ah
    · unfold kj;rw [if_pos rfl];exact j2 (O.hc.mono s (s c)) (λo e => kt c o e (Ne.symm nac) (Ne.symm O.ne)) tb
    · unfold km;rw [if_pos rfl];exact O.nh.snoc O.n0
    · unfold kj;rw [if_pos rfl];exact O.nk.more
    · unfold km kj;rw [if_pos rfl, if_pos rfl];intro p hp r hr;rcases mem_append.mp hp with hp | hp
      · exact O.dj p hp r hr
      · rw [mem_singleton.mp hp];have := (O.nk.2 r hr).2;show n + 1 ≠ r.1;lia
  · have ch : ¬ bt = aZ := jA;refine ⟨a, dx, b, c, g, n, hs, ks, x, ec, rfl, O.ia, O.hb, O.hc, by rw [if_neg ch];exact xc, lt1000 (Nat.le_trans lc (by decide)), h1, h2, h3, ?_⟩;rw [if_neg (by lia), if_neg (by rw [f2];decide), if_neg (by rw [f2];decide)];intro H1 t s nt et;rw [if_neg ch];have kt : ∀ (y : Addr) (o : HO), H1 y = some o -> y ≠ a -> y ≠ c -> (upd (upd H1 a (.ins CS dx (eB g b c (n + 1)))) c (.dK (putK ec (Sum.inl (n + 1)) (.ref t)))) y = some o := λy o e z1 z2 => by
      rw [af z2, af z1];exact e
    have tb : ∀ y xs, H1 y = some (.tup xs) -> (upd (upd H1 a (.ins CS dx (eB g b c (n + 1)))) c (.dK (putK ec (Sum.inl (n + 1)) (.ref t)))) y = some (.tup xs) := λy xs e =>
      kt y _ e (ix e (s _ _ O.ia) (by intro z;cases z)) (ix e (s _ _ xc) (by intro z;cases z))
    refine q _ ⟨O.ne, by rw [af nac];exact ah, ?_, ?_, by have := O.n0;lia, ?_, ?_, ?_⟩ λy o e m => kt y o (s _ _ e) (λz => m (by simp [z])) λz => m (by simp [z])
    · unfold km;rw [if_neg ch];exact j2 (O.hb.mono s (s b)) (λo e => kt b o e (Ne.symm nab) O.ne) tb
    · unfold kj;rw [if_neg ch];exact uo pc (λy xs e => tb y xs (s _ _ e)) O.nk.no (tb _ _ et) ah
    · unfold km;rw [if_neg ch];exact O.nh.more
    · unfold kj;rw [if_neg ch];exact O.nk.snoc O.n0
    · unfold km kj;rw [if_neg ch, if_neg ch];intro p hp r hr;rcases mem_append.mp hr with hr | hr
      · exact O.dj p hp r hr
      · rw [mem_singleton.mp hr];have := (O.nh.2 p hp).2;show p.1 ≠ n + 1;lia
theorem jC {l : cL}{i : Int}(h : cG l i = false):bJ l i = l := by
  unfold bJ;refine List.filter_eq_self.mpr λp hp => decide_eq_true λz => ?_;exact of_decide_eq_false h (mem_map.mpr ⟨p, hp, z⟩)
theorem Nums.drop {l : cL}(h : Nums l n)(i : Int):Nums (bJ l i) n := ⟨List.Nodup.sublist (List.Sublist.map _ filter_sublist) h.1, λp hp => h.2 p (List.mem_filter.mp hp).1⟩
theorem nM {G : Hp}{l : cL}{es : List (Key × V)}(i : Int)(p : Paired (E3 G) es l):Paired (E3 G) (e5 es (Sum.inl i)) (bJ l i) := by
  induction p with
  | nil => exact .nil
  | @cons x y r r' f _ ih =>
    by_cases e : y.1 = i
    · rw [uM (by rw [f.1, e])];unfold bJ;rw [List.filter_cons_of_neg (by simp [e])];exact ih
    · rw [uL (by rw [f.1];intro z;exact e (Sum.inl.inj z))];unfold bJ;rw [List.filter_cons_of_pos (by simp [e])];exact .cons f ih
theorem nQ {G : Hp}{l : cL}{es : List (Key × V)}{i : Int}(p : Paired (E3 G) es l)(h : cG l i = true):∃ t x, gH es (Sum.inl i) = some (.ref t) /\ (i, x) ∈ l /\ G t = some (.tup [.int x.1, .int x.2.1, .int x.2.2]) := by
  induction p with
  | nil => cases h
  | @cons x y r r' f _ ih =>
    by_cases e : y.1 = i
    · obtain ⟨f1, t, f2, f3⟩ := f;exact ⟨t, y.2, by rw [iM (by rw [f1, e]), f2], by rw [<- e];exact mem_cons_self, f3⟩
    · have h' : cG r' i = true := by
        unfold cG at h ⊢;refine decide_eq_true ?_;have := of_decide_eq_true h;rw [map_cons, List.mem_cons] at this;exact this.resolve_left λz => e z.symm
      obtain ⟨t, z, h1, h2, h3⟩ := ih h';exact ⟨t, z, by rw [iL (by rw [f.1];intro w;exact e (Sum.inl.inj w))];exact h1, mem_cons_of_mem _ h2, h3⟩
theorem yY {i : Int}{E : XK}{Q : VK}(O : Ob CS H a dx b c g n hs ks)(hi : Sm i)(h : cG hs i = true \/ cG ks i = true)
    (q : ∀ t x H2, ((i, x) ∈ hs \/ (i, x) ∈ ks) -> H2 t = some (.tup [.int x.1, .int x.2.1, .int x.2.2]) -> Ob CS H2 a dx b c g n (bJ hs i) (bJ ks i) -> Kept [a, b, c] H H2 -> Q (.ref t) H2):n5 cs CS [.ref a, .int i] H Q E := by
  obtain ⟨nab, nac⟩ := O.Em;obtain ⟨eb, xb, pb⟩ := id O.hb;obtain ⟨ec, xc, pc⟩ := id O.hc;refine ⟨a, dx, b, c, g, n, i, hs, ks, rfl, O.ia, O.hb, O.hc, hi, ?_⟩;have dj' : ∀ p ∈ bJ hs i, ∀ r ∈ bJ ks i, p.1 ≠ r.1 := λp hp r hr => O.dj p (List.mem_filter.mp hp).1 r (List.mem_filter.mp hr).1;by_cases f1 : cG hs i = true
  · rw [if_pos f1];obtain ⟨t, x, v1, v2, v3⟩ := nQ pb f1;have f2 : cG ks i = false := by
      unfold cG at f1 ⊢;refine decide_eq_false λm => ?_;obtain ⟨p, hp, e⟩ := mem_map.mp (of_decide_eq_true f1);obtain ⟨r, hr, e'⟩ := mem_map.mp m;exact O.dj p hp r hr (by rw [e, e'])
    have tb : ∀ y xs, H y = some (.tup xs) -> (upd H b (.dK (e5 eb (Sum.inl i)))) y = some (.tup xs) := λy xs e => by rw [af (ix e xb (by intro z;cases z))];exact e
    refine ⟨eb, _, xb, v1, q t x _ (.inl v2) (tb _ _ v3) ⟨O.ne, by rw [af nab];exact O.ia, ⟨_, ah, Paired.imp' (by rintro _ _ ⟨h1, t, h2, h3⟩;exact ⟨h1, t, h2, tb _ _ h3⟩) (nM i pb)⟩, ?_, O.n0, O.nh.drop i, O.nk.drop i, dj'⟩ λy o e m => by rw [af λz => m (by simp [z])];exact e⟩;rw [jC f2];exact j2 O.hc (λo e => by rw [af (Ne.symm O.ne)];exact e) tb
  · have f2 := h.resolve_left f1;rw [if_neg f1, if_pos f2];obtain ⟨t, x, v1, v2, v3⟩ := nQ pc f2;have tb : ∀ y xs, H y = some (.tup xs) -> (upd H c (.dK (e5 ec (Sum.inl i)))) y = some (.tup xs) := λy xs e => by rw [af (ix e xc (by intro z;cases z))];exact e
    refine ⟨ec, _, xc, v1, q t x _ (.inr v2) (tb _ _ v3) ⟨O.ne, by rw [af nac];exact O.ia, ?_, ⟨_, ah, Paired.imp' (by rintro _ _ ⟨h1, t, h2, h3⟩;exact ⟨h1, t, h2, tb _ _ h3⟩) (nM i pc)⟩, O.n0, O.nh.drop i, O.nk.drop i, dj'⟩ λy o e m => by rw [af λz => m (by simp [z])];exact e⟩;rw [jC (Bool.not_eq_true _ |>.mp f1)];exact j2 O.hb (λo e => by rw [af O.ne];exact e) tb
end
theorem rP {t : DT}{σ : St}{H : Hp}{Q : VK}(ρ : aD)(d : D)(re : cW K H σ ρ)(h : t ρ λb => b = .p d)(k : ∀ v H', ak H H' -> Rep K H' v d -> Q v H'):cE K t σ H Q :=
  ⟨H, ρ, _, ak.refl _, re, h, λb v H' G' e w r => by subst e;exact k v H' w.hh (Rep.mono w.gh r)⟩
theorem gM {t : DT}{σ : St}{H : Hp}{Q : VK}(ρ : aD)(i : Int)(re : cW K H σ ρ)(h : t ρ λb => b = .p (.int i))(k : ∀ H', ak H H' -> Q (.int i) H'):cE K t σ H Q :=
  rP ρ _ re h λv H' s r => by cases r;exact k H' s
theorem bx {G : Hp}{σ : St}:cW K G σ [] := λi d e => by cases e
theorem aA {G : Hp}{σ : St}{ρ : aD}{v : V}{d : D}(r : Rep K G v d)(h : cW K G σ ρ):cW K G (some v :: σ) (some (.p d) :: ρ) := λi d' e => by
  cases i with
  | zero => cases e;exact ⟨v, rfl, r⟩
  | succ i =>
    obtain ⟨u, h1, h2⟩ := h i d' e;exact ⟨u, by simpa using h1, h2⟩
theorem ao {G : Hp}{σ : St}{ρ : aD}{o : Option V}(h : cW K G σ ρ):cW K G (o :: σ) (none :: ρ) := λi d' e => by
  cases i with
  | zero => cases e
  | succ i =>
    obtain ⟨u, h1, h2⟩ := h i d' e;exact ⟨u, by simpa using h1, h2⟩
structure Run (CS : Addr)(H0 H : Hp)(a dx b c : Addr)(g n : Int)(hs ks : cL):Prop where
  ob : Ob CS H a dx b c g n hs ks
  sm : ak H0 H
  na : H0 a = none
  nb : H0 b = none
  nc : H0 c = none
section
variable {H0 H H2 : Hp} {a dx b c : Addr} {g n n' : Int} {hs ks hs' ks' : cL}
end
theorem zo {H H1 : Hp}{x dx b c : Addr}{g : Int}{o1 o2 : HO}(s : ak H H1)(hx : H1 x = none)(hd : H1 dx = none)(hb : (upd (upd H1 dx o1) x o2) b = none)(hc : (upd (upd H1 dx o1) x o2) c = none)(ne : b ≠ c) :
    Run CS H (upd (upd (upd (upd (upd H1 dx o1) x o2) b (.dK [])) c (.dK [])) x (.ins CS dx (eB g b c 0))) x dx b c g 0 [] [] := by
  have xb : b ≠ x := λz => by rw [z, ah] at hb;cases hb
  have xc : c ≠ x := λz => by rw [z, ah] at hc;cases hc
  rw [af xb] at hb;rw [af xc] at hc;have db : b ≠ dx := λz => by rw [z, ah] at hb;cases hb
  have dc : c ≠ dx := λz => by rw [z, ah] at hc;cases hc
  rw [af db] at hb;rw [af dc] at hc;refine ⟨⟨ne, ah, ⟨[], by rw [af xb, af ne];exact ah, .nil⟩, ⟨[], by rw [af xc];exact ah, .nil⟩, Int.le_refl _, ⟨.nil, λ_ h => (nomatch h)⟩, ⟨.nil, λ_ h => (nomatch h)⟩, λ_ h => (nomatch h)⟩, λy o e => ?_, s.free hx, s.free hb, s.free hc⟩;have e1 := s _ _ e;rw [af (aH e1 hx), af (aH e1 hc), af (aH e1 hb), af (aH e1 hx), af (aH e1 hd)];exact e1
theorem eK {t u : TS}{D : Ends}{σ : St}{H : Hp}(C : St -> Hp -> Prop)(tail : ∀ σ H, C σ H -> u D σ H)(head : ∀ N : St -> Hp -> Prop, (∀ σ H, C σ H -> N σ H) -> t { D with nx := N } σ H):Bo t u D σ H := head _ tail
noncomputable def jf (CS : Addr):DR := λds Q => ∃ (g n c ba : Int) (hs ks : cL), ds = [oD CS g hs ks n, .int c, .int ba] /\ 0 <= ba /\ ba < 200 /\ dS g (vals hs) (vals ks) /\ (∀ i : Int, 1000 <= i -> cG hs i = false /\ cG ks i = false) /\ Q (.p (.bl true))
theorem iP {k : Str}{x : S3}{hs ks : cL}(h : bZ k x = 1 \/ bZ k x = 2):j3 k x hs ks < 4 := by
  unfold j3;by_cases f1 : 12 <= (allOf k hs ks).length
  · rw [if_pos f1];decide
  rw [if_neg f1];rcases h with h | h
  · rw [h];decide
  · rw [h];decide
theorem sT {lo hi ra : Int}(d : vy lo hi ra):bZ aZ (lo, hi, ra) = 2 := by
  have := d.l0;have := d.lt;have := d.h1;have := d.r0;have := d.r1;unfold bZ;rw [if_neg (by dsimp only;lia), if_pos (.inl ⟨rfl, by dsimp only;lia⟩)]
theorem qd {lo hi ra : Int}(d : vy lo hi ra):bZ bt (hi, lo, ra) = 2 := by
  have := d.l0;have := d.lt;have := d.h1;have := d.r0;have := d.r1;unfold bZ;rw [if_neg (by dsimp only;lia), if_pos (.inr ⟨rfl, by dsimp only;lia⟩)]
theorem vF {lo hi : Int}:bZ bt (lo, hi, 0) = 1 := by
  unfold bZ;rw [if_pos (by dsimp only;lia)]
theorem vE {lo hi ra : Int}(l0 : 0 <= lo):bZ aZ (hi, -1 - lo, ra) = 1 := by
  unfold bZ;rw [if_pos (by dsimp only;lia)]
theorem cols {vs : List V}{G : Hp}{a b c : Int}(r : bE K G vs [.int a, .int b, .int c]):vs = [.int a, .int b, .int c] := by
  cases r with | cons r1 r => cases r with | cons r2 r => cases r with | cons r3 r => cases r;cases r1;cases r2;cases r3;rfl
theorem mq (T : iX mg)(TX : dB K mg cs)(TC : dR K mg CS)(F_law_stream : Fn P w K mg base "_law_stream" 2 ["cell", "base"] (e6 K g5))(F_law_stir : Fn P w K mg base "_law_stir" 1 ["cell", "k"] (e6 K aF)){a_Streams_put_hot : Addr}{fd_Streams_put_hot : FuncData}(FV_Streams_put_hot : aI P w K mg base (fP P w) 5 a_Streams_put_hot fd_Streams_put_hot ["self", "start", "goal", "rate"] (kO aZ cs CS))(MV_Streams_put_hot : Meth K CS "put_hot" a_Streams_put_hot)(BV_Streams_put_hot : Binds K fd_Streams_put_hot ["self", "start", "goal", "rate"] []){a_Streams_put_cold : Addr}{fd_Streams_put_cold : FuncData}(FV_Streams_put_cold : aI P w K mg base (fP P w) 5 a_Streams_put_cold fd_Streams_put_cold ["self", "start", "goal", "rate"] (kO bt cs CS))(MV_Streams_put_cold : Meth K CS "put_cold" a_Streams_put_cold)(BV_Streams_put_cold : Binds K fd_Streams_put_cold ["self", "start", "goal", "rate"] []){a_Streams_take_out : Addr}{fd_Streams_take_out : FuncData}(FV_Streams_take_out : aI P w K mg base (fP P w) 2 a_Streams_take_out fd_Streams_take_out ["self", "number"] (n5 cs CS))(MV_Streams_take_out : Meth K CS "take_out" a_Streams_take_out)(BV_Streams_take_out : Binds K fd_Streams_take_out ["self", "number"] [])(FMX_Streams_change_with : xY P w K mg base CS "change_with" 6 ["self", "kind", "start", "goal", "rate"] (cQ cs CS))(F : fQ K "_law_refused" "_law_refused" de f fd):aI P w K mg base gI 7 f fd ["streams", "cell", "base"] (e6 K (jf CS)) := by
  refine aI.drop (F.x6 bO (λvs H Q E h => ?_) λcdv A outer s H vs Q E hr h => ?_) λ_ _ _ _ h => h
  · obtain ⟨ds, G, P, sg, r, ⟨g, n, c, ba, hs, ks, rfl, _⟩, _⟩ := h;have := Paired.length r;exact this
  · obtain ⟨ds, G, P, sg, r, ⟨g, n, ce, ba, hs, ks, rfl, ba0, ba1, ok, no, q⟩, kk⟩ := h;obtain ⟨v0, rfl, r0⟩ : ∃ v0, vs = [v0, .int ce, .int ba] /\ Rep K G v0 (oD CS g hs ks n) := by
      cases r with | cons a r => cases r with | cons b r => cases r with | cons c r => cases r;cases b;cases c;exact ⟨_, rfl, a⟩
    obtain ⟨a, dx, b, c, rfl, ha, hb, hc⟩ := id r0.gW;have nh : hs.length <= 12 := by have := ok.nh;unfold vals at this;rw [length_map] at this;exact this
    have nk : ks.length <= 12 := by have := ok.nc;unfold vals at this;rw [length_map] at this;exact this
    obtain ⟨f1, fd1, F1, m1, b1⟩ := FMX_Streams_change_with.ex;refine ⟨_, aw (xq ((aP F_law_stream (hr.mono (by decide)) (by rfl) (aa (dv 1) (aa (dv 2) ai)))).pe (gZ rfl (aR (aS (i := 3) bO.nd rfl (Or.inl rfl)) (aR (aS (i := 4) bO.nd rfl (Or.inl rfl)) (aR (aS (i := 5) bO.nd rfl (Or.inl rfl)) fo)))))
      (aw (df (i := 6) bO.nd rfl (Or.inl rfl) ((aJ bH (aP F_law_stir (hr.mono (by decide)) (by rfl) (aa (dv 1) (aa ag ai))) ag)).pe)
      (aw (df (i := 7) bO.nd rfl (Or.inl rfl) nY)
      (aw (A8 bA
        (uw (eF jd (pv 6) cf (aQ _)) (jX (jI (pv 0) TC.cl MV_Streams_put_hot FV_Streams_put_hot (hr.mono (by decide)) BV_Streams_put_hot (aj (pv 3) (aj (pv 4) (aj (pv 5) aN)))))
          (uw (eF jd (pv 6) cf (aQ _)) (jX (jI (pv 0) TC.cl MV_Streams_put_cold FV_Streams_put_cold (hr.mono (by decide)) BV_Streams_put_cold (aj (pv 3) (aj (pv 4) (aj cf aN)))))
            (uw (eF jd (pv 6) cf (aQ _)) (jX (jI (pv 0) TC.cl MV_Streams_take_out FV_Streams_take_out (hr.mono (by decide)) BV_Streams_take_out (aj (zV wY cf (pv 3)) aN)))
              (uw (eF jd (pv 6) cf (aQ _)) (jX (jI (pv 0) TC.cl m1 F1 (hr.mono (by decide)) b1 (aj ki (aj (pv 4) (aj ((aJ ke (Aw ag) (dv 3))).pe (aj (pv 5) aN))))))
                (jX (jI (pv 0) TC.cl MV_Streams_put_cold FV_Streams_put_cold (hr.mono (by decide)) BV_Streams_put_cold (aj (pv 4) (aj (pv 3) (aj (pv 5) aN)))))))))
        (zb (by rfl) TX.rF.at_ (λea oe cls hcl => aM (df (i := 7) bO.nd rfl (Or.inl rfl) nY)) A4))
      (aM (eE (xi (pv 7))))))), ?_⟩
    refine eK (λσ H1 => ∃ lo hi ra : Int, vy lo hi ra /\ σ = [some (.ref a), some (.int ce), some (.int ba), some (.int lo), some (.int hi), some (.int ra), none, none] /\ ak H H1) ?_ λN hN => ?_;rotate_left
    · refine lJ [none, some (.p (.int ce)), some (.p (.int ba))] (λb => ∃ lo hi ra, vy lo hi ra /\ b = .o (.lst [.int lo, .int hi, .int ra])) (ao (aA (.int _) (aA (.int _) bx))) ?_ λb0 v H1 ⟨lo, hi, ra, dr, e⟩ s1 r1 => ?_
      · walk_at "rs";exact ⟨ce, ba, rfl, ba0, ba1, λlo hi ra dr => ⟨lo, hi, ra, dr, rfl⟩⟩
      · subst e;obtain ⟨l, us, rfl, el, rr⟩ := r1.lst_inv;obtain rfl := cols rr;exact ⟨l, _, rfl, .inr (dD.of el), rfl, _, _, rfl, _, _, rfl, _, _, rfl, rfl, hN _ _ ⟨lo, hi, ra, dr, rfl, s1⟩⟩
    rintro σ H1 ⟨lo, hi, ra, dr, rfl, s1⟩;refine eK (λσ H1 => ∃ w : Int, σ = [some (.ref a), some (.int ce), some (.int ba), some (.int lo), some (.int hi), some (.int ra), some (.int w), none] /\ ak H H1) ?_ λN hN => ?_;rotate_left
    · refine gM [none, some (.p (.int ce))] (fi ce 5 % 5) (ao (aA (.int _) bx)) ?_ λH2 s2 => hN _ _ ⟨_, rfl, s1.trans s2⟩;repeat (first | dsimp only [aF] | walk_at "rs1" | walk_at "rsx")
      exact ⟨by decide, trivial⟩
    clear s1 H1;rintro σ H1 ⟨w, rfl, s1⟩;have haH := s1 _ _ (sg _ _ ha);have hbH := (hb.mono sg (sg b)).mono s1 (s1 b);have hcH := (hc.mono sg (sg c)).mono s1 (s1 c);have l0 := dr.l0;have lt := dr.lt;have h1 := dr.h1;have ra0 := dr.r0;have ra1 := dr.r1;have sl : Sm lo := um (by lia) (by lia);have sh : Sm hi := um (by lia) (by lia);have sr : Sm ra := um (by lia) (by lia);have go : ∀ (i : Nat) (H2 : Hp), i < 4 -> ak H1 H2 -> uu K (.ref cs.cv) (λcls D σ H => ∀ ea : Addr, Bk (tC (.bl false)) (qJ 7) D σ H) (λ_ _ _ _ => False) (.ref (clsAt cs i)) { nx := CV (zY (zu 7)) { nx := λ_ H' => Q .non H', rt := Q }, rt := Q } [some (.ref a), some (.int ce), some (.int ba), some (.int lo), some (.int hi), some (.int ra), some (.int w), some (.bl true)] H2 :=
      λi H2 hi' s2 => ⟨true, An TX hi', oW λea => ⟨_, rfl, false, rfl, kk _ _ H2 G q ⟨s1.trans s2, ak.refl _, (sg.trans s1).trans s2, λ_ _ => rfl⟩ (.bl true)⟩⟩
    refine ⟨_, rfl, rfl, _, rfl, jM (λz => ?_) λz => ⟨_, rfl, rfl, _, rfl, jM (λz => ?_) λz => ⟨_, rfl, rfl, _, rfl, jM (λz => ?_) λz => ⟨_, rfl, rfl, _, rfl, jM (λz => ?_) λz => ?_⟩⟩⟩⟩
    · refine ⟨_, rfl, a, dx, _, rfl, haH, rfl, _, rfl, _, rfl, _, rfl, ?_⟩;dsimp only [sI];exact sC (x := (lo, hi, ra)) haH hbH hcH nh nk sl sh sr (iP (.inr (sT dr))) λH2 s2 => go _ H2 (iP (.inr (sT dr))) s2
    · refine ⟨_, rfl, a, dx, _, rfl, haH, rfl, _, rfl, _, rfl, ?_⟩;dsimp only [zX, tC, sI];have d0 : j3 bt (lo, hi, 0) hs ks < 4 := iP (.inl vF);exact sC (x := (lo, hi, 0)) haH hbH hcH nh nk sl sh (um (i := 0) (by decide) (by decide)) d0 λH2 s2 => go _ H2 d0 s2
    · obtain ⟨n1, n2⟩ := no (1000 + lo) (by lia);refine ⟨_, rfl, a, dx, _, rfl, haH, rfl, _, rfl, _, _, rfl, rfl, a, dx, b, c, g, n, _, hs, ks, rfl, haH, hbH, hcH, um (by lia) (by lia), ?_⟩;rw [if_neg (by rw [n1];decide), if_neg (by rw [n2];decide)];exact λH2 s2 => go 3 H2 (by decide) s2
    · refine ⟨_, rfl, a, dx, _, rfl, haH, rfl, _, rfl, ?_⟩;refine gM [none, none, none, some (.p (.int lo))] (-1 - lo) (ao (ao (ao (aA (.int _) bx)))) ?_ λH2 s2 => ?_
      · walk_at "rs"
      have d0 : j3 aZ (hi, -1 - lo, ra) hs ks < 4 := iP (.inl (vE l0));exact ⟨_, rfl, _, G, λ_ => False, λcls => cls = .ref (clsAt cs (j3 aZ (hi, -1 - lo, ra) hs ks)), (sg.trans s1).trans s2, .cons r0 (.cons (.str aZ) (.cons (.int _) (.cons (.int _) (.cons (.int _) .nil)))), ⟨g, hs, ks, n, aZ, (hi, -1 - lo, ra), rfl, .inl rfl, sh, um (i := -1 - lo) (by lia) (by lia), sr, ok, wj (Z := λcls => cls = .ref (clsAt cs (j3 aZ (hi, -1 - lo, ra) hs ks))) d0 rfl⟩, λ_ _ _ _ z => z.elim, λcls H3 e s3 => e ▸ go _ H3 d0 (s2.trans s3)⟩
    · refine ⟨_, rfl, a, dx, _, rfl, haH, rfl, _, rfl, _, rfl, _, rfl, ?_⟩;dsimp only [sI];exact sC (x := (hi, lo, ra)) haH hbH hcH nh nk sh sl sr (iP (.inr (qd dr))) λH2 s2 => go _ H2 (iP (.inr (qd dr))) s2
noncomputable def jy (H : Hp)(v : V)(p : Int × S3):Prop := ∃ q t, v = .ref q /\ H q = some (.tup [.int p.1, .ref t]) /\ H t = some (.tup [.int p.2.1, .int p.2.2.1, .int p.2.2.2])
theorem Cz {G : Hp}{t : Addr}{x : S3}(e : G t = some (.tup [.int x.1, .int x.2.1, .int x.2.2])):Rep K G (.ref t) (d3 x) := Rep.kX e (.cons (.int _) (.cons (.int _) (.cons (.int _) .nil)))
theorem jy.rep {H : Hp}{v : V}{p : Int × S3}(h : jy H v p):Rep K H v (ow p) := by
  obtain ⟨q, t, rfl, h1, h2⟩ := h;exact Rep.kX h1 (.cons (.int _) (.cons (Cz h2) .nil))
theorem jy.on {H H2 : Hp}{v : V}{p : Int × S3}(h : jy H v p)(kt : ∀ t xs, H t = some (.tup xs) -> H2 t = some (.tup xs)):jy H2 v p := by
  obtain ⟨q, t, e, h1, h2⟩ := h;exact ⟨q, t, e, kt _ _ h1, kt _ _ h2⟩
noncomputable def lG (H : Hp)(l : Addr)(hs : cL):Prop := ∃ vs, H l = some (.lst vs) /\ Paired (jy H) vs hs
theorem lG.on {H H2 : Hp}{l : Addr}{hs : cL}(h : lG H l hs)(kl : ∀ vs, H l = some (.lst vs) -> H2 l = some (.lst vs))(kt : ∀ t xs, H t = some (.tup xs) -> H2 t = some (.tup xs)):lG H2 l hs := by
  obtain ⟨vs, e, r⟩ := h;exact ⟨vs, kl _ e, Paired.imp' (λ_ _ z => jy.on z kt) r⟩
theorem xp {H : Hp}{vs : List V}{hs : cL}(h : Paired (jy H) vs hs):bE K H vs (hs.map ow) := by
  induction h with
  | nil => exact .nil
  | cons f _ ih => exact .cons f.rep ih
theorem lG.rep {H : Hp}{l : Addr}{hs : cL}(h : lG H l hs):Rep K H (.ref l) (.lst (hs.map ow)) := by
  obtain ⟨vs, e, r⟩ := h;exact Rep.yM e (xp r)
theorem gY {α β : Type}{F : α -> β -> Prop}:∀ {l : List α} {r : List β} (j : Nat), Paired F l r -> Paired F (l.eraseIdx j) (r.eraseIdx j)
  | _, _, _, .nil => by simp only [List.eraseIdx_nil];exact .nil
  | _, _, 0, .cons _ t => t
  | _, _, j + 1, .cons f t => .cons f (gY j t)
theorem jl {p : Int × S3}:∀ {hs : cL} {j : Nat}, (hs.map (·.1)).Nodup -> hs[j]? = some p -> hs.eraseIdx j = bJ hs p.1
  | [], _, _, h => by cases h
  | x :: xs, 0, nd, h => by
    obtain rfl : x = p := Option.some.inj h;rw [map_cons, nodup_cons] at nd;have fs : xs.filter (λr => decide (r.1 ≠ x.1)) = xs := List.filter_eq_self.mpr λy hy => decide_eq_true λz => nd.1 (mem_map.mpr ⟨y, hy, z⟩);unfold bJ;rw [List.filter_cons_of_neg (by simp), fs];rfl
  | x :: xs, j + 1, nd, h => by
    rw [map_cons, nodup_cons] at nd;have h' : xs[j]? = some p := h;have ne : x.1 ≠ p.1 := λz => nd.1 (mem_map.mpr ⟨p, mem_of_getElem? h', z.symm⟩);have ih := jl nd.2 h';unfold bJ at ih ⊢;rw [List.filter_cons_of_pos (by simp [ne]), <- ih];rfl
theorem Ob.upd {H : Hp}{a dx b c : Addr}{g n : Int}{hs ks : cL}(O : Ob CS H a dx b c g n hs ks){y : Addr}{o : HO}(m : y ∉ [a, b, c])(nt : ∀ xs, H y ≠ some (.tup xs)):Ob CS (L2.upd H y o) a dx b c g n hs ks := by
  have ka : a ≠ y := λz => m (by simp [z]);have kb : b ≠ y := λz => m (by simp [z]);have kc : c ≠ y := λz => m (by simp [z]);have kt : ∀ t xs, H t = some (.tup xs) -> L2.upd H y o t = some (.tup xs) := λt xs e => by
    rw [af λz => nt xs (by rw [<- z];exact e)];exact e
  exact ⟨O.ne, by rw [af ka];exact O.ia, j2 O.hb (λo e => by rw [af kb];exact e) kt, j2 O.hc (λo e => by rw [af kc];exact e) kt, O.n0, O.nh, O.nk, O.dj⟩
structure fK (CS : Addr)(H : Hp)(a dx b c r l1 l2 : Addr)(g n : Int)(most : Nat)(hs ks : cL):Prop where
  ob : Ob CS H a dx b c g n hs ks
  er : H r = some (.lst [.ref l1, .ref l2])
  ne : l1 ≠ l2
  r1 : lG H l1 hs
  r2 : lG H l2 ks
  lh : hs.length <= most
  lk : ks.length <= most
  oh : ∀ p ∈ hs, p8 p.2
  ok : ∀ p ∈ ks, lE p.2
section
variable {H H2 : Hp} {a dx b c r l1 l2 : Addr} {g n : Int} {most : Nat} {hs ks : cL}
theorem fK.mono (S : fK CS H a dx b c r l1 l2 g n most hs ks)(s : ak H H2):fK CS H2 a dx b c r l1 l2 g n most hs ks :=
  ⟨S.ob.mono s, s _ _ S.er, S.ne, S.r1.on (λ_ e => s _ _ e) λ_ _ e => s _ _ e, S.r2.on (λ_ e => s _ _ e) λ_ _ e => s _ _ e, S.lh, S.lk, S.oh, S.ok⟩
theorem fK.rep (S : fK CS H a dx b c r l1 l2 g n most hs ks):Rep K H (.ref r) (eJ hs ks) := Rep.yM S.er (.cons S.r1.rep (.cons S.r2.rep .nil))
theorem fK.Et (S : fK CS H a dx b c r l1 l2 g n most hs ks)(g0 : 0 <= g)(g1 : g <= 50)(m12 : most <= 12):dS g (vals hs) (vals ks) := by
  have := S.lh;have := S.lk;exact ⟨g0, g1, by unfold vals;rw [length_map];lia, by unfold vals;rw [length_map];lia, λx hx => by obtain ⟨p, hp, rfl⟩ := mem_map.mp hx;exact S.oh p hp, λx hx => by obtain ⟨p, hp, rfl⟩ := mem_map.mp hx;exact S.ok p hp⟩
theorem fK.rl (S : fK CS H a dx b c r l1 l2 g n most hs ks):r ≠ l1 /\ r ≠ l2 := by
  have key : ∀ {l : Addr} {zs : cL}, lG H l zs -> r ≠ l := λ{l zs} ⟨vs, e, p⟩ z => by
    rw [<- z, S.er] at e;cases e;cases p with
    | cons f _ =>
      obtain ⟨q, t, eq, h1, _⟩ := f;cases eq;obtain ⟨vs1, e1, _⟩ := S.r1;rw [h1] at e1;cases e1
  exact ⟨key S.r1, key S.r2⟩
theorem fK.DV (S : fK CS H a dx b c r l1 l2 g n most hs ks){j : Nat}{p : Int × S3}{vs : List V}(ej : hs[j]? = some p)(el : H l1 = some (.lst vs))(O2 : Ob CS H2 a dx b c g n (bJ hs p.1) (bJ ks p.1))(k2 : Kept [a, b, c] (upd H l1 (.lst (vs.eraseIdx j))) H2) :
    fK CS H2 a dx b c r l1 l2 g n most (hs.eraseIdx j) ks /\ Kept [a, b, c, l1, l2] H H2 := by
  obtain ⟨rn1, rn2⟩ := S.rl;have mem := mem_of_getElem? ej;have nk : cG ks p.1 = false := decide_eq_false λm => by
    obtain ⟨q, hq, e⟩ := mem_map.mp m;exact S.ob.dj p mem q hq e.symm
  rw [jC nk, <- jl S.ob.nh.1 ej] at O2;have nt : ∀ xs, H l1 ≠ some (.tup xs) := λxs e => by rw [el] at e;cases e
  have O1 := S.ob.upd (o := .lst (vs.eraseIdx j)) (S.ob.lst el) nt;have kt : ∀ t xs, H t = some (.tup xs) -> H2 t = some (.tup xs) := λt xs e => by
    have e1 : upd H l1 (.lst (vs.eraseIdx j)) t = some (.tup xs) := by rw [af λz => nt xs (by rw [<- z];exact e)];exact e
    exact k2 _ _ e1 (O1.tup e1)
  have kl : ∀ y xs, y ≠ l1 -> H y = some (.lst xs) -> H2 y = some (.lst xs) := λy xs ne e => by
    have e1 : upd H l1 (.lst (vs.eraseIdx j)) y = some (.lst xs) := by rw [af ne];exact e
    exact k2 _ _ e1 (O1.lst e1)
  have e1 : upd H l1 (.lst (vs.eraseIdx j)) l1 = some (.lst (vs.eraseIdx j)) := ah;obtain ⟨vs', el', ra⟩ := S.r1;rw [el] at el';cases el';refine ⟨⟨O2, kl _ _ rn1 S.er, S.ne, ⟨_, k2 _ _ e1 (O1.lst e1), Paired.imp' (λ_ _ z => jy.on z kt) (gY j ra)⟩, S.r2.on (λvs e => kl _ _ (Ne.symm S.ne) e) kt, ?_, S.lk, λq hq => S.oh q (List.mem_of_mem_eraseIdx hq), S.ok⟩, λy o e m => ?_⟩
  · exact Nat.le_trans (List.length_eraseIdx_le ..) S.lh
  · have ny : y ≠ l1 := λz => m (by simp [z]);exact k2 y o (by rw [af ny];exact e) λz => m (show y ∈ [a, b, c] ++ [l1, l2] from mem_append_left _ z)
theorem fK.DU (S : fK CS H a dx b c r l1 l2 g n most hs ks){j : Nat}{p : Int × S3}{vs : List V}(ej : ks[j]? = some p)(el : H l2 = some (.lst vs))(O2 : Ob CS H2 a dx b c g n (bJ hs p.1) (bJ ks p.1))(k2 : Kept [a, b, c] (upd H l2 (.lst (vs.eraseIdx j))) H2) :
    fK CS H2 a dx b c r l1 l2 g n most hs (ks.eraseIdx j) /\ Kept [a, b, c, l1, l2] H H2 := by
  obtain ⟨rn1, rn2⟩ := S.rl;have mem := mem_of_getElem? ej;have nk : cG hs p.1 = false := decide_eq_false λm => by
    obtain ⟨q, hq, e⟩ := mem_map.mp m;exact S.ob.dj q hq p mem e
  rw [jC nk, <- jl S.ob.nk.1 ej] at O2;have nt : ∀ xs, H l2 ≠ some (.tup xs) := λxs e => by rw [el] at e;cases e
  have O1 := S.ob.upd (o := .lst (vs.eraseIdx j)) (S.ob.lst el) nt;have kt : ∀ t xs, H t = some (.tup xs) -> H2 t = some (.tup xs) := λt xs e => by
    have e1 : upd H l2 (.lst (vs.eraseIdx j)) t = some (.tup xs) := by rw [af λz => nt xs (by rw [<- z];exact e)];exact e
    exact k2 _ _ e1 (O1.tup e1)
  have kl : ∀ y xs, y ≠ l2 -> H y = some (.lst xs) -> H2 y = some (.lst xs) := λy xs ne e => by
    have e1 : upd H l2 (.lst (vs.eraseIdx j)) y = some (.lst xs) := by rw [af ne];exact e
    exact k2 _ _ e1 (O1.lst e1)
  have e1 : upd H l2 (.lst (vs.eraseIdx j)) l2 = some (.lst (vs.eraseIdx j)) := ah;obtain ⟨vs', el', ra⟩ := S.r2;rw [el] at el';cases el';refine ⟨⟨O2, kl _ _ rn2 S.er, S.ne, S.r1.on (λvs e => kl _ _ S.ne e) kt, ⟨_, k2 _ _ e1 (O1.lst e1), Paired.imp' (λ_ _ z => jy.on z kt) (gY j ra)⟩, S.lh, ?_, S.oh, λq hq => S.ok q (List.mem_of_mem_eraseIdx hq)⟩, λy o e m => ?_⟩
  · exact Nat.le_trans (List.length_eraseIdx_le ..) S.lk
  · have ny : y ≠ l2 := λz => m (by simp [z]);exact k2 y o (by rw [af ny];exact e) λz => m (show y ∈ [a, b, c] ++ [l1, l2] from mem_append_left _ z)
theorem fK.Dt (S : fK CS H a dx b c r l1 l2 g n most hs ks){x : S3}{t p : Addr}{vs : List V}(lt : hs.length < most)(ox : p8 x)(O2 : Ob CS H2 a dx b c g (n + 1) (km aZ hs (n + 1) x) (kj aZ ks (n + 1) x))(k2 : Kept [a, b, c] H H2)(ht : H2 t = none)(hp : upd H2 t (.tup [.int x.1, .int x.2.1, .int x.2.2]) p = none)(el : H l1 = some (.lst vs)) :
    fK CS (upd (upd (upd H2 t (.tup [.int x.1, .int x.2.1, .int x.2.2])) p (.tup [.int (n + 1), .ref t])) l1 (.lst (vs ++ [.ref p]))) a dx b c r l1 l2 g (n + 1) most (hs ++ [(n + 1, x)]) ks /\ Kept [a, b, c, l1, l2] H (upd (upd (upd H2 t (.tup [.int x.1, .int x.2.1, .int x.2.2])) p (.tup [.int (n + 1), .ref t])) l1 (.lst (vs ++ [.ref p]))) := by
  obtain ⟨rn1, rn2⟩ := S.rl;have eh : km aZ hs (n + 1) x = hs ++ [(n + 1, x)] := by unfold km;rw [if_pos rfl]
  have ec : kj aZ ks (n + 1) x = ks := by unfold kj;rw [if_pos rfl]
  rw [eh, ec] at O2;have s3 : ak H2 (upd (upd H2 t (.tup [.int x.1, .int x.2.1, .int x.2.2])) p (.tup [.int (n + 1), .ref t])) := (bg ht).trans (bg hp);have O3 := O2.mono s3;have k3 : Kept [a, b, c] H (upd (upd H2 t (.tup [.int x.1, .int x.2.1, .int x.2.2])) p (.tup [.int (n + 1), .ref t])) := k2.trans (Kept.of s3);have ep : upd (upd H2 t (.tup [.int x.1, .int x.2.1, .int x.2.2])) p (.tup [.int (n + 1), .ref t]) p = some (.tup [.int (n + 1), .ref t]) := ah;have et : upd (upd H2 t (.tup [.int x.1, .int x.2.1, .int x.2.2])) p (.tup [.int (n + 1), .ref t]) t = some (.tup [.int x.1, .int x.2.1, .int x.2.2]) := bg hp _ _ ah;generalize upd (upd H2 t (.tup [.int x.1, .int x.2.1, .int x.2.2])) p (.tup [.int (n + 1), .ref t]) = H3 at *;have el3 := k3 _ _ el (S.ob.lst el);have nt : ∀ xs, H3 l1 ≠ some (.tup xs) := λxs e => by rw [el3] at e;cases e
  have O4 := O3.upd (o := .lst (vs ++ [.ref p])) (O3.lst el3) nt;have kt3 : ∀ y xs, H3 y = some (.tup xs) -> upd H3 l1 (.lst (vs ++ [.ref p])) y = some (.tup xs) := λy xs e => by rw [af λz => nt xs (by rw [<- z];exact e)];exact e
  have kt : ∀ y xs, H y = some (.tup xs) -> upd H3 l1 (.lst (vs ++ [.ref p])) y = some (.tup xs) := λy xs e => kt3 _ _ (k3 _ _ e (S.ob.tup e));have kl : ∀ y xs, y ≠ l1 -> H y = some (.lst xs) -> upd H3 l1 (.lst (vs ++ [.ref p])) y = some (.lst xs) := λy xs ne e => by rw [af ne];exact k3 _ _ e (S.ob.lst e)
  obtain ⟨vs', el', ra⟩ := S.r1;rw [el] at el';cases el';have mine : lG (upd H3 l1 (.lst (vs ++ [.ref p]))) l1 (hs ++ [(n + 1, x)]) := ⟨_, ah, Paired.snoc (Paired.imp' (λ_ _ z => jy.on z kt) ra) ⟨p, t, rfl, kt3 _ _ ep, kt3 _ _ et⟩⟩
  have snoc : (hs ++ [(n + 1, x)]).length <= most := by rw [length_append];exact lt
  have all : ∀ q ∈ hs ++ [(n + 1, x)], p8 q.2 := λq hq => by
    rcases mem_append.mp hq with h | h
    · exact S.oh q h
    · rw [mem_singleton.mp h];exact ox
  refine ⟨⟨O4, kl _ _ rn1 S.er, S.ne, mine, S.r2.on (λvs e => kl _ _ (Ne.symm S.ne) e) kt, snoc, S.lk, all, S.ok⟩, λy o e m => ?_⟩;have ny : y ≠ l1 := λz => m (by simp [z]);rw [af ny];exact k3 y o e λz => m (show y ∈ [a, b, c] ++ [l1, l2] from mem_append_left _ z)
theorem fK.Ds (S : fK CS H a dx b c r l1 l2 g n most hs ks){x : S3}{t p : Addr}{vs : List V}(lt : ks.length < most)(ox : lE x)(O2 : Ob CS H2 a dx b c g (n + 1) (km bt hs (n + 1) x) (kj bt ks (n + 1) x))(k2 : Kept [a, b, c] H H2)(ht : H2 t = none)(hp : upd H2 t (.tup [.int x.1, .int x.2.1, .int x.2.2]) p = none)(el : H l2 = some (.lst vs)) :
    fK CS (upd (upd (upd H2 t (.tup [.int x.1, .int x.2.1, .int x.2.2])) p (.tup [.int (n + 1), .ref t])) l2 (.lst (vs ++ [.ref p]))) a dx b c r l1 l2 g (n + 1) most hs (ks ++ [(n + 1, x)]) /\ Kept [a, b, c, l1, l2] H (upd (upd (upd H2 t (.tup [.int x.1, .int x.2.1, .int x.2.2])) p (.tup [.int (n + 1), .ref t])) l2 (.lst (vs ++ [.ref p]))) := by
  obtain ⟨rn1, rn2⟩ := S.rl;have eh : km bt hs (n + 1) x = hs := by unfold km;rw [if_neg (show ¬ bt = aZ from jA)]
  have ec : kj bt ks (n + 1) x = ks ++ [(n + 1, x)] := by unfold kj;rw [if_neg (show ¬ bt = aZ from jA)]
  rw [eh, ec] at O2;have s3 : ak H2 (upd (upd H2 t (.tup [.int x.1, .int x.2.1, .int x.2.2])) p (.tup [.int (n + 1), .ref t])) := (bg ht).trans (bg hp);have O3 := O2.mono s3;have k3 : Kept [a, b, c] H (upd (upd H2 t (.tup [.int x.1, .int x.2.1, .int x.2.2])) p (.tup [.int (n + 1), .ref t])) := k2.trans (Kept.of s3);have ep : upd (upd H2 t (.tup [.int x.1, .int x.2.1, .int x.2.2])) p (.tup [.int (n + 1), .ref t]) p = some (.tup [.int (n + 1), .ref t]) := ah;have et : upd (upd H2 t (.tup [.int x.1, .int x.2.1, .int x.2.2])) p (.tup [.int (n + 1), .ref t]) t = some (.tup [.int x.1, .int x.2.1, .int x.2.2]) := bg hp _ _ ah;generalize upd (upd H2 t (.tup [.int x.1, .int x.2.1, .int x.2.2])) p (.tup [.int (n + 1), .ref t]) = H3 at *;have el3 := k3 _ _ el (S.ob.lst el);have nt : ∀ xs, H3 l2 ≠ some (.tup xs) := λxs e => by rw [el3] at e;cases e
  have O4 := O3.upd (o := .lst (vs ++ [.ref p])) (O3.lst el3) nt;have kt3 : ∀ y xs, H3 y = some (.tup xs) -> upd H3 l2 (.lst (vs ++ [.ref p])) y = some (.tup xs) := λy xs e => by rw [af λz => nt xs (by rw [<- z];exact e)];exact e
  have kt : ∀ y xs, H y = some (.tup xs) -> upd H3 l2 (.lst (vs ++ [.ref p])) y = some (.tup xs) := λy xs e => kt3 _ _ (k3 _ _ e (S.ob.tup e));have kl : ∀ y xs, y ≠ l2 -> H y = some (.lst xs) -> upd H3 l2 (.lst (vs ++ [.ref p])) y = some (.lst xs) := λy xs ne e => by rw [af ne];exact k3 _ _ e (S.ob.lst e)
  obtain ⟨vs', el', ra⟩ := S.r2;rw [el] at el';cases el';have mine : lG (upd H3 l2 (.lst (vs ++ [.ref p]))) l2 (ks ++ [(n + 1, x)]) := ⟨_, ah, Paired.snoc (Paired.imp' (λ_ _ z => jy.on z kt) ra) ⟨p, t, rfl, kt3 _ _ ep, kt3 _ _ et⟩⟩
  have snoc : (ks ++ [(n + 1, x)]).length <= most := by rw [length_append];exact lt
  have all : ∀ q ∈ ks ++ [(n + 1, x)], lE q.2 := λq hq => by
    rcases mem_append.mp hq with h | h
    · exact S.ok q h
    · rw [mem_singleton.mp h];exact ox
  refine ⟨⟨O4, kl _ _ rn2 S.er, S.ne, S.r1.on (λvs e => kl _ _ S.ne e) kt, mine, S.lh, snoc, S.oh, all⟩, λy o e m => ?_⟩;have ny : y ≠ l2 := λz => m (by simp [z]);rw [af ny];exact k3 y o e λz => m (show y ∈ [a, b, c] ++ [l1, l2] from mem_append_left _ z)
end
structure Sd (CS a dx b c r l1 l2 : Addr)(g n : Int)(most : Nat)(hs ks : cL)(kd : Int)(l : Addr)(zs : cL):Prop where
  av : ib [V.ref l1, .ref l2] kd = some (.ref l)
  ad : ib [D.lst (hs.map ow), .lst (ks.map ow)] kd = some (.lst (zs.map ow))
  ln : zs.length <= most
  has : ∀ p ∈ zs, cG hs p.1 = true \/ cG ks p.1 = true
  bd : ∀ p ∈ zs, 1 <= p.1 /\ p.1 <= n
  rs : ∀ {H' : Hp}, fK CS H' a dx b c r l1 l2 g n most hs ks -> lG H' l zs
  out : ∀ {H' H2 : Hp} {j : Nat} {p : Int × S3} {vs : List V}, fK CS H' a dx b c r l1 l2 g n most hs ks -> zs[j]? = some p -> H' l = some (.lst vs) -> Ob CS H2 a dx b c g n (bJ hs p.1) (bJ ks p.1) -> Kept [a, b, c] (upd H' l (.lst (vs.eraseIdx j))) H2 ->
    ∃ hs' ks', fK CS H2 a dx b c r l1 l2 g n most hs' ks' /\ Kept [a, b, c, l1, l2] H' H2 /\ (kd = 0 -> hs' = zs.eraseIdx j) /\ (kd = 1 -> ks' = zs.eraseIdx j)
theorem fK.side {H : Hp}{a dx b c r l1 l2 : Addr}{g n : Int}{most : Nat}{hs ks : cL}{kd : Int}(S : fK CS H a dx b c r l1 l2 g n most hs ks)(hk : kd = 0 \/ kd = 1):∃ l zs, Sd CS a dx b c r l1 l2 g n most hs ks kd l zs /\ (kd = 0 -> zs = hs) /\ (kd = 1 -> zs = ks) := by
  rcases hk with rfl | rfl
  · refine ⟨l1, hs, ⟨rfl, rfl, S.lh, λp hp => .inl (decide_eq_true (mem_map.mpr ⟨p, hp, rfl⟩)), S.ob.nh.2, λS => S.r1, λS ej el O2 k2 => ?_⟩, λ_ => rfl, λz => absurd z (by decide)⟩;obtain ⟨S2, k⟩ := S.DV ej el O2 k2;exact ⟨_, _, S2, k, λ_ => rfl, λz => absurd z (by decide)⟩
  · refine ⟨l2, ks, ⟨rfl, rfl, S.lk, λp hp => .inr (decide_eq_true (mem_map.mpr ⟨p, hp, rfl⟩)), S.ob.nk.2, λS => S.r2, λS ej el O2 k2 => ?_⟩, λz => absurd z (by decide), λ_ => rfl⟩;obtain ⟨S2, k⟩ := S.DU ej el O2 k2;exact ⟨_, _, S2, k, λz => absurd z (by decide), λ_ => rfl⟩
theorem BL {t : gJ}{σ : St}{H : Hp}{Q : Bool -> Hp -> Prop}(ρ : aD)(b : Bool)(re : cW K H σ ρ)(h : t ρ λc => c = b)(k : ∀ H', ak H H' -> Q b H'):cT K t σ H Q :=
  ⟨H, ρ, _, ak.refl _, re, h, λc H' G' e w => by subst e;exact k H' w.hh⟩
theorem qX : ∀ l : cL, iy (l.map ow) = true
  | [] => fB
  | x :: l => by rw [map_cons, fu, qX l, show bf (ow x) = true by unfold ow d3;simp only [lA, fu, fB, lz, Bool.and_true]];rfl
theorem qA : ∀ l : cL, gP (l.map ow) <= 2
  | [] => by rw [List.map_nil, gp];exact Nat.zero_le _
  | x :: l => by
    have h := qA l;have e : dep (ow x) = 2 := by unfold ow d3;simp only [lq, ft, gp, lp];rfl
    rw [map_cons, ft, e];lia
theorem ne_nil {zs : cL}{P : B -> Prop}(h : ∀ b : Bool, (b = true ↔ zs ≠ []) -> P (.p (.bl b))):C7 (.lst (zs.map ow)) (.lst []) P := by
  have n : bf (.lst (zs.map ow)) = true := by rw [oY];exact qX zs
  refine ⟨⟨n, by rw [oY, fB], ?_⟩, ?_⟩
  · have := qA zs;rw [tG];lia
  refine h _ ?_;cases zs with
  | nil => unfold bP i6;simp
  | cons z zs => unfold bP;rw [map_cons];unfold i6;simp
noncomputable def xN (cs : h7)(CS : Addr)(K : Frag):Sp := λvs H Q _ => ∃ (a dx b c r l1 l2 : Addr) (g n ce : Int) (most : Nat) (hs ks : cL), vs = [.ref a, .ref r, .int ce] /\ most <= 12 /\ n <= 1000 /\ fK CS H a dx b c r l1 l2 g n most hs ks /\
  ∀ H' hs' ks', fK CS H' a dx b c r l1 l2 g n most hs' ks' -> Kept [a, b, c, l1, l2] H H' -> Q .non H'
noncomputable def xO (cs : h7)(CS : Addr)(K : Frag):Sp := λvs H Q _ => ∃ (a dx b c r l1 l2 : Addr) (g n ce ba : Int) (most : Nat) (hs ks : cL), vs = [.ref a, .ref r, .int ce, .int ba, .int most] /\ 0 <= ba /\ ba < 200 /\ 1 <= most /\ most <= 12 /\ n <= 1000 /\ fK CS H a dx b c r l1 l2 g n most hs ks /\
  ∀ H' hs' ks', fK CS H' a dx b c r l1 l2 g (n + 1) most hs' ks' -> Kept [a, b, c, l1, l2] H H' -> Q .non H'
theorem zP {a b c l1 l2 : Addr}{H H1 H2 : Hp}(s : ak H H1)(k : Kept [a, b, c, l1, l2] H1 H2):Kept [a, b, c, l1, l2] H H2 := λy o e m => k y o (s y o e) m
theorem CF {xs : List V}{j : Nat}{v : V}(e : xs[j]? = some v)(c : xs.length <= 1000):-(2 ^ 63) <= ((j : Nat):Int) /\ ((j : Nat):Int) < 2 ^ 63 /\ seqIndex? ((j : Nat):Int) xs.length = some j := by
  have hj := (List.getElem?_eq_some_iff.mp e).1;refine ⟨by lia, by lia, ?_⟩;have : tW xs.length ((j : Nat):Int) = some j := by
    unfold tW;rw [if_pos (by lia), if_pos (by lia)];simp
  exact (tX this).1
theorem popped {H : Hp}{a dx b c r l1 l2 l : Addr}{g n kd : Int}{most j : Nat}{hs ks zs : cL}{E : XK}{Q : Hp -> Prop}(sd : Sd CS a dx b c r l1 l2 g n most hs ks kd l zs)(S : fK CS H a dx b c r l1 l2 g n most hs ks)(hj : j < zs.length)(nn : n <= 1000)(m12 : most <= 12)
    (q : ∀ H' hs' ks', fK CS H' a dx b c r l1 l2 g n most hs' ks' -> Kept [a, b, c, l1, l2] H H' -> (kd = 0 -> hs' = zs.eraseIdx j) -> (kd = 1 -> ks' = zs.eraseIdx j) -> Q H') :
    xD (.ref l) [.int ((j : Nat):Int)] H λx H1 => Er K x (.int 0) H1 λy H2 => n5 cs CS [.ref a, y] H2 (λ_ H' => Q H') E := by
  obtain ⟨vs, el, ra⟩ := sd.rs S;have ez := getElem?_eq_getElem hj;have mem := mem_of_getElem? ez;have lv : vs.length = zs.length := Paired.length ra;have ev := getElem?_eq_getElem (l := vs) (i := j) (by lia);have pr := eN ra j _ _ ev ez;generalize zs[j] = p at ez mem pr;generalize vs[j]'(by lia) = v at ev pr;obtain ⟨qq, t, rfl, e1, e2⟩ := pr;have ln := sd.ln;obtain ⟨c1, c2, c3⟩ := CF ev (by lia);have nt : ∀ xs, H l ≠ some (.tup xs) := λxs e => by rw [el] at e;cases e
  have e1' : upd H l (.lst (vs.eraseIdx j)) qq = some (.tup [.int p.1, .ref t]) := by rw [af λz => nt _ (by rw [<- z];exact e1)];exact e1
  refine ⟨l, vs, _, j, _, rfl, rfl, el, c1, c2, c3, ev, .inr (.inl ⟨qq, _, 0, _, rfl, rfl, mM.of e1', rfl, ?_⟩)⟩;have bd := sd.bd p mem;exact yY (S.ob.upd (S.ob.lst el) nt) (um (by lia) (by lia)) (sd.has p mem) λt' x' H5 _ _ O5 k5 => by
    obtain ⟨hs', ks', S5, k, h1, h2⟩ := sd.out S ez el O5 k5;exact q H5 hs' ks' S5 k h1 h2
theorem su (T : iX mg)(TX : dB K mg cs)(TC : dR K mg CS)(F_law_stir : Fn P w K mg base "_law_stir" 1 ["cell", "k"] (e6 K aF)){a_Streams_take_out : Addr}{fd_Streams_take_out : FuncData}(FV_Streams_take_out : aI P w K mg base (fP P w) 2 a_Streams_take_out fd_Streams_take_out ["self", "number"] (n5 cs CS))(MV_Streams_take_out : Meth K CS "take_out" a_Streams_take_out)(BV_Streams_take_out : Binds K fd_Streams_take_out ["self", "number"] [])(F : fQ K "_law_out" "_law_out" fv f fd):aI P w K mg base gI 3 f fd ["streams", "rows", "cell"] (xN cs CS K) := by
  refine aI.drop (F.x6 mD (λvs H Q E h => ?_) λcdv A outer s H vs Q E hr h => ?_) λ_ _ _ _ h => h
  · obtain ⟨a, dx, b, c, r, l1, l2, g, n, ce, most, hs, ks, rfl, _⟩ := h;rfl
  · obtain ⟨a, dx, b, c, r, l1, l2, g, n, ce, most, hs, ks, rfl, m12, nn, S, q⟩ := h;refine ⟨_, aw (df (i := 3) mD.nd rfl (Or.inl rfl) ((aJ bH (aP F_law_stir (hr.mono (by decide)) (by rfl) (aa (dv 2) (aa ag ai))) ag)).pe)
      (aM (gB ((cc (oZ hr) (dg (dv 1) (dv 3)) (jk ai) (aQ _))).pt (aM (dZ (eD (pv 0) TC.cl MV_Streams_take_out FV_Streams_take_out (hr.mono (by decide)) BV_Streams_take_out .nil (bA.passes λ_ _ _ h => h) (aj (jR jo (nZ PySem.F.plainAttrs_list PySem.F.slot_list_pop PySem.F.type_list_pop qV (jR jo (pv 1) (pv 3) (λ_ _ => rfl)) (aj ((aJ bH (aP F_law_stir (hr.mono (by decide)) (by rfl) (aa (dv 2) (aa ag ai))) (cw lK (by rfl) T.ni PySem.boot_len (aa (dg (dv 1) (dv 3)) ai)))).pe aN)) cf (λ_ _ => rfl)) aN)))) fq)), ?_⟩
    refine eK (λσ H1 => ∃ kd : Int, (kd = 0 \/ kd = 1) /\ σ = [some (.ref a), some (.ref r), some (.int ce), some (.int kd)] /\ ak H H1) ?_ λN hN => ?_;rotate_left
    · have m := cD ce 5 2 (by decide);refine gM [none, none, some (.p (.int ce))] (fi ce 5 % 2) (ao (ao (aA (.int _) bx))) ?_ λH2 s2 => hN _ _ ⟨_, by lia, rfl, s2⟩;repeat (first | dsimp only [aF] | walk_at "rs1" | walk_at "rsx")
      exact ⟨by decide, trivial⟩
    rintro σ H1 ⟨kd, hk, rfl, s1⟩;replace S := S.mono s1;obtain ⟨l, zs, sd, _⟩ := S.side hk;have ad := sd.ad;have re : cW K H1 [some (.ref a), some (.ref r), some (.int ce), some (.int kd)] [none, some (.p (eJ hs ks)), some (.p (.int ce)), some (.p (.int kd))] := ao (aA S.rep (aA (.int _) (aA (.int _) bx)));refine BL _ (decide (zs ≠ [])) re ?_ λH2 s2 => ?_
    · repeat (first | walk_at "rs1" | walk_at "rsx" | set_option simprocs false in simp only [ad])
      refine ne_nil λbb hb => ?_;walk_at "rs";by_cases z : zs = []
      · rw [decide_eq_false (λw => w z)];cases bb with
        | false => rfl
        | true => exact absurd z (hb.mp rfl)
      · rw [decide_eq_true z];exact hb.mpr z
    refine jM (λz => ?_) λz => q H2 hs ks (S.mono s2) (Kept.of (s1.trans s2));have zne : zs ≠ [] := of_decide_eq_true z;replace S := S.mono s2;replace re := re.mono s2;refine ⟨_, rfl, a, dx, _, rfl, S.ob.ia, rfl, ?_⟩;refine ⟨_, rfl, _, rfl, .inl ⟨r, _, kd, .ref l, rfl, rfl, dD.of S.er, sd.av, ?_⟩⟩;obtain ⟨vs, el, ra⟩ := sd.rs S;refine ⟨.inl ⟨rfl, _, dD.of el⟩, ?_⟩;have zl : 0 < zs.length := List.length_pos_iff.mpr zne;have mm := cD ce 6 (zs.length : Int) (by lia);refine gM _ (fi ce 6 % (zs.length : Int)) re ?_ λH3 s3 => ?_
    · repeat (first | dsimp only [aF] | walk_at "rs1" | walk_at "rsx" | set_option simprocs false in simp only [ad])
      rw [length_map];exact ⟨by lia, rfl⟩
    obtain ⟨j, ej⟩ : ∃ j : Nat, fi ce 6 % (zs.length : Int) = (j : Nat) := ⟨(fi ce 6 % (zs.length : Int)).toNat, by lia⟩
    rw [ej] at mm ⊢;have hj : j < zs.length := by lia
    replace S := S.mono s3;exact popped sd S hj nn m12 λH4 hs' ks' S4 k4 _ _ => q H4 hs' ks' S4 (zP ((s1.trans s2).trans s3) k4)
theorem sv (T : iX mg)(TX : dB K mg cs)(TC : dR K mg CS)(F_law_stream : Fn P w K mg base "_law_stream" 2 ["cell", "base"] (e6 K g5))(F_law_stir : Fn P w K mg base "_law_stir" 1 ["cell", "k"] (e6 K aF)){a_Streams_take_out : Addr}{fd_Streams_take_out : FuncData}(FV_Streams_take_out : aI P w K mg base (fP P w) 2 a_Streams_take_out fd_Streams_take_out ["self", "number"] (n5 cs CS))(MV_Streams_take_out : Meth K CS "take_out" a_Streams_take_out)(BV_Streams_take_out : Binds K fd_Streams_take_out ["self", "number"] []){a_Streams_put_hot : Addr}{fd_Streams_put_hot : FuncData}(FV_Streams_put_hot : aI P w K mg base (fP P w) 5 a_Streams_put_hot fd_Streams_put_hot ["self", "start", "goal", "rate"] (kO aZ cs CS))(MV_Streams_put_hot : Meth K CS "put_hot" a_Streams_put_hot)(BV_Streams_put_hot : Binds K fd_Streams_put_hot ["self", "start", "goal", "rate"] []){a_Streams_put_cold : Addr}{fd_Streams_put_cold : FuncData}(FV_Streams_put_cold : aI P w K mg base (fP P w) 5 a_Streams_put_cold fd_Streams_put_cold ["self", "start", "goal", "rate"] (kO bt cs CS))(MV_Streams_put_cold : Meth K CS "put_cold" a_Streams_put_cold)(BV_Streams_put_cold : Binds K fd_Streams_put_cold ["self", "start", "goal", "rate"] [])(F : fQ K "_law_put" "_law_put" fw f fd):aI P w K mg base gI 6 f fd ["streams", "rows", "cell", "base", "most"] (xO cs CS K) := by
  refine aI.drop (F.x6 d4 (λvs H Q E h => ?_) λcdv A outer s H vs Q E hr h => ?_) λ_ _ _ _ h => h
  · obtain ⟨a, dx, b, c, r, l1, l2, g, n, ce, ba, most, hs, ks, rfl, _⟩ := h;rfl
  · obtain ⟨a, dx, b, c, r, l1, l2, g, n, ce, ba, most, hs, ks, rfl, ba0, ba1, m1, m12, nn, S, q⟩ := h;refine ⟨_, aw (xq ((aP F_law_stream (hr.mono (by decide)) (by rfl) (aa (dv 2) (aa (dv 3) ai)))).pe (gZ rfl (aR (aS (i := 5) d4.nd rfl (Or.inl rfl)) (aR (aS (i := 6) d4.nd rfl (Or.inl rfl)) (aR (aS (i := 7) d4.nd rfl (Or.inl rfl)) fo)))))
      (aw (df (i := 8) d4.nd rfl (Or.inl rfl) ((aJ bH (aP F_law_stir (hr.mono (by decide)) (by rfl) (aa (dv 2) (aa ag ai))) ag)).pe)
      (aw (gB (eF jd ((cw lK (by rfl) T.ni PySem.boot_len (aa (dg (dv 1) (dv 8)) ai))).pe (pv 4) (aQ _)) (aM (dZ (eD (pv 0) TC.cl MV_Streams_take_out FV_Streams_take_out (hr.mono (by decide)) BV_Streams_take_out .nil (bA.passes λ_ _ _ h => h) (aj (jR jo (nZ PySem.F.plainAttrs_list PySem.F.slot_list_pop PySem.F.type_list_pop qV (jR jo (pv 1) (pv 8) (λ_ _ => rfl)) (aj cf aN)) cf (λ_ _ => rfl)) aN)))) fq)
      (aM (gB (eF jd (pv 8) cf (aQ _))
        (aw (df (i := 9) d4.nd rfl (Or.inl rfl) (eD (pv 0) TC.cl MV_Streams_put_hot FV_Streams_put_hot (hr.mono (by decide)) BV_Streams_put_hot .nil (bA.passes λ_ _ _ h => h) (aj (pv 6) (aj (pv 5) (aj (pv 7) aN)))))
          (aM (dZ (nZ PySem.F.plainAttrs_list PySem.F.slot_list_append PySem.F.type_list_append iS (jR jo (pv 1) cf (λ_ _ => rfl)) (aj (iC (aj (pv 9) (aj (iC (aj (pv 6) (aj (pv 5) (aj (pv 7) aN)))) aN))) aN)))))
        (aw (df (i := 9) d4.nd rfl (Or.inl rfl) (eD (pv 0) TC.cl MV_Streams_put_cold FV_Streams_put_cold (hr.mono (by decide)) BV_Streams_put_cold .nil (bA.passes λ_ _ _ h => h) (aj (pv 5) (aj (pv 6) (aj (pv 7) aN)))))
          (aM (dZ (nZ PySem.F.plainAttrs_list PySem.F.slot_list_append PySem.F.type_list_append iS (jR jo (pv 1) cf (λ_ _ => rfl)) (aj (iC (aj (pv 9) (aj (iC (aj (pv 5) (aj (pv 6) (aj (pv 7) aN)))) aN))) aN))))))))), ?_⟩
    refine eK (λσ H1 => ∃ lo hi ra : Int, vy lo hi ra /\ σ = [some (.ref a), some (.ref r), some (.int ce), some (.int ba), some (.int most), some (.int lo), some (.int hi), some (.int ra), none, none] /\ ak H H1) ?_ λN hN => ?_;rotate_left
    · refine lJ [none, none, some (.p (.int ce)), some (.p (.int ba))] (λb => ∃ lo hi ra, vy lo hi ra /\ b = .o (.lst [.int lo, .int hi, .int ra])) (ao (ao (aA (.int _) (aA (.int _) bx)))) ?_ λb0 v H1 ⟨lo, hi, ra, dr, e⟩ s1 r1 => ?_
      · walk_at "rs";exact ⟨ce, ba, rfl, ba0, ba1, λlo hi ra dr => ⟨lo, hi, ra, dr, rfl⟩⟩
      · subst e;obtain ⟨l, us, rfl, el, rr⟩ := r1.lst_inv;obtain rfl := cols rr;exact ⟨l, _, rfl, .inr (dD.of el), rfl, _, _, rfl, _, _, rfl, _, _, rfl, rfl, hN _ _ ⟨lo, hi, ra, dr, rfl, s1⟩⟩
    rintro σ H1 ⟨lo, hi, ra, dr, rfl, s1⟩;refine eK (λσ H1 => ∃ kd : Int, (kd = 0 \/ kd = 1) /\ σ = [some (.ref a), some (.ref r), some (.int ce), some (.int ba), some (.int most), some (.int lo), some (.int hi), some (.int ra), some (.int kd), none] /\ ak H H1) ?_ λN hN => ?_;rotate_left
    · have m := cD ce 1 2 (by decide);refine gM [none, none, some (.p (.int ce))] (fi ce 1 % 2) (ao (ao (aA (.int _) bx))) ?_ λH2 s2 => hN _ _ ⟨_, by lia, rfl, s1.trans s2⟩;repeat (first | dsimp only [aF] | walk_at "rs1" | walk_at "rsx")
      exact ⟨by decide, trivial⟩
    clear s1 H1;rintro σ H1 ⟨kd, hk, rfl, s1⟩;replace S := S.mono s1;refine eK (λσ H2 => ∃ hs ks, σ = [some (.ref a), some (.ref r), some (.int ce), some (.int ba), some (.int most), some (.int lo), some (.int hi), some (.int ra), some (.int kd), none] /\ fK CS H2 a dx b c r l1 l2 g n most hs ks /\ Kept [a, b, c, l1, l2] H H2 /\ (kd = 0 -> hs.length < most) /\ (kd = 1 -> ks.length < most)) ?_ λN hN => ?_;rotate_left
    · obtain ⟨l, zs, sd, z0, z1⟩ := S.side hk;have ad := sd.ad;have re : cW K H1 [some (.ref a), some (.ref r), some (.int ce), some (.int ba), some (.int most), some (.int lo), some (.int hi), some (.int ra), some (.int kd), none] [none, some (.p (eJ hs ks)), none, none, none, none, none, none, some (.p (.int kd))] := ao (aA S.rep (ao (ao (ao (ao (ao (ao (aA (.int _) bx))))))));refine gM _ (zs.length : Int) re ?_ λH2 s2 => ?_
      · repeat (first | walk_at "rs1" | walk_at "rsx" | set_option simprocs false in simp only [ad])
        rw [length_map]
      have ln := sd.ln;refine ⟨_, rfl, rfl, _, rfl, jM (λz => ?_) λz => ?_⟩;rotate_left
      · have : ¬ (zs.length : Int) = (most : Int) := λw => z (decide_eq_true (congrArg V.int w));exact hN _ _ ⟨hs, ks, rfl, S.mono s2, Kept.of (s1.trans s2), λe => by rw [<- z0 e];lia, λe => by rw [<- z1 e];lia⟩
      have zl : (zs.length : Int) = (most : Int) := V.int.inj (of_decide_eq_true z);replace S := S.mono s2;obtain ⟨vs, el, ra'⟩ := sd.rs S;refine ⟨_, rfl, a, dx, _, rfl, S.ob.ia, rfl, ?_⟩;refine ⟨_, rfl, _, rfl, .inl ⟨r, _, kd, .ref l, rfl, rfl, dD.of S.er, sd.av, ⟨.inl ⟨rfl, _, dD.of el⟩, ?_⟩⟩⟩;refine popped (j := 0) sd S (by lia) nn m12 λH4 hs' ks' S4 k4 h1 h2 => hN _ _ ⟨hs', ks', rfl, S4, zP (s1.trans s2) k4, λe => ?_, λe => ?_⟩
      · rw [h1 e];have := List.length_eraseIdx_of_lt (l := zs) (i := 0) (by lia);lia
      · rw [h2 e];have := List.length_eraseIdx_of_lt (l := zs) (i := 0) (by lia);lia
    clear S s1 H1 hs ks;rintro σ H1 ⟨hs, ks, rfl, S, k1, lt0, lt1⟩;have lh := S.lh;have lk := S.lk;refine ⟨_, rfl, rfl, _, rfl, jM (λz => ?_) λz => ?_⟩
    · obtain rfl : kd = 0 := V.int.inj (of_decide_eq_true z);have ox := dr.By;obtain ⟨sm1, sm2, sm3⟩ := ox.sm;refine ⟨_, rfl, a, dx, _, rfl, S.ob.ia, rfl, _, rfl, _, rfl, _, rfl, ?_⟩;dsimp only [sI];refine ue (x := (hi, lo, ra)) S.ob (.inl rfl) (by lia) (by lia) (by unfold allOf;rw [if_pos rfl];exact Nat.lt_of_lt_of_le (lt0 rfl) m12) ox.bad sm1 sm2 sm3 λH2 O2 k2 => ?_;obtain ⟨vs, el, ra'⟩ := S.r1;have er2 := k2 _ _ S.er (S.ob.lst S.er);have el2 := k2 _ _ el (S.ob.lst el);have lv : vs.length <= 12 := by rw [Paired.length ra'];lia
      refine ⟨_, rfl, .inl ⟨r, _, 0, .ref l1, rfl, rfl, dD.of er2, rfl, .inl ⟨rfl, vs, dD.of el2⟩, _, rfl, _, rfl, _, rfl, _, rfl, (show 3 <= sizeLine by decide), λt ht => ⟨(show 2 <= sizeLine by decide), λp hp => ?_⟩⟩⟩;obtain ⟨S2, kk⟩ := S.Dt (x := (hi, lo, ra)) (lt0 rfl) (ox.elim (λw => w.2) λw => absurd w.1 tQ) O2 k2 ht hp el;exact ⟨l1, vs, .ref p, rfl, rfl, bg hp _ _ (bg ht _ _ el2), lt1000 (by lia), q _ _ _ S2 (k1.trans kk)⟩
    · obtain rfl : kd = 1 := hk.resolve_left λe => z (decide_eq_true (congrArg V.int e));have ox := dr.uH;obtain ⟨sm1, sm2, sm3⟩ := ox.sm;refine ⟨_, rfl, a, dx, _, rfl, S.ob.ia, rfl, _, rfl, _, rfl, _, rfl, ?_⟩;dsimp only [sI];refine ue (x := (lo, hi, ra)) S.ob (.inr rfl) (by lia) (by lia) (by unfold allOf;rw [if_neg (show ¬ bt = aZ from jA)];exact Nat.lt_of_lt_of_le (lt1 rfl) m12) ox.bad sm1 sm2 sm3 λH2 O2 k2 => ?_;obtain ⟨vs, el, ra'⟩ := S.r2;have er2 := k2 _ _ S.er (S.ob.lst S.er);have el2 := k2 _ _ el (S.ob.lst el);have lv : vs.length <= 12 := by rw [Paired.length ra'];lia
      refine ⟨_, rfl, .inl ⟨r, _, 1, .ref l2, rfl, rfl, dD.of er2, rfl, .inl ⟨rfl, vs, dD.of el2⟩, _, rfl, _, rfl, _, rfl, _, rfl, (show 3 <= sizeLine by decide), λt ht => ⟨(show 2 <= sizeLine by decide), λp hp => ?_⟩⟩⟩;obtain ⟨S2, kk⟩ := S.Ds (x := (lo, hi, ra)) (lt1 rfl) (ox.elim (λw => absurd w.1 jA) λw => w.2) O2 k2 ht hp el;exact ⟨l2, vs, .ref p, rfl, rfl, bg hp _ _ (bg ht _ _ el2), lt1000 (by lia), q _ _ _ S2 (k1.trans kk)⟩
noncomputable def xE : DR := λds P => ∃ ns : List Int, ds = [.scr ns] /\ ns.length <= 63 /\ P (.p (.bl true))
structure vA (CS : Addr)(H0 Gs H : Hp)(a dx b c r l1 l2 : Addr)(g n : Int)(most : Nat)(hs ks : cL):Prop where
  s : fK CS H a dx b c r l1 l2 g n most hs ks
  sm : ak H0 H
  sg : ak Gs H
  n0 : ∀ y ∈ [a, b, c, l1, l2], H0 y = none
  ng : ∀ y ∈ [a, b, c, l1, l2], Gs y = none
section
variable {H0 Gs H H2 : Hp} {a dx b c r l1 l2 : Addr} {g n n' : Int} {most : Nat} {hs ks hs' ks' : cL}
theorem vA.mono (M : vA CS H0 Gs H a dx b c r l1 l2 g n most hs ks)(s : ak H H2):vA CS H0 Gs H2 a dx b c r l1 l2 g n most hs ks := ⟨M.s.mono s, M.sm.trans s, M.sg.trans s, M.n0, M.ng⟩
theorem vA.step (M : vA CS H0 Gs H a dx b c r l1 l2 g n most hs ks)(S2 : fK CS H2 a dx b c r l1 l2 g n' most hs' ks')(k : Kept [a, b, c, l1, l2] H H2):vA CS H0 Gs H2 a dx b c r l1 l2 g n' most hs' ks' :=
  ⟨S2, λy o e => k y o (M.sm y o e) λm => (by rw [M.n0 y m] at e;cases e), λy o e => k y o (M.sg y o e) λm => (by rw [M.ng y m] at e;cases e), M.n0, M.ng⟩
theorem fK.uS (S : fK CS H a dx b c r l1 l2 g n most hs ks)(nn : n <= 100):∀ i : Int, 1000 <= i -> cG hs i = false /\ cG ks i = false := λi hi =>
  ⟨decide_eq_false λm => by obtain ⟨p, hp, e⟩ := mem_map.mp m;have := (S.ob.nh.2 p hp).2;lia, decide_eq_false λm => by obtain ⟨p, hp, e⟩ := mem_map.mp m;have := (S.ob.nk.2 p hp).2;lia⟩
theorem fK.small (S : fK CS H a dx b c r l1 l2 g n most hs ks)(nn : n <= 100):∀ p ∈ ks, Sm p.1 := λp hp => by have := S.ob.nk.2 p hp;exact um (by lia) (by lia)
end
noncomputable abbrev sE (sc : Addr)(f g ba : Int)(a r : Addr)(mo : Nat)(y7 y8 : Option V):St := [some (.ref sc), some (.int f), some (.int g), some (.int ba), some (.ref a), some (.ref r), some (.int mo), y7, y8]
noncomputable abbrev D1 (CS : Addr)(g n : Int)(hs ks : cL):aD := [none, none, some (.p (.int g)), none, some (.p (oD CS g hs ks n)), some (.p (eJ hs ks))]
theorem Cy {H : Hp}{sc a dx b c r l1 l2 : Addr}{f g n ba : Int}{mo : Nat}{y7 y8 : Option V}{hs ks : cL}(S : fK CS H a dx b c r l1 l2 g n mo hs ks):cW K H (sE sc f g ba a r mo y7 y8) (D1 CS g n hs ks) := ao (ao (aA (.int _) (ao (aA S.ob.rep (aA S.rep bx)))))
theorem AQ (T : iX mg)(TX : dB K mg cs)(TC : dR K mg CS)(F_law_cell_at : Fn P w K mg base "_law_cell_at" 1 ["script", "k"] (e6 K je)){a_Streams___init__ : Addr}{fd_Streams___init__ : FuncData}(FV_Streams___init__ : aI P w K mg base gI 1 a_Streams___init__ fd_Streams___init__ ["self", "gap"] (xM CS))(MV_Streams___init__ : Meth K CS "__init__" a_Streams___init__)(BV_Streams___init__ : Binds K fd_Streams___init__ ["self", "gap"] [])(MK : Mk K CS a_Streams___init__)(F_law_right : Fn P w K mg base "_law_right" 7 ["streams", "rows", "gap"] (e6 K (iE CS)))(F_law_stir : Fn P w K mg base "_law_stir" 1 ["cell", "k"] (e6 K aF))(F_law_out : Fn P w K mg base "_law_out" 3 ["streams", "rows", "cell"] (xN cs CS K))(F_law_put : Fn P w K mg base "_law_put" 6 ["streams", "rows", "cell", "base", "most"] (xO cs CS K))(F_law_refused : Fn P w K mg base "_law_refused" 7 ["streams", "cell", "base"] (e6 K (jf CS)))(F : fQ K "law" "law" jV f fd):aI P w K mg base gI 8 f fd ["script"] (e6 K xE) := by
  refine aI.drop (F.x6 g8 (λvs H Q E h => ?_) λcdv A outer s H vs Q E hr h => ?_) λ_ _ _ _ h => h
  · obtain ⟨ds, G, P0, sg, r, ⟨ns, rfl, _⟩, _⟩ := h;have := Paired.length r;exact this
  · obtain ⟨ds, G, P0, sg, r, ⟨ns, rfl, hn, q⟩, kk⟩ := h;obtain ⟨v, rfl, rv⟩ := gC r;refine ⟨_, (aw (df (i := 1) g8.nd rfl (Or.inl rfl) ((aP F_law_cell_at (hr.mono (by decide)) (by rfl) (aa (dv 0) (aa ag ai)))).pe)
      (aw (df (i := 2) g8.nd rfl (Or.inl rfl) ((dg (jk (aa ag (aa ag (aa (aJ bH (aP F_law_stir (hr.mono (by decide)) (by rfl) (aa (dv 1) (aa ag ai))) ag) (aa (aJ bH (aP F_law_stir (hr.mono (by decide)) (by rfl) (aa (dv 1) (aa ag ai))) ag) ai))))) (aJ bH (aP F_law_stir (hr.mono (by decide)) (by rfl) (aa (dv 1) (aa ag ai))) ag))).pe)
      (aw (df (i := 3) g8.nd rfl (Or.inl rfl) ((aJ bH (aP F_law_stir (hr.mono (by decide)) (by rfl) (aa (dv 1) (aa ag ai))) ag)).pe)
      (aw (df (i := 4) g8.nd rfl (Or.inl rfl) (za MK FV_Streams___init__ (hr.mono (by decide)) (by rfl) TC.at_ BV_Streams___init__ .nil q8 (aj (pv 2) aN)))
      (aw (df (i := 5) g8.nd rfl (Or.inl rfl) (pd (aj (pd aN) (aj (pd aN) aN))))
      (aw (df (i := 6) g8.nd rfl (Or.inl rfl) ((dg (jk (aa ag (aa ag ai))) (nI vN (by rfl) T.vC boot_int (aa (oB kI (aJ bH (aP F_law_stir (hr.mono (by decide)) (by rfl) (aa (dv 1) (aa ag ai))) ag) ag (aQ _)) ai)))).pe)
      (aw (gB (pq (pz ((aP F_law_right (hr.mono (by decide)) (by rfl) (aa (dv 4) (aa (dv 5) (aa (dv 2) ai))))).pe)) (aM (eE nY)) fq)
      (aw (xr PassesOwn.leaving rfl ((gQ (qz (dv 0) (oI ag) (oI ag)))).pi (aS (i := 7) g8.nd rfl (Or.inl rfl))
      (aw (df (i := 8) g8.nd rfl (Or.inl rfl) ((aJ bH (aP F_law_stir (hr.mono (by decide)) (by rfl) (aa (dv 7) (aa ag ai))) ag)).pe)
      (aw (gB (eF zU (pv 8) cf (aQ _)) (aM (dZ (xf F_law_out (hr.mono (by decide)) (by rfl) (aj (pv 4) (aj (pv 5) (aj (pv 7) aN))))))
        (aM (gB (eF jd (pv 8) cf (aQ _)) (aM (gB (pq (pz ((aP F_law_refused (hr.mono (by decide)) (by rfl) (aa (dv 4) (aa (dv 7) (aa (dv 3) ai))))).pe)) (aM (eE nY)) fq))
          (aM (dZ (xf F_law_put (hr.mono (by decide)) (by rfl) (aj (pv 4) (aj (pv 5) (aj (pv 7) (aj (pv 3) (aj (pv 6) aN)))))))))))
      (aM (gB (PW.pt (xB (eF jd ((aJ bH (aP F_law_stir (hr.mono (by decide)) (by rfl) (aa (dv 7) (aa ag ai))) (dg (jk (aa ag (aa ag ai))) (nI vN (by rfl) T.vC boot_int (aa (oB kI (dv 6) ag (aQ _)) ai))))).pe cf (aQ _)) (uf (pq (pz ((aP F_law_right (hr.mono (by decide)) (by rfl) (aa (dv 4) (aa (dv 5) (aa (dv 2) ai))))).pe))))) (aM (eE nY)) fq)))))
      (aM (eE ((aP F_law_right (hr.mono (by decide)) (by rfl) (aa (dv 4) (aa (dv 5) (aa (dv 2) ai))))).pe)))))))))), ?_⟩
    obtain ⟨sc, rfl, hsc⟩ : ∃ sc, v = .ref sc /\ dD K G sc (ns.map V.int) := by cases rv with | scr e => exact ⟨_, rfl, e⟩
    have done : ∀ H2, ak H H2 -> Q (.bl true) H2 := λH2 s2 => kk (.p (.bl true)) _ H2 G q ⟨s2, ak.refl _, sg.trans s2, λ_ _ => rfl⟩ (.bl true);refine eK (λσ H1 => ∃ f : Int, σ = [some (.ref sc), some (.int f), none, none, none, none, none, none, none] /\ ak H H1) ?_ λN hN => ?_;rotate_left
    · refine gM [some (.p (.scr ns))] (vO ns 0) (aA (.scr (sg.seq hsc)) bx) ?_ λH1 s1 => hN _ _ ⟨_, rfl, s1⟩;walk_at "rs";exact ⟨ns, 0, rfl, by decide, rfl⟩
    rintro σ H1 ⟨f, rfl, s1⟩;refine eK (λσ H1 => ∃ g : Int, 0 <= g /\ g <= 50 /\ σ = [some (.ref sc), some (.int f), some (.int g), none, none, none, none, none, none] /\ ak H H1) ?_ λN hN => ?_;rotate_left
    · refine lJ [none, some (.p (.int f))] (λb => ∃ g : Int, 0 <= g /\ g <= 50 /\ b = .p (.int g)) (ao (aA (.int f) bx)) ?_ λb v H2 ⟨g, g0, g1, e⟩ s2 r2 => ?_
      · repeat (first | dsimp only [aF] | walk_at "rs1" | walk_at "rsx")
        have m1 := cD f 0 51 (by decide);have m2 := cD f 0 11 (by decide);have m3 := cD f 1 4 (by decide);obtain ⟨v, hv, v0, v1⟩ := B7 (a := 0) (b := 50) (c := fi f 0 % 51) (d := fi f 0 % 11) (lo := 0) (hi := 50) m3.1 m3.2 (by lia) (by lia) (by lia) (by lia);exact ⟨by decide, by decide, by decide, _, hv, v, v0, v1, rfl⟩
      · subst e;cases r2;exact hN _ _ ⟨g, g0, g1, rfl, s1.trans s2⟩
    clear s1 H1;rintro σ H1 ⟨g, g0, g1, rfl, s1⟩;refine eK (λσ H1 => ∃ ba : Int, 0 <= ba /\ ba < 200 /\ σ = [some (.ref sc), some (.int f), some (.int g), some (.int ba), none, none, none, none, none] /\ ak H H1) ?_ λN hN => ?_;rotate_left
    · have m := cD f 2 200 (by decide);refine gM [none, some (.p (.int f))] (fi f 2 % 200) (ao (aA (.int f) bx)) ?_ λH2 s2 => hN _ _ ⟨_, m.1, m.2, rfl, s1.trans s2⟩;repeat (first | dsimp only [aF] | walk_at "rs1" | walk_at "rsx")
      exact ⟨by decide, trivial⟩
    clear s1 H1;rintro σ H1 ⟨ba, ba0, ba1, rfl, s1⟩;refine eK (λσ H1 => ∃ a dx b c, σ = [some (.ref sc), some (.int f), some (.int g), some (.int ba), some (.ref a), none, none, none, none] /\ Run CS H H1 a dx b c g 0 [] []) ?_ λN hN => ?_;rotate_left
    · exact ⟨_, rfl, λx dx hx hd hne => ⟨x, dx, g, rfl, ah, λb c hb hc hbc => ⟨rfl, hN _ _ ⟨x, dx, b, c, rfl, zo s1 hx hd hb hc hbc⟩⟩⟩⟩
    clear s1 H1;rintro σ H1 ⟨a, dx, b, c, rfl, R1⟩;refine eK (λσ H1 => ∃ r l1 l2, σ = [some (.ref sc), some (.int f), some (.int g), some (.int ba), some (.ref a), some (.ref r), none, none, none] /\ (∀ mo, fK CS H1 a dx b c r l1 l2 g 0 mo [] []) /\ ak H H1 /\ ∀ y ∈ [a, b, c, l1, l2], H y = none) ?_ λN hN => ?_;rotate_left
    · refine ⟨Nat.zero_le _, λl1 h1 => ⟨Nat.zero_le _, λl2 h2 => ⟨(show 2 <= sizeLine by decide), λr h3 => ?_⟩⟩⟩;have s2 : ak (upd H1 l1 (.lst [])) (upd (upd (upd H1 l1 (.lst [])) l2 (.lst [])) r (.lst [.ref l1, .ref l2])) := (bg h2).trans (bg h3);have ss : ak H1 (upd (upd (upd H1 l1 (.lst [])) l2 (.lst [])) r (.lst [.ref l1, .ref l2])) := (bg h1).trans s2;have nl : l1 ≠ l2 := λz => by rw [<- z, ah] at h2;cases h2
      refine hN _ _ ⟨r, l1, l2, rfl, λmo => ⟨R1.ob.mono ss, ah, nl, ⟨[], s2 _ _ ah, .nil⟩, ⟨[], bg h3 _ _ ah, .nil⟩, Nat.zero_le _, Nat.zero_le _, λ_ z => (nomatch z), λ_ z => (nomatch z)⟩, R1.sm.trans ss, λy hy => ?_⟩;rcases List.mem_cons.mp hy with rfl | hy
      · exact R1.na
      rcases List.mem_cons.mp hy with rfl | hy
      · exact R1.nb
      rcases List.mem_cons.mp hy with rfl | hy
      · exact R1.nc
      rcases List.mem_cons.mp hy with rfl | hy
      · exact R1.sm.free h1
      rcases List.mem_cons.mp hy with rfl | hy
      · exact (R1.sm.trans (bg h1)).free h2
      · cases hy
    clear R1 H1;rintro σ H1 ⟨r, l1, l2, rfl, S1, s1, own⟩;refine eK (λσ H1 => ∃ mo : Nat, (mo = 7 \/ mo = 12) /\ σ = sE sc f g ba a r mo none none /\ fK CS H1 a dx b c r l1 l2 g 0 mo [] [] /\ ak H H1) ?_ λN hN => ?_;rotate_left
    · refine lJ [none, some (.p (.int f))] (λb => ∃ mo : Nat, (mo = 7 \/ mo = 12) /\ b = .p (.int mo)) (ao (aA (.int f) bx)) ?_ λb v H2 ⟨mo, hmo, e⟩ s2 r2 => ?_
      · repeat (first | dsimp only [aF] | walk_at "rs1" | walk_at "rsx")
        refine ⟨by decide, ?_⟩;by_cases z : decide (fi f 3 % 4 = 1) = true
        · rw [if_pos z];exact ⟨_, rfl, 12, .inr rfl, rfl⟩
        · rw [if_neg z];exact ⟨_, rfl, 7, .inl rfl, rfl⟩
      · subst e;cases r2;exact hN _ _ ⟨mo, hmo, rfl, (S1 mo).mono s2, s1.trans s2⟩
    clear s1 S1 H1;rintro σ H1 ⟨mo, hmo, rfl, S1, s1⟩;have m12 : mo <= 12 := by lia
    have right : ∀ {n : Int} {hs ks : cL} {H3 : Hp} {y7 y8 : Option V} {Q3 : VK}, fK CS H3 a dx b c r l1 l2 g n mo hs ks -> n <= 100 -> (∀ H4, ak H3 H4 -> Q3 (.bl true) H4) ->
        cE K (dO (iE CS) (bu (bo 4) (bu (bo 5) (bu (bo 2) eU)))) (sE sc f g ba a r mo y7 y8) H3 Q3 := λ{n hs ks H3 y7 y8 Q3} S nn k => by
      refine rP _ (.bl true) (Cy S) ?_ λv H4 s4 r4 => ?_
      · walk_at "rs";exact ⟨g, n, hs, ks, rfl, S.Et g0 g1 m12, S.small nn, rfl⟩
      · cases r4;exact k H4 s4
    refine eK (λσ H1 => σ = sE sc f g ba a r mo none none /\ fK CS H1 a dx b c r l1 l2 g 0 mo [] [] /\ ak H H1) ?_ λN hN => ?_;rotate_left
    · exact right S1 (by decide) λH4 s4 => ⟨true, rfl, kS (hN _ _ ⟨rfl, S1.mono s4, s1.trans s4⟩)⟩
    clear s1 S1 H1;rintro σ H1 ⟨rfl, S1, s1⟩;refine eK (λσ H1 => ∃ (Gs : Hp) (n : Int) (hs ks : cL) (y7 y8 : Option V), n <= 62 /\ σ = sE sc f g ba a r mo y7 y8 /\ vA CS H Gs H1 a dx b c r l1 l2 g n mo hs ks) ?_ λN hN => ?_
    · -- return ..
      rintro σ H2 ⟨Gs, n, hs, ks, y7, y8, n62, rfl, M⟩;exact right M.s (by lia) λH4 s4 => done _ (M.sm.trans s4)
    have gmem : ∀ y, y ∈ [a, b, c, l1, l2] -> Ac H1 y := λy hy => by
      rcases List.mem_cons.mp hy with rfl | hy
      · exact ⟨_, S1.ob.ia, λ_ z => nomatch z⟩
      rcases List.mem_cons.mp hy with rfl | hy
      · obtain ⟨es, e, _⟩ := S1.ob.hb;exact ⟨_, e, λ_ z => nomatch z⟩
      rcases List.mem_cons.mp hy with rfl | hy
      · obtain ⟨es, e, _⟩ := S1.ob.hc;exact ⟨_, e, λ_ z => nomatch z⟩
      rcases List.mem_cons.mp hy with rfl | hy
      · obtain ⟨vs, e, _⟩ := S1.r1;exact ⟨_, e, λ_ z => nomatch z⟩
      rcases List.mem_cons.mp hy with rfl | hy
      · obtain ⟨vs, e, _⟩ := S1.r2;exact ⟨_, e, λ_ z => nomatch z⟩
      · cases hy
    let Gc : Hp := λy => if y ∈ [a, b, c, l1, l2] then none else H1 y
    have gcn : ∀ y, y ∈ [a, b, c, l1, l2] -> Gc y = none := λy hy => if_pos hy;have gco : ∀ y, y ∉ [a, b, c, l1, l2] -> Gc y = H1 y := λy hy => if_neg hy;have sgc : ak Gc H1 := λy o e => by
      by_cases hy : y ∈ [a, b, c, l1, l2]
      · rw [gcn y hy] at e;cases e
      · rw [gco y hy] at e;exact e
    have scq : dD K Gc sc (ns.map V.int) := by
      have key : ∀ u, G sc = some u -> Gc sc = some u := λu h => by
        have e := sg _ _ h;rw [gco sc λz => by rw [own sc z] at e;cases e];exact s1 _ _ e
      rcases hsc with (h | ⟨o, h⟩) | h
      · exact .inl (.inl (key _ h))
      · exact .inl (.inr ⟨o, key _ h⟩)
      · exact .inr h
    refine ⟨Gc, [some (.p (.scr ns))], λxs => xs = (hR ns (some 1) (some 63)).map D.int, sgc, aA (.scr scq) bx, ?_, λxs J H2 Gs e w it => ?_⟩
    · walk_at "rs"
    subst e;have gsn : ∀ y, y ∈ [a, b, c, l1, l2] -> Gs y = none := λy hy => by rw [w.old y (gmem y hy)];exact gcn y hy
    have lc : ((hR ns (some 1) (some 63)).map D.int).length <= 62 := by
      rw [length_map];unfold hR;rw [length_take, length_drop];rw [show HT.ef ns.length 0 (some 1) = min 1 ns.length from rfl];lia
    refine yx it (λi σ H3 => ∃ (n : Int) (hs ks : cL) (y7 y8 : Option V), n <= ((i : Nat):Int) /\ i <= 62 /\ σ = sE sc f g ba a r mo y7 y8 /\ vA CS H Gs H3 a dx b c r l1 l2 g n mo hs ks) ⟨0, [], [], none, none, by decide, Nat.zero_le _, rfl, ⟨S1.mono w.hh, s1.trans w.hh, w.gh, own, gsn⟩⟩ (by rintro i σ H3 ⟨_, _, _, _, _, _, _, _, M⟩;exact M.sg) ?_ ?_;rotate_left
    · rintro σ H3 ⟨n, hs, ks, y7, y8, hn, hi, rfl, M⟩;exact hN _ _ ⟨Gs, n, hs, ks, y7, y8, by lia, rfl, M⟩
    clear S1 s1 sgc scq gcn gco gmem;rintro i d x σ H3 H4 hx ⟨n, hs, ks, y7, y8, hn, hi, rfl, M⟩ s4 rx;obtain ⟨ce, rfl⟩ : ∃ ce : Int, d = .int ce := by
      rw [getElem?_map] at hx;obtain ⟨c, _, e⟩ := Option.map_eq_some_iff.mp hx;exact ⟨c, e.symm⟩
    cases rx;have hi2 : i + 1 <= 62 := Nat.le_trans (List.getElem?_eq_some_iff.mp hx).1 lc;replace M := M.mono s4;clear s4 H3 hx it w H2;show Bo _ _ _ (sE sc f g ba a r mo (some (.int ce)) y8) H4;refine eK (λσ H5 => ∃ wy : Int, σ = sE sc f g ba a r mo (some (.int ce)) (some (.int wy)) /\ vA CS H Gs H5 a dx b c r l1 l2 g n mo hs ks) ?_ λN' hN' => ?_;rotate_left
    · refine gM [none, none, none, none, none, none, none, some (.p (.int ce))] (fi ce 0 % 8) (ao (ao (ao (ao (ao (ao (ao (aA (.int _) bx)))))))) ?_ λH5 s5 => hN' _ _ ⟨_, rfl, M.mono s5⟩;repeat (first | dsimp only [aF] | walk_at "rs1" | walk_at "rsx")
      exact ⟨by decide, trivial⟩
    clear M H4;rintro σ H4 ⟨wy, rfl, M⟩;refine eK (λσ H5 => ∃ (n : Int) (hs ks : cL), n <= ((i + 1 : Nat):Int) /\ σ = sE sc f g ba a r mo (some (.int ce)) (some (.int wy)) /\ vA CS H Gs H5 a dx b c r l1 l2 g n mo hs ks) ?_ λN' hN' => ?_;rotate_left
    · refine ⟨_, rfl, _, _, rfl, rfl, _, rfl, jM (λz => ?_) λz => ⟨_, rfl, rfl, _, rfl, jM (λz => ?_) λz => ?_⟩⟩
      · exact ⟨_, rfl, _, rfl, _, rfl, a, dx, b, c, r, l1, l2, g, n, ce, mo, hs, ks, rfl, m12, by lia, M.s, λH' hs' ks' S' k' => hN' _ _ ⟨n, hs', ks', by lia, rfl, M.step S' k'⟩⟩
      · refine rP [none, none, none, some (.p (.int ba)), some (.p (oD CS g hs ks n)), none, none, some (.p (.int ce))] (.bl true) (ao (ao (ao (aA (.int _) (aA M.s.ob.rep (ao (ao (aA (.int _) bx)))))))) ?_ λv H5 s5 r5 => ?_
        · walk_at "rs";exact ⟨g, n, ce, ba, hs, ks, rfl, ba0, ba1, M.s.Et g0 g1 m12, M.s.uS (by lia), rfl⟩
        · cases r5;exact ⟨true, rfl, kS (hN' _ _ ⟨n, hs, ks, by lia, rfl, M.mono s5⟩)⟩
      · exact ⟨_, rfl, _, rfl, _, rfl, _, rfl, _, rfl, a, dx, b, c, r, l1, l2, g, n, ce, ba, mo, hs, ks, rfl, ba0, ba1, by lia, m12, by lia, M.s, λH' hs' ks' S' k' => hN' _ _ ⟨n + 1, hs', ks', by lia, rfl, M.step S' k'⟩⟩
    clear M H4 hn hs ks;rintro σ H4 ⟨n, hs, ks, hn, rfl, M⟩;refine lJ [none, none, none, none, none, none, some (.p (.int mo)), some (.p (.int ce))] (λb => ∃ j : Int, b = .p (.int j)) (ao (ao (ao (ao (ao (ao (aA (.int _) (aA (.int _) bx)))))))) ?_ λb0 v H5 ⟨j, e⟩ s5 r5 => ?_
    · repeat (first | dsimp only [aF] | walk_at "rs1" | walk_at "rsx")
      by_cases z : decide ((mo : Int) = 12) = true
      · rw [if_pos z];exact ⟨_, rfl, (by decide : (0 : Int) < 9), _, rfl⟩
      · rw [if_neg z];exact ⟨_, rfl, (by decide : (0 : Int) < 3), _, rfl⟩
    subst e;cases r5;replace M := M.mono s5;have fin : ∀ H6, ak H5 H6 -> _ := λH6 s6 => (⟨n, hs, ks, _, _, hn, hi2, rfl, M.mono s6⟩ : ∃ (n' : Int) (hs' ks' : cL) (y7 y8 : Option V), n' <= ((i + 1 : Nat):Int) /\ i + 1 <= 62 /\ sE sc f g ba a r mo (some (.int ce)) (some (.int wy)) = sE sc f g ba a r mo y7 y8 /\ vA CS H Gs H6 a dx b c r l1 l2 g n' mo hs' ks')
    refine ⟨rfl, _, rfl, jM (λz => ?_) λz => kS (fin H5 (ak.refl _))⟩;exact right M.s (by lia) λH6 s6 => ⟨true, rfl, kS (fin H6 s6)⟩
end
end WS
namespace WS
open PySem L2 DL
theorem eQ {α : Type}{P : List α -> Prop}(h : ∀ x0, P [x0]):∀ us : List α, us.length = 1 -> P us := λus hl => match us, hl with | [x0], _ => h x0
theorem dY {α : Type}{P : List α -> Prop}(h : ∀ x0 x1, P [x0, x1]):∀ us : List α, us.length = 2 -> P us := λus hl => match us, hl with | [x0, x1], _ => h x0 x1
theorem iU {α : Type}{P : List α -> Prop}(h : ∀ x0 x1 x2, P [x0, x1, x2]):∀ us : List α, us.length = 3 -> P us := λus hl => match us, hl with | [x0, x1, x2], _ => h x0 x1 x2
theorem t8 {α : Type}{P : List α -> Prop}(h : ∀ x0 x1 x2 x3, P [x0, x1, x2, x3]):∀ us : List α, us.length = 4 -> P us := λus hl => match us, hl with | [x0, x1, x2, x3], _ => h x0 x1 x2 x3
theorem t9 {α : Type}{P : List α -> Prop}(h : ∀ x0 x1 x2 x3 x4, P [x0, x1, x2, x3, x4]):∀ us : List α, us.length = 5 -> P us := λus hl => match us, hl with | [x0, x1, x2, x3, x4], _ => h x0 x1 x2 x3 x4
theorem all_mk {l : PySem.W.OpenLaw}{w : World}{K : Frag}{h : Heap}{mg : Str -> Option Value}{fa : Addr}(X : K.In h)(G : h.Ns mainGlobals mg)(hfa : mg "law" = some (.ref fa))
    {CS : Addr}
    {f1 : Addr} {od1 an1 : Option Addr} {sl1 : Array (Option Value)} {oc1 kV1 dc1 pm1 cd1 ct1 : Value}
    {f2 : Addr} {od2 an2 : Option Addr} {sl2 : Array (Option Value)} {oc2 kV2 dc2 pm2 cd2 ct2 : Value}
    {f3 : Addr} {od3 an3 : Option Addr} {sl3 : Array (Option Value)} {oc3 kV3 dc3 pm3 cd3 ct3 : Value}
    {f4 : Addr} {od4 an4 : Option Addr} {sl4 : Array (Option Value)} {oc4 kV4 dc4 pm4 cd4 ct4 : Value}
    {f5 : Addr} {od5 an5 : Option Addr} {sl5 : Array (Option Value)} {oc5 kV5 dc5 pm5 cd5 ct5 : Value}
    {f6 : Addr} {od6 an6 : Option Addr} {sl6 : Array (Option Value)} {oc6 kV6 dc6 pm6 cd6 ct6 : Value}
    {f7 : Addr} {od7 an7 : Option Addr} {sl7 : Array (Option Value)} {oc7 kV7 dc7 pm7 cd7 ct7 : Value}
    {f8 : Addr} {od8 an8 : Option Addr} {sl8 : Array (Option Value)} {oc8 kV8 dc8 pm8 cd8 ct8 : Value}
    {f9 : Addr} {od9 an9 : Option Addr} {sl9 : Array (Option Value)} {oc9 kV9 dc9 pm9 cd9 ct9 : Value}
    {f10 : Addr} {od10 an10 : Option Addr} {sl10 : Array (Option Value)} {oc10 kV10 dc10 pm10 cd10 ct10 : Value}
    {f11 : Addr} {od11 an11 : Option Addr} {sl11 : Array (Option Value)} {oc11 kV11 dc11 pm11 cd11 ct11 : Value}
    {f12 : Addr} {od12 an12 : Option Addr} {sl12 : Array (Option Value)} {oc12 kV12 dc12 pm12 cd12 ct12 : Value}
    {f13 : Addr} {od13 an13 : Option Addr} {sl13 : Array (Option Value)} {oc13 kV13 dc13 pm13 cd13 ct13 : Value}
    {f14 : Addr} {od14 an14 : Option Addr} {sl14 : Array (Option Value)} {oc14 kV14 dc14 pm14 cd14 ct14 : Value}
    {f15 : Addr} {od15 an15 : Option Addr} {sl15 : Array (Option Value)} {oc15 kV15 dc15 pm15 cd15 ct15 : Value}
    {f16 : Addr} {od16 an16 : Option Addr} {sl16 : Array (Option Value)} {oc16 kV16 dc16 pm16 cd16 ct16 : Value}
    {f17 : Addr} {od17 an17 : Option Addr} {sl17 : Array (Option Value)} {oc17 kV17 dc17 pm17 cd17 ct17 : Value}
    {f18 : Addr} {od18 an18 : Option Addr} {sl18 : Array (Option Value)} {oc18 kV18 dc18 pm18 cd18 ct18 : Value}
    {f19 : Addr} {od19 an19 : Option Addr} {sl19 : Array (Option Value)} {oc19 kV19 dc19 pm19 cd19 ct19 : Value}
    {f20 : Addr} {od20 an20 : Option Addr} {sl20 : Array (Option Value)} {oc20 kV20 dc20 pm20 cd20 ct20 : Value}
    {f21 : Addr} {od21 an21 : Option Addr} {sl21 : Array (Option Value)} {oc21 kV21 dc21 pm21 cd21 ct21 : Value}
    {f22 : Addr} {od22 an22 : Option Addr} {sl22 : Array (Option Value)} {oc22 kV22 dc22 pm22 cd22 ct22 : Value}
    {f23 : Addr} {od23 an23 : Option Addr} {sl23 : Array (Option Value)} {oc23 kV23 dc23 pm23 cd23 ct23 : Value}
    {f24 : Addr} {od24 an24 : Option Addr} {sl24 : Array (Option Value)} {oc24 kV24 dc24 pm24 cd24 ct24 : Value}
    {f25 : Addr} {od25 an25 : Option Addr} {sl25 : Array (Option Value)} {oc25 kV25 dc25 pm25 cd25 ct25 : Value}
    {f26 : Addr} {od26 an26 : Option Addr} {sl26 : Array (Option Value)} {oc26 kV26 dc26 pm26 cd26 ct26 : Value}
    {f27 : Addr} {od27 an27 : Option Addr} {sl27 : Array (Option Value)} {oc27 kV27 dc27 pm27 cd27 ct27 : Value}
    {f28 : Addr} {od28 an28 : Option Addr} {sl28 : Array (Option Value)} {oc28 kV28 dc28 pm28 cd28 ct28 : Value}
    {f29 : Addr} {od29 an29 : Option Addr} {sl29 : Array (Option Value)} {oc29 kV29 dc29 pm29 cd29 ct29 : Value}
    {f30 : Addr} {od30 an30 : Option Addr} {sl30 : Array (Option Value)} {oc30 kV30 dc30 pm30 cd30 ct30 : Value}
    {f31 : Addr} {od31 an31 : Option Addr} {sl31 : Array (Option Value)} {oc31 kV31 dc31 pm31 cd31 ct31 : Value}
    {f32 : Addr} {od32 an32 : Option Addr} {sl32 : Array (Option Value)} {oc32 kV32 dc32 pm32 cd32 ct32 : Value}
    {tk1 : Tok}
    {tk2 : Tok}
    {tk3 : Tok}
    {tk4 : Tok}
    {tk5 : Tok}
    {ec1 : Addr} {ed1 : ClassData}
    {ec2 : Addr} {ed2 : ClassData}
    {ec3 : Addr} {ed3 : ClassData}
    {ec4 : Addr} {ed4 : ClassData}
    {ec5 : Addr} {ed5 : ClassData}
    (qC : nsIn K mainGlobals "Streams" = some (some (.ref CS))) (qpg : plainGet K CS Str.empty = true) (qhd : PySem.W.hasDictIn K CS = true) (qpo : PySem.W.plainOver K CS = true) (qsa : PySem.W.findIn K (.ref CS) "__setattr__" = some (some (.builtin "object.__setattr__"))) (qmk : PySem.W.makesIn K CS = true) (qkc : keepIn K (.ref CS) = true)
    (a1 : nsIn K mainGlobals "_law_cell_at" = some (some (.ref f1))) (l1 : K.lookup f1 = some ⟨oc1, od1, .func (fnOf "_law_cell_at" "_law_cell_at" (aC cZ) (au cZ) (ae cZ) .none kV1 dc1 pm1 an1 cd1 ct1), sl1⟩) (c1 : codeIn K cd1 "_law_cell_at" = true) (k1 : keepIn K (.ref f1) = true)
    (a2 : PySem.W.findIn K (.ref CS) "__init__" = some (some (.ref f2))) (i2 : isFn K (.ref f2) = true) (l2 : K.lookup f2 = some ⟨oc2, od2, .func (fnOf "__init__" "Streams.__init__" (aC bp) (au bp) (ae bp) .none kV2 dc2 pm2 an2 cd2 ct2), sl2⟩) (c2 : codeIn K cd2 "Streams.__init__" = true) (k2 : keepIn K (.ref f2) = true)
    (a3 : PySem.W.findIn K (.ref CS) "works" = some (some (.ref f3))) (i3 : isFn K (.ref f3) = true) (l3 : K.lookup f3 = some ⟨oc3, od3, .func (fnOf "works" "Streams.works" (aC bT) (au bT) (ae bT) .none kV3 dc3 pm3 an3 cd3 ct3), sl3⟩) (c3 : codeIn K cd3 "Streams.works" = true) (k3 : keepIn K (.ref f3) = true)
    (a4 : nsIn K mainGlobals "heat_above" = some (some (.ref f4))) (l4 : K.lookup f4 = some ⟨oc4, od4, .func (fnOf "heat_above" "heat_above" (aC cU) (au cU) (ae cU) .none kV4 dc4 pm4 an4 cd4 ct4), sl4⟩) (c4 : codeIn K cd4 "heat_above" = true) (k4 : keepIn K (.ref f4) = true)
    (a5 : nsIn K mainGlobals "cold_bands" = some (some (.ref f5))) (l5 : K.lookup f5 = some ⟨oc5, od5, .func (fnOf "cold_bands" "cold_bands" (aC cR) (au cR) (ae cR) .none kV5 dc5 pm5 an5 cd5 ct5), sl5⟩) (c5 : codeIn K cd5 "cold_bands" = true) (k5 : keepIn K (.ref f5) = true)
    (a6 : nsIn K mainGlobals "hot_bands" = some (some (.ref f6))) (l6 : K.lookup f6 = some ⟨oc6, od6, .func (fnOf "hot_bands" "hot_bands" (aC dz) (au dz) (ae dz) .none kV6 dc6 pm6 an6 cd6 ct6), sl6⟩) (c6 : codeIn K cd6 "hot_bands" = true) (k6 : keepIn K (.ref f6) = true)
    (a7 : nsIn K mainGlobals "lack_above" = some (some (.ref f7))) (l7 : K.lookup f7 = some ⟨oc7, od7, .func (fnOf "lack_above" "lack_above" (aC dF) (au dF) (ae dF) .none kV7 dc7 pm7 an7 cd7 ct7), sl7⟩) (c7 : codeIn K cd7 "lack_above" = true) (k7 : keepIn K (.ref f7) = true)
    (a8 : nsIn K mainGlobals "lacks_above" = some (some (.ref f8))) (l8 : K.lookup f8 = some ⟨oc8, od8, .func (fnOf "lacks_above" "lacks_above" (aC cg) (au cg) (ae cg) .none kV8 dc8 pm8 an8 cd8 ct8), sl8⟩) (c8 : codeIn K cd8 "lacks_above" = true) (k8 : keepIn K (.ref f8) = true)
    (a9 : nsIn K mainGlobals "least_heat" = some (some (.ref f9))) (l9 : K.lookup f9 = some ⟨oc9, od9, .func (fnOf "least_heat" "least_heat" (aC dJ) (au dJ) (ae dJ) .none kV9 dc9 pm9 an9 cd9 ct9), sl9⟩) (c9 : codeIn K cd9 "least_heat" = true) (k9 : keepIn K (.ref f9) = true)
    (a10 : nsIn K mainGlobals "least_cold" = some (some (.ref f10))) (l10 : K.lookup f10 = some ⟨oc10, od10, .func (fnOf "least_cold" "least_cold" (aC dH) (au dH) (ae dH) .none kV10 dc10 pm10 an10 cd10 ct10), sl10⟩) (c10 : codeIn K cd10 "least_cold" = true) (k10 : keepIn K (.ref f10) = true)
    (a11 : nsIn K mainGlobals "pinch" = some (some (.ref f11))) (l11 : K.lookup f11 = some ⟨oc11, od11, .func (fnOf "pinch" "pinch" (aC g7) (au g7) (ae g7) .none kV11 dc11 pm11 an11 cd11 ct11), sl11⟩) (c11 : codeIn K cd11 "pinch" = true) (k11 : keepIn K (.ref f11) = true)
    (a12 : PySem.W.findIn K (.ref CS) "least" = some (some (.ref f12))) (i12 : isFn K (.ref f12) = true) (l12 : K.lookup f12 = some ⟨oc12, od12, .func (fnOf "least" "Streams.least" (aC bS) (au bS) (ae bS) .none kV12 dc12 pm12 an12 cd12 ct12), sl12⟩) (c12 : codeIn K cd12 "Streams.least" = true) (k12 : keepIn K (.ref f12) = true)
    (a13 : nsIn K mainGlobals "check_within" = some (some (.ref f13))) (l13 : K.lookup f13 = some ⟨oc13, od13, .func (fnOf "check_within" "check_within" (aC cC) (au cC) (ae cC) .none kV13 dc13 pm13 an13 cd13 ct13), sl13⟩) (c13 : codeIn K cd13 "check_within" = true) (k13 : keepIn K (.ref f13) = true)
    (a14 : nsIn K mainGlobals "check_stream" = some (some (.ref f14))) (l14 : K.lookup f14 = some ⟨oc14, od14, .func (fnOf "check_stream" "check_stream" (aC cB) (au cB) (ae cB) .none kV14 dc14 pm14 an14 cd14 ct14), sl14⟩) (c14 : codeIn K cd14 "check_stream" = true) (k14 : keepIn K (.ref f14) = true)
    (a15 : PySem.W.findIn K (.ref CS) "all_of" = some (some (.ref f15))) (i15 : isFn K (.ref f15) = true) (l15 : K.lookup f15 = some ⟨oc15, od15, .func (fnOf "all_of" "Streams.all_of" (aC bL) (au bL) (ae bL) .none kV15 dc15 pm15 an15 cd15 ct15), sl15⟩) (c15 : codeIn K cd15 "Streams.all_of" = true) (k15 : keepIn K (.ref f15) = true)
    (a16 : PySem.W.findIn K (.ref CS) "check_new" = some (some (.ref f16))) (i16 : isFn K (.ref f16) = true) (l16 : K.lookup f16 = some ⟨oc16, od16, .func (fnOf "check_new" "Streams.check_new" (aC bj) (au bj) (ae bj) .none kV16 dc16 pm16 an16 cd16 ct16), sl16⟩) (c16 : codeIn K cd16 "Streams.check_new" = true) (k16 : keepIn K (.ref f16) = true)
    (a17 : PySem.W.findIn K (.ref CS) "change_to" = some (some (.ref f17))) (i17 : isFn K (.ref f17) = true) (l17 : K.lookup f17 = some ⟨oc17, od17, .func (fnOf "change_to" "Streams.change_to" (aC bh) (au bh) (ae bh) .none kV17 dc17 pm17 an17 cd17 ct17), sl17⟩) (c17 : codeIn K cd17 "Streams.change_to" = true) (k17 : keepIn K (.ref f17) = true)
    (a18 : PySem.W.findIn K (.ref CS) "change_with" = some (some (.ref f18))) (i18 : isFn K (.ref f18) = true) (l18 : K.lookup f18 = some ⟨oc18, od18, .func (fnOf "change_with" "Streams.change_with" (aC aT) (au aT) (ae aT) .none kV18 dc18 pm18 an18 cd18 ct18), sl18⟩) (c18 : codeIn K cd18 "Streams.change_with" = true) (k18 : keepIn K (.ref f18) = true)
    (a19 : PySem.W.findIn K (.ref CS) "home_of" = some (some (.ref f19))) (i19 : isFn K (.ref f19) = true) (l19 : K.lookup f19 = some ⟨oc19, od19, .func (fnOf "home_of" "Streams.home_of" (aC bC) (au bC) (ae bC) .none kV19 dc19 pm19 an19 cd19 ct19), sl19⟩) (c19 : codeIn K cd19 "Streams.home_of" = true) (k19 : keepIn K (.ref f19) = true)
    (a20 : PySem.W.findIn K (.ref CS) "change_without" = some (some (.ref f20))) (i20 : isFn K (.ref f20) = true) (l20 : K.lookup f20 = some ⟨oc20, od20, .func (fnOf "change_without" "Streams.change_without" (aC ay) (au ay) (ae ay) .none kV20 dc20 pm20 an20 cd20 ct20), sl20⟩) (c20 : codeIn K cd20 "Streams.change_without" = true) (k20 : keepIn K (.ref f20) = true)
    (a21 : nsIn K mainGlobals "_law_whole" = some (some (.ref f21))) (l21 : K.lookup f21 = some ⟨oc21, od21, .func (fnOf "_law_whole" "_law_whole" (aC ee) (au ee) (ae ee) .none kV21 dc21 pm21 an21 cd21 ct21), sl21⟩) (c21 : codeIn K cd21 "_law_whole" = true) (k21 : keepIn K (.ref f21) = true)
    (a22 : nsIn K mainGlobals "_law_right" = some (some (.ref f22))) (l22 : K.lookup f22 = some ⟨oc22, od22, .func (fnOf "_law_right" "_law_right" (aC cK) (au cK) (ae cK) .none kV22 dc22 pm22 an22 cd22 ct22), sl22⟩) (c22 : codeIn K cd22 "_law_right" = true) (k22 : keepIn K (.ref f22) = true)
    (a23 : nsIn K mainGlobals "_law_stir" = some (some (.ref f23))) (l23 : K.lookup f23 = some ⟨oc23, od23, .func (fnOf "_law_stir" "_law_stir" (aC eO) (au eO) (ae eO) .none kV23 dc23 pm23 an23 cd23 ct23), sl23⟩) (c23 : codeIn K cd23 "_law_stir" = true) (k23 : keepIn K (.ref f23) = true)
    (a24 : PySem.W.findIn K (.ref CS) "take_out" = some (some (.ref f24))) (i24 : isFn K (.ref f24) = true) (l24 : K.lookup f24 = some ⟨oc24, od24, .func (fnOf "take_out" "Streams.take_out" (aC br) (au br) (ae br) .none kV24 dc24 pm24 an24 cd24 ct24), sl24⟩) (c24 : codeIn K cd24 "Streams.take_out" = true) (k24 : keepIn K (.ref f24) = true)
    (a25 : nsIn K mainGlobals "_law_out" = some (some (.ref f25))) (l25 : K.lookup f25 = some ⟨oc25, od25, .func (fnOf "_law_out" "_law_out" (aC fv) (au fv) (ae fv) .none kV25 dc25 pm25 an25 cd25 ct25), sl25⟩) (c25 : codeIn K cd25 "_law_out" = true) (k25 : keepIn K (.ref f25) = true)
    (a26 : nsIn K mainGlobals "_law_stream" = some (some (.ref f26))) (l26 : K.lookup f26 = some ⟨oc26, od26, .func (fnOf "_law_stream" "_law_stream" (aC dG) (au dG) (ae dG) .none kV26 dc26 pm26 an26 cd26 ct26), sl26⟩) (c26 : codeIn K cd26 "_law_stream" = true) (k26 : keepIn K (.ref f26) = true)
    (a27 : PySem.W.findIn K (.ref CS) "put_in" = some (some (.ref f27))) (i27 : isFn K (.ref f27) = true) (l27 : K.lookup f27 = some ⟨oc27, od27, .func (fnOf "put_in" "Streams.put_in" (aC bM) (au bM) (ae bM) .none kV27 dc27 pm27 an27 cd27 ct27), sl27⟩) (c27 : codeIn K cd27 "Streams.put_in" = true) (k27 : keepIn K (.ref f27) = true)
    (a28 : PySem.W.findIn K (.ref CS) "put_hot" = some (some (.ref f28))) (i28 : isFn K (.ref f28) = true) (l28 : K.lookup f28 = some ⟨oc28, od28, .func (fnOf "put_hot" "Streams.put_hot" (aC bD) (au bD) (ae bD) .none kV28 dc28 pm28 an28 cd28 ct28), sl28⟩) (c28 : codeIn K cd28 "Streams.put_hot" = true) (k28 : keepIn K (.ref f28) = true)
    (a29 : PySem.W.findIn K (.ref CS) "put_cold" = some (some (.ref f29))) (i29 : isFn K (.ref f29) = true) (l29 : K.lookup f29 = some ⟨oc29, od29, .func (fnOf "put_cold" "Streams.put_cold" (aC bq) (au bq) (ae bq) .none kV29 dc29 pm29 an29 cd29 ct29), sl29⟩) (c29 : codeIn K cd29 "Streams.put_cold" = true) (k29 : keepIn K (.ref f29) = true)
    (a30 : nsIn K mainGlobals "_law_put" = some (some (.ref f30))) (l30 : K.lookup f30 = some ⟨oc30, od30, .func (fnOf "_law_put" "_law_put" (aC fw) (au fw) (ae fw) .none kV30 dc30 pm30 an30 cd30 ct30), sl30⟩) (c30 : codeIn K cd30 "_law_put" = true) (k30 : keepIn K (.ref f30) = true)
    (a31 : nsIn K mainGlobals "_law_refused" = some (some (.ref f31))) (l31 : K.lookup f31 = some ⟨oc31, od31, .func (fnOf "_law_refused" "_law_refused" (aC de) (au de) (ae de) .none kV31 dc31 pm31 an31 cd31 ct31), sl31⟩) (c31 : codeIn K cd31 "_law_refused" = true) (k31 : keepIn K (.ref f31) = true)
    (a32 : nsIn K mainGlobals "law" = some (some (.ref f32))) (l32 : K.lookup f32 = some ⟨oc32, od32, .func (fnOf "law" "law" (aC jV) (au jV) (ae jV) .none kV32 dc32 pm32 an32 cd32 ct32), sl32⟩) (c32 : codeIn K cd32 "law" = true) (k32 : keepIn K (.ref f32) = true)
    (z1 : nsIn K mainGlobals "len" = some none)
    (z2 : nsIn K mainGlobals "list" = some none)
    (z3 : nsIn K mainGlobals "sum" = some none)
    (z4 : nsIn K mainGlobals "max" = some none)
    (z5 : nsIn K mainGlobals "range" = some none)
    (z6 : nsIn K mainGlobals "enumerate" = some none)
    (z7 : nsIn K mainGlobals "isinstance" = some none)
    (z8 : nsIn K mainGlobals "int" = some none)
    (z9 : nsIn K mainGlobals "bool" = some none)
    (z10 : nsIn K mainGlobals "tuple" = some none)
    (z11 : nsIn K mainGlobals "min" = some none)
    (y1 : nsIn K mainGlobals "LEVELS" = some (some (.int 250 tk1)))
    (y2 : nsIn K mainGlobals "MOST_DEGREE" = some (some (.int 200 tk2)))
    (y3 : nsIn K mainGlobals "LEAST_RATE" = some (some (.int 1 tk3)))
    (y4 : nsIn K mainGlobals "MOST_RATE" = some (some (.int 1000000000 tk4)))
    (y5 : nsIn K mainGlobals "MOST_OF_A_KIND" = some (some (.int 12 tk5)))
    (ea1 : nsIn K mainGlobals "HeatError" = some (some (.ref ec1))) (eb1 : PySem.W.excIn K ec1 Bs "ValueError.__new__" = true)
    (eg1 : PySem.W.findIn K (.ref ec1) "__getattribute__" = some (some (.builtin "BaseException.__getattribute__")))
    (eh1 : PySem.W.findIn K (.ref ec1) "__getattr__" = some none)
    (ei1 : PySem.W.findIn K (.ref ec1) "__class__" = some (some (.builtin "object.__class__")))
    (ej1 : PySem.W.mroIn K ec1 (.type "object") = some true)
    (ek1 : PySem.W.mroIn K ec1 (.type "BaseException") = some true)
    (el1 : PySem.W.clsIn K ec1 = some ed1)
    (ea2 : nsIn K mainGlobals "NoMeasure" = some (some (.ref ec2))) (eb2 : PySem.W.excIn K ec2 Bs "ValueError.__new__" = true)
    (eg2 : PySem.W.findIn K (.ref ec2) "__getattribute__" = some (some (.builtin "BaseException.__getattribute__")))
    (eh2 : PySem.W.findIn K (.ref ec2) "__getattr__" = some none)
    (ei2 : PySem.W.findIn K (.ref ec2) "__class__" = some (some (.builtin "object.__class__")))
    (ej2 : PySem.W.mroIn K ec2 (.type "object") = some true)
    (ek2 : PySem.W.mroIn K ec2 (.type "BaseException") = some true)
    (el2 : PySem.W.clsIn K ec2 = some ed2)
    (ea3 : nsIn K mainGlobals "WrongWay" = some (some (.ref ec3))) (eb3 : PySem.W.excIn K ec3 Bs "ValueError.__new__" = true)
    (eg3 : PySem.W.findIn K (.ref ec3) "__getattribute__" = some (some (.builtin "BaseException.__getattribute__")))
    (eh3 : PySem.W.findIn K (.ref ec3) "__getattr__" = some none)
    (ei3 : PySem.W.findIn K (.ref ec3) "__class__" = some (some (.builtin "object.__class__")))
    (ej3 : PySem.W.mroIn K ec3 (.type "object") = some true)
    (ek3 : PySem.W.mroIn K ec3 (.type "BaseException") = some true)
    (el3 : PySem.W.clsIn K ec3 = some ed3)
    (ea4 : nsIn K mainGlobals "Full" = some (some (.ref ec4))) (eb4 : PySem.W.excIn K ec4 Bs "ValueError.__new__" = true)
    (eg4 : PySem.W.findIn K (.ref ec4) "__getattribute__" = some (some (.builtin "BaseException.__getattribute__")))
    (eh4 : PySem.W.findIn K (.ref ec4) "__getattr__" = some none)
    (ei4 : PySem.W.findIn K (.ref ec4) "__class__" = some (some (.builtin "object.__class__")))
    (ej4 : PySem.W.mroIn K ec4 (.type "object") = some true)
    (ek4 : PySem.W.mroIn K ec4 (.type "BaseException") = some true)
    (el4 : PySem.W.clsIn K ec4 = some ed4)
    (ea5 : nsIn K mainGlobals "NoStream" = some (some (.ref ec5))) (eb5 : PySem.W.excIn K ec5 Bs "ValueError.__new__" = true)
    (eg5 : PySem.W.findIn K (.ref ec5) "__getattribute__" = some (some (.builtin "BaseException.__getattribute__")))
    (eh5 : PySem.W.findIn K (.ref ec5) "__getattr__" = some none)
    (ei5 : PySem.W.findIn K (.ref ec5) "__class__" = some (some (.builtin "object.__class__")))
    (ej5 : PySem.W.mroIn K ec5 (.type "object") = some true)
    (ek5 : PySem.W.mroIn K ec5 (.type "BaseException") = some true)
    (el5 : PySem.W.clsIn K ec5 = some ed5)
    (em1 : PySem.W.specialIn K (.builtin "object.__class__") "__get__" = some (some (.builtin "getset_descriptor.__get__"))) (em2 : PySem.W.takesIn K (.builtin "object.__class__") = some true)
    (ef1 : kitOne K (.ref ec2) (.ref ec1) = some true)
    (ef2 : PySem.W.exmOne K (.ref ec2) (.ref ec1) = some true)
    (ef3 : kitOne K (.ref ec2) (.ref ec2) = some true)
    (ef4 : PySem.W.exmOne K (.ref ec2) (.ref ec2) = some true)
    (ef5 : kitOne K (.ref ec2) (.ref ec3) = some false)
    (ef6 : PySem.W.exmOne K (.ref ec2) (.ref ec3) = some false)
    (ef7 : kitOne K (.ref ec2) (.ref ec4) = some false)
    (ef8 : PySem.W.exmOne K (.ref ec2) (.ref ec4) = some false)
    (ef9 : kitOne K (.ref ec2) (.ref ec5) = some false)
    (ef10 : PySem.W.exmOne K (.ref ec2) (.ref ec5) = some false)
    (ef11 : kitOne K (.ref ec2) (.type "ValueError") = some true)
    (ef12 : kitOne K (.ref ec3) (.ref ec1) = some true)
    (ef13 : PySem.W.exmOne K (.ref ec3) (.ref ec1) = some true)
    (ef14 : kitOne K (.ref ec3) (.ref ec2) = some false)
    (ef15 : PySem.W.exmOne K (.ref ec3) (.ref ec2) = some false)
    (ef16 : kitOne K (.ref ec3) (.ref ec3) = some true)
    (ef17 : PySem.W.exmOne K (.ref ec3) (.ref ec3) = some true)
    (ef18 : kitOne K (.ref ec3) (.ref ec4) = some false)
    (ef19 : PySem.W.exmOne K (.ref ec3) (.ref ec4) = some false)
    (ef20 : kitOne K (.ref ec3) (.ref ec5) = some false)
    (ef21 : PySem.W.exmOne K (.ref ec3) (.ref ec5) = some false)
    (ef22 : kitOne K (.ref ec3) (.type "ValueError") = some true)
    (ef23 : kitOne K (.ref ec4) (.ref ec1) = some true)
    (ef24 : PySem.W.exmOne K (.ref ec4) (.ref ec1) = some true)
    (ef25 : kitOne K (.ref ec4) (.ref ec2) = some false)
    (ef26 : PySem.W.exmOne K (.ref ec4) (.ref ec2) = some false)
    (ef27 : kitOne K (.ref ec4) (.ref ec3) = some false)
    (ef28 : PySem.W.exmOne K (.ref ec4) (.ref ec3) = some false)
    (ef29 : kitOne K (.ref ec4) (.ref ec4) = some true)
    (ef30 : PySem.W.exmOne K (.ref ec4) (.ref ec4) = some true)
    (ef31 : kitOne K (.ref ec4) (.ref ec5) = some false)
    (ef32 : PySem.W.exmOne K (.ref ec4) (.ref ec5) = some false)
    (ef33 : kitOne K (.ref ec4) (.type "ValueError") = some true)
    (ef34 : kitOne K (.ref ec5) (.ref ec1) = some true)
    (ef35 : PySem.W.exmOne K (.ref ec5) (.ref ec1) = some true)
    (ef36 : kitOne K (.ref ec5) (.ref ec2) = some false)
    (ef37 : PySem.W.exmOne K (.ref ec5) (.ref ec2) = some false)
    (ef38 : kitOne K (.ref ec5) (.ref ec3) = some false)
    (ef39 : PySem.W.exmOne K (.ref ec5) (.ref ec3) = some false)
    (ef40 : kitOne K (.ref ec5) (.ref ec4) = some false)
    (ef41 : PySem.W.exmOne K (.ref ec5) (.ref ec4) = some false)
    (ef42 : kitOne K (.ref ec5) (.ref ec5) = some true)
    (ef43 : PySem.W.exmOne K (.ref ec5) (.ref ec5) = some true)
    (ef44 : kitOne K (.ref ec5) (.type "ValueError") = some true)
    (qn1 : PySem.W.findIn K (.ref CS) "gap" = some none)
    (qn2 : PySem.W.findIn K (.ref CS) "hots" = some none)
    (qn3 : PySem.W.findIn K (.ref CS) "colds" = some none)
    (qn4 : PySem.W.findIn K (.ref CS) "spent" = some none)
    : ∃ fd : FuncData, (∀ (s : Shared) (v : Value), BindsTo s fd ⟨[v], []⟩ [("script", v)]) /\ ∀ base : Heap, K.In base -> base.Ns mainGlobals mg -> aI l.prog w K mg base gI 8 fa fd ["script"] (xP K) := by
  have e := hfa.symm.trans (mg_of X G a32);cases e;have F1 := aU (st := cZ) l1 c1 k1;have b1 := F1.binds (ps := ["script", "k"]) λ_ _ _ _ _ _ => dY λ_ _ => rfl;have F2 := aU (st := bp) l2 c2 k2;have b2 := F2.binds (ps := ["self", "gap"]) λ_ _ _ _ _ _ => dY λ_ _ => rfl;have F3 := aU (st := bT) l3 c3 k3;have b3 := F3.binds (ps := ["self"]) λ_ _ _ _ _ _ => eQ λ_ => rfl;have F4 := aU (st := cU) l4 c4 k4;have b4 := F4.binds (ps := ["bands", "level"]) λ_ _ _ _ _ _ => dY λ_ _ => rfl;have F5 := aU (st := cR) l5 c5 k5;have b5 := F5.binds (ps := ["works"]) λ_ _ _ _ _ _ => eQ λ_ => rfl;have F6 := aU (st := dz) l6 c6 k6;have b6 := F6.binds (ps := ["works"]) λ_ _ _ _ _ _ => eQ λ_ => rfl;have F7 := aU (st := dF) l7 c7 k7;have b7 := F7.binds (ps := ["works", "level"]) λ_ _ _ _ _ _ => dY λ_ _ => rfl;have F8 := aU (st := cg) l8 c8 k8;have b8 := F8.binds (ps := ["works"]) λ_ _ _ _ _ _ => eQ λ_ => rfl;have F9 := aU (st := dJ) l9 c9 k9;have b9 := F9.binds (ps := ["works"]) λ_ _ _ _ _ _ => eQ λ_ => rfl;have F10 := aU (st := dH) l10 c10 k10;have b10 := F10.binds (ps := ["works"]) λ_ _ _ _ _ _ => eQ λ_ => rfl;have F11 := aU (st := g7) l11 c11 k11;have b11 := F11.binds (ps := ["works"]) λ_ _ _ _ _ _ => eQ λ_ => rfl;have F12 := aU (st := bS) l12 c12 k12;have b12 := F12.binds (ps := ["self"]) λ_ _ _ _ _ _ => eQ λ_ => rfl;have F13 := aU (st := cC) l13 c13 k13;have b13 := F13.binds (ps := ["number", "least", "most"]) λ_ _ _ _ _ _ => iU λ_ _ _ => rfl;have F14 := aU (st := cB) l14 c14 k14;have b14 := F14.binds (ps := ["kind", "stream"]) λ_ _ _ _ _ _ => dY λ_ _ => rfl;have F15 := aU (st := bL) l15 c15 k15;have b15 := F15.binds (ps := ["self", "kind"]) λ_ _ _ _ _ _ => dY λ_ _ => rfl;have F16 := aU (st := bj) l16 c16 k16;have b16 := F16.binds (ps := ["self", "kind", "stream"]) λ_ _ _ _ _ _ => iU λ_ _ _ => rfl;have F17 := aU (st := bh) l17 c17 k17;have b17 := F17.binds (ps := ["self", "works"]) λ_ _ _ _ _ _ => dY λ_ _ => rfl;have F18 := aU (st := aT) l18 c18 k18;have b18 := F18.binds (ps := ["self", "kind", "start", "goal", "rate"]) λ_ _ _ _ _ _ => t9 λ_ _ _ _ _ => rfl;have F19 := aU (st := bC) l19 c19 k19;have b19 := F19.binds (ps := ["self", "number"]) λ_ _ _ _ _ _ => dY λ_ _ => rfl;have F20 := aU (st := ay) l20 c20 k20;have b20 := F20.binds (ps := ["self", "number"]) λ_ _ _ _ _ _ => dY λ_ _ => rfl;have F21 := aU (st := ee) l21 c21 k21;have b21 := F21.binds (ps := ["found"]) λ_ _ _ _ _ _ => eQ λ_ => rfl;have F22 := aU (st := cK) l22 c22 k22;have b22 := F22.binds (ps := ["streams", "rows", "gap"]) λ_ _ _ _ _ _ => iU λ_ _ _ => rfl;have F23 := aU (st := eO) l23 c23 k23;have b23 := F23.binds (ps := ["cell", "k"]) λ_ _ _ _ _ _ => dY λ_ _ => rfl;have F24 := aU (st := br) l24 c24 k24;have b24 := F24.binds (ps := ["self", "number"]) λ_ _ _ _ _ _ => dY λ_ _ => rfl;have F25 := aU (st := fv) l25 c25 k25;have b25 := F25.binds (ps := ["streams", "rows", "cell"]) λ_ _ _ _ _ _ => iU λ_ _ _ => rfl;have F26 := aU (st := dG) l26 c26 k26;have b26 := F26.binds (ps := ["cell", "base"]) λ_ _ _ _ _ _ => dY λ_ _ => rfl;have F27 := aU (st := bM) l27 c27 k27;have b27 := F27.binds (ps := ["self", "kind", "stream"]) λ_ _ _ _ _ _ => iU λ_ _ _ => rfl;have F28 := aU (st := bD) l28 c28 k28;have b28 := F28.binds (ps := ["self", "start", "goal", "rate"]) λ_ _ _ _ _ _ => t8 λ_ _ _ _ => rfl;have F29 := aU (st := bq) l29 c29 k29;have b29 := F29.binds (ps := ["self", "start", "goal", "rate"]) λ_ _ _ _ _ _ => t8 λ_ _ _ _ => rfl;have F30 := aU (st := fw) l30 c30 k30;have b30 := F30.binds (ps := ["streams", "rows", "cell", "base", "most"]) λ_ _ _ _ _ _ => t9 λ_ _ _ _ _ => rfl;have F31 := aU (st := de) l31 c31 k31;have b31 := F31.binds (ps := ["streams", "cell", "base"]) λ_ _ _ _ _ _ => iU λ_ _ _ => rfl;have F32 := aU (st := jV) l32 c32 k32;have b32 := F32.binds (ps := ["script"]) λ_ _ _ _ _ _ => eQ λ_ => rfl;have T : iX mg := ⟨mg_none_of X G z1, mg_none_of X G z2, mg_none_of X G z3, mg_none_of X G z4, mg_none_of X G z5, mg_none_of X G z6, mg_none_of X G z7, mg_none_of X G z8, mg_none_of X G z9, mg_none_of X G z10, mg_none_of X G z11, ⟨_, mg_of X G y1⟩, ⟨_, mg_of X G y2⟩, ⟨_, mg_of X G y3⟩, ⟨_, mg_of X G y4⟩, ⟨_, mg_of X G y5⟩⟩
  have TX : dB K mg ⟨ec1, ec2, ec3, ec4, ec5⟩ := ⟨⟨eb1, mg_of X G ea1, ⟨eg1, eh1, ei1, em1, em2, ej1, ek1, by rw [el1];rfl⟩⟩, ⟨eb2, mg_of X G ea2, ⟨eg2, eh2, ei2, em1, em2, ej2, ek2, by rw [el2];rfl⟩⟩, ⟨eb3, mg_of X G ea3, ⟨eg3, eh3, ei3, em1, em2, ej3, ek3, by rw [el3];rfl⟩⟩, ⟨eb4, mg_of X G ea4, ⟨eg4, eh4, ei4, em1, em2, ej4, ek4, by rw [el4];rfl⟩⟩, ⟨eb5, mg_of X G ea5, ⟨eg5, eh5, ei5, em1, em2, ej5, ek5, by rw [el5];rfl⟩⟩, ef1, ef2, ef3, ef4, ef5, ef6, ef7, ef8, ef9, ef10, ef11, ef12, ef13, ef14, ef15, ef16, ef17, ef18, ef19, ef20, ef21, ef22, ef23, ef24, ef25, ef26, ef27, ef28, ef29, ef30, ef31, ef32, ef33, ef34, ef35, ef36, ef37, ef38, ef39, ef40, ef41, ef42, ef43, ef44⟩
  have TC : dR K mg CS := ⟨⟨qpg, qhd, qpo, qsa⟩, qn1, qn2, qn3, qn4, mg_of X G qC⟩
  have O1 := λbase : Heap => mn (P := l.prog) (w := w) (base := base) T TX TC  F1;have O2 := λbase : Heap => iZ (P := l.prog) (w := w) (base := base) T TX TC  F2;have O3 := λbase : Heap => kg (P := l.prog) (w := w) (base := base) T TX TC  F3;have O4 := λbase : Heap => mU (P := l.prog) (w := w) (base := base) T TX TC  F4;have O5 := λbase : Heap => mT (P := l.prog) (w := w) (base := base) T TX TC  F5;have O6 := λbase : Heap => o6 (P := l.prog) (w := w) (base := base) T TX TC  F6;have O7 := λbase : Heap => mV (P := l.prog) (w := w) (base := base) T TX TC (bX F4 (mg_of X G a4) b4 (O4 base)) (bX F5 (mg_of X G a5) b5 (O5 base)) (bX F6 (mg_of X G a6) b6 (O6 base)) F7;have O8 := λbase : Heap => ml (P := l.prog) (w := w) (base := base) T TX TC (bX F7 (mg_of X G a7) b7 (O7 base)) F8;have O9 := λbase : Heap => mY (P := l.prog) (w := w) (base := base) T TX TC (bX F8 (mg_of X G a8) b8 (O8 base)) F9;have O10 := λbase : Heap => mX (P := l.prog) (w := w) (base := base) T TX TC (bX F9 (mg_of X G a9) b9 (O9 base)) (bX F7 (mg_of X G a7) b7 (O7 base)) F10;have O11 := λbase : Heap => wX (P := l.prog) (w := w) (base := base) T TX TC (bX F9 (mg_of X G a9) b9 (O9 base)) (bX F8 (mg_of X G a8) b8 (O8 base)) F11;have O12 := λbase : Heap => kf (P := l.prog) (w := w) (base := base) T TX TC (kH (O3 base) ⟨a3, i3, k3⟩ b3) (bX F9 (mg_of X G a9) b9 (O9 base)) (bX F10 (mg_of X G a10) b10 (O10 base)) (bX F11 (mg_of X G a11) b11 (O11 base)) F12;have O13 := λbase : Heap => kU (P := l.prog) (w := w) (base := base) T TX TC  F13;have O14 := λbase : Heap => kT (P := l.prog) (w := w) (base := base) T TX TC (wq F13 (mg_of X G a13) b13 (O13 base)) F14;have O15 := λbase : Heap => jO (P := l.prog) (w := w) (base := base) T TX TC  F15;have O16 := λbase : Heap => iA (P := l.prog) (w := w) (base := base) T TX TC (wq F14 (mg_of X G a14) b14 (O14 base)) (O15 base) ⟨a15, i15, k15⟩ b15 F16;have O17 := λbase : Heap => iz (P := l.prog) (w := w) (base := base) T TX TC (bX F9 (mg_of X G a9) b9 (O9 base)) (kH (O3 base) ⟨a3, i3, k3⟩ b3) F17;have O18 := λbase : Heap => gX (P := l.prog) (w := w) (base := base) T TX TC (j7 (O16 base) ⟨a16, i16, k16⟩ b16) (kH (O3 base) ⟨a3, i3, k3⟩ b3) (kH (O17 base) ⟨a17, i17, k17⟩ b17) F18;have O19 := λbase : Heap => jq (P := l.prog) (w := w) (base := base) T TX TC  F19;have O20 := λbase : Heap => fH (P := l.prog) (w := w) (base := base) T TX TC (O19 base) ⟨a19, i19, k19⟩ b19 (kH (O17 base) ⟨a17, i17, k17⟩ b17) F20;have O21 := λbase : Heap => o8 (P := l.prog) (w := w) (base := base) T TX TC  F21;have O22 := λbase : Heap => o7 (P := l.prog) (w := w) (base := base) T TX TC (kH (O12 base) ⟨a12, i12, k12⟩ b12) (kH (O3 base) ⟨a3, i3, k3⟩ b3) (j7 (O18 base) ⟨a18, i18, k18⟩ b18) (j7 (O20 base) ⟨a20, i20, k20⟩ b20) (bX F21 (mg_of X G a21) b21 (O21 base)) (bX F9 (mg_of X G a9) b9 (O9 base)) (bX F10 (mg_of X G a10) b10 (O10 base)) (bX F11 (mg_of X G a11) b11 (O11 base)) F22;have O23 := λbase : Heap => qZ (P := l.prog) (w := w) (base := base) T TX TC  F23;have O24 := λbase : Heap => i5 (P := l.prog) (w := w) (base := base) T TX TC (O19 base) ⟨a19, i19, k19⟩ b19 F24;have O25 := λbase : Heap => su (P := l.prog) (w := w) (base := base) T TX TC (bX F23 (mg_of X G a23) b23 (O23 base)) (O24 base) ⟨a24, i24, k24⟩ b24 F25;have O26 := λbase : Heap => mW (P := l.prog) (w := w) (base := base) T TX TC (bX F23 (mg_of X G a23) b23 (O23 base)) F26;have O27 := λbase : Heap => jP (P := l.prog) (w := w) (base := base) T TX TC (j7 (O16 base) ⟨a16, i16, k16⟩ b16) (O15 base) ⟨a15, i15, k15⟩ b15 F27;have O28 := λbase : Heap => jr (P := l.prog) (w := w) (base := base) T TX TC (O27 base) ⟨a27, i27, k27⟩ b27 F28;have O29 := λbase : Heap => i4 (P := l.prog) (w := w) (base := base) T TX TC (O27 base) ⟨a27, i27, k27⟩ b27 F29;have O30 := λbase : Heap => sv (P := l.prog) (w := w) (base := base) T TX TC (bX F26 (mg_of X G a26) b26 (O26 base)) (bX F23 (mg_of X G a23) b23 (O23 base)) (O24 base) ⟨a24, i24, k24⟩ b24 (O28 base) ⟨a28, i28, k28⟩ b28 (O29 base) ⟨a29, i29, k29⟩ b29 F30;have O31 := λbase : Heap => mq (P := l.prog) (w := w) (base := base) T TX TC (bX F26 (mg_of X G a26) b26 (O26 base)) (bX F23 (mg_of X G a23) b23 (O23 base)) (O28 base) ⟨a28, i28, k28⟩ b28 (O29 base) ⟨a29, i29, k29⟩ b29 (O24 base) ⟨a24, i24, k24⟩ b24 (j7 (O18 base) ⟨a18, i18, k18⟩ b18) F31;exact ⟨fnOf "law" "law" (aC jV) (au jV) (ae jV) .none kV32 dc32 pm32 an32 cd32 ct32, λs v => .of_eq rfl, λbase _ _ => AL (AQ T TX TC (bX F1 (mg_of X G a1) b1 (O1 base)) (O2 base) ⟨a2, i2, k2⟩ b2 ⟨qmk, a2, i2, qkc⟩ (bX F22 (mg_of X G a22) b22 (O22 base)) (bX F23 (mg_of X G a23) b23 (O23 base)) (bX F25 (mg_of X G a25) b25 (O25 base)) (bX F30 (mg_of X G a30) b30 (O30 base)) (bX F31 (mg_of X G a31) b31 (O31 base)) F32)⟩
end WS
open PySem PySem.W PyProof.Rows
set_option maxRecDepth 100000 in
set_option maxHeartbeats 0 in
theorem PySem.Challenge.cw_warmshare_k31_least_told_holds : PySem.Challenge.rw_warmshare_k31_least_told.Holds := by
  w_on;o_law;z_head;(case hw => w_witness2)
  k_fill
  refine L2.Bt (L2.xU (l := PySem.Challenge.rw_warmshare_k31_least_told) (n := 63) (k := 8) (x := "script") (CX := L2.gI) (sp := DL.xP) rfl (by decide) rfl ⟨rfl, by decide, by decide, rfl⟩ (λw h Y => Y) ?F (λ_ _ a ns hl _ hS => ⟨a, ns, rfl, hS, hl, λ_ => rfl⟩) λ_ _ _ _ z => z) (λw s y => (PySem.W.X.z_facts (λ_ => by kernel_rfl) y).2.1) λw h h' x k => Frag.In.keeps x k
  case F =>
    intro w mg fa h KX G hmg
    refine' WS.all_mk KX G hmg ?qC ?qpg ?qhd ?qpo ?qsa ?qmk ?qkc ?a1 ?l1 ?c1 ?k1 ?a2 ?i2 ?l2 ?c2 ?k2 ?a3 ?i3 ?l3 ?c3 ?k3 ?a4 ?l4 ?c4 ?k4 ?a5 ?l5 ?c5 ?k5 ?a6 ?l6 ?c6 ?k6 ?a7 ?l7 ?c7 ?k7 ?a8 ?l8 ?c8 ?k8 ?a9 ?l9 ?c9 ?k9 ?a10 ?l10 ?c10 ?k10 ?a11 ?l11 ?c11 ?k11 ?a12 ?i12 ?l12 ?c12 ?k12 ?a13 ?l13 ?c13 ?k13 ?a14 ?l14 ?c14 ?k14 ?a15 ?i15 ?l15 ?c15 ?k15 ?a16 ?i16 ?l16 ?c16 ?k16 ?a17 ?i17 ?l17 ?c17 ?k17 ?a18 ?i18 ?l18 ?c18 ?k18 ?a19 ?i19 ?l19 ?c19 ?k19 ?a20 ?i20 ?l20 ?c20 ?k20 ?a21 ?l21 ?c21 ?k21 ?a22 ?l22 ?c22 ?k22 ?a23 ?l23 ?c23 ?k23 ?a24 ?i24 ?l24 ?c24 ?k24 ?a25 ?l25 ?c25 ?k25 ?a26 ?l26 ?c26 ?k26 ?a27 ?i27 ?l27 ?c27 ?k27 ?a28 ?i28 ?l28 ?c28 ?k28 ?a29 ?i29 ?l29 ?c29 ?k29 ?a30 ?l30 ?c30 ?k30 ?a31 ?l31 ?c31 ?k31 ?a32 ?l32 ?c32 ?k32 ?z1 ?z2 ?z3 ?z4 ?z5 ?z6 ?z7 ?z8 ?z9 ?z10 ?z11 ?y1 ?y2 ?y3 ?y4 ?y5 ?ea1 ?eb1 ?eg1 ?eh1 ?ei1 ?ej1 ?ek1 ?el1 ?ea2 ?eb2 ?eg2 ?eh2 ?ei2 ?ej2 ?ek2 ?el2 ?ea3 ?eb3 ?eg3 ?eh3 ?ei3 ?ej3 ?ek3 ?el3 ?ea4 ?eb4 ?eg4 ?eh4 ?ei4 ?ej4 ?ek4 ?el4 ?ea5 ?eb5 ?eg5 ?eh5 ?ei5 ?ej5 ?ek5 ?el5 ?em1 ?em2 ?ef1 ?ef2 ?ef3 ?ef4 ?ef5 ?ef6 ?ef7 ?ef8 ?ef9 ?ef10 ?ef11 ?ef12 ?ef13 ?ef14 ?ef15 ?ef16 ?ef17 ?ef18 ?ef19 ?ef20 ?ef21 ?ef22 ?ef23 ?ef24 ?ef25 ?ef26 ?ef27 ?ef28 ?ef29 ?ef30 ?ef31 ?ef32 ?ef33 ?ef34 ?ef35 ?ef36 ?ef37 ?ef38 ?ef39 ?ef40 ?ef41 ?ef42 ?ef43 ?ef44 ?qn1 ?qn2 ?qn3 ?qn4
    (case qC => k_is)
    (case qpg => k_is)
    (case qhd => k_is)
    (case qpo => k_is)
    (case qsa => k_is)
    (case qmk => k_is)
    (case qkc => k_is)
    (case a1 => k_is)
    (case l1 => k_is)
    (case c1 => k_is)
    (case k1 => k_is)
    (case a2 => k_is)
    (case i2 => k_is)
    (case l2 => k_is)
    (case c2 => k_is)
    (case k2 => k_is)
    (case a3 => k_is)
    (case i3 => k_is)
    (case l3 => k_is)
    (case c3 => k_is)
    (case k3 => k_is)
    (case a4 => k_is)
    (case l4 => k_is)
    (case c4 => k_is)
    (case k4 => k_is)
    (case a5 => k_is)
    (case l5 => k_is)
    (case c5 => k_is)
    (case k5 => k_is)
    (case a6 => k_is)
    (case l6 => k_is)
    (case c6 => k_is)
    (case k6 => k_is)
    (case a7 => k_is)
    (case l7 => k_is)
    (case c7 => k_is)
    (case k7 => k_is)
    (case a8 => k_is)
    (case l8 => k_is)
    (case c8 => k_is)
    (case k8 => k_is)
    (case a9 => k_is)
    (case l9 => k_is)
    (case c9 => k_is)
    (case k9 => k_is)
    (case a10 => k_is)
    (case l10 => k_is)
    (case c10 => k_is)
    (case k10 => k_is)
    (case a11 => k_is)
    (case l11 => k_is)
    (case c11 => k_is)
    (case k11 => k_is)
    (case a12 => k_is)
    (case i12 => k_is)
    (case l12 => k_is)
    (case c12 => k_is)
    (case k12 => k_is)
    (case a13 => k_is)
    (case l13 => k_is)
    (case c13 => k_is)
    (case k13 => k_is)
    (case a14 => k_is)
    (case l14 => k_is)
    (case c14 => k_is)
    (case k14 => k_is)
    (case a15 => k_is)
    (case i15 => k_is)
    (case l15 => k_is)
    (case c15 => k_is)
    (case k15 => k_is)
    (case a16 => k_is)
    (case i16 => k_is)
    (case l16 => k_is)
    (case c16 => k_is)
    (case k16 => k_is)
    (case a17 => k_is)
    (case i17 => k_is)
    (case l17 => k_is)
    (case c17 => k_is)
    (case k17 => k_is)
    (case a18 => k_is)
    (case i18 => k_is)
    (case l18 => k_is)
    (case c18 => k_is)
    (case k18 => k_is)
    (case a19 => k_is)
    (case i19 => k_is)
    (case l19 => k_is)
    (case c19 => k_is)
    (case k19 => k_is)
    (case a20 => k_is)
    (case i20 => k_is)
    (case l20 => k_is)
    (case c20 => k_is)
    (case k20 => k_is)
    (case a21 => k_is)
    (case l21 => k_is)
    (case c21 => k_is)
    (case k21 => k_is)
    (case a22 => k_is)
    (case l22 => k_is)
    (case c22 => k_is)
    (case k22 => k_is)
    (case a23 => k_is)
    (case l23 => k_is)
    (case c23 => k_is)
    (case k23 => k_is)
    (case a24 => k_is)
    (case i24 => k_is)
    (case l24 => k_is)
    (case c24 => k_is)
    (case k24 => k_is)
    (case a25 => k_is)
    (case l25 => k_is)
    (case c25 => k_is)
    (case k25 => k_is)
    (case a26 => k_is)
    (case l26 => k_is)
    (case c26 => k_is)
    (case k26 => k_is)
    (case a27 => k_is)
    (case i27 => k_is)
    (case l27 => k_is)
    (case c27 => k_is)
    (case k27 => k_is)
    (case a28 => k_is)
    (case i28 => k_is)
    (case l28 => k_is)
    (case c28 => k_is)
    (case k28 => k_is)
    (case a29 => k_is)
    (case i29 => k_is)
    (case l29 => k_is)
    (case c29 => k_is)
    (case k29 => k_is)
    (case a30 => k_is)
    (case l30 => k_is)
    (case c30 => k_is)
    (case k30 => k_is)
    (case a31 => k_is)
    (case l31 => k_is)
    (case c31 => k_is)
    (case k31 => k_is)
    (case a32 => k_is)
    (case l32 => k_is)
    (case c32 => k_is)
    (case k32 => k_is)
    (case z1 => k_is)
    (case z2 => k_is)
    (case z3 => k_is)
    (case z4 => k_is)
    (case z5 => k_is)
    (case z6 => k_is)
    (case z7 => k_is)
    (case z8 => k_is)
    (case z9 => k_is)
    (case z10 => k_is)
    (case z11 => k_is)
    (case y1 => k_is)
    (case y2 => k_is)
    (case y3 => k_is)
    (case y4 => k_is)
    (case y5 => k_is)
    (case ea1 => k_is)
    (case eb1 => k_exc)
    (case eg1 => k_is)
    (case eh1 => k_is)
    (case ei1 => k_is)
    (case ej1 => k_is)
    (case ek1 => k_is)
    (case el1 => k_is)
    (case ea2 => k_is)
    (case eb2 => k_exc)
    (case eg2 => k_is)
    (case eh2 => k_is)
    (case ei2 => k_is)
    (case ej2 => k_is)
    (case ek2 => k_is)
    (case el2 => k_is)
    (case ea3 => k_is)
    (case eb3 => k_exc)
    (case eg3 => k_is)
    (case eh3 => k_is)
    (case ei3 => k_is)
    (case ej3 => k_is)
    (case ek3 => k_is)
    (case el3 => k_is)
    (case ea4 => k_is)
    (case eb4 => k_exc)
    (case eg4 => k_is)
    (case eh4 => k_is)
    (case ei4 => k_is)
    (case ej4 => k_is)
    (case ek4 => k_is)
    (case el4 => k_is)
    (case ea5 => k_is)
    (case eb5 => k_exc)
    (case eg5 => k_is)
    (case eh5 => k_is)
    (case ei5 => k_is)
    (case ej5 => k_is)
    (case ek5 => k_is)
    (case el5 => k_is)
    (case em1 => k_is)
    (case em2 => k_is)
    (case ef1 => kit_is)
    (case ef2 => kts_exm)
    (case ef3 => kit_is)
    (case ef4 => kts_exm)
    (case ef5 => kit_is)
    (case ef6 => kts_exm)
    (case ef7 => kit_is)
    (case ef8 => kts_exm)
    (case ef9 => kit_is)
    (case ef10 => kts_exm)
    (case ef11 => kit_is)
    (case ef12 => kit_is)
    (case ef13 => kts_exm)
    (case ef14 => kit_is)
    (case ef15 => kts_exm)
    (case ef16 => kit_is)
    (case ef17 => kts_exm)
    (case ef18 => kit_is)
    (case ef19 => kts_exm)
    (case ef20 => kit_is)
    (case ef21 => kts_exm)
    (case ef22 => kit_is)
    (case ef23 => kit_is)
    (case ef24 => kts_exm)
    (case ef25 => kit_is)
    (case ef26 => kts_exm)
    (case ef27 => kit_is)
    (case ef28 => kts_exm)
    (case ef29 => kit_is)
    (case ef30 => kts_exm)
    (case ef31 => kit_is)
    (case ef32 => kts_exm)
    (case ef33 => kit_is)
    (case ef34 => kit_is)
    (case ef35 => kts_exm)
    (case ef36 => kit_is)
    (case ef37 => kts_exm)
    (case ef38 => kit_is)
    (case ef39 => kts_exm)
    (case ef40 => kit_is)
    (case ef41 => kts_exm)
    (case ef42 => kit_is)
    (case ef43 => kts_exm)
    (case ef44 => kit_is)
    (case qn1 => k_is)
    (case qn2 => k_is)
    (case qn3 => k_is)
    (case qn4 => k_is)
#print axioms PySem.Challenge.cw_warmshare_k31_least_told_holds
