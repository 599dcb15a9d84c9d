import PyProof.Rows.All
import Wide.All
import OpenK.AllK
import Wide.FinOn
import Lean
import PyProof.EqAt
import PyProof.EqKinds
import PyProof.TupleCall
import KE.KTryMore
import PyProof.DictItems
import KE.KPairComp
import PySem.Challenge.RW_warmshare_k32_changes_told
open PySem.W (Frag nsIn fnOf keepIn codeIn kia_one mg_of mg_none_of kitx_list instObj methodObj lookIn kitx_dict plainGet isFn kitOne kitx_tuple cellsFrom_some tabObj codeHd_of_K)
open PyProof.Rows (boot_bool boot_enumerate boot_int boot_isinstance boot_list boot_max boot_min boot_sum)
open List (length_map mem_map map_cons map_append length_append mem_append length_cons map_map length_take append_assoc mem_range filter_cons mem_singleton length_drop nodup_cons length_range filter_append sum_cons sum_append nodup_append getElem?_map getElem?_eq_getElem mem_of_getElem? mem_cons_of_mem mem_cons_self size_toArray filterMap_cons take_append_drop pairwise_append mem_append_left mem_append_right mem_of_mem_take mem_of_mem_drop perm_append_comm pairwise_map getD_eq_getElem?_getD map_congr_left filter_sublist map_take map_drop take_of_length_le drop_eq_getElem_cons map_set pairwise_iff_getElem mem_iff_getElem? length_set lookup_cons nodup_range append_nil length_eq_zero_iff eq_nil_or_concat concat_eq_append)
open Array (length_toList)
theorem aZa (h:True:=by rfl):True:=h
theorem aZb (h:True:=by decide):True:=h
theorem aZc (h:True:=by intro _;rfl):True:=h
theorem aZd (h:True:=by first | exact .inl rfl | exact .inr rfl | assumption):True:=h
theorem aZe (h:True:=by decide +kernel):True:=h
theorem aZf (h:True:=by first | exact .inl rfl | exact .inr rfl):True:=h
theorem aZg (h:True:=by first | exact Or.inl rfl | exact Or.inr (Or.inl rfl) | exact Or.inr (Or.inr rfl)):True:=h
theorem aZh (h:True:=by exact Nat.le_of_ble_eq_true rfl):True:=h
set_option maxHeartbeats 4000000
set_option bootstrap.genMatcherCode false
set_option tactic.hygienic false
set_option genSizeOfSpec false
noncomputable section
set_option Elab.async false
set_option linter.all false
set_option maxRecDepth 100000
namespace L2
open PySem PySem.Spec PyProof.Rows
noncomputable abbrev Key := Sum Int Str
noncomputable def mf : Key -> Value -> Bool
  | .inl k, v => Value.isInt k v
  | .inr x, v => Value.isStrOf x v
noncomputable def DY (w : World):Key -> Int
  | .inl k => hashInt k
  | .inr x => hashStr w x
theorem bO : ∀ {k : Key} {v : Value}, mf k v = true -> (∃ i t, k = Sum.inl i /\ v = Value.int i t) \/ (∃ x t, k = Sum.inr x /\ v = Value.str x t)
  | .inl i, v, h => by
    obtain ⟨t, e⟩ := Value.isInt_shape (k := i) (v := v) h;exact .inl ⟨i, t, rfl, e⟩
  | .inr x, v, h => by
    obtain ⟨t, e⟩ := Value.isStrOf_shape (x := x) (v := v) h;exact .inr ⟨x, t, rfl, e⟩
theorem vm (i : Int)(t : Tok):mf (.inl i) (.int i t) = true := by simp [mf, Value.isInt]
theorem vn (x : Str)(t : Tok):mf (.inr x) (.str x t) = true := by simp [mf, Value.isStrOf]
theorem AF (a b : Int):decide ((Sum.inl a : Key) = Sum.inl b) = (a == b) := by
  by_cases e : a = b
  · subst e;simp
  · have h : ¬ (Sum.inl a : Key) = Sum.inl b := λq => e (Sum.inl.inj q);rw [decide_eq_false h];exact (beq_eq_false_iff_ne.mpr e).symm
theorem AI (a b : Str):decide ((Sum.inr a : Key) = Sum.inr b) = decide (a = b) := by
  by_cases e : a = b
  · subst e;simp
  · have h : ¬ (Sum.inr a : Key) = Sum.inr b := λq => e (Sum.inr.inj q);rw [decide_eq_false h, decide_eq_false e]
theorem AG (a : Int)(b : Str):decide ((Sum.inl a : Key) = Sum.inr b) = false := decide_eq_false (λq => nomatch q)
theorem AH (a : Str)(b : Int):decide ((Sum.inr a : Key) = Sum.inl b) = false := decide_eq_false (λq => nomatch q)
noncomputable def bg (prog : Program)(w : World):PySem.KeyKind prog w Key where
  is := mf
  hash := DY w
  inj := λv a b ha hb => by
    rcases bO ha with ⟨i, t, rfl, rfl⟩ | ⟨x, t, rfl, rfl⟩
    · rcases bO hb with ⟨j, u, rfl, e⟩ | ⟨y, u, rfl, e⟩
      · injection e with e1 _;rw [e1]
      · exact nomatch e
    · rcases bO hb with ⟨j, u, rfl, e⟩ | ⟨y, u, rfl, e⟩
      · exact nomatch e
      · injection e with e1 _;rw [e1]
  byValue := λk v h => by
    rcases bO h with ⟨i, t, rfl, rfl⟩ | ⟨x, t, rfl, rfl⟩ <;> rfl
  pyHash := λhv h => by
    rcases bO hv with ⟨i, t, rfl, rfl⟩ | ⟨x, t, rfl, rfl⟩
    · exact wpAny_pyHash_int h
    · exact wpAny_pyHash_str h
  eqBool := λhu hv h => by
    rcases bO hu with ⟨i, t, rfl, rfl⟩ | ⟨x, t, rfl, rfl⟩
    · rcases bO hv with ⟨j, u, rfl, rfl⟩ | ⟨y, u, rfl, rfl⟩
      · rw [AF] at h;exact wpAny_eqBool_int h
      · rw [AG] at h;exact SeqAt.EqAt.int_str i t y u _ _ _ _ h
    · rcases bO hv with ⟨j, u, rfl, rfl⟩ | ⟨y, u, rfl, rfl⟩
      · rw [AH] at h;exact SeqAt.EqAt.str_int x t j u _ _ _ _ h
      · rw [AI] at h;exact wpAny_eqBool_str h
  «strs» := λk x t v h => by
    rcases bO h with ⟨i, u, rfl, e⟩ | ⟨y, u, rfl, e⟩
    · exact nomatch e
    · injection e with e1 _
      subst e1;cases v <;> rfl
theorem q5 (prog : Program)(w : World)(i : Int)(t : Tok):(bg prog w).is (.inl i) (.int i t) = true := vm i t
theorem q8 (prog : Program)(w : World)(x : Str)(t : Tok):(bg prog w).is (.inr x) (.str x t) = true := vn x t
end L2
namespace L2
open PySem PySem.Spec PyProof.Rows
inductive V where
  | non | bl (b : Bool) | int (i : Int) | str (x : Str) | byt (b : Array UInt8) | flt (b : UInt64) | ref (a : Addr) | ty (n : String)
  deriving DecidableEq
noncomputable def RelV : V -> Value -> Prop
  | .non, u => u = Value.none
  | .bl b, u => u = Value.bool b
  | .int i, u => ∃ t, u = Value.int i t
  | .str x, u => ∃ t, u = Value.str x t
  | .byt b, u => ∃ t, u = Value.bytes b t
  | .flt b, u => ∃ t, u = Value.float b t
  | .ref a, u => u = Value.ref a
  | .ty n, u => u = Value.type n
noncomputable abbrev Vals : List V -> List Value -> Prop := Paired RelV
theorem Vals.length {xs : List V}{us : List Value}(r : Vals xs us):xs.length = us.length := Paired.length r
theorem Vals.get : ∀ {xs : List V} {us : List Value} {i : Nat} {x : V}, Vals xs us -> xs[i]? = some x -> ∃ u, us[i]? = some u /\ RelV x u
  | _, _, _, _, .nil, e => by simp at e
  | _, _, 0, _, .cons r _, e => by simp at e;subst e;exact ⟨_, rfl, r⟩
  | _, _, i + 1, x, .cons _ t, e => by
    obtain ⟨u, h1, h2⟩ := Vals.get (i := i) (x := x) t (by simpa using e);exact ⟨u, by simpa using h1, h2⟩
theorem Vals.set {x : V}{u : Value}(r : RelV x u):∀ {xs : List V} {us : List Value} (i : Nat), Vals xs us -> Vals (xs.set i x) (us.set i u)
  | _, _, _, .nil => .nil
  | _, _, 0, .cons _ t => .cons r t
  | _, _, i + 1, .cons q t => .cons q (Vals.set r i t)
theorem Vals.append : ∀ {xs ys : List V} {us ws : List Value}, Vals xs us -> Vals ys ws -> Vals (xs ++ ys) (us ++ ws)
  | _, _, _, _, .nil, s => s
  | _, _, _, _, .cons r t, s => .cons r (Vals.append t s)
theorem Vals.take : ∀ {xs : List V} {us : List Value} (n : Nat), Vals xs us -> Vals (xs.take n) (us.take n)
  | _, _, 0, _ => .nil
  | _, _, _ + 1, .nil => .nil
  | _, _, n + 1, .cons r t => .cons r (Vals.take n t)
theorem Vals.drop : ∀ {xs : List V} {us : List Value} (n : Nat), Vals xs us -> Vals (xs.drop n) (us.drop n)
  | _, _, 0, r => r
  | _, _, _ + 1, .nil => .nil
  | _, _, n + 1, .cons _ t => Vals.drop n t
noncomputable def jh : Option V -> Option Value -> Prop
  | some v, some u => RelV v u
  | none, none => True
  | _, _ => False
noncomputable def KV {κ : Type}:List (κ × V) -> List (κ × Value) -> Prop := Paired λ(p : κ × V) (q : κ × Value) => p.1 = q.1 /\ RelV p.2 q.2
noncomputable def kV : Key -> V
  | .inl i => .int i
  | .inr x => .str x
inductive HO where
  | lst (xs : List V)
  | tup (xs : List V)
  | dK (kvs : List (Key × V)) | dT (kvs : List (List Key × V))
  | set (S : Int -> Bool) (n : Nat)
  | ins (C dx : Addr) (fs : List (Str × V))
  | own (x : Addr)
  | xd (fs : List (Str × V))
  | met (f x : Addr)
  | rng (lo hi : Int)
  | cq (o : Obj) (u : HO)
  | tbl (ps : Array Value)
  | ext (φ : Heap -> Prop)
noncomputable abbrev Hp := Addr -> Option HO
noncomputable def upd (H : Hp)(a : Addr)(o : HO):Hp := λb => if b = a then some o else H b
theorem aq {H : Hp}{a : Addr}{o : HO}:upd H a o a = some o := by unfold upd;rw [if_pos rfl]
theorem ah {H : Hp}{a b : Addr}{o : HO}(h : b ≠ a):upd H a o b = H b := by unfold upd;rw [if_neg h]
theorem iu {H : Hp}{a b : Addr}{o u : HO}(h : H a = some o)(h' : H b = some u)(d : o ≠ u):a ≠ b := by
  intro e;subst e;rw [h] at h';exact d (Option.some.inj h')
theorem aI {H : Hp}{a b : Addr}{o : HO}(h : H a = some o)(h' : H b = none):a ≠ b := by
  intro e;subst e;rw [h] at h';cases h'
section
variable (P : Program) (w : World)
noncomputable def bM (H : Hp)(h : Heap)(a : Addr):HO -> Prop
  | .lst xs => xs.length <= sizeLine /\ ∃ (its : List Value) (n : Nat), Vals xs its /\ h.get? a = some { cls := .type "list", data := .seq its.toArray n }
  | .tup xs => xs.length <= sizeLine /\ ∃ its : List Value, Vals xs its /\ IsTup h a its.toArray
  | .dK kvs => kvs.length <= sizeLine /\ (a == sysModules) = false /\ ∃ vs, KV kvs vs /\ h.DictOf (bg P w) a vs
  | .dT kvs => kvs.length <= sizeLine /\ (a == sysModules) = false /\ ∃ xs : List (List Key × Addr × Value),
      Paired (λ(p : List Key × V) (q : List Key × Addr × Value) => p.1 = q.1 /\ H q.2.1 = some (.tup (p.1.map kV)) /\ RelV p.2 q.2.2) kvs xs /\
      ∃ o es ep, h.get? a = some o /\ o.ExactDict /\ o.data = .dict es ep /\ es.toList = xs.map (entryOfKey (tupleKind (bg P w))) /\ (xs.map (·.1)).Nodup
  | .set S n => h.SetOf (intKind P w) a S n
  | .ins C dx fs => H dx = some (.own a) /\ fs.length <= 1000 /\ dx ≠ a /\ h.get? a = some (instObj C dx) /\
      ∃ mA, h.Ns1 dx mA /\ (∀ f, jh (fs.lookup f) (mA f)) /\ PySem.Within mA (fs.map (·.1))
  | .own _ => ∃ o, h.get? a = some o
  | .xd fs => ∃ mA, h.Ns1 a mA /\ ∀ f, jh (fs.lookup f) (mA f)
  | .rng lo hi => ∃ t u v, h.get? a = some { cls := .type "range", data := .fields #[.int lo t, .int hi u, .int 1 v] }
  | .cq o u => h.get? a = some o /\ bM H h a u
  | .tbl ps => h.get? a = some { cls := .none, data := .fields ps }
  | .met f x => h.get? a = some (methodObj (.ref f) (.ref x))
  | .ext φ => φ h /\ (∃ o, h.get? a = some o) /\ ∀ h1 h2 : Heap, φ h1 -> (∀ o, h1.get? a = some o -> h2.get? a = some o) -> φ h2
noncomputable def g6 (H : Hp)(h : Heap):Prop := ∀ a o, H a = some o -> bM P w H h a o
end
section
variable {P : Program} {w : World} {H H' : Hp} {h h' : Heap} {a : Addr} {o : HO}
theorem bM.lt (x : bM P w H h a o):a < h.objs.size := by
  cases o with
  | lst xs => obtain ⟨_, _, _, _, e⟩ := x;exact Heap.lt_size e
  | tup xs => obtain ⟨_, _, _, p⟩ := x;exact p.lt
  | dK kvs => obtain ⟨_, _, _, _, o, _, _, e, _⟩ := x;exact Heap.lt_size e
  | dT kvs => obtain ⟨_, _, _, _, o, _, _, e, _⟩ := x;exact Heap.lt_size e
  | set S n => obtain ⟨o, _, _, _, e, _⟩ := x;exact Heap.lt_size e
  | ins C dx fs => obtain ⟨_, _, _, e, _⟩ := x;exact Heap.lt_size e
  | own y => obtain ⟨_, e⟩ := x;exact Heap.lt_size e
  | xd fs => obtain ⟨_, ⟨_, _, _, e, _⟩, _⟩ := x;exact Heap.lt_size e
  | rng lo hi => obtain ⟨_, _, _, e⟩ := x;exact Heap.lt_size e
  | cq ob u => obtain ⟨e, _⟩ := x;exact Heap.lt_size e
  | tbl ps => exact Heap.lt_size (show h.get? a = some _ from x)
  | met f y => exact Heap.lt_size (show h.get? a = some _ from x)
  | ext φ => obtain ⟨_, ⟨_, e⟩, _⟩ := x;exact Heap.lt_size e
theorem Paired.yR {α β : Type}{F G : α -> β -> Prop}:∀ {l₁ : List α} {l₂ : List β}, Paired F l₁ l₂ -> (∀ a b, F a b -> G a b) -> Paired G l₁ l₂
  | _, _, .nil, _ => .nil
  | _, _, .cons r t, f => .cons (f _ _ r) (Paired.yR t f)
theorem Paired.imp' {α β : Type}{F G : α -> β -> Prop}(f : ∀ a b, F a b -> G a b){l₁ : List α}{l₂ : List β}(r : Paired F l₁ l₂):Paired G l₁ l₂ := Paired.yR r f
theorem bM.fq (x : bM P w H h a o)(k : ∀ b u, (b = a \/ H b = some (.own a)) -> h.get? b = some u -> h'.get? b = some u)
    (ho : ∀ b, H b = some (.own a) -> H' b = some (.own a)) (ht : ∀ b xs, H b = some (.tup xs) -> H' b = some (.tup xs)):bM P w H' h' a o := by
  induction o with
  | lst xs => obtain ⟨z, its, n, r, e⟩ := x;exact ⟨z, its, n, r, k _ _ (.inl rfl) e⟩
  | tup xs => obtain ⟨z, its, r, ob, e, c⟩ := x;exact ⟨z, its, r, ob, k _ _ (.inl rfl) e, c⟩
  | dK kvs => obtain ⟨z, y, vs, r, ob, es, ep, e, c⟩ := x;exact ⟨z, y, vs, r, ob, es, ep, k _ _ (.inl rfl) e, c⟩
  | dT kvs =>
    obtain ⟨z, y, xs, r, ob, es, ep, e, c⟩ := x;exact ⟨z, y, xs, Paired.yR r λp q z => ⟨z.1, ht _ _ z.2.1, z.2.2⟩, ob, es, ep, k _ _ (.inl rfl) e, c⟩
  | set S n => obtain ⟨ob, es, ep, t, e, c⟩ := x;exact ⟨ob, es, ep, t, k _ _ (.inl rfl) e, c⟩
  | ins C dx fs =>
    obtain ⟨d, z, ne, e, mA, ⟨od, es, ep, e2, c⟩, r⟩ := x;exact ⟨ho _ d, z, ne, k _ _ (.inl rfl) e, mA, ⟨od, es, ep, k _ _ (.inr d) e2, c⟩, r⟩
  | own y => obtain ⟨ob, e⟩ := x;exact ⟨ob, k _ _ (.inl rfl) e⟩
  | xd fs => obtain ⟨mA, ⟨od, es, ep, e, c⟩, r⟩ := x;exact ⟨mA, ⟨od, es, ep, k _ _ (.inl rfl) e, c⟩, r⟩
  | rng lo hi => obtain ⟨t, u, v, e⟩ := x;exact ⟨t, u, v, k _ _ (.inl rfl) e⟩
  | cq ob u ih => obtain ⟨e, q⟩ := x;exact ⟨k _ _ (.inl rfl) e, ih q⟩
  | tbl ps =>
    have e : h.get? a = some { cls := .none, data := .fields ps } := x;show h'.get? a = some { cls := .none, data := .fields ps };exact k a _ (.inl rfl) e
  | met f y =>
    have e : h.get? a = some (methodObj (.ref f) (.ref y)) := x;show h'.get? a = some (methodObj (.ref f) (.ref y));exact k a _ (.inl rfl) e
  | ext φ => obtain ⟨p, ⟨o, e⟩, st⟩ := x;exact ⟨st _ _ p λo q => k _ _ (.inl rfl) q, ⟨o, k _ _ (.inl rfl) e⟩, st⟩
theorem g6.lt (x : g6 P w H h)(e : H a = some o):a < h.objs.size := (x a o e).lt
theorem g6.fresh (x : g6 P w H h)(e : h.objs.size <= a):H a = none := by
  cases q : H a with
  | none => rfl
  | some u => exact absurd (Nat.lt_of_lt_of_le (x.lt q) e) (Nat.lt_irrefl _)
theorem g6.kept (x : g6 P w H h)(k : ∀ b u, h.get? b = some u -> h'.get? b = some u):g6 P w H h' := λa o e =>
  (x a o e).fq (λb u _ q => k b u q) (λ_ q => q) λ_ _ q => q
theorem g6.laid (x : g6 P w H h)(k : ∀ b u, h.get? b = some u -> h'.get? b = some u)(hp : h.objs.size <= a)(new : bM P w (upd H a o) h' a o):g6 P w (upd H a o) h' := λb u e => by
  have hn := x.fresh hp;by_cases hb : b = a
  · subst hb;rw [aq] at e;cases e;exact new
  · rw [ah hb] at e;exact (x b u e).fq (λc v _ q => k c v q) (λc q => by rw [ah (aI q hn)];exact q) λc xs q => by rw [ah (aI q hn)];exact q
end
noncomputable def Rd (H : Hp)(a : Addr)(u : HO):Prop := H a = some u \/ ∃ o, H a = some (.cq o u)
theorem Rd.ok {P : Program}{w : World}{H : Hp}{h : Heap}{a : Addr}{u : HO}(r : Rd H a u)(x : g6 P w H h):bM P w H h a u := by
  rcases r with r | ⟨o, r⟩
  · exact x a u r
  · obtain ⟨_, q⟩ := x a _ r;exact q
noncomputable def BK : Option HO -> Prop
  | some (.lst _) => True
  | some (.dK _) => True
  | some (.dT _) => True
  | some (.set _ _) => True
  | some (.ins _ _ _) => True
  | some (.ext _) => True
  | _ => False
section
variable {P : Program} {w : World} {H : Hp} {h h' : Heap} {x e : Addr} {o' : HO}
theorem g6.write (ok : g6 P w H h)(mu : BK (H x))(he : e = x \/ H e = some (.own x))(k : ∀ b u, b ≠ e -> h.get? b = some u -> h'.get? b = some u)(heo : ∃ u, h'.get? e = some u)
    (new : bM P w (upd H x o') h' x o'):g6 P w (upd H x o') h' := λb u q => by
  have nown : ∀ c y, H c = some (.own y) -> c ≠ x := λc y r z => by subst z;rw [r] at mu;exact mu
  have ntup : ∀ c xs, H c = some (.tup xs) -> c ≠ x := λc xs r z => by subst z;rw [r] at mu;exact mu
  by_cases hb : b = x
  · subst hb;rw [aq] at q;cases q;exact new
  · rw [ah hb] at q;by_cases hbe : b = e
    · have q' : H b = some (.own x) := by
        rcases he with z | z
        · exact absurd (hbe.trans z) hb
        · rw [hbe];exact z
      rw [q] at q';cases q';obtain ⟨v, hv⟩ := heo;exact ⟨v, by rw [hbe];exact hv⟩
    · refine (ok b u q).fq (λc v hc r => k c v ?_ r) (λc r => by rw [ah (nown c b r)];exact r) λc xs r => by rw [ah (ntup c xs r)];exact r
      rcases hc with rfl | hc
      · exact hbe
      · rintro rfl;rcases he with z | z
        · exact nown c b hc z
        · rw [hc] at z;cases z;exact hb rfl
end
structure Un (fs ex : List Addr)(H H' : Hp)(h h' : Heap):Prop where
  keep : ∀ b o, h.get? b = some o -> H b = none -> b ∉ fs -> b ∉ ex -> h'.get? b = some o
  slot : ∀ b o, h.get? b = some o -> H b = none -> b ∈ fs -> b ∉ ex -> ∃ sl, h'.get? b = some { o with slots := sl }
  free : ∀ b o, h.get? b = some o -> H b = none -> b ∉ ex -> H' b = none
  there : ∀ b o, h.get? b = some o -> b ∉ ex -> ∃ o', h'.get? b = some o'
  iJ : ∀ b xs, H b = some (.tup xs) -> H' b = some (.tup xs)
  gR : ∀ b o u, H b = some (.cq o u) -> H' b = some (.cq o u)
  iI : ∀ b ps, H b = some (.tbl ps) -> ∃ more, H' b = some (.tbl (ps ++ more))
section
variable {fs fs' ex ex' : List Addr} {H H1 H2 : Hp} {h h1 h2 h' : Heap} {a x e : Addr} {o : HO}
theorem Un.any (u : Un fs ex H H1 h h1){b : Addr}{ob : Obj}(q : h.get? b = some ob)(n : H b = none)(hx : b ∉ ex):∃ sl, h1.get? b = some { ob with slots := sl } := by
  by_cases hb : b ∈ fs
  · exact u.slot b ob q n hb hx
  · exact ⟨ob.slots, u.keep b ob q n hb hx⟩
theorem Un.trans (a : Un fs ex H H1 h h1)(b : Un fs ex H1 H2 h1 h2):Un fs ex H H2 h h2 where
  keep := λc ob q n hc hx => b.keep c ob (a.keep c ob q n hc hx) (a.free c ob q n hx) hc hx
  slot := λc ob q n hc hx => by
    obtain ⟨sl, e1⟩ := a.slot c ob q n hc hx;obtain ⟨sl', e2⟩ := b.slot c _ e1 (a.free c ob q n hx) hc hx;exact ⟨sl', e2⟩
  free := λc ob q n hx => by
    obtain ⟨o', e1⟩ := a.there c ob q hx;exact b.free c o' e1 (a.free c ob q n hx) hx
  there := λc ob q hx => by
    obtain ⟨o', e1⟩ := a.there c ob q hx;exact b.there c o' e1 hx
  iJ := λc xs q => b.iJ c xs (a.iJ c xs q)
  gR := λc ob xs q => b.gR c ob xs (a.gR c ob xs q)
  iI := λc ps q => by
    obtain ⟨m1, e1⟩ := a.iI c ps q;obtain ⟨m2, e2⟩ := b.iI c _ e1;exact ⟨m1 ++ m2, by rw [e2, Array.append_assoc]⟩
theorem Un.kept (k : ∀ b u, h.get? b = some u -> h'.get? b = some u):Un fs ex H H h h' :=
  ⟨λb ob q _ _ _ => k b ob q, λb ob q _ _ _ => ⟨ob.slots, k b ob q⟩, λ_ _ _ n _ => n, λb ob q _ => ⟨ob, k b ob q⟩, λ_ _ q => q, λ_ _ _ q => q, λ_ ps q => ⟨#[], by rw [q];simp⟩⟩
theorem Un.refl : Un fs ex H H h h := Un.kept λ_ _ q => q
theorem Un.laid (k : ∀ b u, h.get? b = some u -> h'.get? b = some u)(hp : h.objs.size <= a)(hn : H a = none):Un fs ex H (upd H a o) h h' where
  keep := λb u q _ _ _ => k b u q
  slot := λb u q _ _ _ => ⟨u.slots, k b u q⟩
  free := λb u q n _ => by rw [ah (Nat.ne_of_lt (Nat.lt_of_lt_of_le (Heap.lt_size q) hp))];exact n
  there := λb u q _ => ⟨u, k b u q⟩
  iJ := λb xs q => by rw [ah (aI q hn)];exact q
  gR := λb u xs q => by rw [ah (aI q hn)];exact q
  iI := λb ps q => ⟨#[], by rw [ah (aI q hn), q];simp⟩
theorem Un.write (mu : BK (H x))(he : e = x \/ H e = some (.own x))(k : ∀ b u, b ≠ e -> h.get? b = some u -> h'.get? b = some u)(heo : ∃ u, h'.get? e = some u):Un fs ex H (upd H x o) h h' := by
  have hx : ∀ b, H b = none -> b ≠ x := λb n z => by subst z;rw [n] at mu;exact mu
  have hb : ∀ b, H b = none -> b ≠ e := λb n z => by
    subst z;rcases he with r | r
    · exact hx b n r
    · rw [n] at r;cases r
  have hm : ∀ b u, H b = some u -> ¬ BK (some u) -> b ≠ x := λb u q nm z => by subst z;rw [q] at mu;exact nm mu
  refine ⟨λb u q n _ _ => k b u (hb b n) q, λb u q n _ _ => ⟨u.slots, k b u (hb b n) q⟩, λb u q n _ => by rw [ah (hx b n)];exact n, λb u q _ => ?_,
    λb xs q => by rw [ah (hm b _ q λz => z)];exact q, λb u xs q => by rw [ah (hm b _ q λz => z)];exact q, λb ps q => ⟨#[], by rw [ah (hm b _ q λz => z), q];simp⟩⟩
  by_cases hbe : b = e
  · subst hbe;exact heo
  · exact ⟨u, k b u hbe q⟩
theorem Un.mono (u : Un fs ex H H1 h h1)(hs : ∀ b ∈ fs, b ∈ fs')(hx : ∀ b ∈ ex, b ∈ ex'):Un fs' ex' H H1 h h1 :=
  ⟨λb ob q n hb he => u.keep b ob q n (λz => hb (hs b z)) λz => he (hx b z), λ_ _ q n _ he => u.any q n λz => he (hx _ z), λb ob q n he => u.free b ob q n λz => he (hx b z), λb ob q he => u.there b ob q λz => he (hx b z), u.iJ, u.gR, u.iI⟩
end
noncomputable def zV (h : Heap)(H : Hp):List Addr := (List.range h.objs.size).filter λa => (H a).isSome
noncomputable def o5 (h : Heap)(H : Hp):Heap := PySem.W.hideAll h (zV h H)
theorem vd (h : Heap)(H : Hp):(o5 h H).objs.size = h.objs.size := PySem.W.hideAll_size _ _
theorem wV {h : Heap}{H : Hp}{b : Addr}{o : Obj}(e : h.get? b = some o)(n : H b = none):(o5 h H).get? b = some o :=
  PySem.W.hideAll_get _ e λhm => by
    have q : (H b).isSome = true := (List.mem_filter.mp hm).2;rw [n] at q;simp at q
theorem yV {h : Heap}{H : Hp}{b : Addr}{o : Obj}(e : (o5 h H).get? b = some o):h.get? b = some o /\ H b = none := by
  have e' : h.get? b = some o := PySem.W.of_hideAll (zV h H) e;refine ⟨e', ?_⟩;cases q : H b with
  | none => rfl
  | some x =>
    have hm : b ∈ zV h H := List.mem_filter.mpr ⟨mem_range.mpr (Heap.lt_size e'), by simp [q]⟩;have z : (o5 h H).get? b = none := PySem.W.hideAll_none (zV h H) hm;rw [z] at e;cases e
noncomputable def yl (g h : Heap)(L : Addr):List (Addr × Obj) := (List.range h.objs.size).filterMap λa => if a = L \/ (g.get? a).isSome = true then none else (h.get? a).map λo => (a, o)
noncomputable def rest (g h : Heap)(L d : Addr):List (Addr × Obj) := (yl g h L).filter λp => decide (p.1 ≠ d)
end L2
namespace L2
open PySem PySem.Spec PyProof.Rows
structure Mod (K : Frag)(mg : Str -> Option Value)(base : Heap):Prop where
  BC : K.In base
  glob : base.Ns mainGlobals mg
  blt : ∃ mb, base.Ns builtinsNs mb /\ ∀ x : Str, x ≠ "__name__" -> mb x = bootBuiltins x
  nolimit : base.NoLimit
structure Cx where
  prog : Program
  w : World
  K : Frag
  mg : Str -> Option Value
  base : Heap
  A : Around
  N : List Str
  s₀ : Shared
  H₀ : Hp
  env : Env
  outer : List Env
  stack : List Env
  ex : List Addr
  fn : Str -> Bool
  calm : Bool
  pn : List (Addr × Obj)
  xe : Value -> Shared -> Prop
noncomputable def jy (l : List Env):List Addr := l.filterMap (·.frame)
noncomputable abbrev Cx.fs (X : Cx):List Addr := jy X.outer
noncomputable def Bz (sc : Scope)(x : Str):Prop := sc.names.lookup x = some .local \/ sc.names.lookup x = some .cell \/ sc.names.lookup x = some .free
noncomputable def Loc (sc : Scope)(x : Str):Prop := sc.names.lookup x = some .local \/ sc.names.lookup x = some .cell
noncomputable def Look (env : Env)(h : Heap)(m : Str -> Option Value)(x : Str)(u : Value):Prop :=
  (env.kindOf x = some .local /\ m x = some u) \/ ((env.kindOf x = some .cell \/ env.kindOf x = some .free) /\ ∃ c, env.cells.lookup x = some c /\ h.IsCell c (some u))
structure Cx.Ok (X : Cx):Prop where
  mod : Mod X.K X.mg X.base
  kind : X.env.scope.kind = .function
  glob : X.env.globals = mainGlobals
  blt : X.env.builtins = builtinsNs
  above : X.s₀.heap.objs.size <= X.env.locals
  inj : ∀ x y c, X.env.cells.lookup x = some c -> X.env.cells.lookup y = some c -> x = y
  has : ∀ x, (X.env.kindOf x = some .cell \/ X.env.kindOf x = some .free) -> ∃ c, X.env.cells.lookup x = some c
  BR : ∀ x c, X.fn x = true -> X.env.cells.lookup x = some c -> X.s₀.heap.objs.size <= c
  hd : X.calm = true -> X.A.handled = none
  frames : X.A.frames = some X.stack
  Dk : X.stack = X.outer \/ (X.stack = X.env :: X.outer /\ X.env.frame = some X.env.locals)
  De : ∀ b ∈ X.ex, b ≠ X.env.locals /\ ∀ x c, X.env.cells.lookup x = some c -> c ≠ b
  bs : ∀ b o, X.base.get? b = some o -> X.s₀.heap.get? b = some o /\ X.H₀ b = none
  yq : X.base.objs.size <= X.s₀.heap.objs.size
  xp : ∀ b o, X.base.get? b = some o -> b ∉ X.ex
  wL : ∀ b ∈ X.ex, b ∉ X.fs
  kT : X.s₀.heap.FunFrames X.base X.outer
  Ay : ∀ b ∈ X.fs, X.H₀ b = none
structure Inv (X : Cx)(pins : List (Addr × Obj))(σ : List (Option V))(H : Hp)(s : Shared):Prop where
  ok : X.Ok
  os : s.os = X.s₀.os
  bare : AllBare s.gens
  base : Un X.fs X.ex X.H₀ H X.s₀.heap s.heap
  loc : ∃ m, s.heap.Ns X.env.locals m /\ ∀ (i : Nat) (x : Str) (v : V), X.N[i]? = some x -> σ[i]? = some (some v) -> Bz X.env.scope x -> ∃ u, RelV v u /\ Look X.env s.heap m x u
  cell : ∀ x c, X.env.cells.lookup x = some c -> ∃ v, s.heap.IsCell c v
  free : H X.env.locals = none
  g4 : ∀ x c, X.env.cells.lookup x = some c -> H c = none
  pin : ∀ p ∈ X.pn ++ pins, s.heap.get? p.1 = some p.2 /\ H p.1 = none /\ p.1 ≠ X.env.locals /\ p.1 ∉ X.fs /\ ∀ v, p.2.data ≠ .cell v
  bc : g6 X.prog X.w H s.heap
  len : σ.length = X.N.length
section
variable {X : Cx} {pins : List (Addr × Obj)} {σ : List (Option V)} {H H' : Hp} {s : Shared} {h' : Heap}
theorem Cx.Ok.DZ (ok : X.Ok){b : Addr}{o : Obj}(e : X.base.get? b = some o):b ∉ X.fs := λhb => by
  have := (ok.kT.mem hb).1;rw [e] at this;cases this
theorem Inv.bs (I : Inv X pins σ H s):∀ b o, X.base.get? b = some o -> s.heap.get? b = some o /\ H b = none := λb o e =>
  ⟨I.base.keep b o (I.ok.bs b o e).1 (I.ok.bs b o e).2 (I.ok.DZ e) (I.ok.xp b o e), I.base.free b o (I.ok.bs b o e).1 (I.ok.bs b o e).2 (I.ok.xp b o e)⟩
theorem Inv.bk (I : Inv X pins σ H s):∀ b o, X.base.get? b = some o -> s.heap.get? b = some o := λb o e => (I.bs b o e).1
theorem Inv.mod (I : Inv X pins σ H s):Mod X.K X.mg X.base := I.ok.mod
theorem Inv.jz (I : Inv X pins σ H s):X.K.In s.heap := I.ok.mod.BC.keeps I.bk
theorem Inv.lt (I : Inv X pins σ H s):X.env.locals < s.heap.objs.size := let ⟨_, hn, _⟩ := I.loc;hn.lt
theorem Inv.sz (I : Inv X pins σ H s):X.s₀.heap.objs.size <= s.heap.objs.size := Nat.le_trans I.ok.above (Nat.le_of_lt I.lt)
theorem Inv.D0 (I : Inv X pins σ H s){a : Addr}(h : s.heap.objs.size <= a):a ∉ X.fs := λhb => by
  obtain ⟨_, o, ho, _⟩ := I.ok.kT.mem hb;exact absurd (Nat.lt_of_lt_of_le (Heap.lt_size ho) (Nat.le_trans I.sz h)) (Nat.lt_irrefl _)
theorem Inv.Al (I : Inv X pins σ H s):∀ x c, X.env.cells.lookup x = some c -> c ≠ X.env.locals := λx c e z => by
  obtain ⟨v, o, ho, hd⟩ := I.cell x c e;obtain ⟨m, ⟨o', es, ep, ho', hd', _⟩, _⟩ := I.loc;rw [z, ho'] at ho;cases ho;rw [hd'] at hd;cases hd
theorem Inv.kT (I : Inv X pins σ H s):s.heap.FunFrames X.base X.outer := by
  have all : ∀ (l : List Env), (∀ b ∈ jy l, b ∈ X.fs) -> X.s₀.heap.FunFrames X.base l -> s.heap.FunFrames X.base l := by
    intro l;induction l with
    | nil => intro _ _;trivial
    | cons env r ih =>
      intro hs hl;obtain ⟨hk, ⟨L, o, hf, hn, ho, hd⟩, hr⟩ := hl;have hL : L ∈ X.fs := hs L (by unfold jy;rw [filterMap_cons, hf];exact mem_cons_self);obtain ⟨sl, e⟩ := I.base.slot L o ho (I.ok.Ay L hL) hL λz => I.ok.wL L z hL;exact ⟨hk, ⟨L, _, hf, hn, e, hd⟩, ih (λb hb => hs b (by unfold jy;rw [filterMap_cons, hf];exact mem_cons_of_mem _ hb)) hr⟩
  exact all X.outer (λ_ hb => hb) I.ok.kT
theorem Inv.stack (I : Inv X pins σ H s):s.heap.FunFrames X.base X.stack := by
  rcases I.ok.Dk with e | ⟨e, hf⟩
  · rw [e];exact I.kT
  · rw [e];obtain ⟨m, hn, _⟩ := I.loc;refine .cons (by rw [I.ok.kind];decide) hf hn ?_ I.kT;exact Heap.get?_none_of_le (Nat.le_trans I.ok.yq I.ok.above)
theorem Inv.sY (I : Inv X pins σ H s):∀ b ∈ jy X.stack, b ∈ X.env.locals :: X.fs := λb hb => by
  rcases I.ok.Dk with e | ⟨e, hf⟩
  · rw [e] at hb;exact mem_cons_of_mem _ hb
  · rw [e] at hb;unfold jy at hb;rw [filterMap_cons, hf] at hb;exact hb
theorem Inv.pL (I : Inv X pins σ H s):∀ b ∈ jy X.stack, H b = none := λb hb => by
  rcases List.mem_cons.mp (I.sY b hb) with e | hb
  · rw [e];exact I.free
  · obtain ⟨_, o, ho, _⟩ := I.ok.kT.mem hb;exact I.base.free b o ho (I.ok.Ay b hb) λz => I.ok.wL b z hb
theorem Inv.step {g' : Array GenState}{t' : Nat}{d' : Drawn}{ch : List Addr}(I : Inv X pins σ H s)
    (hch : ∀ b ∈ ch, (b ∈ X.ex \/ X.s₀.heap.objs.size <= b) /\ b ≠ X.env.locals /\ (∀ x c, X.env.cells.lookup x = some c -> c ≠ b) /\ ∀ p ∈ X.pn ++ pins, p.1 ≠ b)
    (keep : ∀ b o, b ≠ X.env.locals -> b ∉ X.fs -> b ∉ ch -> s.heap.get? b = some o -> H b = none -> h'.get? b = some o)
    (slot : ∀ b o, b ≠ X.env.locals -> b ∈ X.fs -> b ∉ ch -> s.heap.get? b = some o -> H b = none -> ∃ sl, h'.get? b = some { o with slots := sl }) (free : ∀ b o, b ∉ ch -> s.heap.get? b = some o -> H b = none -> H' b = none)
    (there : ∀ b o, b ∉ ch -> s.heap.get? b = some o -> ∃ o', h'.get? b = some o')
    (iJ : ∀ b xs, H b = some (.tup xs) -> H' b = some (.tup xs)) (gR : ∀ b o u, H b = some (.cq o u) -> H' b = some (.cq o u)) (iI : ∀ b ps, H b = some (.tbl ps) -> ∃ more, H' b = some (.tbl (ps ++ more)))
    (ns : ∀ m, s.heap.Ns X.env.locals m -> h'.Ns X.env.locals m) (bc : g6 X.prog X.w H' h') (hg : AllBare g') :
    Inv X pins σ H' { s with heap := h', gens := g', drawn := d', toks := t' } := by
  have BE : ∀ b o, X.s₀.heap.get? b = some o -> b ≠ X.env.locals := λb o e => Nat.ne_of_lt (Nat.lt_of_lt_of_le (Heap.lt_size e) I.ok.above);have neC : ∀ b o, X.s₀.heap.get? b = some o -> b ∉ X.ex -> b ∉ ch := λb o e hx hb => by
    rcases (hch b hb).1 with z | z
    · exact hx z
    · exact absurd (Nat.lt_of_lt_of_le (Heap.lt_size e) z) (Nat.lt_irrefl _)
  have cellK : ∀ x c, X.env.cells.lookup x = some c -> ∀ v, s.heap.IsCell c v -> h'.IsCell c v := by
    rintro x c e v ⟨o, ho, hd⟩;have nch : c ∉ ch := λz => (hch c z).2.2.1 x c e rfl;by_cases hc : c ∈ X.fs
    · obtain ⟨sl, q⟩ := slot c o (I.Al x c e) hc nch ho (I.g4 x c e);exact ⟨_, q, hd⟩
    · exact ⟨o, keep c o (I.Al x c e) hc nch ho (I.g4 x c e), hd⟩
  refine ⟨I.ok, I.os, hg, ⟨λb o e n hb hx => ?_, λb o e n hb hx => ?_, λb o e n hx => ?_, λb o e hx => ?_, λb xs e => iJ b xs (I.base.iJ b xs e), λb o xs e => gR b o xs (I.base.gR b o xs e), λb ps e => ?_⟩, ?_, λx c e => ?_, ?_, λx c e => ?_, λp hp => ?_, bc, I.len⟩
  · exact keep b o (BE b o e) hb (neC b o e hx) (I.base.keep b o e n hb hx) (I.base.free b o e n hx)
  · obtain ⟨sl, e1⟩ := I.base.slot b o e n hb hx;obtain ⟨sl', e2⟩ := slot b _ (BE b o e) hb (neC b o e hx) e1 (I.base.free b o e n hx);exact ⟨sl', e2⟩
  · obtain ⟨o', e1⟩ := I.base.there b o e hx;exact free b o' (neC b o e hx) e1 (I.base.free b o e n hx)
  · obtain ⟨o', e1⟩ := I.base.there b o e hx;exact there b o' (neC b o e hx) e1
  · obtain ⟨m1, e1⟩ := I.base.iI b ps e;obtain ⟨m2, e2⟩ := iI b _ e1;exact ⟨m1 ++ m2, by rw [e2, Array.append_assoc]⟩
  · obtain ⟨m, hn, hl⟩ := I.loc;refine ⟨m, ns m hn, λi x v e1 e2 e3 => ?_⟩;obtain ⟨u, r, l⟩ := hl i x v e1 e2 e3;refine ⟨u, r, ?_⟩;rcases l with l | ⟨k, c, e, z⟩
    · exact .inl l
    · exact .inr ⟨k, c, e, cellK x c e _ z⟩
  · obtain ⟨v, z⟩ := I.cell x c e;exact ⟨v, cellK x c e v z⟩
  · obtain ⟨m, ⟨o, _, _, ho, _⟩, _⟩ := I.loc;exact free _ o (λz => (hch _ z).2.1 rfl) ho I.free
  · obtain ⟨v, o, ho, hd⟩ := I.cell x c e;exact free c o (λz => (hch c z).2.2.1 x c e rfl) ho (I.g4 x c e)
  · obtain ⟨e, n, ne, nf, d⟩ := I.pin p hp;have nch : p.1 ∉ ch := λz => (hch p.1 z).2.2.2 p hp rfl;exact ⟨keep p.1 p.2 ne nf nch e n, free p.1 p.2 nch e n, ne, nf, d⟩
theorem Inv.un {t' : Nat}(I : Inv X pins σ H s)(u : Un X.fs [] H H' s.heap h')(bc : g6 X.prog X.w H' h'):Inv X pins σ H' { s with heap := h', toks := t' } := by
  obtain ⟨m, ⟨o, es, ep, ho, r⟩, _⟩ := id I.loc;obtain ⟨sl, hL⟩ := u.any ho I.free (by simp);exact I.step (g' := s.gens) (d' := s.drawn) (ch := []) (λ_ z => nomatch z) (λb o _ hb _ e n => u.keep b o e n hb (by simp)) (λb o _ hb _ e n => u.slot b o e n hb (by simp)) (λb o _ e n => u.free b o e n (by simp)) (λb o _ e => u.there b o e (by simp)) u.iJ u.gR u.iI (λm' hm => by
    obtain ⟨o', es', ep', ho', r'⟩ := hm;rw [ho] at ho';cases ho';exact ⟨_, es', ep', hL, r'⟩) bc I.bare
theorem Inv.call {g' : Array GenState}{t' : Nat}{d' : Drawn}{ch : List Addr}(I : Inv X pins σ H s)(u : Un (jy X.stack) ch H H' s.heap h')(bc : g6 X.prog X.w H' h')(hg : AllBare g')
    (hch : ∀ b ∈ ch, (b ∈ X.ex \/ X.s₀.heap.objs.size <= b) /\ b ≠ X.env.locals /\ (∀ x c, X.env.cells.lookup x = some c -> c ≠ b) /\ ∀ p ∈ X.pn ++ pins, p.1 ≠ b) :
    Inv X pins σ H' { s with heap := h', gens := g', drawn := d', toks := t' } := by
  obtain ⟨m, ⟨o, es, ep, ho, r⟩, _⟩ := id I.loc;obtain ⟨sl, hL⟩ := u.any ho I.free λz => (hch _ z).2.1 rfl;exact I.step (ch := ch) hch (λb o hL hb hc e n => u.keep b o e n (λz => (List.mem_cons.mp (I.sY b z)).elim hL hb) hc) (λb o _ _ hc e n => u.any e n hc) (λb o hc e n => u.free b o e n hc) (λb o hc e => u.there b o e hc) u.iJ u.gR u.iI (λm' hm => by
    obtain ⟨o', es', ep', ho', r'⟩ := hm;rw [ho] at ho';cases ho';exact ⟨_, es', ep', hL, r'⟩) bc hg
theorem Inv.turned {t' : Nat}{it : Addr}(I : Inv X pins σ H s)(k : ∀ b o, b ≠ it -> s.heap.get? b = some o -> h'.get? b = some o)(hn : H it = none)(hL : it ≠ X.env.locals)
    (h1 : it ∈ X.ex \/ X.s₀.heap.objs.size <= it) (h2 : ∀ x c, X.env.cells.lookup x = some c -> c ≠ it) (h3 : ∀ p ∈ X.pn ++ pins, p.1 ≠ it):Inv X pins σ H { s with heap := h', toks := t' } := by
  have nit : ∀ b u, H b = some u -> b ≠ it := λb u e z => by rw [z, hn] at e;cases e
  refine I.step (g' := s.gens) (d' := s.drawn) (ch := [it]) (λb hb => ?_) (λb o _ _ hc e _ => k b o (λz => hc (by simp [z])) e) (λb o _ _ hc e _ => ⟨o.slots, k b o (λz => hc (by simp [z])) e⟩) (λ_ _ _ _ n => n)
    (λb o hc e => ⟨o, k b o (λz => hc (by simp [z])) e⟩) (λ_ _ e => e) (λ_ _ _ e => e) (λb ps e => ⟨#[], by rw [e];simp⟩) (λm hm => ?_) (λb u e => ?_) I.bare
  · have e : b = it := by simpa using hb
    subst e;exact ⟨h1, hL, h2, h3⟩
  · obtain ⟨o, es, ep, ho, r⟩ := hm;exact ⟨o, es, ep, k _ o (Ne.symm hL) ho, r⟩
  · refine (I.bc b u e).fq (λc v hc q => k c v ?_ q) (λ_ q => q) λ_ _ q => q;rcases hc with z | z
    · rw [z];exact nit b u e
    · exact nit c _ z
theorem Inv.tok (I : Inv X pins σ H s)(t : Nat):Inv X pins σ H { s with toks := t } := I.un (h' := s.heap) (t' := t) Un.refl I.bc
theorem Inv.kept {t' : Nat}(I : Inv X pins σ H s)(k : ∀ b u, s.heap.get? b = some u -> h'.get? b = some u):Inv X pins σ H { s with heap := h', toks := t' } := I.un (Un.kept k) (I.bc.kept k)
theorem Inv.laid {a : Addr}{o : HO}{t' : Nat}(I : Inv X pins σ H s)(k : ∀ b u, s.heap.get? b = some u -> h'.get? b = some u)(hp : s.heap.objs.size <= a)(new : bM X.prog X.w (upd H a o) h' a o) :
    Inv X pins σ (upd H a o) { s with heap := h', toks := t' } := I.un (Un.laid k hp (I.bc.fresh hp)) (I.bc.laid k hp new)
theorem Inv.write {x e : Addr}{o : HO}{t' : Nat}(I : Inv X pins σ H s)(mu : BK (H x))(he : e = x \/ H e = some (.own x))(k : ∀ b u, b ≠ e -> s.heap.get? b = some u -> h'.get? b = some u)(heo : ∃ u, h'.get? e = some u)
    (new : bM X.prog X.w (upd H x o) h' x o):Inv X pins σ (upd H x o) { s with heap := h', toks := t' } := I.un (Un.write mu he k heo) (I.bc.write mu he k heo new)
theorem Inv.uz {pins' : List (Addr × Obj)}(I : Inv X pins σ H s)(h : ∀ p ∈ pins', s.heap.get? p.1 = some p.2 /\ H p.1 = none /\ p.1 ≠ X.env.locals /\ p.1 ∉ X.fs /\ ∀ v, p.2.data ≠ .cell v):Inv X pins' σ H s :=
  ⟨I.ok, I.os, I.bare, I.base, I.loc, I.cell, I.free, I.g4, λp hp => (mem_append.mp hp).elim (λz => I.pin p (mem_append_left _ z)) (h p), I.bc, I.len⟩
theorem iw {N : List Str}(hN : N.Nodup){i j : Nat}{x : Str}(a : N[i]? = some x)(b : N[j]? = some x):i = j := by
  obtain ⟨h1, e1⟩ := List.getElem?_eq_some_iff.mp a;obtain ⟨h2, e2⟩ := List.getElem?_eq_some_iff.mp b;exact (List.getElem_inj hN).mp (e1.trans e2.symm)
theorem oy {M : Model}{A : Around}{E : Value -> Shared -> Prop}{i : Nat}{x : Str}{v : V}{u : Value}{Q : Unit -> Shared -> Prop}(I : Inv X pins σ H s)(hN : X.N.Nodup)(hi : X.N[i]? = some x)(hx : Loc X.env.scope x)(r : RelV v u)
    (h : ∀ s', Inv X pins (σ.set i (some v)) H s' -> (∃ a, Heap.SameBut a s.heap s'.heap /\ (a = X.env.locals \/ X.env.cells.lookup x = some a)) -> Q () s') (hf :autoParam (X.fn x = true \/ X.env.scope.names.lookup x = some .local) aZd._auto_1):wpAny M A (storeName X.env x u) Q E s := by
  obtain ⟨m, hn, hl⟩ := id I.loc;have hcls : (X.env.scope.kind == .class || (X.env.scope.kind == .module && X.env.locals != X.env.globals)) = false := by rw [I.ok.kind];rfl
  have hiσ : i < σ.length := by rw [I.len];exact (List.getElem?_eq_some_iff.mp hi).1
  have Al := I.Al;have tracked : ∀ {a : Addr} {h' : Heap}, (∃ o, s.heap.get? a = some o /\ H a = none) -> Heap.SameBut a s.heap h' -> g6 X.prog X.w H h' := λ{a h'} ha hs b ob e => by
    obtain ⟨_, _, hfree⟩ := ha;refine (I.bc b ob e).fq (λc w' hc q => (hs.2 c ?_).trans q) (λ_ q => q) λ_ _ q => q;rintro rfl;rcases hc with rfl | hc
    · rw [hfree] at e;cases e
    · rw [hfree] at hc;cases hc
  rcases hx with hk | hk
  · refine wpAny_storeName_local hk hn (λh' hn' hs => ?_) hcls;obtain ⟨oL, _, _, hoL, _⟩ := id hn;refine h _ ⟨I.ok, I.os, I.bare, ⟨λb o e n hb hx => ?_, λb o e n hb hx => ?_, I.base.free, λb o e hx => ?_, I.base.iJ, I.base.gR, I.base.iI⟩, ⟨_, hn', λj y v' e1 e2 e3 => ?_⟩, λy c e => ?_, I.free, I.g4, λp hp => ?_, tracked ⟨oL, hoL, I.free⟩ hs, by simpa using I.len⟩ ⟨_, hs, .inl rfl⟩
    · exact (hs.2 b (Nat.ne_of_lt (Nat.lt_of_lt_of_le (Heap.lt_size e) I.ok.above))).trans (I.base.keep b o e n hb hx)
    · obtain ⟨sl, e1⟩ := I.base.slot b o e n hb hx;exact ⟨sl, (hs.2 b (Nat.ne_of_lt (Nat.lt_of_lt_of_le (Heap.lt_size e) I.ok.above))).trans e1⟩
    · obtain ⟨o', e1⟩ := I.base.there b o e hx;exact ⟨o', (hs.2 b (Nat.ne_of_lt (Nat.lt_of_lt_of_le (Heap.lt_size e) I.ok.above))).trans e1⟩
    · by_cases hj : j = i
      · subst hj;rw [hi] at e1;cases e1;rw [List.getElem?_set_self hiσ] at e2;cases e2;exact ⟨u, r, .inl ⟨hk, by simp⟩⟩
      · rw [List.getElem?_set_ne (Ne.symm hj)] at e2;obtain ⟨u', r', q⟩ := hl j y v' e1 e2 e3;refine ⟨u', r', ?_⟩;rcases q with ⟨k, e⟩ | ⟨k, c, e, z⟩
        · refine .inl ⟨k, ?_⟩;have : y ≠ x := λe => hj (iw hN e1 (e ▸ hi));simp [this, e]
        · exact .inr ⟨k, c, e, z.sameBut hs (Al y c e)⟩
    · obtain ⟨w', z⟩ := I.cell y c e;exact ⟨w', z.sameBut hs (Al y c e)⟩
    · obtain ⟨e, n, ne, nf, d⟩ := I.pin p hp;exact ⟨(hs.2 p.1 ne).trans e, n, ne, nf, d⟩
  · have hfn : X.fn x = true := by
      rcases hf with z | z
      · exact z
      · rw [z] at hk;cases hk
    obtain ⟨c, hc⟩ := I.ok.has x (.inl hk);obtain ⟨w', z⟩ := I.cell x c hc;refine wpAny_storeName_cell I.ok.kind hk hc z (λh' hc' hs => ?_);obtain ⟨oc, hoc, hocd⟩ := id z;refine h { s with heap := h' } ⟨I.ok, I.os, I.bare, ⟨λb o e n hb hx => ?_, λb o e n hb hx => ?_, I.base.free, λb o e hx => ?_, I.base.iJ, I.base.gR, I.base.iI⟩, ⟨m, hn.sameBut hs (Ne.symm (Al x c hc)), λj y v' e1 e2 e3 => ?_⟩, λy c' e => ?_, I.free, I.g4, λp hp => ?_, tracked ⟨oc, hoc, I.g4 x c hc⟩ hs, by simpa using I.len⟩ ⟨c, hs, .inr hc⟩
    · exact (hs.2 b (Nat.ne_of_lt (Nat.lt_of_lt_of_le (Heap.lt_size e) (I.ok.BR x c hfn hc)))).trans (I.base.keep b o e n hb hx)
    · obtain ⟨sl, e1⟩ := I.base.slot b o e n hb hx;exact ⟨sl, (hs.2 b (Nat.ne_of_lt (Nat.lt_of_lt_of_le (Heap.lt_size e) (I.ok.BR x c hfn hc)))).trans e1⟩
    · obtain ⟨o', e1⟩ := I.base.there b o e hx;exact ⟨o', (hs.2 b (Nat.ne_of_lt (Nat.lt_of_lt_of_le (Heap.lt_size e) (I.ok.BR x c hfn hc)))).trans e1⟩
    · by_cases hj : j = i
      · subst hj;rw [hi] at e1;cases e1;rw [List.getElem?_set_self hiσ] at e2;cases e2;exact ⟨u, r, .inr ⟨.inl hk, c, hc, hc'⟩⟩
      · rw [List.getElem?_set_ne (Ne.symm hj)] at e2;obtain ⟨u', r', q⟩ := hl j y v' e1 e2 e3;refine ⟨u', r', ?_⟩;rcases q with q | ⟨k, c', e, z'⟩
        · exact .inl q
        · refine .inr ⟨k, c', e, z'.sameBut hs ?_⟩;rintro rfl;exact hj (iw hN e1 (I.ok.inj _ _ _ e hc ▸ hi))
    · by_cases hcc : c' = c
      · subst hcc;exact ⟨_, hc'⟩
      · obtain ⟨w2, z2⟩ := I.cell y c' e;exact ⟨w2, z2.sameBut hs hcc⟩
    · obtain ⟨e, n, ne, nf, d⟩ := I.pin p hp;refine ⟨(hs.2 p.1 ?_).trans e, n, ne, nf, d⟩;intro q;rw [q, hoc] at e;have q' : oc = p.2 := Option.some.inj e;exact d w' (by rw [<- q'];exact hocd)
theorem rP {M : Model}{A : Around}{E : Value -> Shared -> Prop}{i : Nat}{x : Str}{v : V}{u : Value}{Q : Unit -> Shared -> Prop}(I : Inv X pins σ H s)(hN : X.N.Nodup)(hi : X.N[i]? = some x)(hx : Loc X.env.scope x)(r : RelV v u)
    (h : ∀ s', Inv X pins (σ.set i (some v)) H s' -> Q () s') (hf :autoParam (X.fn x = true \/ X.env.scope.names.lookup x = some .local) aZd._auto_1):wpAny M A (storeName X.env x u) Q E s :=
  oy I hN hi hx r (λs' I' _ => h s' I') hf
theorem Inv.BS {s' : Shared}{ch : List Addr}(I : Inv X pins σ H s)(ho : s'.os = s.os)(u : Un (jy X.stack) ch H H' s.heap s'.heap)(bc : g6 X.prog X.w H' s'.heap)(hg : AllBare s'.gens)
    (hch : ∀ b ∈ ch, (b ∈ X.ex \/ X.s₀.heap.objs.size <= b) /\ b ≠ X.env.locals /\ (∀ x c, X.env.cells.lookup x = some c -> c ≠ b) /\ ∀ p ∈ X.pn ++ pins, p.1 ≠ b):Inv X pins σ H' s' := by
  obtain ⟨h', g', d', t', o'⟩ := s';have e : o' = s.os := ho;subst e;exact I.call (g' := g') (t' := t') (d' := d') u bc hg hch
end
noncomputable abbrev XK := Value -> Option Addr -> Hp -> Prop
noncomputable abbrev St := List (Option V)
noncomputable abbrev VK := V -> Hp -> Prop
noncomputable abbrev TE := St -> Hp -> VK -> Prop
noncomputable abbrev TT := St -> Hp -> (Bool -> Hp -> Prop) -> Prop
noncomputable abbrev TA := St -> Hp -> (List V -> Hp -> Prop) -> Prop
structure Ends where
  nx : St -> Hp -> Prop
  rt : VK
  bk : St -> Hp -> Prop := λ_ _ => False
  ct : St -> Hp -> Prop := λ_ _ => False
noncomputable abbrev TS := Ends -> St -> Hp -> Prop
noncomputable def EP (X : Cx)(pins : List (Addr × Obj))(σ : St)(Q : VK)(u : Value)(s' : Shared):Prop := ∃ v H', Inv X pins σ H' s' /\ RelV v u /\ Q v H'
noncomputable def TP (X : Cx)(pins : List (Addr × Obj))(σ : St)(Q : Bool -> Hp -> Prop)(b : Bool)(s' : Shared):Prop := ∃ H', Inv X pins σ H' s' /\ Q b H'
noncomputable def AP (X : Cx)(pins : List (Addr × Obj))(σ : St)(Q : List V -> Hp -> Prop)(us : List Value)(s' : Shared):Prop := ∃ vs H', Inv X pins σ H' s' /\ Vals vs us /\ Q vs H'
noncomputable def SP (X : Cx)(pins : List (Addr × Obj))(D : Ends)(f : Flow)(s' : Shared):Prop :=
  match f with
  | .next => ∃ σ' H', Inv X pins σ' H' s' /\ D.nx σ' H'
  | .brk => ∃ σ' H', Inv X pins σ' H' s' /\ D.bk σ' H'
  | .cont => ∃ σ' H', Inv X pins σ' H' s' /\ D.ct σ' H'
  | .ret u => ∃ v σ' H', Inv X pins σ' H' s' /\ RelV v u /\ D.rt v H'
noncomputable def PE (X : Cx)(e : Expr)(t : TE):Prop :=
  ∀ (pins : List (Addr × Obj)) (s : Shared) (σ : St) (H : Hp) (Q : VK), Inv X pins σ H s -> t σ H Q -> wpAny (model X.prog X.w) X.A (eval e X.env) (EP X pins σ Q) X.xe s
noncomputable def PT (X : Cx)(e : Expr)(t : TT):Prop :=
  ∀ (pins : List (Addr × Obj)) (s : Shared) (σ : St) (H : Hp) (Q : Bool -> Hp -> Prop), Inv X pins σ H s -> t σ H Q -> wpAny (model X.prog X.w) X.A (isTrue e X.env (eval e X.env)) (TP X pins σ Q) X.xe s
noncomputable def PW (X : Cx)(e : Expr)(t : TT):Prop :=
  ∀ (whole : Sem Value) (pins : List (Addr × Obj)) (s : Shared) (σ : St) (H : Hp) (Q : Bool -> Hp -> Prop), Inv X pins σ H s -> t σ H Q -> wpAny (model X.prog X.w) X.A (isTrue e X.env whole) (TP X pins σ Q) X.xe s
theorem PW.pt {X : Cx}{e : Expr}{t : TT}(h : PW X e t):PT X e t := h _
noncomputable def PA (X : Cx)(es : List Expr)(t : TA):Prop :=
  ∀ (pos : Pos) (pins : List (Addr × Obj)) (s : Shared) (σ : St) (H : Hp) (Q : List V -> Hp -> Prop), Inv X pins σ H s -> t σ H Q -> wpAny (model X.prog X.w) X.A (spliced (backTo pos (starEach es X.env))) (AP X pins σ Q) X.xe s
noncomputable def PS (X : Cx)(st : Stmt)(t : TS):Prop :=
  ∀ (pins : List (Addr × Obj)) (s : Shared) (σ : St) (H : Hp) (D : Ends), Inv X pins σ H s -> t D σ H -> wpAny (model X.prog X.w) X.A (exec st X.env) (SP X pins D) X.xe s
noncomputable def mS (X : Cx)(st : List Stmt)(t : TS):Prop :=
  ∀ (pins : List (Addr × Obj)) (s : Shared) (σ : St) (H : Hp) (D : Ends), Inv X pins σ H s -> t D σ H -> wpAny (model X.prog X.w) X.A (execs st X.env) (SP X pins D) X.xe s
theorem cz {α : Type}{t : Sem α}{Q Q' : α -> Shared -> Prop}{M : Model}{A : Around}{E : Value -> Shared -> Prop}{s : Shared}(h : wpAny M A t Q E s)(hQ : ∀ a s, Q a s -> Q' a s):wpAny M A t Q' E s := wpAny_mono h hQ λ_ _ x => x
end L2
namespace L2
open PySem PySem.Spec PyProof.Rows
section
variable {X : Cx}
theorem bin {a b : Expr}{ta tb : TE}(ha : PE X a ta)(hb : PE X b tb){pins : List (Addr × Obj)}{s : Shared}{σ : St}{H : Hp}{R : V -> V -> Hp -> Prop}(I : Inv X pins σ H s)(h : ta σ H λx H1 => tb σ H1 λy H2 => R x y H2)
    {α : Type} {Q : α -> Shared -> Prop} {f : Value -> Value -> Sem α}
    (hf : ∀ v u s2 x y H2, Inv X pins σ H2 s2 -> RelV x v -> RelV y u -> R x y H2 -> wpAny (model X.prog X.w) X.A (f v u) Q X.xe s2) :
    wpAny (model X.prog X.w) X.A (eval a X.env) (λv s₁ => wpAny (model X.prog X.w) X.A (eval b X.env) (λu s₂ => wpAny (model X.prog X.w) X.A (f v u) Q X.xe s₂) X.xe s₁) X.xe s := by
  refine cz (ha pins s σ H _ I h) ?_;rintro v s1 ⟨x, H1, I1, r1, q1⟩;refine cz (hb pins s1 σ H1 _ I1 q1) ?_;rintro u s2 ⟨y, H2, I2, r2, q2⟩;exact hf v u s2 x y H2 I2 r1 r2 q2
noncomputable def Bt (i : Nat):TE := λσ H Q => ∃ v, σ[i]? = some (some v) /\ Q v H
noncomputable def tC (v : V):TE := λ_ H Q => Q v H
theorem pA {i : Nat}{x : Str}{pos : Pos}(hN : X.N[i]? = some x)(hv : Bz X.env.scope x)(hd :autoParam ((x == ("__debug__" : Str)) = false) aZb._auto_1)(hcd :autoParam ((x == ("__classdict__" : Str)) = false) aZb._auto_1):PE X (.Name x pos) (Bt i) := by
  intro pins s σ H Q I h;obtain ⟨v, e, h⟩ := h;obtain ⟨m, hn, hl⟩ := I.loc;obtain ⟨u, r, l⟩ := hl i x v hN e hv;have fin : EP X pins σ Q u s := ⟨v, H, I, r, h⟩
  rcases l with ⟨hk, hm⟩ | ⟨hk, c, hc, hcell⟩
  · exact wpAny_Name (wpAny_loadName_local I.ok.kind hk hn hm fin) hd
  · rcases hk with hk | hk
    · exact wpAny_Name (wpAny_loadName_cell I.ok.kind hk hc hcell fin) hd
    · exact wpAny_Name (wpAny_loadName_free I.ok.kind hk hc hcell fin hcd) hd
theorem eh {i j pos}:PE X (.Constant (.int i) j pos) (tC (.int i)) := λ_ _ _ H _ I h => wpAny_Constant_int ⟨.int i, H, I.tok _, ⟨_, rfl⟩, h⟩
theorem mw {b j pos}:PE X (.Constant (.bool b) j pos) (tC (.bl b)) := λ_ _ _ H _ I h => Constant_bool ⟨.bl b, H, I, rfl, h⟩
theorem sP {j pos}:PE X (.Constant .none j pos) (tC .non) := λ_ _ _ H _ I h => Constant_none ⟨.non, H, I, rfl, h⟩
theorem kn {x j pos}:PE X (.Constant (.str x) j pos) (tC (.str x)) := λ_ _ _ H _ I h => Calls.Constant_str ⟨.str x, H, I.tok _, ⟨_, rfl⟩, h⟩
noncomputable def Gl (X : Cx)(x : Str):Prop := X.env.kindOf x = some .globalImplicit
theorem lB {E : Value -> Shared -> Prop}{pins : List (Addr × Obj)}{s : Shared}{σ : St}{H : Hp}{x : Str}{u : Value}{pos : Pos}{Q : Value -> Shared -> Prop}(I : Inv X pins σ H s)(hg : Gl X x)(hm : X.mg x = some u)(h : Q u s)
    (hd :autoParam ((x == ("__debug__" : Str)) = false) aZb._auto_1):wpAny (model X.prog X.w) X.A (eval (.Name x pos) X.env) Q E s :=
  Calls.Name_function_global I.ok.kind hg (Calls.loadGlobal_global (by rw [I.ok.glob];exact I.mod.glob.keeps I.bk) hm h) hd
theorem mh {E : Value -> Shared -> Prop}{pins : List (Addr × Obj)}{s : Shared}{σ : St}{H : Hp}{x : Str}{u : Value}{pos : Pos}{Q : Value -> Shared -> Prop}(I : Inv X pins σ H s)(hg : Gl X x)(hm : X.mg x = none)(hv : bootBuiltins x = some u)(h : Q u s)
    (hn :autoParam (x ≠ "__name__") aZb._auto_1) (hd :autoParam ((x == ("__debug__" : Str)) = false) aZb._auto_1):wpAny (model X.prog X.w) X.A (eval (.Name x pos) X.env) Q E s := by
  obtain ⟨mb, h1, h2⟩ := I.mod.blt;exact Calls.Name_function_global I.ok.kind hg (Calls.loadGlobal_builtin (by rw [I.ok.glob];exact I.mod.glob.keeps I.bk) hm (by rw [I.ok.blt];exact h1.keeps I.bk) ((h2 x hn).trans hv) h) hd
theorem za {x : Str}{v : V}{u : Value}{pos : Pos}(hg : Gl X x)(hm : X.mg x = some u)(r : RelV v u)(hd :autoParam ((x == ("__debug__" : Str)) = false) aZb._auto_1):PE X (.Name x pos) (tC v) :=
  λ_ _ _ H _ I h => lB I hg hm ⟨v, H, I, r, h⟩ hd
theorem ux {x : Str}{v : V}{u : Value}{pos : Pos}(hg : Gl X x)(hm : X.mg x = none)(hv : bootBuiltins x = some u)(r : RelV v u)(hn :autoParam (x ≠ "__name__") aZb._auto_1)(hd :autoParam ((x == ("__debug__" : Str)) = false) aZb._auto_1):PE X (.Name x pos) (tC v) :=
  λ_ _ _ H _ I h => mh I hg hm hv ⟨v, H, I, r, h⟩ hn hd
variable {a b : Expr} {ta tb : TE} {pos : Pos}
noncomputable def PC (X : Cx)(op : CmpOp)(a b : Expr)(t : TE):Prop :=
  ∀ (pins : List (Addr × Obj)) (s : Shared) (σ : St) (H : Hp) (Q : VK), Inv X pins σ H s -> t σ H Q ->
    wpAny (model X.prog X.w) X.A (eval a X.env) (λv s₁ => wpAny (model X.prog X.w) X.A (eval b X.env) (λu s₂ => wpAny (model X.prog X.w) X.A (compareOp op v u) (EP X pins σ Q) X.xe s₂) X.xe s₁) X.xe s
theorem xm (b : Expr){op : CmpOp}(h : op ≠ .In)(h2 : op ≠ .NotIn):behindInMarks op b = false := by
  have e1 : (op == CmpOp.In) = false := by cases op <;> first | rfl | exact absurd rfl h
  have e2 : (op == CmpOp.NotIn) = false := by cases op <;> first | rfl | exact absurd rfl h2
  cases b <;> simp [behindInMarks, e1, e2]
noncomputable def tB (t : TE):TT := λσ H Q => t σ H λx H1 => ∃ c, x = .bl c /\ Q c H1
theorem xG {op : CmpOp}{t : TE}(h : PC X op a b t)(h1 : behindInMarks op b = false := by first | exact xm _ (by decide) (by decide) | rfl):PT X (.Compare a [op] [b] pos) (tB t) := by
  intro pins s σ H Q I hw;refine wpAny_isTrue_Compare1 (cz (h pins s σ H _ I hw) λv s1 h1 => cz h1 λu s2 h2 => cz h2 ?_) h1;rintro c s3 ⟨x, H1, I1, r1, q1⟩;obtain ⟨d, rfl, q⟩ := q1;cases r1;exact wpAny_truthy_bool ⟨H1, I1, q⟩
theorem mz {e : Expr}{t : TE}(h : PE X e t)(he :autoParam (∀ whole, isTrue e X.env whole = (do let v <- whole;standAt e.pos;holding [v] (truthy v))) aZc._auto_1):PT X e (tB t) := by
  intro pins s σ H Q I hw;refine isTrue_plain (cz (h pins s σ H _ I hw) ?_) (he _);rintro v s1 ⟨x, H1, I1, r1, q1⟩;obtain ⟨d, rfl, q⟩ := q1;cases r1;exact wpAny_truthy_bool ⟨H1, I1, q⟩
variable {tA tB' : TT} {rest : List Expr}
noncomputable def CM (t u : TT):TT := λσ H Q => t σ H λc H1 => if c = true then u σ H1 Q else Q false H1
noncomputable def EA (t u : TT):TT := λσ H Q => t σ H λc H1 => if c = true then Q true H1 else u σ H1 Q
noncomputable def Ei (t : TT):TT := λσ H Q => t σ H λc H1 => Q (!c) H1
theorem zh (ha : PT X a tA):PW X (.BoolOp .And [a] pos) tA := by
  intro wh pins s σ H Q I h;refine isTrue_and (cz (ha pins s σ H Q I h) λc s1 e => ?_);cases c with
  | true => exact isTrue_and_nil e
  | false => exact e
theorem Bd (ha : PT X a tA):PW X (.BoolOp .Or [a] pos) tA := by
  intro wh pins s σ H Q I h;refine isTrue_or (cz (ha pins s σ H Q I h) λc s1 e => ?_);cases c with
  | false => exact isTrue_or_nil e
  | true => exact e
theorem Bc (ha : PT X a tA)(hb : PW X (.BoolOp .And (b :: rest) pos) tB'):PW X (.BoolOp .And (a :: b :: rest) pos) (CM tA tB') := by
  intro wh pins s σ H Q I h;refine isTrue_and (cz (ha pins s σ H _ I h) ?_);rintro c s1 ⟨H1, I1, q1⟩;cases c with
  | true => exact hb wh pins s1 σ H1 Q I1 q1
  | false => exact ⟨H1, I1, q1⟩
theorem Cw (ha : PT X a tA)(hb : PW X (.BoolOp .Or (b :: rest) pos) tB'):PW X (.BoolOp .Or (a :: b :: rest) pos) (EA tA tB') := by
  intro wh pins s σ H Q I h;refine isTrue_or (cz (ha pins s σ H _ I h) ?_);rintro c s1 ⟨H1, I1, q1⟩;cases c with
  | true => exact ⟨H1, I1, q1⟩
  | false => exact hb wh pins s1 σ H1 Q I1 q1
theorem sT (ha : PT X a tA):PT X (.UnaryOp .Not a pos) (Ei tA) := by
  intro pins s σ H Q I h;exact isTrue_not (ha pins s σ H (λc H1 => Q (!c) H1) I h)
noncomputable def CN (ta tb : TE):TE := λσ H Q => ta σ H λx H1 => ∃ c, x = .bl c /\ if c = true then tb σ H1 Q else Q (.bl false) H1
noncomputable def CZ (ta : TE):TE := λσ H Q => ta σ H λx H1 => ∃ c, x = .bl c /\ Q (.bl (!c)) H1
theorem A4 {op}{t : TE}(h : PE X a t):PE X (.BoolOp op [a] pos) t := λpins s σ H Q I hw => BoolOp_one (h pins s σ H Q I hw)
theorem A1 (ha : PE X a ta)(hb : PE X (.BoolOp .And (b :: rest) pos) tb):PE X (.BoolOp .And (a :: b :: rest) pos) (CN ta tb) := by
  intro pins s σ H Q I h;refine BoolOp_and (cz (ha pins s σ H _ I h) ?_);rintro v s1 ⟨x, H1, I1, r1, q1⟩;obtain ⟨c, rfl, q1⟩ := q1;cases r1;refine wpAny_truthy_bool ?_;cases c with
  | true => exact hb pins s1 σ H1 Q I1 q1
  | false => exact ⟨.bl false, H1, I1, rfl, q1⟩
theorem A3 (ha : PE X a ta):PE X (.UnaryOp .Not a pos) (CZ ta) := by
  intro pins s σ H Q I h;refine UnaryOp_ (cz (ha pins s σ H _ I h) ?_);rintro v s1 ⟨x, H1, I1, r1, q1⟩;obtain ⟨c, rfl, q1⟩ := q1;cases r1;exact not_of (wpAny_truthy_bool ⟨.bl (!c), H1, I1, rfl, q1⟩)
end
end L2
namespace L2
open PySem PySem.Spec PyProof.Rows
noncomputable def d0 (K : Frag)(H : Hp)(a : Addr)(xs : List V):Prop :=
  Rd H a (.lst xs) \/
    ∃ (o : Obj) (its : Array Value) (n : Nat), K.lookup a = some o /\ o.cls = .type "list" /\ o.dict = none /\ o.data = .seq its n /\ its.size <= sizeLine /\ Vals xs its.toList
noncomputable def lJ (K : Frag)(H : Hp)(a : Addr)(xs : List V):Prop :=
  Rd H a (.tup xs) \/
    ∃ (o : Obj) (its : Array Value) (n : Nat), K.lookup a = some o /\ o.cls = .type "tuple" /\ o.data = .seq its n /\ its.size <= sizeLine /\ Vals xs its.toList
noncomputable def Dx : Value -> Option V
  | .none => some .non
  | .bool b => some (.bl b)
  | .int i _ => some (.int i)
  | .str x _ => some (.str x)
  | .bytes b _ => some (.byt b)
  | .float b _ => some (.flt b)
  | .ref a => some (.ref a)
  | .type n => some (.ty n)
  | _ => none
theorem RelV.abs {x : V}{u : Value}(r : RelV x u):Dx u = some x := by
  cases x with
  | non => cases r;rfl
  | bl _ => cases r;rfl
  | int _ => obtain ⟨t, rfl⟩ := r;rfl
  | str _ => obtain ⟨t, rfl⟩ := r;rfl
  | byt _ => obtain ⟨t, rfl⟩ := r;rfl
  | flt _ => obtain ⟨t, rfl⟩ := r;rfl
  | ref _ => cases r;rfl
  | ty _ => cases r;rfl
theorem RelV.inj {x y : V}{u : Value}(r : RelV x u)(q : RelV y u):x = y := Option.some.inj (r.abs.symm.trans q.abs)
theorem Vals.inj : ∀ {xs ys : List V} {us : List Value}, Vals xs us -> Vals ys us -> xs = ys
  | _, _, _, .nil, .nil => rfl
  | _, _, _, .cons r t, .cons r' t' => by rw [r.inj r', Vals.inj t t']
section
variable {X : Cx} {pins : List (Addr × Obj)} {σ : St} {H : Hp} {s : Shared} {a : Addr} {xs ys : List V}
theorem d0.of {K : Frag}(h : H a = some (.lst xs)):d0 K H a xs := .inl (.inl h)
theorem lJ.of {K : Frag}(h : H a = some (.tup xs)):lJ K H a xs := .inl (.inl h)
theorem Inv.list (I : Inv X pins σ H s)(h : d0 X.K H a xs):∃ its : List Value, Vals xs its /\ PlainL s.heap a its.toArray /\ xs.length <= sizeLine := by
  rcases h with h | ⟨o, its, n, hk, hc, hd, hs, hz, r⟩
  · obtain ⟨z, its, n, r, e⟩ := h.ok I.bc;exact ⟨its, r, ⟨_, n, e, rfl, rfl, rfl⟩, z⟩
  · refine ⟨its.toList, r, ⟨o, n, I.jz a o hk, hc, hd, by simpa using hs⟩, ?_⟩;have e := r.length;simp only [length_toList] at e;lia
theorem Inv.tuple (I : Inv X pins σ H s)(h : lJ X.K H a xs):∃ its : List Value, Vals xs its /\ IsTup s.heap a its.toArray /\ xs.length <= sizeLine := by
  rcases h with h | ⟨o, its, n, hk, hc, hs, hz, r⟩
  · obtain ⟨z, its, r, p⟩ := h.ok I.bc;exact ⟨its, r, p, z⟩
  · refine ⟨its.toList, r, ⟨o, I.jz a o hk, hc, n, by simpa using hs⟩, ?_⟩;have e := r.length;simp only [length_toList] at e;lia
theorem Inv.xg (I : Inv X pins σ H s)(h : d0 X.K H a xs)(h' : d0 X.K H a ys):xs = ys := by
  obtain ⟨its, r, ⟨o, n, e, _, _, d⟩, _⟩ := I.list h;obtain ⟨its', r', ⟨o', n', e', _, _, d'⟩, _⟩ := I.list h';rw [e] at e';cases e';rw [d] at d';injection d' with d1 _
  have : its = its' := by simpa using congrArg Array.toList d1
  subst this;exact r.inj r'
theorem Inv.vI (I : Inv X pins σ H s)(h : lJ X.K H a xs)(h' : lJ X.K H a ys):xs = ys := by
  obtain ⟨its, r, ⟨o, e, _, n, d⟩, _⟩ := I.tuple h;obtain ⟨its', r', ⟨o', e', _, n', d'⟩, _⟩ := I.tuple h';rw [e] at e';cases e';rw [d] at d';injection d' with d1 _
  have : its = its' := by simpa using congrArg Array.toList d1
  subst this;exact r.inj r'
end
noncomputable abbrev Cx.nD (X : Cx)(E : Value -> Shared -> Prop):Cx := { X with xe := E }
noncomputable abbrev Cx.Cf (X : Cx):Cx := X.nD λ_ _ => False
theorem Cx.Ok.nD {X : Cx}(ok : X.Ok)(E : Value -> Shared -> Prop):(X.nD E).Ok :=
  ⟨ok.mod, ok.kind, ok.glob, ok.blt, ok.above, ok.inj, ok.has, ok.BR, ok.hd, ok.frames, ok.Dk, ok.De, ok.bs, ok.yq, ok.xp, ok.wL, ok.kT, ok.Ay⟩
theorem Cx.Ok.iK {X : Cx}{E : Value -> Shared -> Prop}(ok : (X.nD E).Ok):X.Ok :=
  ⟨ok.mod, ok.kind, ok.glob, ok.blt, ok.above, ok.inj, ok.has, ok.BR, ok.hd, ok.frames, ok.Dk, ok.De, ok.bs, ok.yq, ok.xp, ok.wL, ok.kT, ok.Ay⟩
section
variable {X : Cx} {pins : List (Addr × Obj)} {σ : St} {H : Hp} {s : Shared} {E : Value -> Shared -> Prop}
theorem Inv.nD (I : Inv X pins σ H s)(E : Value -> Shared -> Prop):Inv (X.nD E) pins σ H s := ⟨I.ok.nD E, I.os, I.bare, I.base, I.loc, I.cell, I.free, I.g4, I.pin, I.bc, I.len⟩
theorem Inv.iK (I : Inv (X.nD E) pins σ H s):Inv X pins σ H s := ⟨I.ok.iK, I.os, I.bare, I.base, I.loc, I.cell, I.free, I.g4, I.pin, I.bc, I.len⟩
theorem SP.iK {D : Ends}{f : Flow}{s' : Shared}(h : SP (X.nD E) pins D f s'):SP X pins D f s' := by
  cases f with
  | next => obtain ⟨σ', H', I, q⟩ := h;exact ⟨σ', H', I.iK, q⟩
  | brk => obtain ⟨σ', H', I, q⟩ := h;exact ⟨σ', H', I.iK, q⟩
  | cont => obtain ⟨σ', H', I, q⟩ := h;exact ⟨σ', H', I.iK, q⟩
  | ret u => obtain ⟨v, σ', H', I, r, q⟩ := h;exact ⟨v, σ', H', I.iK, r, q⟩
theorem mS.Cf {st : List Stmt}{t : TS}(h : mS X.Cf st t):mS X st t := λpins s σ H D I hw =>
  wpAny_mono (h pins s σ H D (I.nD _) hw) (λ_ _ q => q.iK) λ_ _ z => False.elim z
end
section
variable {X : Cx} {st : Stmt} {rest : List Stmt} {t u : TS} {e : Expr} {te : TE} {pos : Pos}
noncomputable def CY : TS := λD σ H => D.nx σ H
noncomputable def Bs (t u : TS):TS := λD σ H => t { D with nx := u D } σ H
theorem cV : mS X [] CY := λ_ _ σ H _ I h => wpAny_execs_nil ⟨σ, H, I, h⟩
theorem ar (h1 : PS X st t)(h2 : mS X rest u):mS X (st :: rest) (Bs t u) := by
  intro pins s σ H D I h;refine wpAny_execs_cons (cz (h1 pins s σ H { D with nx := u D } I h) λf s1 q => ?_);cases f with
  | next =>
    obtain ⟨σ', H', I', q⟩ := q;exact h2 pins s1 σ' H' D I' q
  | ret v => exact q
  | brk => exact q
  | cont => exact q
theorem aN (h1 : PS X st t):mS X [st] t := by
  intro pins s σ H D I h;refine wpAny_execs_cons (cz (h1 pins s σ H D I h) λf s1 q => ?_);cases f with
  | next => exact wpAny_execs_nil q
  | ret v => exact q
  | brk => exact q
  | cont => exact q
theorem Inv.quiet {pins : List (Addr × Obj)}{σ : St}{H : Hp}{s : Shared}(I : Inv X pins σ H s):interactive X.env = false := by simp [interactive, I.ok.kind]
noncomputable def CT (te : TE):TS := λD σ H => te σ H λ_ H1 => D.nx σ H1
theorem dY (he : PE X e te)(hs :autoParam (swapsWith e none pos.line X.env = pure false) aZa._auto_1):PS X (.Expr e pos) (CT te) := by
  intro pins s σ H D I h;exact wpAny_Expr_any (cz (he pins s σ H _ I h) (by rintro v s1 ⟨x, H1, I1, r1, q1⟩;exact ⟨σ, H1, I1, q1⟩)) I.quiet hs
noncomputable def Ej (te : TE):TS := λD σ H => te σ H D.rt
theorem cH (he : PE X e te):PS X (.Return (some e) pos) (Ej te) := by
  intro pins s σ H D I h;exact wpAny_Return_some (cz (he pins s σ H _ I h) (by rintro v s1 ⟨x, H1, I1, r1, q1⟩;exact ⟨x, σ, H1, I1, r1, q1⟩))
noncomputable def Eg (c : TT)(t u : TS):TS := λD σ H => c σ H λb H1 => if b = true then t D σ H1 else u D σ H1
theorem fh {c : Expr}{a b : List Stmt}{tc : TT}(hc : PT X c tc)(ha : mS X a t)(hb : mS X b u):PS X (.If c a b pos) (Eg tc t u) := by
  intro pins s σ H D I h;refine wpAny_If (cz (hc pins s σ H _ I h) ?_);rintro d s1 ⟨H1, I1, q1⟩;cases d with
  | true => exact ha pins s1 σ H1 D I1 q1
  | false => exact hb pins s1 σ H1 D I1 q1
end
noncomputable abbrev TG := V -> St -> Hp -> (St -> Hp -> Prop) -> Prop
noncomputable abbrev zB := List V -> St -> Hp -> (St -> Hp -> Prop) -> Prop
noncomputable def PG (X : Cx)(target : Expr)(t : TG):Prop :=
  ∀ (pins : List (Addr × Obj)) (s : Shared) (σ : St) (H : Hp) (v : V) (u : Value) (Q : St -> Hp -> Prop), Inv X pins σ H s -> RelV v u -> t v σ H Q ->
    wpAny (model X.prog X.w) X.A (assign target X.env u) (λ_ s' => ∃ σ' H', Inv X pins σ' H' s' /\ Q σ' H') X.xe s
noncomputable def Dc (X : Cx)(ts : List Expr)(t : zB):Prop :=
  ∀ (pins : List (Addr × Obj)) (s : Shared) (σ : St) (H : Hp) (vs : List V) (us : List Value) (Q : St -> Hp -> Prop), Inv X pins σ H s -> Vals vs us -> t vs σ H Q ->
    wpAny (model X.prog X.w) X.A (assignInOrder ((assignEach ts X.env).map (·.2)) us) (λ_ s' => ∃ σ' H', Inv X pins σ' H' s' /\ Q σ' H') X.xe s
noncomputable abbrev Ae := V -> V -> V -> Hp -> (Hp -> Prop) -> Prop
noncomputable def BL (X : Cx)(t : Ae):Prop :=
  ∀ (pins : List (Addr × Obj)) (s : Shared) (σ : St) (H : Hp) (o i v : V) (ov iv u : Value) (Q : Hp -> Prop), Inv X pins σ H s -> RelV o ov -> RelV i iv -> RelV v u -> t o i v H Q ->
    wpAny (model X.prog X.w) X.A (setItem ov iv u) (λ_ s' => ∃ H', Inv X pins σ H' s' /\ Q H') X.xe s
section
variable {X : Cx} {pos : Pos}
noncomputable def t8 (i : Nat):TG := λv σ H Q => Q (σ.set i (some v)) H
theorem bu {i : Nat}{x : Str}(hN : X.N.Nodup)(hi : X.N[i]? = some x)(hx : Loc X.env.scope x)(hf :autoParam (X.fn x = true \/ X.env.scope.names.lookup x = some .local) aZd._auto_1):PG X (.Name x pos) (t8 i) := by
  intro pins s σ H v u Q I r h;exact wpAny_assign_Name (rP I hN hi hx r (λs' I' => ⟨_, H, I', h⟩) hf)
noncomputable def B4 : zB := λvs σ H Q => vs = [] /\ Q σ H
noncomputable def zJ (t : TG)(u : zB):zB := λvs σ H Q => ∃ v r, vs = v :: r /\ t v σ H λσ' H' => u r σ' H' Q
theorem fR : Dc X [] B4 := by
  intro pins s σ H vs us Q I r h;obtain ⟨e, h⟩ := h;subst e;cases r;exact assignInOrder_nil ⟨σ, H, I, h⟩
theorem bh {e : Expr}{es : List Expr}{t : TG}{u : zB}(h1 : PG X e t)(h2 : Dc X es u)
    (hs :autoParam ((assignEach (e :: es) X.env).map (·.2) = assign e X.env :: (assignEach es X.env).map (·.2)) aZa._auto_1):Dc X (e :: es) (zJ t u) := by
  intro pins s σ H vs us Q I r h;obtain ⟨v, vr, e1, h⟩ := h;subst e1;cases r with
  | cons r rr =>
    rw [hs];refine assignInOrder_cons (cz (h1 pins s σ H _ _ _ I r h) ?_);rintro _ s1 ⟨σ1, H1, I1, q1⟩;exact h2 pins s1 σ1 H1 _ _ Q I1 rr q1
noncomputable def DD (to ti : TE)(t : Ae):TG := λv σ H Q => to σ H λo H1 => ti σ H1 λi H2 => t o i v H2 λH3 => Q σ H3
theorem A6 {o i : Expr}{to ti : TE}{t : Ae}(ho : PE X o to)(hi : PE X i ti)(hs : BL X t)
    (ha :autoParam (∀ v, assign (.Subscript o i pos) X.env v = (do
      let ov <- holding [v] (eval o X.env)
      let iv <- holding [v, ov] (eval i X.env)
      standAt pos
      holding [v, ov, iv] (setItem ov iv v)
      release [v, ov, iv] [])) aZc._auto_1):PG X (.Subscript o i pos) (DD to ti t) := by
  intro pins s σ H v u Q I r h;rw [ha];refine wpAny_bind (wpAny_holding (cz (ho pins s σ H _ I h) ?_));rintro ov s1 ⟨x, H1, I1, r1, q1⟩;refine wpAny_bind (wpAny_holding (cz (hi pins s1 σ H1 _ I1 q1) ?_));rintro iv s2 ⟨y, H2, I2, r2, q2⟩;refine wpAny_bind (wpAny_standAt (wpAny_bind (wpAny_holding (cz (hs pins s2 σ H2 x y v ov iv u _ I2 r1 r2 r q2) ?_))));rintro _ s3 ⟨H3, I3, q3⟩;exact wpAny_release ⟨σ, H3, I3, q3⟩
noncomputable def CO (te : TE)(g : TG):TS := λD σ H => te σ H λx H1 => g x σ H1 D.nx
theorem sS {tg e : Expr}{te : TE}{g : TG}(he : PE X e te)(hg : PG X tg g)(hs :autoParam (swapsWithSole [tg] e pos.line X.env = pure false) aZa._auto_1)(hw :autoParam (swappedStores [tg] e X.env = pure none) aZa._auto_1)
    (h1 :autoParam ((assignEach [tg] X.env).map (·.2) = [assign tg X.env]) aZa._auto_1):PS X (.Assign [tg] e pos) (CO te g) := by
  intro pins s σ H D I h;refine wpAny_Assign_stores (cz (he pins s σ H _ I h) ?_) hs hw;rintro v s1 ⟨x, H1, I1, r1, q1⟩;rw [h1];exact cz (hg pins s1 σ H1 x v _ I1 r1 q1) λ_ s2 q => q
theorem br {i : Nat}{x : Str}{e : Expr}{te : TE}{pos' : Pos}(hN : X.N.Nodup)(hi : X.N[i]? = some x)(hx : Loc X.env.scope x)(he : PE X e te)(hs :autoParam (swapsWith e (some (.Name x pos')) pos.line X.env = pure false) aZa._auto_1)(hf :autoParam (X.fn x = true \/ X.env.scope.names.lookup x = some .local) aZd._auto_1) :
    PS X (.Assign [.Name x pos'] e pos) (CO te (t8 i)) := by
  intro pins s σ H D I h;refine wpAny_Assign_Name (cz (he pins s σ H _ I h) ?_) hs;rintro v s1 ⟨y, H1, I1, r1, q1⟩;exact rP I1 hN hi hx r1 (λs2 I2 => ⟨_, H1, I2, q1⟩) hf
end
section
variable {X : Cx} {pos : Pos}
end
structure It where
  go : Nat -> Hp -> Prop
  vM : Nat -> Hp -> V -> Hp -> Prop
  stop : Nat -> Hp -> Prop
noncomputable def jA (X : Cx)(pins : List (Addr × Obj))(H : Hp)(b : Addr):Prop :=
  H b = none /\ b ≠ X.env.locals /\ b ∉ X.fs /\ (b ∈ X.ex \/ X.s₀.heap.objs.size <= b) /\ (∀ x c, X.env.cells.lookup x = some c -> c ≠ b) /\ ∀ p ∈ X.pn ++ pins, p.1 ≠ b
theorem Inv.wN {X : Cx}{pins : List (Addr × Obj)}{σ : St}{H H' : Hp}{s : Shared}{b : Addr}(I : Inv X pins σ H s)(hb : s.heap.objs.size <= b)(hn : H' b = none):jA X pins H' b := by
  refine ⟨hn, Nat.ne_of_gt (Nat.lt_of_lt_of_le I.lt hb), I.D0 hb, .inr (Nat.le_trans I.sz hb), λx c e z => ?_, λp hp z => ?_⟩
  · obtain ⟨v, q⟩ := I.cell x c e;exact absurd (Nat.lt_of_lt_of_le q.lt (by rw [z];exact hb)) (Nat.lt_irrefl _)
  · exact absurd (Nat.lt_of_lt_of_le (Heap.lt_size (I.pin p hp).1) (by rw [z];exact hb)) (Nat.lt_irrefl _)
structure Turn (P : Program)(w : World)(K : Frag)(tg : Expr)(J : It)(fp : List Addr)(it : Addr)(tn : Nat -> Heap -> Prop):Prop where
  mem : it ∈ fp
  obj : ∀ i h, tn i h -> ∀ b ∈ fp, ∃ o, h.get? b = some o /\ ∀ v, o.data ≠ .cell v
  keep : ∀ i h h', tn i h -> (∀ b ∈ fp, ∀ o, h.get? b = some o -> h'.get? b = some o) -> tn i h'
  item : ∀ (X : Cx), X.prog = P -> X.w = w -> X.K = K -> X.calm = true -> ∀ (i : Nat) (pins : List (Addr × Obj)) (s : Shared) (σ : St) (H : Hp) (E : Value -> Shared -> Prop), Inv X pins σ H s -> (∀ b ∈ fp, jA X pins H b) -> tn i s.heap -> J.go i H ->
    wpAny (model P w) X.A (pyNext (.ref it)) (λr s1 => ∃ u, r = some u /\
      wpAny (model P w) X.A (letOwnedTupleGo tg (.ref it) u) (λ_ s2 => ∃ x H', Inv X pins σ H' s2 /\ RelV x u /\ J.vM i H x H' /\ tn (i + 1) s2.heap /\ ∀ b ∈ fp, H' b = none) E s1) E s
  done : ∀ (X : Cx), X.prog = P -> X.w = w -> X.K = K -> X.calm = true -> ∀ (i : Nat) (pins : List (Addr × Obj)) (s : Shared) (σ : St) (H : Hp) (E : Value -> Shared -> Prop), Inv X pins σ H s -> (∀ b ∈ fp, jA X pins H b) -> tn i s.heap -> J.stop i H ->
    wpAny (model P w) X.A (pyNext (.ref it)) (λr s1 => r = none /\ Inv X pins σ H s1) E s
  self : ∀ (A : Around) (i : Nat) (s : Shared) (Q : Value -> Shared -> Prop) (E : Value -> Shared -> Prop), tn i s.heap -> Q (.ref it) s -> wpAny (model P w) A (pyIter (.ref it)) Q E s
noncomputable abbrev TI := St -> Hp -> (It -> Hp -> Prop) -> Prop
noncomputable def Et (X : Cx)(pins : List (Addr × Obj))(σ : St)(tg : Expr)(R : It -> Hp -> Prop)(itv : Value)(s2 : Shared):Prop :=
  ∃ (it : Addr) (fp : List Addr) (tn : Nat -> Heap -> Prop) (J : It) (H' : Hp), itv = .ref it /\ Inv X pins σ H' s2 /\ Turn X.prog X.w X.K tg J fp it tn /\ tn 0 s2.heap /\ (∀ b ∈ fp, jA X pins H' b) /\ R J H'
noncomputable def PI (X : Cx)(tg iter : Expr)(wi : TI):Prop :=
  ∀ (pins : List (Addr × Obj)) (s : Shared) (σ : St) (H : Hp) (R : It -> Hp -> Prop), Inv X pins σ H s -> wi σ H R ->
    wpAny (model X.prog X.w) X.A (eval iter X.env) (λv s1 => wpAny (model X.prog X.w) X.A (pyIter v) (Et X pins σ tg R) X.xe s1) X.xe s
theorem zK {M : Model}{A : Around}{E : Value -> Shared -> Prop}{s : Shared}{tg : Expr}{it : Addr}{u : Value}{o : Obj}{n : String}{vs : Array Value}{Q : Unit -> Shared -> Prop}(ho : s.heap.get? it = some o)(hc : o.cls = .type n)(hd : o.data = .fields vs)
    (hn : ["enumerate", "zip", "dict_itemiterator", "dict_reverseitemiterator", "odict_iterator", "itertools.zip_longest", "itertools.pairwise"].contains n = false) (hQ : Q () s):wpAny M A (letOwnedTupleGo tg (.ref it) u) Q E s := by
  unfold letOwnedTupleGo;cases tg <;> first
    | exact wpAny_pure hQ
    | (cases u <;> first
        | exact wpAny_pure hQ
        | (refine wpAny_bind (wpAny_load ho ?_)
           rw [hc, hd];show wpAny M A (if (["enumerate", "zip", "dict_itemiterator", "dict_reverseitemiterator", "odict_iterator", "itertools.zip_longest", "itertools.pairwise"].contains n && vs[0]? == some (rawInt _)) = true then _ else _) Q E s;rw [if_neg (by intro h;rw [hn, Bool.false_and] at h;cases h)];exact wpAny_pure hQ))
noncomputable def Dr (K : Frag)(a : Addr):It :=
  ⟨λi H => ∃ xs x, d0 K H a xs /\ xs[i]? = some x, λi H x H' => H' = H /\ ∀ xs, d0 K H a xs -> xs[i]? = some x, λi H => ∃ xs, d0 K H a xs /\ xs.length <= i⟩
noncomputable def C6 (lo : Int)(n : Nat):It := ⟨λi _ => i < n, λi H x H' => H' = H /\ x = .int (lo + i), λi _ => n <= i⟩
theorem vK {P : Program}{w : World}{K : Frag}{tg : Expr}(a it : Addr):Turn P w K tg (Dr K a) [it] it (λi h => h.IsListIter it a i) where
  mem := by simp
  obj := λi h st b hb => by
    have e : b = it := by simpa using hb
    subst e;obtain ⟨o, e, c, d⟩ := st;exact ⟨o, e, λv z => by rw [d] at z;cases z⟩
  keep := λi h h' st k => st.at λo e => k it (by simp) o e
  item := by
    intro X hP hw hK hc i pins s σ H E I hf st hg;subst hP hw hK;obtain ⟨xs, x, hq, hx⟩ := hg;obtain ⟨its, rv, p, hz⟩ := I.list hq;obtain ⟨u, hu, ru⟩ := rv.get hx;obtain ⟨f0, f1, f2, f3, f4, f5⟩ := hf it (by simp);refine wpAny_pyNext_list_item st p.isList (x := u) (by simpa using hu) λh' st' sb => ?_;have I1 : Inv X pins σ H { s with heap := h' } := I.turned (t' := s.toks) (λb o hb e => (sb.2 b hb).trans e) f0 f1 f3 f4 f5;obtain ⟨o, e, c, d⟩ := id st';exact ⟨u, rfl, zK (s := { s with heap := h' }) e c d (by decide) ⟨x, H, I1, ru, ⟨rfl, λys hy => by rw [I.xg hy hq];exact hx⟩, st', λb hb => (hf b hb).1⟩⟩
  done := by
    intro X hP hw hK hc i pins s σ H E I hf st hg;subst hP hw hK;obtain ⟨xs, hq, hx⟩ := hg;obtain ⟨its, rv, p, hz⟩ := I.list hq;obtain ⟨f0, f1, f2, f3, f4, f5⟩ := hf it (by simp);have hl := rv.length;exact wpAny_pyNext_list_end (I.ok.hd hc) st p.isList (by simp;lia) λh' eb => ⟨rfl, I.turned (t' := s.toks) (λb o hb e => eb b o hb e) f0 f1 f3 f4 f5⟩
  self := λ_ _ _ _ _ st h => wpAny_pyIter_listiter st h
theorem tf {P : Program}{w : World}{K : Frag}{tg : Expr}(it : Addr)(lo : Int)(n : Nat):Turn P w K tg (C6 lo n) [it] it (λi h => IsRangeIter h it (lo + (i : Nat) * 1) ((n : Int) - (i : Nat)) 1) where
  mem := by simp
  obj := λi h st b hb => by
    have e : b = it := by simpa using hb
    subst e;exact ⟨_, st, λv z => by
      have z' : Data.fields _ = Data.cell v := z;cases z'⟩
  keep := λi h h' st k => k it (by simp) _ st
  item := by
    intro X hP hw hK hc i pins s σ H E I hf st hg;subst hP hw hK;obtain ⟨f0, f1, f2, f3, f4, f5⟩ := hf it (by simp);have W := Walks.range (prog := X.prog) (w := X.w) (I.ok.hd hc) it lo 1 n;refine W.item i s _ _ hg st λv h' tk hv st' kk => ?_;obtain ⟨t, rfl⟩ := hv;have I1 : Inv X pins σ H { s with heap := h', toks := tk } := I.turned (λb o hb e => kk b o (by simpa using hb) e) f0 f1 f3 f4 f5;refine ⟨_, rfl, zK (s := { s with heap := h', toks := tk }) (n := "range_iterator") st' rfl rfl (by decide) ⟨.int (lo + i), H, I1, ⟨t, ?_⟩, ⟨rfl, rfl⟩, st', λb hb => (hf b hb).1⟩⟩;rw [Int.mul_one]
  done := by
    intro X hP hw hK hc i pins s σ H E I hf st hg;subst hP hw hK;obtain ⟨f0, f1, f2, f3, f4, f5⟩ := hf it (by simp);exact wpAny_pyNext_range_end (I.ok.hd hc) st (by have : n <= i := hg;lia) λh' eb => ⟨rfl, I.turned (t' := s.toks) (λb o hb e => eb b o hb e) f0 f1 f3 f4 f5⟩
  self := λ_ _ _ _ _ st h => wpAny_pyIter_rangeiter st h
end L2
namespace L2
open PySem PySem.Spec PyProof.Rows
section
variable {X : Cx} {tg : Expr}
noncomputable def B8 (K : Frag)(tl : TE):TI := λσ H R => tl σ H λx H1 => ∃ a, x = .ref a /\ (∃ xs, d0 K H1 a xs) /\ R (Dr K a) H1
theorem ze {l : Expr}{tl : TE}(hl : PE X l tl):PI X tg l (B8 X.K tl) := by
  intro pins s σ H R I h;refine cz (hl pins s σ H _ I h) ?_;rintro v s1 ⟨x, H1, I1, r1, q1⟩;obtain ⟨a, e, ⟨xs, hq⟩, q⟩ := q1;subst e;cases r1;obtain ⟨its, rv, p, hz⟩ := I1.list hq;refine wpAny_pyIter_list p.isList ?_;refine ⟨s1.heap.objs.size, [s1.heap.objs.size], _, _, H1, rfl, I1.kept (t' := s1.toks) λb o e => Heap.get?_push_of_some _ e, vK a _, ⟨_, Heap.get?_push_size _ rfl, rfl, rfl⟩, λb hb => ?_, q⟩;have e : b = s1.heap.objs.size := by simpa using hb
  subst e;exact I1.wN (Nat.le_refl _) (I1.bc.fresh (Nat.le_refl _))
theorem xN {pins : List (Addr × Obj)}{σ : St}{H : Hp}{s : Shared}{R : It -> Hp -> Prop}{E : Value -> Shared -> Prop}{lo hi : Int}{t u v : Tok}{tk : Nat}(I : Inv X pins σ H s)(h1 : -(2 ^ 62) <= lo)(h2 : lo < 2 ^ 62)(h3 : -(2 ^ 62) <= hi)(h4 : hi < 2 ^ 62)
    (q : R (C6 lo (hi - lo).toNat) H):wpAny (model X.prog X.w) X.A (pyIter (.ref s.heap.objs.size)) (Et X pins σ tg R) E { s with heap := s.heap.push { cls := .type "range", data := .fields #[.int lo t, .int hi u, .int 1 v] }, toks := tk } := by
  refine wpAny_pyIter_range (IsRange.new ..) (small_one h1 h2 h3 h4) ?_;have I1 : Inv X pins σ H { s with heap := s.heap.push { cls := .type "range", data := .fields #[.int lo t, .int hi u, .int 1 v] }, toks := tk } := I.kept λb o e => Heap.get?_push_of_some _ e;refine ⟨(s.heap.push { cls := .type "range", data := .fields #[.int lo t, .int hi u, .int 1 v] }).objs.size, [(s.heap.push { cls := .type "range", data := .fields #[.int lo t, .int hi u, .int 1 v] }).objs.size], _, _, H, rfl,
    I1.kept (t' := tk) λb o e => Heap.get?_push_of_some _ e, tf _ lo (hi - lo).toNat, ?_, λb hb => ?_, q⟩
  · have e1 : lo + ((0 : Nat):Int) * 1 = lo := by simp
    have e2 : (((hi - lo).toNat : Nat):Int) - ((0 : Nat):Int) = Builtin.Range.rangeSize lo hi 1 := by rw [rangeSize_one];split <;> lia
    show IsRangeIter _ _ (lo + ((0 : Nat):Int) * 1) ((((hi - lo).toNat : Nat):Int) - ((0 : Nat):Int)) 1;rw [e1, e2];exact Heap.get?_push_size _ rfl
  · have e : b = (s.heap.push { cls := .type "range", data := .fields #[.int lo t, .int hi u, .int 1 v] }).objs.size := by simpa using hb
    subst e;exact I1.wN (Nat.le_refl _) (I1.bc.fresh (Nat.le_refl _))
noncomputable def B9 (ta : TA):TI := λσ H R => ta σ H λvs H1 => ∃ j : Int, vs = [.int j] /\ -(2 ^ 62) <= j /\ j < 2 ^ 62 /\ R (C6 0 j.toNat) H1
theorem vz {a : Expr}{ta : TA}{p pos : Pos}(hg : Gl X "range")(hm : X.mg "range" = none)(ha : PA X [a] ta)(hs :autoParam (starEach [a] X.env = [(false, eval a X.env)]) aZa._auto_1):PI X tg (.Call (.Name "range" p) [a] [] pos) (B9 ta) := by
  intro pins s σ H R I h;refine Call_ (mh I hg hm boot_range (PyProof.Rows.callWith_type1 (cz (ha pos pins s σ H _ I h) ?_) hs rfl));rintro us s1 ⟨vs, H1, I1, r1, q1⟩;obtain ⟨j, e, q1, q2, q⟩ := q1;subst e;cases r1 with
  | cons r rr =>
    cases rr;obtain ⟨t, rfl⟩ := r;exact call_range_1 (xN I1 (by lia) (by lia) q1 q2 (by simpa using q))
noncomputable def Ef (wi : TI)(g : TG)(tb : TS):TS := λD σ H => wi σ H λJ H1 => ∃ W : Nat -> Nat -> St -> Hp -> Prop, (∃ m, W 0 m σ H1) /\ ∀ i m σ H, W i m σ H ->
  (J.stop i H /\ D.nx σ H) \/ (J.go i H /\ ∃ N : St -> Hp -> Prop, (∀ σ' H', N σ' H' -> ∃ m', m' < m /\ W (i + 1) m' σ' H') /\ ∀ x H', J.vM i H x H' -> g x σ H' λσ2 H2 => tb { D with nx := N, ct := N, bk := D.nx } σ2 H2)
noncomputable def my (fp : List Addr)(h : Heap):List (Addr × Obj) := fp.filterMap λb => (h.get? b).map λo => (b, o)
theorem gS {fp : List Addr}{h : Heap}{b : Addr}{o : Obj}(hb : b ∈ fp)(e : h.get? b = some o):(b, o) ∈ my fp h := List.mem_filterMap.mpr ⟨b, hb, by rw [e];rfl⟩
theorem vy {fp : List Addr}{h : Heap}{p : Addr × Obj}(hp : p ∈ my fp h):p.1 ∈ fp /\ h.get? p.1 = some p.2 := by
  obtain ⟨b, hb, e⟩ := List.mem_filterMap.mp hp;cases q : h.get? b with
  | none => rw [q] at e;cases e
  | some o =>
    rw [q] at e;have e' : (b, o) = p := Option.some.inj e;subst e';exact ⟨hb, q⟩
theorem Inv.pinned {pins : List (Addr × Obj)}{σ : St}{H : Hp}{s : Shared}{fp : List Addr}(I : Inv X pins σ H s)(hf : ∀ b ∈ fp, jA X pins H b)(ho : ∀ b ∈ fp, ∃ o, s.heap.get? b = some o /\ ∀ v, o.data ≠ .cell v):Inv X (pins ++ my fp s.heap) σ H s :=
  I.uz λp hp => (mem_append.mp hp).elim (λz => I.pin p (mem_append_right _ z)) λz => by
    obtain ⟨hb, e⟩ := vy z;obtain ⟨f0, f1, f2, _⟩ := hf p.1 hb;obtain ⟨o, e', d⟩ := ho p.1 hb;rw [e] at e';cases e';exact ⟨e, f0, f1, f2, d⟩
theorem Inv.j3 {pins pl : List (Addr × Obj)}{σ : St}{H : Hp}{s : Shared}(I : Inv X (pins ++ pl) σ H s):Inv X pins σ H s := I.uz λp hp => I.pin p (mem_append_right _ (mem_append_left _ hp))
theorem Ba {iter : Expr}{body : List Stmt}{wi : TI}{g : TG}{tb : TS}{pos : Pos}(hp : PassesOwn (model X.prog X.w) X.A X.env X.xe)(hc : X.calm = true)(hi : PI X tg iter wi)(hg : PG X tg g)(hb : mS X body tb)
    (hs :autoParam (∀ x, foldedSetIterable iter X.env x = pure x) aZc._auto_1):PS X (.For tg iter body [] pos) (Ef wi g tb) := by
  intro pins s σ H D I h;refine wpAny_For (cz (hi pins s σ H _ I h) λv s1 h1 => cz h1 λitv s2 h2 => ?_) hs;obtain ⟨it, fp, tn, J, H2, e, I2, T, st2, f2, W, ⟨m0, w0⟩, turn⟩ := h2;subst e;have stat : ∀ {H' : Hp}, (∀ b ∈ fp, H' b = none) -> ∀ b ∈ fp, jA X pins H' b := λhn b hb => ⟨hn b hb, (f2 b hb).2⟩
  refine codeAny_forLoop_any (λn s' => ∃ i σ' H', Inv X pins σ' H' s' /\ tn i s'.heap /\ (∀ b ∈ fp, H' b = none) /\ W i n σ' H') ?_ m0 ⟨0, σ, H2, I2, st2, λb hb => (f2 b hb).1, w0⟩;rintro n s3 ⟨i, σ3, H3, I3, st3, fr3, w3⟩;rcases turn i n σ3 H3 w3 with ⟨stop, qn⟩ | ⟨go, N, hN, step⟩
  · refine wpAny_passesOwn hp (cz (T.done X rfl rfl rfl hc i pins s3 σ3 H3 X.xe I3 (stat fr3) st3 stop) ?_);rintro r s4 ⟨hr, I4⟩;subst hr;exact wpAny_execs_nil ⟨σ3, H3, I4, qn⟩
  · refine wpAny_passesOwn hp (cz (T.item X rfl rfl rfl hc i pins s3 σ3 H3 X.xe I3 (stat fr3) st3 go) ?_);rintro r s4 ⟨u, hr, h4⟩;subst hr;refine wpAny_passesOwn hp (cz h4 ?_);rintro _ s5 ⟨x, H5, I5, r5, y5, st5, fr5⟩;have I5' := I5.pinned (stat fr5) (T.obj _ _ st5);refine wpAny_passesOwn hp (cz (hg _ s5 σ3 H5 x u _ I5' r5 (step x H5 y5)) ?_);rintro _ s6 ⟨σ6, H6, I6, q6⟩;refine wpAny_passesOwn hp (cz (hb _ s6 σ6 H6 _ I6 q6) λf s7 q7 => ?_);have again : ∀ {σ7 : St} {H7 : Hp}, Inv X (pins ++ my fp s5.heap) σ7 H7 s7 -> N σ7 H7 -> ∃ m, m < n /\ ∃ i σ' H', Inv X pins σ' H' s7 /\ tn i s7.heap /\ (∀ b ∈ fp, H' b = none) /\ W i m σ' H' := λ{σ7 H7} I7 n7 => by
      obtain ⟨m', hm, w7⟩ := hN σ7 H7 n7;refine ⟨m', hm, i + 1, σ7, H7, I7.j3, T.keep _ _ _ st5 λb hb o e => (I7.pin (b, o) (mem_append_right _ (mem_append_right _ (gS hb e)))).1, λb hb => ?_, w7⟩;obtain ⟨o, e, d⟩ := T.obj _ _ st5 b hb;exact (I7.pin (b, o) (mem_append_right _ (mem_append_right _ (gS hb e)))).2.1
    cases f with
    | next => obtain ⟨σ7, H7, I7, n7⟩ := q7;exact again I7 n7
    | cont => obtain ⟨σ7, H7, I7, n7⟩ := q7;exact again I7 n7
    | brk => obtain ⟨σ7, H7, I7, q7⟩ := q7;exact ⟨σ7, H7, I7.j3, q7⟩
    | ret v => obtain ⟨x7, σ7, H7, I7, r7, q7⟩ := q7;exact ⟨x7, σ7, H7, I7.j3, r7, q7⟩
end
end L2
namespace L2
open PySem PySem.Spec PyProof.Rows
noncomputable abbrev R2 := V -> V -> Hp -> VK -> Prop
noncomputable def jg (X : Cx)(f : Value -> Value -> Sem Value)(r : R2):Prop :=
  ∀ (pins : List (Addr × Obj)) (s : Shared) (σ : St) (H : Hp) (x y : V) (v u : Value) (Q : VK), Inv X pins σ H s -> RelV x v -> RelV y u -> r x y H Q ->
    wpAny (model X.prog X.w) X.A (f v u) (EP X pins σ Q) X.xe s
noncomputable def fO (X : Cx)(f : Value)(r : List V -> Hp -> VK -> Prop):Prop :=
  ∀ (pins : List (Addr × Obj)) (s : Shared) (σ : St) (H : Hp) (xs : List V) (us : List Value) (Q : VK), Inv X pins σ H s -> Vals xs us -> r xs H Q ->
    wpAny (model X.prog X.w) X.A (call f us) (EP X pins σ Q) X.xe s
noncomputable def Dv (X : Cx)(r : V -> Hp -> (Bool -> Hp -> Prop) -> Prop):Prop :=
  ∀ (pins : List (Addr × Obj)) (s : Shared) (σ : St) (H : Hp) (x : V) (v : Value) (Q : Bool -> Hp -> Prop), Inv X pins σ H s -> RelV x v -> r x H Q ->
    wpAny (model X.prog X.w) X.A (truthy v) (TP X pins σ Q) X.xe s
noncomputable def C0 (r : R2)(ta tb : TE):TE := λσ H Q => ta σ H λx H1 => tb σ H1 λy H2 => r x y H2 Q
noncomputable def rI (C : Int -> Int -> Prop)(g : Int -> Int -> V):R2 := λx y H Q => ∃ i j, x = .int i /\ y = .int j /\ C i j /\ Q (g i j) H
noncomputable def zk (g : Int -> Int -> V):R2 := λx y H Q => ∃ i j, x = .int i /\ y = .int j /\ Q (g i j) H
section
variable {X : Cx} {a b c : Expr} {ta tb tc : TE} {pos : Pos}
theorem Ah (ha : PE X a ta)(hb : PE X b tb){pins : List (Addr × Obj)}{s : Shared}{σ : St}{H : Hp}{R : V -> V -> Hp -> Prop}(I : Inv X pins σ H s)
    (h : ta σ H λx H1 => tb σ H1 λy H2 => R x y H2) {Q : Value -> Shared -> Prop} {f : Value -> Value -> Sem Value}
    (hf : ∀ v u s2 x y H2, Inv X pins σ H2 s2 -> RelV x v -> RelV y u -> R x y H2 -> wpAny (model X.prog X.w) X.A (f v u) Q X.xe s2) :
    wpAny (model X.prog X.w) X.A (eval a X.env) (λv s₁ => wpAny (model X.prog X.w) X.A (eval b X.env) (λu s₂ => wpAny (model X.prog X.w) X.A (f v u) Q X.xe s₂) X.xe s₁) X.xe s := by
  refine cz (ha pins s σ H _ I h) ?_;rintro v s1 ⟨x, H1, I1, r1, q1⟩;refine cz (hb pins s1 σ H1 _ I1 q1) ?_;rintro u s2 ⟨y, H2, I2, r2, q2⟩;exact hf v u s2 x y H2 I2 r1 r2 q2
theorem Cu {op : Operator}{r : R2}(ho : jg X (binaryOp op) r)(ha : PE X a ta)(hb : PE X b tb):PE X (.BinOp a op b pos) (C0 r ta tb) := by
  intro pins s σ H Q I h;exact wpAny_BinOp (Ah ha hb I h λv u s2 x y H2 I2 rx ry q => ho pins s2 σ H2 x y v u Q I2 rx ry q)
theorem Dh {f : Value -> Value -> Sem Value}{C : Int -> Int -> Prop}{g : Int -> Int -> Int}
    (rule : ∀ (i j : Int) (t u : Tok) (s : Shared) (Q : Value -> Shared -> Prop) (E : Value -> Shared -> Prop), C i j -> Q (.int (g i j) s.toks) { s with toks := s.toks + 1 } -> wpAny (model X.prog X.w) X.A (f (.int i t) (.int j u)) Q E s) :
    jg X f (rI C λi j => .int (g i j)) := by
  intro pins s σ H x y v u Q I rx ry h;obtain ⟨i, j, rfl, rfl, hc, q⟩ := h;obtain ⟨t, rfl⟩ := rx;obtain ⟨t', rfl⟩ := ry;exact rule i j t t' s _ _ hc ⟨.int (g i j), H, I.tok _, ⟨_, rfl⟩, q⟩
theorem Ck {f : Value -> Value -> Sem Value}{g : Int -> Int -> Int}
    (rule : ∀ (i j : Int) (t u : Tok) (s : Shared) (Q : Value -> Shared -> Prop) (E : Value -> Shared -> Prop), Q (.int (g i j) s.toks) { s with toks := s.toks + 1 } -> wpAny (model X.prog X.w) X.A (f (.int i t) (.int j u)) Q E s) :
    jg X f (zk λi j => .int (g i j)) := by
  intro pins s σ H x y v u Q I rx ry h;obtain ⟨i, j, rfl, rfl, q⟩ := h;obtain ⟨t, rfl⟩ := rx;obtain ⟨t', rfl⟩ := ry;exact rule i j t t' s _ _ ⟨.int (g i j), H, I.tok _, ⟨_, rfl⟩, q⟩
theorem yY {f : Value -> Value -> Sem Value}{g : Int -> Int -> Bool}
    (rule : ∀ (i j : Int) (t u : Tok) (s : Shared) (Q : Value -> Shared -> Prop) (E : Value -> Shared -> Prop), Q (.bool (g i j)) s -> wpAny (model X.prog X.w) X.A (f (.int i t) (.int j u)) Q E s) :
    jg X f (zk λi j => .bl (g i j)) := by
  intro pins s σ H x y v u Q I rx ry h;obtain ⟨i, j, rfl, rfl, q⟩ := h;obtain ⟨t, rfl⟩ := rx;obtain ⟨t', rfl⟩ := ry;exact rule i j t t' s _ _ ⟨.bl (g i j), H, I, rfl, q⟩
noncomputable def BG (i j : Int):Prop := 0 < j /\ j < 1073741824
noncomputable def zY (i j : Int):Prop := 0 <= j /\ j <= 1000000 /\ i.natAbs < 2 ^ 64
noncomputable def p9 (i j : Int):Prop := (-(2 ^ 64) < i /\ i < 2 ^ 64) \/ (-(2 ^ 64) < j /\ j < 2 ^ 64)
theorem p9.ok {i j : Int}(h : p9 i j):IntMulOk i j := by
  rcases h with ⟨h1, h2⟩ | ⟨h1, h2⟩
  · exact .of_left (intBits_le_64 h1 h2)
  · exact .of_right (intBits_le_64 h1 h2)
theorem AR : jg X (binaryOp .Add) (zk λi j => .int (i + j)) := Ck λ_ _ _ _ _ _ _ q => add_int q
theorem A0 : jg X (binaryOp .Sub) (zk λi j => .int (i - j)) := Ck λ_ _ _ _ _ _ _ q => sub_int q
theorem AW : jg X (binaryOp .Mult) (rI p9 λi j => .int (i * j)) := Dh λ_ _ _ _ _ _ _ hc q => mul_int q hc.ok
theorem y0 : jg X (binaryOp .FloorDiv) (rI BG λi j => .int (i / j)) := Dh λi j _ _ _ _ _ hc q => by
  have h1 : (0 : Int) < j := hc.1;have h2 : j < 1073741824 := hc.2;exact floordiv_int (by lia) (by rw [Int.fdiv_eq_ediv_of_nonneg i (by lia)];exact q) (.inl (PyProof.noPylong_small (by lia)))
theorem AV : jg X (binaryOp .Mod) (rI (λ_ j => 0 < j) λi j => .int (i % j)) := Dh λi j _ _ _ _ _ hc q => by
  have h1 : (0 : Int) < j := hc;exact mod_int' (by lia) (by rw [Int.fmod_eq_emod_of_nonneg i (by lia)];exact q)
theorem AY : jg X (binaryOp .Pow) (rI zY λi j => .int (i ^ j.toNat)) := Dh λ_ _ _ _ _ _ _ hc q => pow_int_small hc.1 hc.2.1 hc.2.2 q
end
noncomputable def CJ : V -> V -> Bool
  | .non, .non => true | .non, .int _ => true | .int _, .non => true | .non, .bl _ => true | .bl _, .non => true | .non, .str _ => true | .str _, .non => true
  | .int _, .int _ => true | .bl _, .bl _ => true | .str _, .str _ => true | .byt _, .byt _ => true
  | .int _, .str _ => true | .str _, .int _ => true | .bl _, .str _ => true | .str _, .bl _ => true
  | _, _ => false
noncomputable def EE : R2 := λx y H Q => CJ x y = true /\ Q (.bl (decide (x = y))) H
noncomputable def EG : R2 := λx y H Q => CJ x y = true /\ Q (.bl (!decide (x = y))) H
theorem tT {i j : Int}:decide (V.int i = V.int j) = (i == j) := by
  rw [Bool.eq_iff_iff];simp
theorem wA {i j : Bool}:decide (V.bl i = V.bl j) = (i == j) := by
  rw [Bool.eq_iff_iff];simp
theorem tU {i j : Str}:decide (V.str i = V.str j) = (i == j) := by
  rw [Bool.eq_iff_iff];simp
theorem tS {i j : Array UInt8}:decide (V.byt i = V.byt j) = (i.toList == j.toList) := by
  rw [Bool.eq_iff_iff];cases i;cases j;simp
section
variable {X : Cx} {a b c : Expr} {ta tb tc : TE} {pos : Pos}
theorem bb {pins : List (Addr × Obj)}{σ : St}{H : Hp}{s : Shared}{Q : VK}{k k' : Bool}(I : Inv X pins σ H s)(q : Q (.bl k) H)(e : k = k'):EP X pins σ Q (.bool k') s := by
  subst e;exact ⟨.bl k, H, I, rfl, q⟩
theorem om : jg X (compareOp .Eq) EE := by
  intro pins s σ H x y v u Q I rx ry h;obtain ⟨hs, q⟩ := h;cases x with
  | non =>
    cases rx;cases y with
    | non => cases ry;exact PySem.EqNone.eq_none_none (bb I q (by simp))
    | bl j => cases ry;exact PySem.EqNone.eq_none_bool (bb I q (by simp))
    | int j => obtain ⟨t', rfl⟩ := ry;exact PySem.EqNone.eq_none_int (bb I q (by simp))
    | str j => obtain ⟨t', rfl⟩ := ry;exact PySem.EqNone.eq_none_str (bb I q (by simp))
    | _ => exact absurd (show false = true from hs) Bool.false_ne_true
  | bl i =>
    cases rx;cases y with
    | non => cases ry;exact PySem.EqNone.eq_bool_none (bb I q (by simp))
    | bl j => cases ry;exact eq_bool (bb I q wA)
    | str j => obtain ⟨t', rfl⟩ := ry;exact PySem.EqMixed.eq_bool_str (bb I q (by simp))
    | _ => exact absurd (show false = true from hs) Bool.false_ne_true
  | int i =>
    obtain ⟨t, rfl⟩ := rx;cases y with
    | non => cases ry;exact PySem.EqNone.eq_int_none (bb I q (by simp))
    | int j => obtain ⟨t', rfl⟩ := ry;exact eq_int (bb I q tT)
    | str j => obtain ⟨t', rfl⟩ := ry;exact PySem.EqMixed.eq_int_str (bb I q (by simp))
    | _ => exact absurd (show false = true from hs) Bool.false_ne_true
  | str i =>
    obtain ⟨t, rfl⟩ := rx;cases y with
    | non => cases ry;exact PySem.EqNone.eq_str_none (bb I q (by simp))
    | bl j => cases ry;exact PySem.EqMixed.eq_str_bool (bb I q (by simp))
    | int j => obtain ⟨t', rfl⟩ := ry;exact PySem.EqMixed.eq_str_int (bb I q (by simp))
    | str j => obtain ⟨t', rfl⟩ := ry;exact eq_str (bb I q tU)
    | _ => exact absurd (show false = true from hs) Bool.false_ne_true
  | byt i =>
    obtain ⟨t, rfl⟩ := rx;cases y with
    | byt j => obtain ⟨t', rfl⟩ := ry;exact PySem.W.eq_bytes (bb I q tS)
    | _ => exact absurd (show false = true from hs) Bool.false_ne_true
  | _ => cases y <;> exact absurd (show false = true from hs) Bool.false_ne_true
theorem Cq : jg X (compareOp .NotEq) EG := by
  intro pins s σ H x y v u Q I rx ry h;obtain ⟨hs, q⟩ := h;cases x with
  | non =>
    cases rx;cases y with
    | non => cases ry;exact PySem.EqNone.ne_none_none (bb I q (by simp))
    | bl j => cases ry;exact PySem.EqNone.ne_none_bool (bb I q (by simp))
    | int j => obtain ⟨t', rfl⟩ := ry;exact PySem.EqNone.ne_none_int (bb I q (by simp))
    | str j => obtain ⟨t', rfl⟩ := ry;exact PySem.EqNone.ne_none_str (bb I q (by simp))
    | _ => exact absurd (show false = true from hs) Bool.false_ne_true
  | bl i =>
    cases rx;cases y with
    | non => cases ry;exact PySem.EqNone.ne_bool_none (bb I q (by simp))
    | bl j => cases ry;exact ne_bool (bb I q (congrArg not wA))
    | str j => obtain ⟨t', rfl⟩ := ry;exact PySem.EqMixed.ne_bool_str (bb I q (by simp))
    | _ => exact absurd (show false = true from hs) Bool.false_ne_true
  | int i =>
    obtain ⟨t, rfl⟩ := rx;cases y with
    | non => cases ry;exact PySem.EqNone.ne_int_none (bb I q (by simp))
    | int j => obtain ⟨t', rfl⟩ := ry;exact ne_int (bb I q (congrArg not tT))
    | str j => obtain ⟨t', rfl⟩ := ry;exact PySem.EqMixed.ne_int_str (bb I q (by simp))
    | _ => exact absurd (show false = true from hs) Bool.false_ne_true
  | str i =>
    obtain ⟨t, rfl⟩ := rx;cases y with
    | non => cases ry;exact PySem.EqNone.ne_str_none (bb I q (by simp))
    | bl j => cases ry;exact PySem.EqMixed.ne_str_bool (bb I q (by simp))
    | int j => obtain ⟨t', rfl⟩ := ry;exact PySem.EqMixed.ne_str_int (bb I q (by simp))
    | str j => obtain ⟨t', rfl⟩ := ry;exact ne_str (bb I q (congrArg not tU))
    | _ => exact absurd (show false = true from hs) Bool.false_ne_true
  | byt i =>
    obtain ⟨t, rfl⟩ := rx;cases y with
    | byt j => obtain ⟨t', rfl⟩ := ry;exact PySem.W.ne_bytes (bb I q (congrArg not tS))
    | _ => exact absurd (show false = true from hs) Bool.false_ne_true
  | _ => cases y <;> exact absurd (show false = true from hs) Bool.false_ne_true
theorem Cp : jg X (compareOp .Lt) (zk λi j => .bl (decide (i < j))) := yY λ_ _ _ _ _ _ _ q => lt_int q
theorem Co : jg X (compareOp .LtE) (zk λi j => .bl (decide (i <= j))) := yY λ_ _ _ _ _ _ _ q => le_int q
theorem Cn : jg X (compareOp .Gt) (zk λi j => .bl (decide (j < i))) := yY λ_ _ _ _ _ _ _ q => gt_int q
theorem Cm : jg X (compareOp .GtE) (zk λi j => .bl (decide (j <= i))) := yY λ_ _ _ _ _ _ _ q => ge_int q
theorem jg.or {f : Value -> Value -> Sem Value}{r r' : R2}(h : jg X f r)(h' : jg X f r'):jg X f (λx y H Q => r x y H Q \/ r' x y H Q) := by
  intro pins s σ H x y v u Q I rx ry q;rcases q with q | q
  · exact h pins s σ H x y v u Q I rx ry q
  · exact h' pins s σ H x y v u Q I rx ry q
theorem aR (b : Expr){op : CmpOp}(h :autoParam (op ≠ .In) aZb._auto_1)(h2 :autoParam (op ≠ .NotIn) aZb._auto_1):behindInMarks op b = false := by
  have e1 : (op == CmpOp.In) = false := by cases op <;> first | rfl | exact absurd rfl h
  have e2 : (op == CmpOp.NotIn) = false := by cases op <;> first | rfl | exact absurd rfl h2
  cases b <;> simp [behindInMarks, e1, e2]
theorem y6 {op : CmpOp}{r : R2}(ho : jg X (compareOp op) r)(ha : PE X a ta)(hb : PE X b tb)(hm : behindInMarks op b = false):PE X (.Compare a [op] [b] pos) (C0 r ta tb) := by
  intro pins s σ H Q I h;exact wpAny_Compare1 (Ah ha hb I h λv u s2 x y H2 I2 rx ry q => ho pins s2 σ H2 x y v u Q I2 rx ry q) hm
noncomputable def C2 (t : TE):TT := λσ H Q => t σ H λx H' => ∃ k, x = .bl k /\ Q k H'
theorem iS {op : CmpOp}{r : R2}(ho : jg X (compareOp op) r)(ha : PE X a ta)(hb : PE X b tb)(hm : behindInMarks op b = false):PT X (.Compare a [op] [b] pos) (C2 (C0 r ta tb)) := by
  intro pins s σ H Q I h;refine wpAny_isTrue_Compare1 (cz (ha pins s σ H _ I h) λv s1 ⟨x, H1, I1, r1, q1⟩ => cz (hb pins s1 σ H1 _ I1 q1) λu s2 ⟨y, H2, I2, r2, q2⟩ =>
    cz (ho pins s2 σ H2 x y v u _ I2 r1 r2 q2) λc s3 ⟨z, H3, I3, r3, k, e, q3⟩ => ?_) hm
  subst e;cases r3;exact wpAny_truthy_bool ⟨H3, I3, q3⟩
noncomputable def Dw (K : Frag)(x : V)(H : Hp)(k : Bool):Prop :=
  match x with
  | .non => k = false
  | .bl b => k = b
  | .int i => k = (i != 0)
  | .str y => y.length <= sizeLine /\ k = ((y.length : Int) != 0)
  | .byt y => y.size <= sizeLine /\ k = ((y.size : Int) != 0)
  | .ref p => (∃ xs, d0 K H p xs /\ k = !xs.isEmpty) \/ (∃ xs, lJ K H p xs /\ k = !xs.isEmpty) \/ ∃ kvs, H p = some (.dK kvs) /\ k = !kvs.isEmpty
  | _ => False
theorem su {κ : Type}{kvs : List (κ × V)}{vs : List (κ × Value)}(r : KV kvs vs):(!vs.isEmpty) = !kvs.isEmpty := by
  cases r <;> rfl
theorem ma {xs : List V}{its : List Value}(r : Vals xs its):(!its.toArray.isEmpty) = !xs.isEmpty := by
  cases r <;> simp
theorem kg : (sizeLine : Nat) < 2 ^ 63 := by rw [sizeLine_eq];decide
theorem El : Dv X (λx H Q => ∃ k, Dw X.K x H k /\ Q k H) := by
  intro pins s σ H x v Q I rx h;obtain ⟨k, e, q⟩ := h;have hl := kg;have hs : sizeLine = 16777216 := sizeLine_eq;cases x with
  | non =>
    cases rx;have e' : k = false := e;subst e';exact truthy_none ⟨H, I, q⟩
  | bl b =>
    cases rx;have e' : k = b := e;subst e';exact wpAny_truthy_bool ⟨H, I, q⟩
  | int i =>
    obtain ⟨t, rfl⟩ := rx;have e' : k = (i != 0) := e;subst e';exact PySem.P.truthy_int ⟨H, I, q⟩
  | str y =>
    obtain ⟨t, rfl⟩ := rx;obtain ⟨hy, e'⟩ : y.length <= sizeLine /\ k = ((y.length : Int) != 0) := e;subst e';exact PySem.P.truthy_str (by lia) ⟨H, I.tok _, q⟩
  | byt y =>
    obtain ⟨t, rfl⟩ := rx;obtain ⟨hy, e'⟩ : y.size <= sizeLine /\ k = ((y.size : Int) != 0) := e;subst e';exact PySem.W.truthy_bytes (by lia) ⟨H, I.tok _, q⟩
  | ref p =>
    cases rx;have e' : (∃ xs, d0 X.K H p xs /\ k = !xs.isEmpty) \/ (∃ xs, lJ X.K H p xs /\ k = !xs.isEmpty) \/ ∃ kvs, H p = some (.dK kvs) /\ k = !kvs.isEmpty := e;rcases e' with ⟨xs, hx, e'⟩ | ⟨xs, hx, e'⟩ | ⟨kvs, hx, e'⟩
    · subst e';obtain ⟨its, r, pl, hz⟩ := I.list hx;have hlen := r.length;exact wpAny_truthy_list pl.isList (by simp only [size_toArray];lia) ⟨H, I.tok _, by rw [ma r];exact q⟩
    · subst e';obtain ⟨its, r, pl, hz⟩ := I.tuple hx;have hlen := r.length;exact truthy_tuple pl (by simp only [size_toArray];lia) ⟨H, I.tok _, by rw [ma r];exact q⟩
    · subst e';obtain ⟨hz, hS, vs, r, m⟩ : kvs.length <= sizeLine /\ (p == sysModules) = false /\ ∃ vs, KV kvs vs /\ s.heap.DictOf (bg X.prog X.w) p vs := I.bc p _ hx;have hlen : kvs.length = vs.length := Paired.length r;exact wpAny_truthy_dict hS m (by lia) ⟨H, I.tok _, by rw [su r];exact q⟩
  | _ => exact (show False from e).elim
theorem sM : jg X (binaryOp .Add) (λx y H Q => ∃ i j, x = .str i /\ y = .str j /\ i.length + j.length <= sizeLine /\ Q (.str (i ++ j)) H) := by
  intro pins s σ H x y v u Q I rx ry h;obtain ⟨i, j, rfl, rfl, hz, q⟩ := h;obtain ⟨t, rfl⟩ := rx;obtain ⟨t', rfl⟩ := ry;exact add_str (λt' tk => ⟨.str (i ++ j), H, I.tok _, ⟨_, rfl⟩, q⟩) hz
theorem vals1 {x : V}{us : List Value}(r : Vals [x] us):∃ u, us = [u] /\ RelV x u := by
  cases r with
  | cons r1 r2 => cases r2;exact ⟨_, rfl, r1⟩
theorem vals2 {x y : V}{us : List Value}(r : Vals [x, y] us):∃ u w', us = [u, w'] /\ RelV x u /\ RelV y w' := by
  cases r with
  | cons r1 r2 =>
    cases r2 with
    | cons r3 r4 => cases r4;exact ⟨_, _, rfl, r1, r3⟩
theorem uR (hc : X.calm = true):fO X (.builtin "max") (λxs H Q => ∃ i j, xs = [.int i, .int j] /\ Q (.int (if j > i then j else i)) H) := by
  intro pins s σ H xs us Q I r h;obtain ⟨i, j, rfl, q⟩ := h;obtain ⟨u, w', rfl, ⟨t, rfl⟩, ⟨t', rfl⟩⟩ := vals2 r;refine max_two_ints (I.ok.hd hc) λh' tk k => ⟨_, H, I.kept k, ?_, q⟩
  by_cases hj : j > i
  · rw [if_pos hj, if_pos hj];exact ⟨_, rfl⟩
  · rw [if_neg hj, if_neg hj];exact ⟨_, rfl⟩
theorem uT (hc : X.calm = true):fO X (.builtin "min") (λxs H Q => ∃ i j, xs = [.int i, .int j] /\ Q (.int (if j < i then j else i)) H) := by
  intro pins s σ H xs us Q I r h;obtain ⟨i, j, rfl, q⟩ := h;obtain ⟨u, w', rfl, ⟨t, rfl⟩, ⟨t', rfl⟩⟩ := vals2 r;refine min_two_ints (I.ok.hd hc) λh' tk k => ⟨_, H, I.kept k, ?_, q⟩
  by_cases hj : j < i
  · rw [if_pos hj, if_pos hj];exact ⟨_, rfl⟩
  · rw [if_neg hj, if_neg hj];exact ⟨_, rfl⟩
theorem uO : fO X (.type "int") (λxs H Q => (∃ i, xs = [.int i] /\ Q (.int i) H) \/ ∃ k, xs = [.bl k] /\ Q (.int (if k then 1 else 0)) H) := by
  intro pins s σ H xs us Q I r h;rcases h with ⟨i, rfl, q⟩ | ⟨k, rfl, q⟩
  · obtain ⟨u, rfl, t, rfl⟩ := vals1 r;exact call_int_int ⟨.int i, H, I, ⟨_, rfl⟩, q⟩
  · obtain ⟨u, rfl, r1⟩ := vals1 r;cases r1;exact call_int_bool ⟨.int (if k then 1 else 0), H, I.tok _, ⟨_, rfl⟩, q⟩
noncomputable def BJ (K : Frag)(x : V)(H : Hp)(n : Nat):Prop :=
  match x with
  | .str y => y.length <= sizeLine /\ n = y.length
  | .byt y => y.size <= sizeLine /\ n = y.size
  | .ref p => (∃ xs, d0 K H p xs /\ n = xs.length) \/ ∃ xs, lJ K H p xs /\ n = xs.length
  | _ => False
theorem wb : fO X (.builtin "len") (λxs H Q => ∃ x n, xs = [x] /\ BJ X.K x H n /\ Q (.int n) H) := by
  intro pins s σ H xs us Q I r h;obtain ⟨x, n, rfl, e, q⟩ := h;obtain ⟨u, rfl, rx⟩ := vals1 r;have hl := kg;have hs : sizeLine = 16777216 := sizeLine_eq;cases x with
  | str y =>
    obtain ⟨t, rfl⟩ := rx;obtain ⟨hy, e'⟩ : y.length <= sizeLine /\ n = y.length := e;subst e';exact len_str (by lia) ⟨.int _, H, I.tok _, ⟨_, rfl⟩, q⟩
  | byt y =>
    obtain ⟨t, rfl⟩ := rx;obtain ⟨hy, e'⟩ : y.size <= sizeLine /\ n = y.size := e;subst e';exact PySem.W.len_bytes (by lia) ⟨.int _, H, I.tok _, ⟨_, rfl⟩, q⟩
  | ref p =>
    cases rx;have e' : (∃ xs, d0 X.K H p xs /\ n = xs.length) \/ ∃ xs, lJ X.K H p xs /\ n = xs.length := e;rcases e' with ⟨xs, hx, e'⟩ | ⟨xs, hx, e'⟩
    · subst e';obtain ⟨its, r', pl, hz⟩ := I.list hx;have hlen := r'.length;exact Calls.call_len_list pl.isList (by simp only [size_toArray];lia) ⟨.int xs.length, H, I.tok _, ⟨_, by simp only [size_toArray];rw [hlen]⟩, q⟩
    · subst e';obtain ⟨its, r', pl, hz⟩ := I.tuple hx;have hlen := r'.length;exact len_tuple pl (by simp only [size_toArray];lia) ⟨.int xs.length, H, I.tok _, ⟨_, by simp only [size_toArray];rw [hlen]⟩, q⟩
  | _ => exact (show False from e).elim
end
end L2
namespace L2
open PySem PySem.Spec PyProof.Rows
structure rV (h : Heap)(x dx C : Addr)(mA : Str -> Option Value):Prop where
  obj : h.get? x = some (instObj C dx)
  ns : h.Ns1 dx mA
  ne : dx ≠ x
set_option tactic.hygienic true in
theorem vt {h : Heap}{dx : Addr}{mA : Str -> Option Value}(n : h.Ns1 dx mA):∃ od, h.get? dx = some od /\ ∀ name, lookIn name od = some (mA name) := by
  obtain ⟨o, es, ep, ho, hd, hk, _, hm⟩ := n;refine ⟨o, ho, λname => ?_⟩;have e := hm name;unfold nsFind findBy at e;rw [<- Array.find?_toList] at e;unfold lookIn;rw [hd];dsimp only;split
  · rename_i y q;rw [q] at e;exact congrArg some e
  · rename_i q;rw [q] at e;have a : es.toList.any (·.refKey) = false := by
      rw [List.any_eq_false];intro y hy;obtain ⟨z, t, hkey⟩ := hk y (Array.mem_toList_iff.mp hy);simp [DictEntry.refKey, hkey]
    have a' : ¬ es.toList.any (·.refKey) = true := by rw [a];exact Bool.false_ne_true
    rw [if_neg a'];exact congrArg some e
theorem rV.look {h : Heap}{x dx C : Addr}{mA : Str -> Option Value}(I : rV h x dx C mA):∃ od, PySem.W.InstAt h x (instObj C dx) C (some od) /\ ∀ name, lookIn name od = some (mA name) :=
  let ⟨od, ho, hl⟩ := vt I.ns
  ⟨od, ⟨I.obj, rfl, rfl, ho⟩, hl⟩
section
variable {prog : Program} {w : World} {A : Around} {E : Value -> Shared -> Prop} {s : Shared} {K : Frag} {x dx C f : Addr} {mA : Str -> Option Value} {name : Str} {v : Value}
theorem get_map {expr : Bool}{Q : Value -> Shared -> Prop}(X : K.In s.heap)(I : rV s.heap x dx C mA)(hg : plainGet K C name = true)(hh : PySem.W.hasDictIn K C = true)
    (ha : PySem.W.findIn K (.ref C) name = some none) (hv : mA name = some v) (hv' : PySem.W.handedIn v = true) (h : Q v { s with toks := s.toks + 1 }) :
    wpAny (model prog w) A (getAttr (.ref x) name expr) Q E s := by
  obtain ⟨od, J, hl⟩ := I.look;exact PySem.W.get_value X J (PySem.W.plainGet_of hg).1 (PySem.W.findObj_own hh ha rfl (by rw [hl, hv])) hv' h
theorem wR {pl : Sem Bool}{Q : Value × List Value -> Shared -> Prop}(X : K.In s.heap)(I : rV s.heap x dx C mA)(hg : plainGet K C name = true)
    (hf : PySem.W.findIn K (.ref C) name = some (some (.ref f))) (ht : isFn K (.ref f) = true) (hv : mA name = none) (h : Q (.ref f, [.ref x]) s) :
    wpAny (model prog w) A (getMethod (.ref x) name pl) Q E s := by
  obtain ⟨od, J, hl⟩ := I.look;exact PySem.W.method_fn X J (PySem.W.plainGet_of hg).1 (PySem.W.plainGet_of hg).2 hf (beq_iff_eq.mp ht) (by show (lookIn name od).map (·.isSome) = some false;rw [hl, hv];rfl) h
theorem zu {ns : List Str}{Q : Unit -> Shared -> Prop}(X : K.In s.heap)(I : rV s.heap x dx C mA)
    (hs : PySem.W.findIn K (.ref C) "__setattr__" = some (some (.builtin "object.__setattr__"))) (hp : PySem.W.plainOver K C = true) (ht : PySem.W.takerIn K C name = some none) (hh : PySem.W.hasDictIn K C = true)
    (hw : PySem.Within mA ns) (hsz : ns.length <= sizeLine)
    (h : ∀ h', rV h' x dx C (λy => if y = name then some v else mA y) -> Heap.SameBut dx s.heap h' -> Q () { s with heap := h', toks := s.toks + 2 }) :
    wpAny (model prog w) A (setAttr (.ref x) name v) Q E s := by
  obtain ⟨od, J, hl⟩ := I.look;refine PySem.W.set_plain X J hs (PySem.W.osa_open (s := { s with toks := s.toks + 1 }) (r := none) X J hp ht λb => ?_);obtain ⟨cd, hc, hd'⟩ := PySem.W.any_some hh;have hx : s.heap.get? x = some ⟨.ref C, some dx, .plain, #[]⟩ := I.obj;refine wpAny_bind (wpAny_pure (wpAny_bind (wpAny_bind (wpAny_loadPart hx (wpAny_bind (PySem.W.Looks.here (s := { s with toks := s.toks + 1 }) (PySem.W.looks_clsIn X hc) ?_))))));rw [hd'];refine wpAny_pure (a := some dx) (wpAny_bind (wpAny_pure (wpAny_bind ?_)));refine wpAny_nsSet1 (s := { s with toks := s.toks + 1 }) I.ns λh' hn2 hs2 => ?_;obtain ⟨oD, esD, epD, hoD, hdD, hcD⟩ := hn2.count (PySem.Within.cons name v hw);refine wpAny_bind (wpAny_lookBehind hoD (by rw [hdD];exact pastItsLine_dict (Nat.le_trans hcD (by rw [length_cons];lia))) ?_);exact wpAny_pure (h _ ⟨(hs2.2 _ (Ne.symm I.ne)).trans I.obj, hn2, I.ne⟩ hs2)
theorem xh {R : Result -> Shared -> Prop}{vs : List Value}{kw : List (Str × Value)}(X : K.In s.heap)(hm : PySem.W.makesIn K C = true)
    (hi : PySem.W.findIn K (.ref C) "__init__" = some (some (.ref f))) (hf : PySem.W.typeIn K (.ref f) = some (.type "function"))
    (h : codeAny (model prog w) (A.under (.builtin "type.__call__" ⟨.ref C :: vs, kw⟩)) (.call (.ref f) ⟨.ref (s.heap.objs.size + 1) :: vs, kw⟩) (PySem.W.InitBack (s.heap.objs.size + 1) R)
      { s with heap := (s.heap.push PySem.W.emptyDict).push (instObj C s.heap.objs.size) }) :
    codeAny (model prog w) A (.call (.ref C) ⟨vs, kw⟩) R s := by
  obtain ⟨hh, g, d, t, os⟩ := s;exact PySem.W.make_core (PySem.W.makes_of X hm) (PySem.W.looks_findIn X hi) (λself => PySem.W.bind_fn X self hf) (.inl rfl) h
end
noncomputable def gk (f : Str)(v : V):List (Str × V) -> List (Str × V)
  | [] => [(f, v)]
  | (g, x) :: r => if g = f then (g, v) :: r else (g, x) :: gk f v r
theorem kL (f g : Str)(v : V):∀ fs : List (Str × V), (gk f v fs).lookup g = if g = f then some v else fs.lookup g
  | [] => by
    show List.lookup g [(f, v)] = _;by_cases h : g = f
    · have hb : (g == f) = true := beq_iff_eq.mpr h;simp only [List.lookup, hb, if_pos h]
    · have hb : (g == f) = false := beq_eq_false_iff_ne.mpr h;simp only [List.lookup, hb, if_neg h]
  | (k, x) :: r => by
    have ih := kL f g v r;rw [show gk f v ((k, x) :: r) = (if k = f then (k, v) :: r else (k, x) :: gk f v r) from rfl];by_cases hk : k = f
    · rw [if_pos hk];by_cases h : g = k
      · have hb : (g == k) = true := beq_iff_eq.mpr h;simp only [List.lookup, hb, if_pos (h.trans hk)]
      · have hb : (g == k) = false := beq_eq_false_iff_ne.mpr h;simp only [List.lookup, hb, if_neg (λe : g = f => h (e.trans hk.symm))]
    · rw [if_neg hk];by_cases h : g = k
      · have hb : (g == k) = true := beq_iff_eq.mpr h;simp only [List.lookup, hb, if_neg (λe : g = f => hk (h.symm.trans e))]
      · have hb : (g == k) = false := beq_eq_false_iff_ne.mpr h;simp only [List.lookup, hb];exact ih
theorem kf (f : Str)(v : V):∀ fs : List (Str × V), f ∈ (gk f v fs).map (·.1) /\ ∀ g, g ∈ fs.map (·.1) -> g ∈ (gk f v fs).map (·.1)
  | [] => ⟨by simp [gk], λg h => by simp at h⟩
  | (k, x) :: r => by
    obtain ⟨i1, i2⟩ := kf f v r;rw [show gk f v ((k, x) :: r) = (if k = f then (k, v) :: r else (k, x) :: gk f v r) from rfl];by_cases hk : k = f
    · rw [if_pos hk];subst hk;exact ⟨by simp, λg h => by simpa using h⟩
    · rw [if_neg hk];refine ⟨?_, λg h => ?_⟩
      · rw [map_cons];exact mem_cons_of_mem _ i1
      · rw [map_cons] at h ⊢;rcases List.mem_cons.mp h with e | e
        · exact List.mem_cons.mpr (.inl e)
        · exact mem_cons_of_mem _ (i2 g e)
theorem kJ (f : Str)(v : V):∀ fs : List (Str × V), (gk f v fs).length <= fs.length + 1
  | [] => by simp [gk]
  | (k, x) :: r => by
    have ih := kJ f v r;rw [show gk f v ((k, x) :: r) = (if k = f then (k, v) :: r else (k, x) :: gk f v r) from rfl];by_cases hk : k = f
    · rw [if_pos hk, length_cons, length_cons];lia
    · rw [if_neg hk, length_cons, length_cons];lia
theorem jh.some_of {v : V}{o : Option Value}(r : jh (some v) o):∃ u, o = some u /\ RelV v u := by
  cases o with
  | none => exact (show False from r).elim
  | some u => exact ⟨u, rfl, r⟩
theorem jh.none_of {o : Option Value}(r : jh none o):o = none := by
  cases o with
  | none => rfl
  | some u => exact (show False from r).elim
theorem vc {v : V}{u : Value}(r : RelV v u):PySem.W.handedIn u = true := by
  cases v with
  | non => cases (show u = Value.none from r);rfl
  | bl b => cases (show u = Value.bool b from r);rfl
  | int i => obtain ⟨t, e⟩ := (show ∃ t, u = Value.int i t from r);cases e;rfl
  | str x => obtain ⟨t, e⟩ := (show ∃ t, u = Value.str x t from r);cases e;rfl
  | byt b => obtain ⟨t, e⟩ := (show ∃ t, u = Value.bytes b t from r);cases e;rfl
  | flt b => obtain ⟨t, e⟩ := (show ∃ t, u = Value.float b t from r);cases e;rfl
  | ref a => cases (show u = Value.ref a from r);rfl
  | ty n => cases (show u = Value.type n from r);rfl
section
variable {P : Program} {w : World} {H H' : Hp} {h h' : Heap} {a C dx : Addr} {fs fs' : List (Str × V)}
theorem lA (bc : g6 P w H h)(e : H a = some (.ins C dx fs)):∃ mA, rV h a dx C mA /\ (∀ f, jh (fs.lookup f) (mA f)) /\ PySem.Within mA (fs.map (·.1)) /\ fs.length <= 1000 /\ H dx = some (.own a) := by
  obtain ⟨d, z, ne, ob, mA, n, r, q⟩ := (show bM P w H h a (.ins C dx fs) from bc a _ e)
  exact ⟨mA, ⟨ob, n, ne⟩, r, q, z, d⟩
end
structure hJ (K : Frag)(C : Addr):Prop where
  pg : plainGet K C Str.empty = true
  hd : PySem.W.hasDictIn K C = true
  po : PySem.W.plainOver K C = true
  sa : PySem.W.findIn K (.ref C) "__setattr__" = some (some (.builtin "object.__setattr__"))
theorem hJ.get {K : Frag}{C : Addr}(c : hJ K C)(f : Str):plainGet K C f = true := c.pg
noncomputable def ee (K : Frag)(C : Addr)(f : Str):Prop := PySem.W.findIn K (.ref C) f = some none
theorem ee.C4 {K : Frag}{C : Addr}{f : Str}(n : ee K C f):PySem.W.takerIn K C f = some none := by
  unfold PySem.W.takerIn;rw [show PySem.W.findIn K (.ref C) f = some none from n];rfl
structure EL (K : Frag)(C : Addr)(f : Str)(v : V)(u : Value):Prop where
  at_ : PySem.W.findIn K (.ref C) f = some (some u)
  rel : RelV v u
  get : PySem.W.specialIn K u "__get__" = some none
  cp : PySem.W.copiedNames.contains f = false
structure Meth (K : Frag)(C : Addr)(m : Str)(f : Addr):Prop where
  at_ : PySem.W.findIn K (.ref C) m = some (some (.ref f))
  fn : isFn K (.ref f) = true
  kp : keepIn K (.ref f) = true
section
variable {X : Cx} {pins : List (Addr × Obj)} {σ : St} {H : Hp} {s : Shared} {a C dx : Addr} {fs : List (Str × V)} {f : Str} {v : V} {A : Around} {E : Value -> Shared -> Prop}
theorem lZ {b : Bool}{Q : Value -> Shared -> Prop}(I : Inv X pins σ H s)(e : H a = some (.ins C dx fs))(c : hJ X.K C)(n : ee X.K C f)(l : fs.lookup f = some v)
    (h : ∀ u s', Inv X pins σ H s' -> RelV v u -> Q u s'):wpAny (model X.prog X.w) A (getAttr (.ref a) f b) Q E s := by
  obtain ⟨mA, O, r, _, _, _⟩ := lA I.bc e;obtain ⟨u, hu, ru⟩ := jh.some_of (v := v) (o := mA f) (by rw [<- l];exact r f);exact get_map I.jz O (c.get f) c.hd n hu (vc ru) (h u _ (I.tok _) ru)
theorem jn {m : Str}{g : Addr}{pl : Sem Bool}{Q : Value × List Value -> Shared -> Prop}(I : Inv X pins σ H s)(e : H a = some (.ins C dx fs))(c : hJ X.K C)(k : Meth X.K C m g)(l : fs.lookup m = none)
    (h : Q (.ref g, [.ref a]) s):wpAny (model X.prog X.w) A (getMethod (.ref a) m pl) Q E s := by
  obtain ⟨mA, O, r, _, _, _⟩ := lA I.bc e;have hn : mA m = none := jh.none_of (by rw [<- l];exact r m);exact wR I.jz O (c.get m) k.at_ k.fn hn h
theorem mF {y : V}{u : Value}{Q : Unit -> Shared -> Prop}(I : Inv X pins σ H s)(e : H a = some (.ins C dx fs))(c : hJ X.K C)(n : ee X.K C f)(hl : fs.length < 1000)(ry : RelV y u)
    (h : ∀ s', Inv X pins σ (upd H a (.ins C dx (gk f y fs))) s' -> Q () s'):wpAny (model X.prog X.w) A (setAttr (.ref a) f u) Q E s := by
  obtain ⟨mA, O, r, wi, _, ho⟩ := lA I.bc e;have hz : (fs.map (·.1)).length <= sizeLine := by rw [length_map, sizeLine_eq];lia
  refine zu I.jz O c.sa c.po n.C4 c.hd wi hz λh' O' sb => h _ ?_;have hd : ∃ o, h'.get? dx = some o := let ⟨o, _, _, e', _⟩ := O'.ns;⟨o, e'⟩
  refine I.write (x := a) (e := dx) (by rw [e];exact True.intro) (.inr ho) (λb q hb z => (sb.2 b hb).trans z) hd ?_;refine ⟨by rw [ah O.ne];exact ho, ?_, O.ne, O'.obj, _, O'.ns, λg => ?_, λg hg => ?_⟩
  · have := kJ f y fs;lia
  · show jh ((gk f y fs).lookup g) (if g = f then some u else mA g);rw [kL];by_cases q : g = f
    · rw [if_pos q, if_pos q];exact ry
    · rw [if_neg q, if_neg q];exact r g
  · by_cases q : g = f
    · rw [q];exact (kf f y fs).1
    · refine (kf f y fs).2 g (wi g λz => hg ?_);show (if g = f then some u else mA g) = none;rw [if_neg q];exact z
theorem Inv.made (I : Inv X pins σ H s):Inv X pins σ (upd (upd H s.heap.objs.size (.own (s.heap.objs.size + 1))) (s.heap.objs.size + 1) (.ins C s.heap.objs.size []))
    { s with heap := (s.heap.push PySem.W.emptyDict).push (instObj C s.heap.objs.size) } := by
  have e1 : (s.heap.push PySem.W.emptyDict).get? s.heap.objs.size = some PySem.W.emptyDict := Heap.get?_push_size s.heap rfl;have e2 : ((s.heap.push PySem.W.emptyDict).push (instObj C s.heap.objs.size)).get? (s.heap.objs.size + 1) = some (instObj C s.heap.objs.size) := by
    have := Heap.get?_push_size (s.heap.push PySem.W.emptyDict) (o := instObj C s.heap.objs.size) rfl
    rwa [Heap.size_push] at this
  have e3 : (s.heap.push PySem.W.emptyDict).Ns s.heap.objs.size (λ_ => none) := ⟨PySem.W.emptyDict, #[], _, e1, rfl, (λe he => absurd he (by simp)), λ_ => rfl⟩
  have I1 := I.laid (a := s.heap.objs.size) (o := .own (s.heap.objs.size + 1)) (h' := s.heap.push PySem.W.emptyDict) (t' := s.toks) (λb u q => Heap.get?_push_of_some _ q) (Nat.le_refl _) ⟨_, e1⟩;refine I1.laid (a := s.heap.objs.size + 1) (o := .ins C s.heap.objs.size []) (t' := s.toks) (λb u q => Heap.get?_push_of_some _ q) (Nat.le_of_eq (Heap.size_push _ _)) ?_;have ne : s.heap.objs.size ≠ s.heap.objs.size + 1 := Nat.ne_of_lt (Nat.lt_succ_self _);refine ⟨by rw [ah ne, aq], Nat.zero_le _, ne, e2, λ_ => none, (Heap.Ns1.of_empty e3).at λo q => Heap.get?_push_of_some _ q, λ_ => True.intro, λy hy => absurd rfl hy⟩
theorem yn {prog : Program}{w : World}{env : Env}{e : Expr}{f : Str}{pos : Pos}{s : Shared}{Q : Value -> Shared -> Prop}(hb : attributeBase e f env (eval e env) = eval e env)
    (h : wpAny (model prog w) A (eval e env) (λo s₁ => wpAny (model prog w) A (getAttr o f true) Q E s₁) E s):wpAny (model prog w) A (eval (.Attribute e f pos) env) Q E s :=
  Attribute_any_ h (by rw [arm_eval_Attribute, hb])
end
noncomputable def CU (K : Frag)(ta : TE)(f : Str):TE := λσ H Q => ta σ H λx H1 => ∃ a C dx fs v, x = .ref a /\ H1 a = some (.ins C dx fs) /\ hJ K C /\ ee K C f /\ fs.lookup f = some v /\ Q v H1
noncomputable def Eb (K : Frag)(ta tv : TE)(f : Str):TS := λD σ H => tv σ H λy H1 => ta σ H1 λx H2 => ∃ a C dx fs, x = .ref a /\ H2 a = some (.ins C dx fs) /\ hJ K C /\ ee K C f /\ fs.length < 1000 /\
  D.nx σ (upd H2 a (.ins C dx (gk f y fs)))
noncomputable def BI (X : Cx)(op : Operator)(rd : V -> V -> Hp -> VK -> Prop):Prop :=
  ∀ (pins : List (Addr × Obj)) (s : Shared) (σ : St) (H : Hp) (x y : V) (u v : Value) (Q : VK), Inv X pins σ H s -> RelV x u -> RelV y v -> rd x y H Q -> wpAny (model X.prog X.w) X.A (inplaceOp op u v) (EP X pins σ Q) X.xe s
noncomputable def zt (K : Frag)(ta tv : TE)(rd : V -> V -> Hp -> VK -> Prop)(f : Str):TS := λD σ H => ta σ H λx H1 => ∃ a C dx fs v, x = .ref a /\ H1 a = some (.ins C dx fs) /\ hJ K C /\ ee K C f /\ fs.lookup f = some v /\
  tv σ H1 λy H2 => rd v y H2 λz H3 => ∃ dx' fs', H3 a = some (.ins C dx' fs') /\ fs'.length < 1000 /\ D.nx σ (upd H3 a (.ins C dx' (gk f z fs')))
section
variable {X : Cx} {o e value : Expr} {f : Str} {pos pos' tpos : Pos} {ta tv : TE}
theorem gj (he : PE X e ta)(hb : attributeBase e f X.env (eval e X.env) = eval e X.env):PE X (.Attribute e f pos) (CU X.K ta f) := by
  intro pins s σ H Q I h;refine yn hb (cz (he pins s σ H _ I h) ?_);rintro u s1 ⟨x, H1, I1, rx, a, C, dx, fs, v, ex, ea, c, n, l, q⟩;subst ex;obtain rfl : u = Value.ref a := rx;exact lZ I1 ea c n l λu' s2 I2 ru => ⟨v, H1, I2, ru, q⟩
theorem pB (ha : PE X o ta)(hv : PE X value tv)(hs : swapsWith value (some (.Attribute o f pos')) pos.line X.env = pure false):PS X (.Assign [.Attribute o f pos'] value pos) (Eb X.K ta tv f) := by
  intro pins s σ H D I h;refine plainObj_wpAny_Assign_Attribute (cz (hv pins s σ H _ I h) λu s1 ⟨y, H1, I1, ry, q⟩ => cz (ha pins s1 σ H1 _ I1 q) ?_) hs;rintro ov s2 ⟨x, H2, I2, rx, a, C, dx, fs, ex, ea, c, n, l, q2⟩;subst ex;obtain rfl : ov = Value.ref a := rx;exact mF I2 ea c n l ry λs3 I3 => ⟨σ, _, I3, q2⟩
theorem vB {op : Operator}{rd : V -> V -> Hp -> VK -> Prop}(ha : PE X o ta)(hv : PE X value tv)(hop : BI X op rd):PS X (.AugAssign (.Attribute o f tpos) op value pos) (zt X.K ta tv rd f) := by
  intro pins s σ H D I h;refine wpAny_AugAssign_AttributeAny (cz (ha pins s σ H _ I h) ?_);rintro ov s1 ⟨x, H1, I1, rx, a, C, dx, fs, v, ex, ea, c, n, l, q⟩;subst ex;obtain rfl : ov = Value.ref a := rx;refine lZ I1 ea c n l λu s2 I2 ru => cz (hv pins s2 σ H1 _ I2 q) λw3 s3 ⟨y, H2, I3, ry, q3⟩ => cz (hop pins s3 σ H2 v y u w3 _ I3 ru ry q3) ?_;rintro w4 s4 ⟨z, H3, I4, rz, dx', fs', ea', l', q4⟩;exact mF I4 ea' c n l' rz λs5 I5 => ⟨σ, _, I5, q4⟩
noncomputable def D4 : V -> V -> Hp -> VK -> Prop := λx y H Q => ∃ i j, x = .int i /\ y = .int j /\ Q (.int (i + j)) H
theorem AA : BI X .Add D4 := by
  rintro pins s σ H x y u v Q I rx ry ⟨i, j, rfl, rfl, q⟩;obtain ⟨t, rfl⟩ := (show ∃ t, u = Value.int i t from rx)
  obtain ⟨t', rfl⟩ := (show ∃ t', v = Value.int j t' from ry)
  exact PyProof.Rows.iadd_int ⟨.int (i + j), H, I.tok _, ⟨_, rfl⟩, q⟩
theorem zO {pl : Sem Bool}{m : Str}{apos : Pos}{args : List Expr}{pins : List (Addr × Obj)}{s : Shared}{σ : St}{H : Hp}{Q : Value -> Shared -> Prop}{te : TE}(he : PE X e te)(I : Inv X pins σ H s)
    (h : te σ H λx H1 => ∃ a C dx fs g, x = .ref a /\ H1 a = some (.ins C dx fs) /\ hJ X.K C /\ Meth X.K C m g /\ fs.lookup m = none /\
      ∀ s1, Inv X pins σ H1 s1 -> wpAny (model X.prog X.w) X.A (callWith pos (.ref g) [.ref a] (backTo pos (starEach args X.env)) (backToKw pos (keywordEach [] X.env))) Q X.xe s1)
    (ht : eval (.Call (.Attribute e m apos) args [] pos) X.env = (do
      let ov <- eval e X.env
      standAt apos.atName
      let (f, first) <- holding [ov] (getMethod ov m pl)
      callWith pos f first (backTo pos (starEach args X.env)) (backToKw pos (keywordEach [] X.env)))) :
    wpAny (model X.prog X.w) X.A (eval (.Call (.Attribute e m apos) args [] pos) X.env) Q X.xe s := by
  refine PySem.W.methodCall_KW (pl := pl) (cz (he pins s σ H _ I h) ?_) ht;rintro u s1 ⟨x, H1, I1, rx, a, C, dx, fs, g, ex, ea, c, k, l, q⟩;subst ex;obtain rfl : u = Value.ref a := rx;exact jn I1 ea c k l (q s1 I1)
end
section
variable {X : Cx} {pins : List (Addr × Obj)} {σ : St} {H : Hp} {s : Shared} {A : Around} {E : Value -> Shared -> Prop} {Q : Value -> Shared -> Prop} {c : Value} {b : Bool}
inductive kS (K : Frag)(H : Hp):V -> Value -> Prop where
  | non : kS K H .non (.type "NoneType")
  | bl (x : Bool):kS K H (.bl x) (.type "bool")
  | int (i : Int):kS K H (.int i) (.type "int")
  | str (x : Str):kS K H (.str x) (.type "str")
  | flt (x : UInt64):kS K H (.flt x) (.type "float")
  | lst {a : Addr} {xs : List V} (e : H a = some (.lst xs)):kS K H (.ref a) (.type "list")
  | cq {a : Addr} {o : Obj} {xs : List V} (e : H a = some (.cq o (.lst xs))):kS K H (.ref a) (.type "list")
  | tup {a : Addr} {xs : List V} (e : H a = some (.tup xs)):kS K H (.ref a) (.type "tuple")
  | dK {a : Addr} {kvs : List (Key × V)} (e : H a = some (.dK kvs)):kS K H (.ref a) (.type "dict")
  | dT {a : Addr} {kvs : List (List Key × V)} (e : H a = some (.dT kvs)):kS K H (.ref a) (.type "dict")
  | ins {a C dx : Addr} {fs : List (Str × V)} (e : H a = some (.ins C dx fs)) (cl : hJ K C) (ha : PySem.W.findIn K (.ref C) "__class__" = some (some (.builtin "object.__class__")))
      (hn : PySem.W.specialIn K (.builtin "object.__class__") "__get__" = some (some (.builtin "getset_descriptor.__get__"))) (htk : PySem.W.takesIn K (.builtin "object.__class__") = some true)
      (hm : PySem.W.mroIn K C (.type "object") = some true):kS K H (.ref a) (.ref C)
theorem iP {x : V}{u t : Value}(I : Inv X pins σ H s)(rx : RelV x u)(ty : kS X.K H x t)(e : kitOne X.K t c = some b)(h : ∀ tk, Q (.bool b) { s with toks := tk }) :
    wpAny (model X.prog X.w) A (call (.builtin "isinstance") [u, c]) Q E s := by
  cases ty with
  | non => cases (show u = Value.none from rx);exact kia_one PySem.W.kitx_none I.jz True.intro e (λz => nomatch z) h
  | bl y => cases (show u = Value.bool y from rx);exact kia_one PySem.W.kitx_bool I.jz True.intro e (λz => nomatch z) h
  | int i => obtain ⟨t, q⟩ := (show ∃ t, u = Value.int i t from rx);cases q;exact kia_one PySem.W.kitx_int I.jz True.intro e (λz => nomatch z) h
  | str y => obtain ⟨t, q⟩ := (show ∃ t, u = Value.str y t from rx);cases q;exact kia_one PySem.W.kitx_str I.jz True.intro e (λz => nomatch z) h
  | flt y => obtain ⟨t, q⟩ := (show ∃ t, u = Value.float y t from rx);cases q;exact kia_one PySem.W.kitx_float I.jz True.intro e (λz => nomatch z) h
  | @lst a xs ea =>
    cases (show u = Value.ref a from rx);obtain ⟨_, _, n, _, h1⟩ := (show bM X.prog X.w H s.heap a (.lst xs) from I.bc a _ ea)
    exact kia_one kitx_list I.jz ⟨_, h1, rfl⟩ e (λz => nomatch z) h
  | @cq a ob xs ea =>
    cases (show u = Value.ref a from rx);obtain ⟨_, _, _, n, _, h1⟩ := (show bM X.prog X.w H s.heap a (.cq ob (.lst xs)) from I.bc a _ ea)
    exact kia_one kitx_list I.jz ⟨_, h1, rfl⟩ e (λz => nomatch z) h
  | @tup a xs ea =>
    cases (show u = Value.ref a from rx);obtain ⟨_, _, _, p⟩ := (show bM X.prog X.w H s.heap a (.tup xs) from I.bc a _ ea)
    obtain ⟨o, h1, h2, _⟩ := p;exact kia_one kitx_tuple I.jz ⟨o, h1, h2⟩ e (λz => nomatch z) h
  | @dK a kvs ea =>
    cases (show u = Value.ref a from rx);obtain ⟨_, _, vs, _, p⟩ := (show bM X.prog X.w H s.heap a (.dK kvs) from I.bc a _ ea)
    obtain ⟨o, es, ep, h1, h2, _⟩ := p;exact kia_one kitx_dict I.jz ⟨o, h1, h2.1⟩ e (λz => nomatch z) h
  | @dT a kvs ea =>
    cases (show u = Value.ref a from rx);obtain ⟨_, _, xs, _, o, es, ep, h1, h2, _⟩ := (show bM X.prog X.w H s.heap a (.dT kvs) from I.bc a _ ea)
    exact kia_one kitx_dict I.jz ⟨o, h1, h2.1⟩ e (λz => nomatch z) h
  | @ins a C dx fs ea cl ha hn htk hm =>
    cases (show u = Value.ref a from rx);obtain ⟨mA, O, _⟩ := lA I.bc ea;obtain ⟨od, J, _⟩ := O.look;exact kia_one (PySem.W.kitx_own (cl.get _) cl.hd ha hn htk hm) I.jz J e (λz => nomatch z) h
end
end L2
namespace L2
open PySem PySem.Spec PyProof.Rows
structure cZ (k : Nat)(A : Around):Prop where
  hd : A.handled = none
  dp : A.depth + 3 * k + 5 < recursionLimit
  un : A.units + 16 * k + 200 < cLine
  gs : A.guards = some []
theorem cZ.mono {j k : Nat}{A : Around}(r : cZ k A)(h : j <= k):cZ j A := ⟨r.hd, by have := r.dp;lia, by have := r.un;lia, r.gs⟩
theorem cZ.deeper {k : Nat}{A : Around}(r : cZ (k + 1) A)(env : Env):cZ k (A.deeper env) :=
  ⟨r.hd, by have := r.dp;show A.depth + 1 + 3 * k + 5 < _;lia, by have := r.un;show A.units + 3 + 16 * k + 200 < _;lia, r.gs⟩
theorem sA {A : Around}{C : Addr}{us : List Value}{kw : List (Str × Value)}:(A.under (.builtin "type.__call__" ⟨.ref C :: us, kw⟩)).depth = A.depth + 1 := by
  first | rfl | simp [Around.under, Code.weight, Code.isCreation, Code.isGuard, Code.isCaller, Code.frames, Code.isFrame, guardIds]
theorem sC {A : Around}{C : Addr}{us : List Value}{kw : List (Str × Value)}:(A.under (.builtin "type.__call__" ⟨.ref C :: us, kw⟩)).units = A.units + 1 := by
  first | rfl | simp [Around.under, Code.cUnits, Code.frames, Code.isFrame]
theorem cZ.make {k : Nat}{A : Around}(r : cZ (k + 1) A)(C : Addr)(us : List Value)(kw : List (Str × Value)):cZ k (A.under (.builtin "type.__call__" ⟨.ref C :: us, kw⟩)) :=
  ⟨r.hd, by have := r.dp;rw [sA];lia, by have := r.un;rw [sC];lia, by have := r.gs;simp [Around.under, Code.guards, Code.isGuard, guardIds, pushGuards, this]⟩
theorem cZ.depth {k : Nat}{A : Around}(r : cZ k A):A.depth < recursionLimit := by have := r.dp;lia
theorem cZ.units {k : Nat}{A : Around}(r : cZ k A):A.units + 64 < cLine := by have := r.un;lia
noncomputable def vG : TA := λ_ H Q => Q [] H
noncomputable def CQ (ta : TE)(tr : TA):TA := λσ H Q => ta σ H λx H1 => tr σ H1 λxs H2 => Q (x :: xs) H2
section
variable {X : Cx} {e : Expr} {es : List Expr} {te : TE} {t : TA} {pos : Pos}
theorem aY : PA X [] vG := λ_ _ _ _ H Q I h => Calls.spliced_nil ⟨[], H, I, .nil, h⟩
theorem au (ha : PE X e te)(hr : PA X es t)(hs :autoParam (starEach (e :: es) X.env = (false, eval e X.env) :: starEach es X.env) aZa._auto_1):PA X (e :: es) (CQ te t) := by
  intro pos pins s σ H Q I h;rw [hs];show wpAny _ _ (spliced ((false, eval e X.env) :: backTo pos (starEach es X.env))) _ _ s;refine Calls.spliced_cons (cz (ha pins s σ H _ I h) ?_);rintro u s1 ⟨x, H1, I1, r1, q1⟩;exact cz (hr pos pins s1 σ H1 _ I1 q1) (by rintro us s2 ⟨xs, H2, I2, r2, q2⟩;exact ⟨x :: xs, H2, I2, .cons r1 r2, q2⟩)
noncomputable def Ek (t : TA):TE := λσ H Q => t σ H λxs H1 => xs.length <= sizeLine /\ ∀ p, H1 p = none -> Q (.ref p) (upd H1 p (.tup xs))
noncomputable def Eh (t : TA):TE := λσ H Q => t σ H λxs H1 => xs.length <= sizeLine /\ ∀ p, H1 p = none -> Q (.ref p) (upd H1 p (.lst xs))
theorem jt {x1}(h : PA X es t):PE X (.Tuple es x1 pos) (Ek t) := by
  intro pins s σ H Q I hq;refine wpAny_Tuple_spliced (cz (h pos pins s σ H _ I hq) λus s1 ⟨xs, H1, I1, r, z, q⟩ => ⟨by rw [<- r.length];exact z, ?_⟩);have hf : H1 s1.heap.objs.size = none := I1.bc.fresh (Nat.le_refl _);refine ⟨.ref s1.heap.objs.size, upd H1 s1.heap.objs.size (.tup xs), I1.laid (t' := s1.toks) (λb u e => Heap.get?_push_of_some _ e) (Nat.le_refl _) ?_, rfl, q _ hf⟩;exact ⟨z, us, r, ⟨_, Heap.get?_push_size _ rfl, rfl, _, rfl⟩⟩
theorem xx (h : PA X es t):PE X (.List es pos) (Eh t) := by
  intro pins s σ H Q I hq;refine wpAny_List_spliced (cz (h pos pins s σ H _ I hq) λus s1 ⟨xs, H1, I1, r, z, q⟩ => ⟨by rw [<- r.length];exact z, ?_⟩);have hf : H1 s1.heap.objs.size = none := I1.bc.fresh (Nat.le_refl _);refine ⟨.ref s1.heap.objs.size, upd H1 s1.heap.objs.size (.lst xs), I1.laid (t' := s1.toks) (λb u e => Heap.get?_push_of_some _ e) (Nat.le_refl _) ?_, rfl, q _ hf⟩;exact ⟨z, us, 0, r, Heap.get?_push_size _ rfl⟩
end
noncomputable abbrev Sp := List V -> Hp -> VK -> XK -> Prop
noncomputable abbrev rR := List Env -> Hp -> Shared -> XK -> Value -> Shared -> Prop
structure rU (P : Program)(w : World)(K : Frag)(mg : Str -> Option Value)(base : Heap)(A : Around)(outer : List Env)(s : Shared)(H : Hp):Prop where
  frames : A.frames = some outer
  mod : Mod K mg base
  bs : ∀ b o, base.get? b = some o -> s.heap.get? b = some o /\ H b = none
  yq : base.objs.size <= s.heap.objs.size
  kT : s.heap.FunFrames base outer
  Ay : ∀ b ∈ jy outer, H b = none
  bc : g6 P w H s.heap
  bare : AllBare s.gens
noncomputable def CE (outer : List Env)(P : Program)(w : World)(H : Hp)(s : Shared)(Q : VK)(u : Value)(s' : Shared):Prop :=
  ∃ v H', s'.os = s.os /\ AllBare s'.gens /\ Un (jy outer) [] H H' s.heap s'.heap /\ g6 P w H' s'.heap /\ RelV v u /\ Q v H'
noncomputable def CR (CX : rR)(outer : List Env)(P : Program)(w : World)(H : Hp)(s : Shared)(Q : VK)(E : XK)(r : Result)(s' : Shared):Prop :=
  match r with
  | .ok (.ret u) => CE outer P w H s Q u s'
  | .ok _ => False
  | .error e => CX outer H s E e s'
structure aM (P : Program)(w : World)(K : Frag)(mg : Str -> Option Value)(base : Heap)(CX : rR)(k : Nat)(f : Addr)(fd : FuncData)(ps : List Str)(sp : Sp):Prop where
  len : ∀ vs H Q E, sp vs H Q E -> vs.length = ps.length
  run : ∀ (A : Around) (outer : List Env) (s : Shared) (H : Hp) (args : Args) (us : List Value) (vs : List V) (Q : VK) (E : XK), cZ k A -> rU P w K mg base A outer s H -> BindsTo s fd args (ps.zip us) -> Vals vs us -> sp vs H Q E ->
    codeAny (model P w) A (.call (.ref f) args) (CR CX outer P w H s Q E) s
theorem aM.imp {P : Program}{w : World}{K : Frag}{mg : Str -> Option Value}{base : Heap}{CX : rR}{k : Nat}{f : Addr}{fd : FuncData}{ps : List Str}{sp sp' : Sp}(F : aM P w K mg base CX k f fd ps sp)
    (h : ∀ vs H Q E, sp' vs H Q E -> sp vs H Q E):aM P w K mg base CX k f fd ps sp' :=
  ⟨λvs H Q E q => F.len vs H Q E (h _ _ _ _ q), λA outer s H args us vs Q E hr he hb hv hs => F.run A outer s H args us vs Q E hr he hb hv (h _ _ _ _ hs)⟩
theorem rU.make {P : Program}{w : World}{K : Frag}{mg : Str -> Option Value}{base : Heap}{A : Around}{outer : List Env}{s : Shared}{H : Hp}(e : rU P w K mg base A outer s H)(C : Addr)(us : List Value)(kw : List (Str × Value)) :
    rU P w K mg base (A.under (.builtin "type.__call__" ⟨.ref C :: us, kw⟩)) outer s H := ⟨by first | exact e.frames | (simpa [Around.under, Code.envs, Code.isFrame, pushEnvs] using e.frames), e.mod, e.bs, e.yq, e.kT, e.Ay, e.bc, e.bare⟩
section
variable {X : Cx} {pins : List (Addr × Obj)} {σ : St} {H : Hp} {s s' : Shared}
theorem Inv.B1 (I : Inv X pins σ H s):rU X.prog X.w X.K X.mg X.base X.A X.stack s H :=
  ⟨I.ok.frames, I.ok.mod, I.bs, Nat.le_trans I.ok.yq I.sz, I.stack, I.pL, I.bc, I.bare⟩
theorem Inv.after {Q : VK}{u : Value}(I : Inv X pins σ H s)(h : CE X.stack X.prog X.w H s Q u s'):EP X pins σ Q u s' := by
  obtain ⟨v, H', os, bare, un, bc, r, q⟩ := h;obtain ⟨hh, g, d, t, os'⟩ := s';obtain rfl : os' = s.os := os;exact ⟨v, H', I.call (h' := hh) (g' := g) (d' := d) (t' := t) (ch := []) un bc bare (λb z => absurd z (by simp)), r, q⟩
end
noncomputable def xW (sp : Sp)(dvs : List V)(E : XK)(t : TA):TE := λσ H Q => t σ H λvs H1 => sp (vs ++ dvs) H1 Q E
noncomputable def xX (C : Addr)(m : Str)(sp : Sp)(dvs : List V)(E : XK)(ta : TE)(t : TA):TE := λσ H Q => ta σ H λx H1 => ∃ a dx fs, x = .ref a /\ H1 a = some (.ins C dx fs) /\ fs.lookup m = none /\
  t σ H1 λvs H2 => sp (x :: (vs ++ dvs)) H2 Q E
noncomputable def CW (C : Addr)(sp : Sp)(dvs : List V)(E : XK)(t : TA):TE := λσ H Q => t σ H λvs H1 => ∀ x dx, H1 x = none -> H1 dx = none -> dx ≠ x ->
  sp (.ref x :: (vs ++ dvs)) (upd (upd H1 dx (.own x)) x (.ins C dx [])) (λv H2 => v = .non /\ Q (.ref x) H2) E
noncomputable def Binds (K : Frag)(fd : FuncData)(ps : List Str)(ds : List Value):Prop :=
  ∀ (s : Shared) (us : List Value), K.In s.heap -> (us ++ ds).length = ps.length -> BindsTo s fd ⟨us, []⟩ (ps.zip (us ++ ds))
theorem Binds.all {K : Frag}{fd : FuncData}{ps : List Str}(h : ∀ us : List Value, us.length = ps.length -> bindArgs fd ⟨us, []⟩ = pure (ps.zip us)):Binds K fd ps [] := λs us _ hl => by
  rw [append_nil] at hl ⊢;exact .of_eq (h us hl)
noncomputable def Passes (CX : rR)(X : Cx)(E : XK):Prop := ∀ (pins : List (Addr × Obj)) (σ : St) (H : Hp) (s : Shared) (e : Value) (s' : Shared), Inv X pins σ H s -> CX X.stack H s E e s' -> X.xe e s'
section
variable {X : Cx} {CX : rR} {k : Nat} {f C : Addr} {fd : FuncData} {ps : List Str} {sp : Sp} {dvs : List V} {ds : List Value} {E : XK} {x m : Str} {p pos apos : Pos} {e o : Expr} {es : List Expr} {ta : TE} {t : TA}
theorem sU {pins : List (Addr × Obj)}{σ : St}{H : Hp}{s : Shared}{Q : VK}{us : List Value}{vs : List V}(F : aM X.prog X.w X.K X.mg X.base CX k f fd ps sp)(hr : cZ k X.A)(hb : Binds X.K fd ps ds)(hd : Vals dvs ds)(hx : Passes CX X E)
    (I : Inv X pins σ H s) (r : Vals vs us) (h : sp (vs ++ dvs) H Q E):wpAny (model X.prog X.w) X.A (call (.ref f) us) (EP X pins σ Q) X.xe s := by
  have r2 : Vals (vs ++ dvs) (us ++ ds) := r.append hd;have hl : (us ++ ds).length = ps.length := by rw [<- r2.length];exact F.len _ _ _ _ h
  refine wpAny_call (codeAny_mono (F.run X.A X.stack s H ⟨us, []⟩ (us ++ ds) (vs ++ dvs) Q E hr I.B1 (hb s us I.jz hl) r2 h) λr s' hq => ?_);cases r with
  | error e => exact hx pins σ H s e s' I hq
  | ok fl =>
    cases fl with
    | ret u => exact I.after hq
    | next => exact False.elim hq
    | brk => exact False.elim hq
    | cont => exact False.elim hq
theorem uy (F : aM X.prog X.w X.K X.mg X.base CX k f fd ps sp)(hr : cZ k X.A)(hg : Gl X x)(hm : X.mg x = some (.ref f))(hk : keepIn X.K (.ref f) = true)(hb : Binds X.K fd ps ds)(hd : Vals dvs ds)(hx : Passes CX X E)
    (ha : PA X (e :: es) t) (hdb :autoParam ((x == ("__debug__" : Str)) = false) aZb._auto_1) (he :autoParam (starEach (e :: es) X.env = (false, eval e X.env) :: starEach es X.env) aZa._auto_1) (hpl :autoParam ((backTo pos (starEach es X.env)).any (·.1) = false) aZa._auto_1) :
    PE X (.Call (.Name x p) (e :: es) [] pos) (xW sp dvs E t) := by
  intro pins s σ H Q I h;refine wpAny_Call_Name_kw (lB I hg hm ?_ hdb);refine PySem.W.callWith_K (h₀ := X.base) I.ok.mod.BC hk (cz (ha pos pins s σ H _ I h) λus s1 ⟨vs, H1, I1, r, q⟩ => ⟨I1.jz, ?_⟩) he hpl;exact sU F hr hb hd hx I1 r q
theorem eA {pl : Sem Bool}(he : PE X o ta)(c : hJ X.K C)(hm : Meth X.K C m f)(F : aM X.prog X.w X.K X.mg X.base CX k f fd ps sp)(hr : cZ k X.A)(hb : Binds X.K fd ps ds)(hd : Vals dvs ds)(hx : Passes CX X E)(ha : PA X (e :: es) t)
    (hst :autoParam (starEach (e :: es) X.env = (false, eval e X.env) :: starEach es X.env) aZa._auto_1) (hpl :autoParam ((backTo pos (starEach es X.env)).any (·.1) = false) aZa._auto_1)
    (ht :autoParam (eval (.Call (.Attribute o m apos) (e :: es) [] pos) X.env = (do
      let ov <- eval o X.env
      standAt apos.atName
      let (f, first) <- holding [ov] (getMethod ov m pl)
      callWith pos f first (backTo pos (starEach (e :: es) X.env)) (backToKw pos (keywordEach [] X.env)))) aZa._auto_1) :
    PE X (.Call (.Attribute o m apos) (e :: es) [] pos) (xX C m sp dvs E ta t) := by
  intro pins s σ H Q I h;refine PySem.W.methodCall_KW (pl := pl) (cz (he pins s σ H _ I h) ?_) ht;rintro u s1 ⟨x, H1, I1, rx, a, dx, fs, ex, ea, l, q⟩;subst ex;obtain rfl : u = Value.ref a := rx;refine jn I1 ea c hm l ?_;refine PySem.W.callWith_K (first := [.ref a]) (h₀ := X.base) I.ok.mod.BC hm.kp (cz (ha pos pins s1 σ H1 _ I1 q) λus s2 ⟨vs, H2, I2, r, q2⟩ => ⟨I2.jz, ?_⟩) hst hpl;exact sU (us := .ref a :: us) (vs := .ref a :: vs) F hr hb hd hx I2 (.cons rfl r) q2
theorem xy {pl : Sem Bool}(he : PE X o ta)(c : hJ X.K C)(hm : Meth X.K C m f)(F : aM X.prog X.w X.K X.mg X.base CX k f fd ps sp)(hr : cZ k X.A)(hb : Binds X.K fd ps ds)(hd : Vals dvs ds)(hx : Passes CX X E)
    (ht :autoParam (eval (.Call (.Attribute o m apos) [] [] pos) X.env = (do
      let ov <- eval o X.env
      standAt apos.atName
      let (f, first) <- holding [ov] (getMethod ov m pl)
      callWith pos f first (backTo pos (starEach [] X.env)) (backToKw pos (keywordEach [] X.env)))) aZa._auto_1) :
    PE X (.Call (.Attribute o m apos) [] [] pos) (xX C m sp dvs E ta vG) := by
  intro pins s σ H Q I h;refine PySem.W.methodCall_KW (pl := pl) (cz (he pins s σ H _ I h) ?_) ht;rintro u s1 ⟨x, H1, I1, rx, a, dx, fs, ex, ea, l, q⟩;subst ex;obtain rfl : u = Value.ref a := rx;refine jn I1 ea c hm l ?_;exact PySem.W.callWith_K0 (first := [.ref a]) I1.jz hm.kp (sU (us := [.ref a]) (vs := [.ref a]) F hr hb hd hx I1 (.cons rfl .nil) q)
structure Mk (K : Frag)(C f : Addr):Prop where
  makes : PySem.W.makesIn K C = true
  init : PySem.W.findIn K (.ref C) "__init__" = some (some (.ref f))
  fn : isFn K (.ref f) = true
  kp : keepIn K (.ref C) = true
theorem xR {pins : List (Addr × Obj)}{σ : St}{H : Hp}{s : Shared}{Q : VK}{us : List Value}{vs : List V}(M : Mk X.K C f)(F : aM X.prog X.w X.K X.mg X.base CX k f fd ps sp)(hr : cZ (k + 1) X.A)(hb : Binds X.K fd ps ds)(hd : Vals dvs ds)
    (hx : Passes CX X E) (I : Inv X pins σ H s) (r : Vals vs us)
    (h : ∀ x dx, H x = none -> H dx = none -> dx ≠ x -> sp (.ref x :: (vs ++ dvs)) (upd (upd H dx (.own x)) x (.ins C dx [])) (λv H2 => v = .non /\ Q (.ref x) H2) E) :
    wpAny (model X.prog X.w) X.A (call (.ref C) us) (EP X pins σ Q) X.xe s := by
  have hq := h (s.heap.objs.size + 1) s.heap.objs.size (I.bc.fresh (Nat.le_succ _)) (I.bc.fresh (Nat.le_refl _)) (Nat.ne_of_lt (Nat.lt_succ_self _));have I2 := Inv.made (C := C) I;have r2 : Vals (V.ref (s.heap.objs.size + 1) :: (vs ++ dvs)) (Value.ref (s.heap.objs.size + 1) :: (us ++ ds)) := .cons rfl (r.append hd);have hl : (Value.ref (s.heap.objs.size + 1) :: us ++ ds).length = ps.length := by
    have e := r2.length;rw [F.len _ _ _ _ hq] at e;exact e.symm
  refine wpAny_call (xh (f := f) I.jz M.makes M.init (beq_iff_eq.mp M.fn) (codeAny_mono (F.run _ X.stack _ _ ⟨Value.ref (s.heap.objs.size + 1) :: us, []⟩ (Value.ref (s.heap.objs.size + 1) :: (us ++ ds)) _ _ E (hr.make C us [])
    (I2.B1.make C us []) (hb _ (Value.ref (s.heap.objs.size + 1) :: us) I2.jz hl) r2 hq) λr s' hq' => ?_))
  cases r with
  | error e => exact hx pins σ _ _ e s' I2 hq'
  | ok fl =>
    cases fl with
    | ret u =>
      obtain ⟨v, H', I3, rv, ev, q3⟩ := I2.after hq';subst ev;exact ⟨rv, ⟨V.ref (s.heap.objs.size + 1), H', I3, rfl, q3⟩⟩
    | next => exact False.elim hq'
    | brk => exact False.elim hq'
    | cont => exact False.elim hq'
theorem zc (M : Mk X.K C f)(F : aM X.prog X.w X.K X.mg X.base CX k f fd ps sp)(hr : cZ (k + 1) X.A)(hg : Gl X x)(hm : X.mg x = some (.ref C))(hb : Binds X.K fd ps ds)(hd : Vals dvs ds)(hx : Passes CX X E)
    (ha : PA X (e :: es) t) (hdb :autoParam ((x == ("__debug__" : Str)) = false) aZb._auto_1) (he :autoParam (starEach (e :: es) X.env = (false, eval e X.env) :: starEach es X.env) aZa._auto_1) (hpl :autoParam ((backTo pos (starEach es X.env)).any (·.1) = false) aZa._auto_1) :
    PE X (.Call (.Name x p) (e :: es) [] pos) (CW C sp dvs E t) := by
  intro pins s σ H Q I h;refine wpAny_Call_Name_kw (lB I hg hm ?_ hdb);refine PySem.W.callWith_K (h₀ := X.base) I.ok.mod.BC M.kp (cz (ha pos pins s σ H _ I h) λus s1 ⟨vs, H1, I1, r, q⟩ => ⟨I1.jz, ?_⟩) he hpl;exact xR M F hr hb hd hx I1 r q
end
section
variable {X : Cx} {CX : rR} {k : Nat} {f C : Addr} {fd : FuncData} {ps ks : List Str} {sp : Sp} {E : XK} {x m : Str} {p pos apos kpos : Pos} {e o : Expr} {es : List Expr} {kws : List Keyword} {te ta : TE} {t tk : TA} {nm : Option Str}
structure Ds (K : Frag)(fd : FuncData)(ps ks : List Str)(g : List Value -> List Value -> List Value)(gV : List V -> List V -> List V):Prop where
  to : ∀ (s : Shared) (us ws : List Value), K.In s.heap -> (g us ws).length = ps.length -> BindsTo s fd ⟨us, ks.zip ws⟩ (ps.zip (g us ws))
  rel : ∀ {vs : List V} {us : List Value} {zs : List V} {ws : List Value}, Vals vs us -> Vals zs ws -> Vals (gV vs zs) (g us ws)
variable {g : List Value -> List Value -> List Value} {gV : List V -> List V -> List V}
end
structure aF (N P : List Str)(sc : Scope):Prop where
  kind : sc.kind = .function
  co : sc.isCoroutine = false
  gen : sc.isGenerator = false
  nd : N.Nodup
  pre : N.take P.length = P
  par : ∀ x ∈ P, sc.names.lookup x = some .local \/ sc.names.lookup x = some .cell
  AN : ∀ y ∈ sc.names, y.2 ≠ .free
theorem nJ {kindOf : Str -> Option NameKind}{x : Str}:∀ {binds : List (Str × Value)} {m : Str -> Option Value}, (∀ v, (x, v) ∉ binds) -> bindL kindOf binds m x = m x
  | [], _, _ => rfl
  | (n, v) :: r, m, h => by
    unfold bindL;rw [nJ λw hw => h w (mem_cons_of_mem _ hw)];split
    · have : x ≠ n := by rintro rfl;exact h v mem_cons_self
      simp [this]
    · rfl
theorem nH {kindOf : Str -> Option NameKind}{x : Str}:∀ {binds : List (Str × Value)} {m : Str -> Option Value}, (∀ v, (x, v) ∉ binds) -> bindC kindOf binds m x = m x
  | [], _, _ => rfl
  | (n, v) :: r, m, h => by
    unfold bindC;rw [nH λw hw => h w (mem_cons_of_mem _ hw)];split
    · rfl
    · have : x ≠ n := by rintro rfl;exact h v mem_cons_self
      simp [this]
theorem nI {kindOf : Str -> Option NameKind}{x : Str}{v : Value}:∀ {P : List Str} {vs : List Value} {i : Nat} {m : Str -> Option Value}, P.Nodup -> P[i]? = some x -> vs[i]? = some v -> kindOf x = some .local ->
    bindL kindOf (P.zip vs) m x = some v
  | [], _, _, _, _, h, _, _ => by simp at h
  | _ :: _, [], _, _, _, _, h, _ => by simp at h
  | p :: P, w :: vs, 0, m, nd, h1, h2, hk => by
    simp at h1 h2;subst h1;subst h2;show bindL kindOf ((p, w) :: P.zip vs) m p = _;unfold bindL;rw [nJ λv hv => (nodup_cons.mp nd).1 (List.of_mem_zip hv).1, if_pos hk];simp
  | p :: P, w :: vs, i + 1, m, nd, h1, h2, hk => by
    show bindL kindOf ((p, w) :: P.zip vs) m x = _;unfold bindL;exact nI (i := i) (nodup_cons.mp nd).2 (by simpa using h1) (by simpa using h2) hk
theorem nG {kindOf : Str -> Option NameKind}{x : Str}{v : Value}:∀ {P : List Str} {vs : List Value} {i : Nat} {m : Str -> Option Value}, P.Nodup -> P[i]? = some x -> vs[i]? = some v -> kindOf x ≠ some .local ->
    bindC kindOf (P.zip vs) m x = some v
  | [], _, _, _, _, h, _, _ => by simp at h
  | _ :: _, [], _, _, _, _, h, _ => by simp at h
  | p :: P, w :: vs, 0, m, nd, h1, h2, hk => by
    simp at h1 h2;subst h1;subst h2;show bindC kindOf ((p, w) :: P.zip vs) m p = _;unfold bindC;rw [nH λv hv => (nodup_cons.mp nd).1 (List.of_mem_zip hv).1, if_neg hk];simp
  | p :: P, w :: vs, i + 1, m, nd, h1, h2, hk => by
    show bindC kindOf ((p, w) :: P.zip vs) m x = _;unfold bindC;exact nG (i := i) (nodup_cons.mp nd).2 (by simpa using h1) (by simpa using h2) hk
noncomputable def start (N : List Str)(vs : List V):St := vs.map some ++ List.replicate (N.length - vs.length) none
noncomputable def mU (CX : rR)(P : Program)(w : World)(K : Frag)(mg : Str -> Option Value)(base : Heap)(N : List Str)(qual : Str)(scope : Scope)(f : Addr)(cd : Value)(A : Around)(outer : List Env)(s : Shared)(H : Hp)(E : XK):Cx where
  prog := P
  w := w
  K := K
  mg := mg
  base := base
  A := A.deeper (envOfC qual scope s.heap.objs.size f cd)
  N := N
  s₀ := s
  H₀ := H
  env := envOfC qual scope s.heap.objs.size f cd
  outer := outer
  stack := envOfC qual scope s.heap.objs.size f cd :: outer
  ex := []
  calm := true
  fn := λ_ => true
  pn := []
  xe := λe s' => wpAny (model P w) (A.deeper (envOfC qual scope s.heap.objs.size f cd)) (leaving (envOfC qual scope s.heap.objs.size f cd) e) (λ_ s'' => CX outer H s E e s'') (λe' s'' => CX outer H s E e' s'') s'
theorem qh {sc : Scope}{n : Nat}{x : Str}(h : sc.names.lookup x = some .cell):∃ c, (cellsFrom n sc.names []).lookup x = some c := by
  have q := cellsFrom_some sc.names n [] (.inl h);exact Option.isSome_iff_exists.mp q
theorem vf {CX : rR}{P : Program}{w : World}{K : Frag}{mg : Str -> Option Value}{base : Heap}{N ps : List Str}{qual : Str}{scope : Scope}{f : Addr}{cd : Value}{A : Around}{outer : List Env}{s s1 : Shared}{H : Hp}{E : XK}{us : List Value}{vs : List V}
    (S : aF N ps scope) (hd : A.handled = none) (e0 : rU P w K mg base A outer s H) (hl : vs.length = ps.length) (r : Vals vs us)
    (x : InCallC s s.heap.objs.size (bindL (envOfC qual scope s.heap.objs.size f cd).kindOf (ps.zip us) λ_ => none) (cellsFrom (s.heap.objs.size + 1) scope.names []) (bindC (envOfC qual scope s.heap.objs.size f cd).kindOf (ps.zip us) λ_ => none) s1) :
    Inv (mU CX P w K mg base N qual scope f cd A outer s H E) [] (start N vs) H s1 := by
  have hpl : ps.length <= N.length := by have := congrArg List.length S.pre;rw [length_take] at this;lia
  obtain ⟨h1, tk, rfl, hk⟩ := x.done;have noA : ∀ b : Addr, b ∉ (mU CX P w K mg base N qual scope f cd A outer s H E).ex := λb z => absurd (show b ∈ ([]:List Addr) from z) (by simp);refine ⟨⟨e0.mod, S.kind, rfl, rfl, Nat.le_refl _, λy z c h1 h2 => ?_, λy hy => ?_, λy c _ h => ?_, λ_ => hd, Around.frames_deeper e0.frames, .inr ⟨rfl, rfl⟩, λb z => absurd z (noA b), e0.bs, e0.yq, λb _ _ => noA b, λb z => absurd z (noA b), e0.kT, e0.Ay⟩,
    rfl, e0.bare, Un.kept hk, ⟨_, x.toInCall.ns, λi y v h1 h2 h3 => ?_⟩, λy c h => ⟨_, x.cell y c h⟩, e0.bc.fresh (Nat.le_refl _), λy c h => ?_, λp hp => absurd (show p ∈ ([]:List (Addr × Obj)) from hp) (by simp), e0.bc.kept hk, ?_⟩
  · exact name_of_addr x.apart (PySem.mem_of_lookup h1) (PySem.mem_of_lookup h2)
  · have hy : scope.names.lookup y = some .cell \/ scope.names.lookup y = some .free := hy;rcases hy with hy | hy
    · exact qh hy
    · exact absurd rfl (S.AN _ (PySem.mem_of_lookup hy))
  · exact Nat.le_of_lt (x.above y c (PySem.mem_of_lookup h))
  · have hi : i < vs.length := by
      unfold start at h2;by_cases hi : i < vs.length
      · exact hi
      · rw [List.getElem?_append_right (by simpa using hi)] at h2;rw [List.getElem?_replicate] at h2;split at h2 <;> cases h2
    have ha : vs[i]? = some v := by
      unfold start at h2;rw [List.getElem?_append_left (by simpa using hi), getElem?_map] at h2;cases e : vs[i]? with
      | none => rw [e] at h2;cases h2
      | some a => rw [e] at h2;cases h2;rfl
    obtain ⟨u, hu, rv⟩ := r.get ha;have hp : ps[i]? = some y := by
      rw [<- S.pre, List.getElem?_take_of_lt (by lia)];exact h1
    have ndP : ps.Nodup := by rw [<- S.pre];exact S.nd.sublist (List.take_sublist _ _)
    refine ⟨u, rv, ?_⟩;rcases S.par y (mem_of_getElem? hp) with k | k
    · exact .inl ⟨k, nI ndP hp hu k⟩
    · obtain ⟨c, e⟩ := qh (n := s.heap.objs.size + 1) k;refine .inr ⟨.inl k, c, e, ?_⟩;have q := x.cell y c e;rw [nG ndP hp hu (by show scope.names.lookup y ≠ _;rw [k];decide)] at q;exact q
  · exact e0.bc.fresh (Nat.le_of_lt (x.above y c (PySem.mem_of_lookup h)))
  · unfold start;show _ = N.length;rw [length_append, length_map, List.length_replicate];lia
theorem zI {CX : rR}{P : Program}{w : World}{K : Frag}{mg : Str -> Option Value}{base : Heap}{k : Nat}{f : Addr}{name qual : Str}{params : Arguments}{body : List Stmt}{scope : Scope}{dV kV doc pm cdv ct oc : Value}{an od : Option Addr}
    {osl : Array (Option Value)} {N ps : List Str} {sp : Sp} (lk : K.lookup f = some ⟨oc, od, .func (fnOf name qual params body scope dV kV doc pm an cdv ct), osl⟩) (hcd : codeIn K cdv qual = true) (S : aF N ps scope)
    (len : ∀ vs H Q E, sp vs H Q E -> vs.length = ps.length)
    (hbody : ∀ (A : Around) (outer : List Env) (s : Shared) (H : Hp) (vs : List V) (Q : VK) (E : XK), cZ k (A.deeper (envOfC qual scope s.heap.objs.size f cdv)) -> sp vs H Q E ->
      ∃ t, mS (mU CX P w K mg base N qual scope f cdv A outer s H E) body t /\ t { nx := λ_ H' => Q .non H', rt := Q } (start N vs) H) :
    aM P w K mg base CX (k + 1) f (fnOf name qual params body scope dV kV doc pm an cdv ct) ps sp := by
  refine ⟨len, λA outer s H args us vs Q E hr e0 hb r hsp => ?_⟩;have hl := len _ _ _ _ hsp;have KX : K.In s.heap := e0.mod.BC.keeps λb o e => (e0.bs b o e).1;have lim : s.heap.NoLimit := e0.mod.nolimit.keeps λb o e => (e0.bs b o e).1;have hkind : ∀ y ∈ ps.zip us, scope.names.lookup y.1 = some .local \/ (scope.names.lookup y.1 = some .cell /\ ((cellsFrom (s.heap.objs.size + 1) scope.names []).lookup y.1).isSome = true) := by
    rintro ⟨n, v⟩ hy;rcases S.par n (List.of_mem_zip hy).1 with q | q
    · exact .inl q
    · exact .inr ⟨q, cellsFrom_some _ _ _ (.inl q)⟩
  refine codeAny_call_function hr.depth (KX _ _ lk) rfl S.co S.gen rfl (PySem.W.codeRec_of KX hcd) (hb _ _ _ _ ?_);refine wpAny_newFunctionEnv_cells S.kind hkind λenv he s1 x => ?_;subst he;refine ⟨lim.keeps x.toInCall.keep, codeAny_func ?_⟩;obtain ⟨t, ht, hq⟩ := hbody A outer s H vs Q E (hr.deeper _) hsp;have I : Inv (mU CX P w K mg base N qual scope f cdv A outer s H E) [] (start N vs) H s1 := vf S hr.hd e0 hl r x;refine wpAny_mono (ht [] s1 (start N vs) H _ I hq) (λfl s' hs => ?_) λe s' hs => hs;have fin : ∀ {σ' : St} {H' : Hp} {v : V} {u : Value}, Inv (mU CX P w K mg base N qual scope f cdv A outer s H E) [] σ' H' s' -> RelV v u -> Q v H' -> CE outer P w H s Q u s' :=
    λ{σ' H' v u} J rv q => ⟨v, H', J.os, J.bare, J.base, J.bc, rv, q⟩
  cases fl with
  | ret u =>
    obtain ⟨v, σ', H', J, rv, q⟩ := hs;exact fin J rv q
  | next =>
    obtain ⟨σ', H', J, q⟩ := hs;exact fin (v := V.non) (u := Value.none) J rfl q
  | brk =>
    obtain ⟨_, _, _, q⟩ := hs;exact False.elim q
  | cont =>
    obtain ⟨_, _, _, q⟩ := hs;exact False.elim q
end L2
namespace L2
open PySem PySem.Spec PyProof.Rows
section
variable {X : Cx} {x : Str} {p pos : Pos} {e : Expr} {es : List Expr} {t : TA} {id T : String} {r : List V -> Hp -> VK -> Prop}
noncomputable def Ec (r : List V -> Hp -> VK -> Prop)(t : TA):TE := λσ H Q => t σ H λvs H1 => r vs H1 Q
theorem rn (hc : fO X (.builtin id) r)(hg : Gl X x)(hm : X.mg x = none)(hv : bootBuiltins x = some (.builtin id))(ha : PA X (e :: es) t)(hn :autoParam (x ≠ "__name__") aZb._auto_1)(hdb :autoParam ((x == ("__debug__" : Str)) = false) aZb._auto_1)
    (he :autoParam (starEach (e :: es) X.env = (false, eval e X.env) :: starEach es X.env) aZa._auto_1) (hpl :autoParam ((backTo pos (starEach es X.env)).any (·.1) = false) aZa._auto_1):PE X (.Call (.Name x p) (e :: es) [] pos) (Ec r t) := by
  intro pins s σ H Q I h;refine wpAny_Call_Name_kw (mh I hg hm hv ?_ hn hdb);exact PyProof.Rows.callWith_builtin1 (cz (ha pos pins s σ H _ I h) (by rintro us s1 ⟨vs, H1, I1, r1, q1⟩;exact hc pins s1 σ H1 vs us Q I1 r1 q1)) he hpl
theorem oq (hc : fO X (.type T) r)(hg : Gl X x)(hm : X.mg x = none)(hv : bootBuiltins x = some (.type T))(ha : PA X (e :: es) t)(hn :autoParam (x ≠ "__name__") aZb._auto_1)(hdb :autoParam ((x == ("__debug__" : Str)) = false) aZb._auto_1)
    (he :autoParam (starEach (e :: es) X.env = (false, eval e X.env) :: starEach es X.env) aZa._auto_1) (hpl :autoParam ((backTo pos (starEach es X.env)).any (·.1) = false) aZa._auto_1):PE X (.Call (.Name x p) (e :: es) [] pos) (Ec r t) := by
  intro pins s σ H Q I h;refine wpAny_Call_Name_kw (mh I hg hm hv ?_ hn hdb);exact PyProof.Rows.callWith_type1 (cz (ha pos pins s σ H _ I h) (by rintro us s1 ⟨vs, H1, I1, r1, q1⟩;exact hc pins s1 σ H1 vs us Q I1 r1 q1)) he hpl
end
end L2
namespace HT
open PySem PyProof.Rows
section
open PySem.SeqAt
open PySem.AutoSeq1 (wpAny_loadPart')
open PySem.MeetsSeq PySem.MeetsSeq2 PySem.MeetsSeq3
end
section
variable {prog : Program} {w : World} {A : Around} {E : Value -> Shared -> Prop} {s : Shared}
theorem yr {t b : Addr}{vs ws : List Value}{Q : Value -> Shared -> Prop}(ht : IsTup s.heap t vs.toArray)(hb : IsTup s.heap b ws.toArray)(hv : vs ≠ [])
    (h1 : ws = [] -> Q (.ref t) s) (h2 : ws ≠ [] -> Q (.ref s.heap.objs.size) { s with heap := s.heap.push { cls := .type "tuple", data := .seq (vs ++ ws).toArray } })
    (hsz : vs.length + ws.length <= sizeLine):wpAny (model prog w) A (binaryOp .Add (.ref t) (.ref b)) Q E s := by
  obtain ⟨⟨cls, dd, data, sl⟩, ho, hc, n, hd⟩ := id ht;obtain ⟨⟨cls2, dd2, data2, sl2⟩, ho2, hc2, n2, hd2⟩ := id hb;simp only at hc hd hc2 hd2;subst hc hd hc2 hd2;have e : vs.toArray ++ ws.toArray = (vs ++ ws).toArray := by simp
  by_cases hw : ws = []
  · exact concat_meets ⟨_, ho, rfl⟩ ⟨_, ho2, rfl⟩ noFill_tuple_add seq_tuple_add PySem.F.slot_tuple_add PySem.F.entry_tuple_add (PySem.F.args_tuple_add_2 _ _)
      (tuple_addW1 t b vs.toArray ws.toArray n n2 dd dd2 sl sl2 (by simpa using hv) (by simp [hw])) ⟨ho, ho2, h1 hw⟩
  · refine concat_meets ⟨_, ho, rfl⟩ ⟨_, ho2, rfl⟩ noFill_tuple_add seq_tuple_add PySem.F.slot_tuple_add PySem.F.entry_tuple_add (PySem.F.args_tuple_add_2 _ _)
      (tuple_addW2 t b vs.toArray ws.toArray n n2 dd dd2 sl sl2 (by simpa using hv) (by simpa using hw) (by rw [size_toArray, size_toArray];exact hsz)) ⟨ho, ho2, ?_⟩
    rw [e];exact h2 hw
noncomputable def d9 (n d : Nat):Option Int -> Nat
  | none => d
  | some v => if v < 0 then (v + (n : Int)).toNat else min v.toNat n
theorem Bl (n d : Nat)(hd : d <= n)(o : Option Int):d9 n d o <= n := by
  cases o with
  | none => exact hd
  | some v =>
    show (if v < 0 then (v + (n : Int)).toNat else min v.toNat n) <= n;by_cases hv : v < 0
    · rw [if_pos hv];lia
    · rw [if_neg hv];exact Nat.min_le_right _ _
theorem tK (v : Int)(n d : Nat):(if v < 0 then max (v + (n : Int)) 0 else min v (n : Int)) = ((d9 n d (some v):Nat):Int) := by
  show (if v < 0 then max (v + (n : Int)) 0 else min v (n : Int)) = (((if v < 0 then (v + (n : Int)).toNat else min v.toNat n):Nat):Int)
  by_cases hv : v < 0
  · simp only [if_pos hv];lia
  · simp only [if_neg hv];lia
theorem rX (lo hi : Option Int)(n : Nat):Builtin.Slice.sliceAdjust lo hi 1 (n : Int) = (((d9 n 0 lo : Nat):Int), ((d9 n n hi : Nat):Int)) := by
  have h1 : ¬ ((1 : Int) < 0) := by lia
  unfold Builtin.Slice.sliceAdjust;simp only [h1, if_false];refine Prod.ext ?_ ?_
  · cases lo with
    | none => rfl
    | some v => exact tK v n 0
  · cases hi with
    | none => rfl
    | some v => exact tK v n n
theorem sR (i j : Nat):Builtin.Slice.slicePlaces (i : Int) (j : Int) 1 = j - i := by
  unfold Builtin.Slice.slicePlaces;have h1 : (1 : Int) > 0 := by lia
  simp only [h1, if_true, Int.ediv_one];split <;> lia
theorem mG {v : Value}{o : Option Int}{Q : Option Int -> Shared -> Prop}(p : IsPart v o)(h : Q o s):wpAny (model prog w) A (Builtin.Slice.slicePartIndex v) Q E s := by
  cases p with
  | none => exact slicePart_none h
  | int i t => exact slicePart_int h
theorem kB {sl : Addr}{vl vu : Value}{lo hi : Option Int}{n : Nat}{Q : Int × Int × Nat -> Shared -> Prop}(hs : s.heap.IsSliceOf sl vl vu .none)(pl : IsPart vl lo)(pu : IsPart vu hi)
    (h : Q (((d9 n 0 lo : Nat):Int), 1, d9 n n hi - d9 n 0 lo) s):wpAny (model prog w) A (Builtin.Slice.sliceApplied (.ref sl) (pure (n : Int))) Q E s := by
  obtain ⟨os, hos, hcs, hds⟩ := id hs;unfold Builtin.Slice.sliceApplied Builtin.Slice.sliceFields;refine wpAny_bind (wpAny_bind (wpAny_field hos hds (x := vl) rfl (wpAny_bind (wpAny_field hos hds (x := vu) rfl (wpAny_bind (wpAny_field hos hds (x := .none) rfl (wpAny_pure ?_)))))));refine wpAny_bind (slicePart_none ?_);show wpAny _ _ (if ((1 : Int) == 0) = true then _ else _) _ _ s;rw [if_neg (by decide)];refine wpAny_bind (mG pl (wpAny_bind (mG pu (wpAny_bind (wpAny_pure ?_)))));show wpAny _ _ (match Builtin.Slice.sliceAdjust lo hi 1 (n : Int) with | (lo, hi) => pure (lo, (1 : Int), Builtin.Slice.slicePlaces lo hi 1)) _ _ s;rw [rX lo hi n];show wpAny _ _ (pure (((d9 n 0 lo : Nat):Int), (1 : Int), Builtin.Slice.slicePlaces ((d9 n 0 lo : Nat):Int) ((d9 n n hi : Nat):Int) 1)) _ _ s;rw [sR];exact wpAny_pure h
theorem xC (xs : Array Value)(i k : Nat):((List.range k).filterMap λ(m : Nat) => xs[((i : Int) + (m : Int) * 1).toNat]?).toArray = ((xs.toList.drop i).take k).toArray := by
  have e : (λ(m : Nat) => xs[((i : Int) + (m : Int) * 1).toNat]?) = λm => xs[i + m]? := by
    funext m
    have : ((i : Int) + (m : Int) * 1).toNat = i + m := by lia
    rw [this]
  rw [e];have := pick_run xs i k;rw [List.filterMap_map] at this;have e2 : ((λx => xs[x]?) ∘ λx => i + x) = λm => xs[i + m]? := rfl;rw [e2] at this;rw [this]
theorem jP {t sl : Addr}{items : Array Value}{vl vu : Value}{lo hi : Option Int}{Q : Value -> Shared -> Prop}(ht : IsTup s.heap t items)(hs : s.heap.IsSliceOf sl vl vu .none)(pl : IsPart vl lo)(pu : IsPart vu hi)
    (hw : ¬ (d9 items.size 0 lo = 0 /\ d9 items.size items.size hi = items.size))
    (h : Q (.ref s.heap.objs.size) { s with heap := s.heap.push { cls := .type "tuple", data := .seq ((items.toList.drop (d9 items.size 0 lo)).take (d9 items.size items.size hi - d9 items.size 0 lo)).toArray } })
    (hsz : items.size <= sizeLine):wpAny (model prog w) A (getItem (.ref t) (.ref sl)) Q E s := by
  have htake : sizeOk (.seq ((items.toList.drop (d9 items.size 0 lo)).take (d9 items.size items.size hi - d9 items.size 0 lo)).toArray) := by
    show ((items.toList.drop (d9 items.size 0 lo)).take (d9 items.size items.size hi - d9 items.size 0 lo)).toArray.size <= sizeLine;rw [size_toArray, length_take, length_drop, length_toList];lia
  have hj : d9 items.size items.size hi <= items.size := Bl _ _ (Nat.le_refl _) hi;obtain ⟨os, hos, hcs, hds⟩ := id hs;have hTs : s.TypeIs (.ref sl) "slice" := ⟨os, hos, hcs⟩
  unfold getItem;try with_reducible refine wpAny_holding ?_
  first | refine wpAny_bind (wpAny_pure ?_) | skip
  refine wpAny_bind (wpAny_sequenceKey ht.typeIs (by decide) ?_);refine wpAny_bind (wpAny_callSpecial?_slot (name := Str.ofString "__getitem__") ht.typeIs PyProof.Rows.slot_tuple_getitem
    (wpAny_call_entry PyProof.Rows.slot_tuple_getitem ht.typeIs entry_tuple_getitem ?_ (args_tuple_getitem _ _)))
  show wpAny _ _ (Builtin.Tuple.tupleItemsOf (.ref t) >>= _) _ _ s;refine wpAny_bind (tupleItemsOf_ ht ?_);refine wpAny_bind (wpAny_typeOf hTs ?_);rw [if_pos (by decide)];refine wpAny_bind (kB hs pl pu ?_);have hno : ¬ ((((d9 items.size 0 lo : Nat):Int) == 0 && (1 : Int) == 1 && (d9 items.size items.size hi - d9 items.size 0 lo) == items.size) = true) := by
    intro q;rw [Bool.and_eq_true, Bool.and_eq_true] at q;have q1 : ((d9 items.size 0 lo : Nat):Int) = 0 := eq_of_beq q.1.1;have q2 : d9 items.size items.size hi - d9 items.size 0 lo = items.size := eq_of_beq q.2;exact hw ⟨by lia, by lia⟩
  show wpAny _ _ (if (((d9 items.size 0 lo : Nat):Int) == 0 && (1 : Int) == 1 && (d9 items.size items.size hi - d9 items.size 0 lo) == items.size) = true then _ else _) _ _ s;rw [if_neg hno, xC];first
    | exact wpAny_bind (m := Builtin.Tuple.tupleExact _) (wpAny_newObj_type (wpAny_pure ⟨_, rfl, wpAny_pure h⟩) htake)
    | exact wpAny_bind (m := Builtin.Tuple.tupleExact _) (wpAny_newObj_type (wpAny_bind (wpAny_pure (wpAny_pure ⟨_, rfl, wpAny_pure h⟩))) htake)
    | exact wpAny_bind (wpAny_bind (m := Builtin.Tuple.tupleExact _) (wpAny_newObj_type (wpAny_pure (wpAny_pure ⟨_, rfl, wpAny_pure h⟩)) htake))
    | exact wpAny_bind (wpAny_bind (m := Builtin.Tuple.tupleExact _) (wpAny_newObj_type (wpAny_pure ⟨_, rfl, wpAny_pure h⟩) htake))
end
end HT
namespace L2
open PySem PySem.Spec PyProof.Rows
noncomputable abbrev TO := St -> Hp -> (Option Int -> Hp -> Prop) -> Prop
noncomputable def PO (X : Cx)(e : Option Expr)(t : TO):Prop :=
  ∀ (pins : List (Addr × Obj)) (s : Shared) (σ : St) (H : Hp) (Q : Option Int -> Hp -> Prop), Inv X pins σ H s -> t σ H Q ->
    wpAny (model X.prog X.w) X.A (evalPart e X.env) (λu s' => ∃ o H', Inv X pins σ H' s' /\ IsPart u o /\ Q o H') X.xe s
noncomputable def C1 (t : TE):TO := λσ H Q => t σ H λx H1 => ∃ i, x = .int i /\ Q (some i) H1
theorem intsAre_of {ns : List Int}:∀ {us : List Value}, Vals (ns.map V.int) us -> IntsAre us ns := by
  induction ns with
  | nil => intro us r;rw [List.map_nil] at r;cases r;exact .nil
  | cons n ns ih =>
    intro us r;rw [map_cons] at r;cases r with
    | cons r1 r2 =>
      obtain ⟨t, e⟩ := r1;subst e;exact .cons n t (ih r2)
section
variable {X : Cx} {e : Expr} {te : TE} {lo hi : Option Expr} {tl th : TO} {pos p2 : Pos}
theorem zf (h : PE X e te):PO X (some e) (C1 te) := by
  intro pins s σ H Q I hw;rw [evalPart_some];refine cz (h pins s σ H _ I hw) ?_;rintro u s1 ⟨x, H1, I1, r1, q1⟩;obtain ⟨i, rfl, q⟩ := q1;obtain ⟨t, rfl⟩ := r1;exact ⟨some i, H1, I1, .int i t, q⟩
noncomputable def Ad (X : Cx)(r : V -> Option Int -> Option Int -> Hp -> VK -> Prop):Prop :=
  ∀ (pins : List (Addr × Obj)) (s : Shared) (σ : St) (H : Hp) (x : V) (v vl vu : Value) (lo hi : Option Int) (sl : Addr) (Q : VK), Inv X pins σ H s -> RelV x v -> s.heap.IsSliceOf sl vl vu .none -> IsPart vl lo -> IsPart vu hi -> r x lo hi H Q ->
    ∃ T id, typeLookup (.type T) "__getitem__" = pure (some (.builtin id)) /\ s.TypeIs v T /\ wpAny (model X.prog X.w) X.A (getItem v (.ref sl)) (EP X pins σ Q) X.xe s
theorem Ad.or {r r' : V -> Option Int -> Option Int -> Hp -> VK -> Prop}(h : Ad X r)(h' : Ad X r'):Ad X (λx lo hi H Q => r x lo hi H Q \/ r' x lo hi H Q) := by
  intro pins s σ H x v vl vu lo hi sl Q I rx hs pl pu q;rcases q with q | q
  · exact h pins s σ H x v vl vu lo hi sl Q I rx hs pl pu q
  · exact h' pins s σ H x v vl vu lo hi sl Q I rx hs pl pu q
noncomputable def EI (r : V -> Option Int -> Option Int -> Hp -> VK -> Prop)(te : TE)(tl th : TO):TE := λσ H Q => te σ H λx H1 => tl σ H1 λl H2 => th σ H2 λu H3 => r x l u H3 Q
theorem xA {r : V -> Option Int -> Option Int -> Hp -> VK -> Prop}(hr : Ad X r)(he : PE X e te)(hl : PO X lo tl)(hu : PO X hi th):PE X (.Subscript e (.Slice lo hi none p2) pos) (EI r te tl th) := by
  intro pins s σ H Q I h;refine Subscript_ (cz (he pins s σ H _ I h) ?_);rintro v s1 ⟨x, H1, I1, r1, q1⟩;refine wpAny_Slice (cz (hl pins s1 σ H1 _ I1 q1) λvl s2 ⟨l, H2, I2, pl, q2⟩ => cz (hu pins s2 σ H2 _ I2 q2) ?_);rintro vu s3 ⟨u, H3, I3, pu, q3⟩;rw [evalPart_none];refine wpAny_pure ?_;have I4 : Inv X pins σ H3 { s3 with heap := s3.heap.push { cls := .type "slice", data := .fields #[vl, vu, .none] } } := I3.kept (t' := s3.toks) λb ob q => Heap.get?_push_of_some _ q;obtain ⟨T, id, hT, ht, hg⟩ := hr pins { s3 with heap := s3.heap.push { cls := .type "slice", data := .fields #[vl, vu, .none] } } σ H3 x v vl vu l u s3.heap.objs.size Q I4 r1 (Heap.IsSliceOf.new ..) pl pu q3;show wpAny (model X.prog X.w) X.A (subscriptTail e (.Slice lo hi none p2) v (.ref s3.heap.objs.size)) (EP X pins σ Q) X.xe { s3 with heap := s3.heap.push { cls := .type "slice", data := .fields #[vl, vu, .none] } };exact tail_any (ops := [.ref s3.heap.objs.size, v]) ht hT hg (by with_unfolding_all rfl)
noncomputable def bH (xs : List V)(lo hi : Option Int):List V := (xs.drop (HT.d9 xs.length 0 lo)).take (HT.d9 xs.length xs.length hi - HT.d9 xs.length 0 lo)
theorem kG (xs : List V)(lo hi : Option Int):(bH xs lo hi).length <= xs.length := by
  unfold bH;rw [length_take, length_drop];lia
noncomputable def D9 (K : Frag):V -> Option Int -> Option Int -> Hp -> VK -> Prop := λx lo hi H Q => ∃ a xs, x = .ref a /\ lJ K H a xs /\
  ¬ (HT.d9 xs.length 0 lo = 0 /\ HT.d9 xs.length xs.length hi = xs.length) /\ ∀ p, H p = none -> Q (.ref p) (upd H p (.tup (bH xs lo hi)))
theorem Bn : Ad X (D9 X.K) := by
  intro pins s σ H x v vl vu lo hi sl Q I rx hs pl pu h;obtain ⟨a, xs, rfl, hx, hw, q⟩ := h;cases rx;obtain ⟨its, r, ht, hz⟩ := I.tuple hx;have hlen : its.toArray.size = xs.length := by rw [size_toArray];exact r.length.symm
  refine ⟨"tuple", _, PyProof.Rows.slot_tuple_getitem.lookup, ht.typeIs, ?_⟩;refine HT.jP ht hs pl pu (by rw [hlen];exact hw) ?_ (by rw [hlen];exact hz);rw [hlen];refine ⟨.ref s.heap.objs.size, _, I.laid (t' := s.toks) (o := .tup (bH xs lo hi)) (λb ob q => Heap.get?_push_of_some _ q) (Nat.le_refl _) ?_, rfl, q _ (I.bc.fresh (Nat.le_refl _))⟩;exact ⟨Nat.le_trans (kG xs lo hi) hz, _, (r.drop (HT.d9 xs.length 0 lo)).take (HT.d9 xs.length xs.length hi - HT.d9 xs.length 0 lo), IsTup.new _ _⟩
noncomputable def Cy (K : Frag):R2 := λx y H Q => ∃ a b xs ys, x = .ref a /\ y = .ref b /\ lJ K H a xs /\ lJ K H b ys /\ xs ≠ [] /\ xs.length + ys.length <= sizeLine /\
  (ys = [] -> Q (.ref a) H) /\ (ys ≠ [] -> ∀ p, H p = none -> Q (.ref p) (upd H p (.tup (xs ++ ys))))
theorem Vals.pd {xs : List V}{us : List Value}(r : Vals xs us):us = [] ↔ xs = [] := by
  cases r with
  | nil => simp
  | cons _ _ => simp
theorem yZ : jg X (binaryOp .Add) (Cy X.K) := by
  intro pins s σ H x y v u Q I rx ry h;obtain ⟨a, b, xs, ys, rfl, rfl, ha, hb, hx, hz, q1, q2⟩ := h;cases rx;cases ry;obtain ⟨its, r1, p1, _⟩ := I.tuple ha;obtain ⟨its2, r2, p2, _⟩ := I.tuple hb;refine HT.yr p1 p2 (λz => hx (r1.pd.mp z)) (λz => ⟨.ref a, H, I, rfl, q1 (r2.pd.mp z)⟩) (λz => ?_) (by rw [<- r1.length, <- r2.length];exact hz);refine ⟨.ref s.heap.objs.size, _, I.laid (t' := s.toks) (o := .tup (xs ++ ys)) (λb ob q => Heap.get?_push_of_some _ q) (Nat.le_refl _) ?_, rfl, q2 (λw => z (r2.pd.mpr w)) _ (I.bc.fresh (Nat.le_refl _))⟩;exact ⟨by rw [length_append];exact hz, _, r1.append r2, IsTup.new _ _⟩
end
end L2
namespace L2
open PySem PySem.Spec PyProof.Rows
noncomputable def sv (n : Nat)(i : Int):Option Nat := if 0 <= i then (if i < n then some i.toNat else none) else if -(n : Int) <= i then some (i + n).toNat else none
noncomputable def iW {α : Type}(xs : List α)(i : Int):Option α := (sv xs.length i).bind λj => xs[j]?
theorem o8 {n : Nat}{i : Int}{j : Nat}(h : sv n i = some j):seqIndex? i n = some j /\ j < n /\ -(n : Int) <= i /\ i < n := by
  unfold sv at h;by_cases h0 : 0 <= i
  · rw [if_pos h0] at h;by_cases h1 : i < n
    · rw [if_pos h1] at h;have e : i.toNat = j := Option.some.inj h;exact ⟨by rw [seqIndex_of h0 h1, e], by lia, by lia, h1⟩
    · rw [if_neg h1] at h;cases h
  · rw [if_neg h0] at h;by_cases h1 : -(n : Int) <= i
    · rw [if_pos h1] at h;have e : (i + n).toNat = j := Option.some.inj h;exact ⟨by rw [seqIndex_neg (by lia) h1, e], by lia, h1, by lia⟩
    · rw [if_neg h1] at h;cases h
theorem oC {α : Type}{xs : List α}{i : Int}{v : α}(h : iW xs i = some v):∃ j, seqIndex? i xs.length = some j /\ xs[j]? = some v /\ j < xs.length /\ -(xs.length : Int) <= i /\ i < xs.length := by
  unfold iW at h;cases e : sv xs.length i with
  | none => rw [e] at h;cases h
  | some j =>
    rw [e] at h;obtain ⟨h1, h2, h3, h4⟩ := o8 e;exact ⟨j, h1, h, h2, h3, h4⟩
theorem gP {α : Type}{xs : List α}{j : Nat}{v : α}(h : xs[j]? = some v):iW xs (j : Int) = some v := by
  have hj : j < xs.length := (List.getElem?_eq_some_iff.mp h).1;have e : sv xs.length (j : Int) = some j := by
    unfold sv;rw [if_pos (by lia), if_pos (by lia)];simp
  unfold iW;rw [e];exact h
noncomputable def tp (b : Expr):Prop := ∀ o i, subscripted b false o i = operate [o, i] (getItem o i)
noncomputable def yh (X : Cx)(r : R2):Prop :=
  ∀ (value slice : Expr) (pins : List (Addr × Obj)) (s : Shared) (σ : St) (H : Hp) (x y : V) (v u : Value) (Q : VK), Inv X pins σ H s -> RelV x v -> RelV y u -> r x y H Q ->
    subscripted slice false v u = operate [v, u] (getItem v u) -> wpAny (model X.prog X.w) X.A (subscriptTail value slice v u) (EP X pins σ Q) X.xe s
noncomputable def C9 (X : Cx)(id : String)(r : V -> List V -> Hp -> VK -> Prop):Prop :=
  ∀ (pins : List (Addr × Obj)) (s : Shared) (σ : St) (H : Hp) (x : V) (xs : List V) (v : Value) (us : List Value) (Q : VK), Inv X pins σ H s -> RelV x v -> Vals xs us -> r x xs H Q ->
    wpAny (model X.prog X.w) X.A (call (.builtin id) (v :: us)) (EP X pins σ Q) X.xe s
section
variable {X : Cx} {a b : Expr} {ta tb : TE} {pos : Pos}
theorem yh.or {r r' : R2}(h : yh X r)(h' : yh X r'):yh X (λx y H Q => r x y H Q \/ r' x y H Q) := by
  intro value slice pins s σ H x y v u Q I rx ry q hs;rcases q with q | q
  · exact h value slice pins s σ H x y v u Q I rx ry q hs
  · exact h' value slice pins s σ H x y v u Q I rx ry q hs
theorem kP {r : R2}(hr : yh X r)(ha : PE X a ta)(hb : PE X b tb)(hs : tp b):PE X (.Subscript a b pos) (C0 r ta tb) := by
  intro pins s σ H Q I h;exact Subscript_ (Ah ha hb I h λv u s2 x y H2 I2 rx ry q => hr a b pins s2 σ H2 x y v u Q I2 rx ry q (hs _ _))
noncomputable def CA (K : Frag):R2 := λx y H Q => ∃ p xs i v, x = .ref p /\ y = .int i /\ d0 K H p xs /\ iW xs i = some v /\ Q v H
noncomputable def CC (K : Frag):R2 := λx y H Q => ∃ p xs i v, x = .ref p /\ y = .int i /\ lJ K H p xs /\ iW xs i = some v /\ Q v H
noncomputable def CB : R2 := λx y H Q => ∃ z i c, x = .str z /\ y = .int i /\ z.length <= sizeLine /\ iW z.cps.toList i = some c /\ Q (.str ⟨#[c]⟩) H
theorem yM : yh X (CA X.K) := by
  intro value slice pins s σ H x y v u Q I rx ry h hs;obtain ⟨p, xs, i, z, rfl, rfl, hq, he, q⟩ := h;cases rx;obtain ⟨t, rfl⟩ := ry;obtain ⟨its, r, pl, hz⟩ := I.list hq;obtain ⟨j, h1, h2, h3, h4, h5⟩ := oC he;obtain ⟨w, ew, rw'⟩ := r.get h2;have hl := r.length;have hn := kg;have fin : EP X pins σ Q w s := ⟨z, H, I, rw', q⟩
  by_cases h0 : 0 <= i
  · have hj : i.toNat = j := by
      rw [seqIndex_of h0 h5] at h1;exact Option.some.inj h1
    exact item_listR pl.isList h0 (by lia) (by rw [hj];simpa using ew) fin hs
  · have hj : (i + (its.toArray.size : Int)).toNat = j := by
      rw [seqIndex_neg (by lia) h4] at h1;rw [size_toArray, <- hl];exact Option.some.inj h1
    exact subscriptTail_builtinR (x := w) pl.isList.typeIs slot_list_getitem.lookup
      (wpAny_getItem_list_neg (Q := λr s' => r = w /\ EP X pins σ Q r s') pl.isList (by lia) (by rw [size_toArray] <;> lia) (by lia) (by rw [hj];simpa using ew) ⟨rfl, fin⟩) hs
theorem wZ : yh X (CC X.K) := by
  intro value slice pins s σ H x y v u Q I rx ry h hs;obtain ⟨p, xs, i, z, rfl, rfl, hq, he, q⟩ := h;cases rx;obtain ⟨t, rfl⟩ := ry;obtain ⟨its, r, pl, hz⟩ := I.tuple hq;obtain ⟨j, h1, h2, h3, h4, h5⟩ := oC he;obtain ⟨w, ew, rw'⟩ := r.get h2;have hl := r.length;have hn := kg;have fin : EP X pins σ Q w s := ⟨z, H, I, rw', q⟩
  exact subscriptTail_builtinR (x := w) pl.typeIs slot_tuple_getitem.lookup
    (getItem_tuple (j := j) (Q := λr s' => r = w /\ EP X pins σ Q r s') pl (by lia) (by lia) (by rw [size_toArray, <- hl];exact h1) (by simpa using ew) ⟨rfl, fin⟩) hs
theorem AE : yh X CB := by
  intro value slice pins s σ H x y v u Q I rx ry h hs;obtain ⟨z, i, c, rfl, rfl, hz, he, q⟩ := h;obtain ⟨t, rfl⟩ := rx;obtain ⟨t', rfl⟩ := ry;obtain ⟨j, h1, h2, h3, h4, h5⟩ := oC he;have hl : z.cps.toList.length = z.length := by simp [Str.length]
  rw [hl] at h1 h4 h5;have hn := kg;exact tail_any (typeIs_str s z t) slot_str_getitem.lookup (getItem_str (c := c) (by
    have e1 : decide (i < -(2 ^ 63 : Int)) = false := decide_eq_false (by lia);have e2 : decide (i >= 2 ^ 63) = false := decide_eq_false (by lia);rw [e1, e2, Bool.or_false]) (by rw [h1];simpa using h2) ⟨.str ⟨#[c]⟩, H, I.tok _, ⟨_, rfl⟩, q⟩) hs
noncomputable def EF (K : Frag):R2 := λx y H Q => CA K x y H Q \/ CC K x y H Q \/ CB x y H Q
theorem jo : yh X (EF X.K) := yM.or (wZ.or AE)
theorem sD (its : List Value)(n j : Nat)(u : Value):Obj.mapSeq (·.setIfInBounds j u) { cls := .type "list", data := .seq its.toArray n } = { cls := .type "list", data := .seq (its.set j u).toArray n } := by
  simp [Obj.mapSeq]
theorem Inv.lst {pins : List (Addr × Obj)}{σ : St}{H : Hp}{s : Shared}{p : Addr}{xs : List V}(I : Inv X pins σ H s)(h : H p = some (.lst xs)) :
    ∃ (its : List Value) (n : Nat), Vals xs its /\ s.heap.get? p = some { cls := .type "list", data := .seq its.toArray n } /\ xs.length <= sizeLine := by
  obtain ⟨z, its, n, r, e⟩ := I.bc p _ h;exact ⟨its, n, r, e, z⟩
theorem Inv.AM {pins : List (Addr × Obj)}{σ : St}{H : Hp}{s : Shared}{p : Addr}{xs ys : List V}{its its' : List Value}{n n' : Nat}{f : Obj -> Obj}(I : Inv X pins σ H s)(h : H p = some (.lst xs))
    (ho : s.heap.get? p = some { cls := .type "list", data := .seq its.toArray n }) (hf : f { cls := .type "list", data := .seq its.toArray n } = { cls := .type "list", data := .seq its'.toArray n' }) (r : Vals ys its') (hz : ys.length <= sizeLine) (t : Nat) :
    Inv X pins σ (upd H p (.lst ys)) { s with heap := s.heap.update p f, toks := t } := by
  have e : (s.heap.update p f).get? p = some { cls := .type "list", data := .seq its'.toArray n' } := by
    rw [Heap.get?_update_self f ho (by rw [hf] <;> rfl), hf]
  refine I.write (x := p) (e := p) (by rw [h];trivial) (.inl rfl) (λb u hb q => (Heap.get?_update_other _ _ (Ne.symm hb)).trans q) ⟨_, e⟩ ?_;exact ⟨hz, its', n', r, e⟩
noncomputable def CF : V -> V -> V -> Hp -> (Hp -> Prop) -> Prop := λo i v H Q => ∃ p xs k j, o = .ref p /\ i = .int k /\ H p = some (.lst xs) /\ sv xs.length k = some j /\ Q (upd H p (.lst (xs.set j v)))
theorem set_list : BL X CF := by
  intro pins s σ H o i v ov iv u Q I ro ri rv h;obtain ⟨p, xs, k, j, rfl, rfl, hp, hj, q⟩ := h;cases ro;obtain ⟨t, rfl⟩ := ri;obtain ⟨its, n, r, ho, hz⟩ := I.lst hp;obtain ⟨h1, h2, h3, h4⟩ := o8 hj;have hl := r.length;have hn := kg;have I' : Inv X pins σ (upd H p (.lst (xs.set j v))) { s with heap := s.heap.update p (Obj.mapSeq (·.setIfInBounds j u)) } :=
    I.AM hp ho (sD its n j u) (r.set rv j) (by rw [length_set];exact hz) s.toks
  by_cases h0 : 0 <= k
  · have hk : k.toNat = j := by
      rw [seqIndex_of h0 h4] at h1;exact Option.some.inj h1
    exact PySem.W.ki_setAt ho h0 (by lia) (by rw [size_toArray, <- hl];exact h4) (by rw [hk];exact ⟨_, I', q⟩)
  · have hk : (k + (its.toArray.size : Int)).toNat = j := by
      rw [seqIndex_neg (by lia) h3] at h1;rw [size_toArray, <- hl];exact Option.some.inj h1
    exact PySem.W.ki_setBack ho (by lia) (by rw [size_toArray, <- hl];exact h3) (by lia) (by rw [hk];exact ⟨_, I', q⟩)
theorem pH (lo hi : Option Int)(n : Nat):(sliceBounds lo hi none n).1 = ((HT.d9 n 0 lo : Nat):Int) /\ (sliceBounds lo hi none n).2.1 = ((HT.d9 n n hi : Nat):Int) /\ (sliceBounds lo hi none n).2.2 = 1 := by
  refine ⟨?_, ?_, rfl⟩
  · cases lo with
    | none => simp [sliceBounds, HT.d9]
    | some i =>
      simp only [sliceBounds, HT.d9, Option.getD_none, show (1 : Int) > 0 by decide, if_true];by_cases h : i < 0
      · simp only [h, if_true] <;> lia
      · simp only [h, if_false] <;> lia
  · cases hi with
    | none => simp [sliceBounds, HT.d9]
    | some i =>
      simp only [sliceBounds, HT.d9, Option.getD_none, show (1 : Int) > 0 by decide, if_true];by_cases h : i < 0
      · simp only [h, if_true] <;> lia
      · simp only [h, if_false] <;> lia
theorem nB (its : List Value)(lo hi : Option Int):slicePick its.toArray lo hi none = ((its.drop (HT.d9 its.length 0 lo)).take (HT.d9 its.length its.length hi - HT.d9 its.length 0 lo)).toArray := by
  obtain ⟨h1, h2, h3⟩ := pH lo hi its.toArray.size;unfold slicePick;rw [h1, h2, h3];simp only [sliceRange_one, pick_run, size_toArray] <;> rfl
noncomputable def D8 (K : Frag):V -> Option Int -> Option Int -> Hp -> VK -> Prop := λx lo hi H Q => ∃ a xs, x = .ref a /\ d0 K H a xs /\ ∀ p, H p = none -> Q (.ref p) (upd H p (.lst (bH xs lo hi)))
theorem zv : Ad X (D8 X.K) := by
  intro pins s σ H x v vl vu lo hi sl Q I rx hs pl pu h;obtain ⟨a, xs, rfl, hx, q⟩ := h;cases rx;obtain ⟨its, r, ht, hz⟩ := I.list hx;have hlen := r.length;refine ⟨"list", _, slot_list_getitem.lookup, ht.isList.typeIs, ?_⟩;refine wpAny_getItem_list_slice ht.isList hs pl pu .none (by simp) ?_ (by rw [size_toArray] <;> lia);rw [nB, <- hlen];refine ⟨.ref s.heap.objs.size, _, I.laid (t' := s.toks) (o := .lst (bH xs lo hi)) (λb ob q => Heap.get?_push_of_some _ q) (Nat.le_refl _) ?_, rfl, q _ (I.bc.fresh (Nat.le_refl _))⟩;exact ⟨Nat.le_trans (kG xs lo hi) hz, _, 0, (r.drop (HT.d9 xs.length 0 lo)).take (HT.d9 xs.length xs.length hi - HT.d9 xs.length 0 lo), Heap.get?_push_size _ rfl⟩
noncomputable def B3 : V -> Bool
  | .non => true
  | .bl _ => true
  | .int _ => true
  | .str _ => true
  | _ => false
noncomputable def Em (K : Frag)(T : String)(x : V)(H : Hp):Prop := match x with
  | .str _ => T = "str"
  | .int _ => T = "int"
  | .ref p => (T = "list" /\ ∃ xs, d0 K H p xs) \/ (T = "tuple" /\ ∃ o, K.lookup p = some o /\ o.cls = .type "tuple" /\ o.dict = none) \/
      (T = "dict" /\ ((∃ kvs, H p = some (.dK kvs)) \/ ∃ kvs, H p = some (.dT kvs))) \/ (T = "set" /\ ∃ S n, H p = some (.set S n))
  | _ => False
theorem x6 {pins : List (Addr × Obj)}{σ : St}{H : Hp}{s : Shared}{T : String}{x : V}{v : Value}(I : Inv X pins σ H s)(r : RelV x v)(ty : Em X.K T x H) :
    s.TypeIs v T /\ ∀ a, v = .ref a -> ∃ ob, s.heap.get? a = some ob /\ ob.dict = none := by
  cases x with
  | str z =>
    obtain ⟨t, rfl⟩ := r;cases (show T = "str" from ty);exact ⟨typeIs_str s z t, λ_ e => nomatch e⟩
  | int i =>
    obtain ⟨t, rfl⟩ := r;cases (show T = "int" from ty);exact ⟨typeIs_int s i t, λ_ e => nomatch e⟩
  | ref p =>
    cases r;rcases ty with ⟨rfl, xs, hq⟩ | ⟨rfl, o, hk, hc, hd⟩ | ⟨rfl, hk⟩ | ⟨rfl, S, n, hk⟩
    · obtain ⟨its, _, pl, _⟩ := I.list hq;refine ⟨pl.isList.typeIs, λa e => ?_⟩;cases e;obtain ⟨o, n, e, c, hd, _⟩ := pl;exact ⟨o, e, hd⟩
    · refine ⟨⟨o, I.jz p o hk, hc⟩, λa e => ?_⟩;cases e;exact ⟨o, I.jz _ o hk, hd⟩
    · have z : ∃ o, s.heap.get? p = some o /\ o.ExactDict := by
        rcases hk with ⟨kvs, hk⟩ | ⟨kvs, hk⟩
        · obtain ⟨_, _, _, _, o, _, _, e, ex, _⟩ := I.bc p _ hk;exact ⟨o, e, ex⟩
        · obtain ⟨_, _, _, _, o, _, _, e, ex, _⟩ := I.bc p _ hk;exact ⟨o, e, ex⟩
      obtain ⟨o, e, ex⟩ := z;refine ⟨⟨o, e, ex.1⟩, λa e2 => ?_⟩;cases e2;exact ⟨o, e, ex.2.1⟩
    · obtain ⟨o, _, _, _, e, ex, _⟩ := I.bc p _ hk;refine ⟨⟨o, e, ex.1⟩, λa e2 => ?_⟩;cases e2;exact ⟨o, e, ex.2.1⟩
  | _ => exact False.elim ty
noncomputable def CP (K : Frag)(T : String)(r : V -> List V -> Hp -> VK -> Prop)(to : TE):TE := λσ H Q => to σ H λx H1 => Em K T x H1 /\ r x [] H1 Q
noncomputable def EH (K : Frag)(T : String)(r : V -> List V -> Hp -> VK -> Prop)(to : TE)(t : TA):TE := λσ H Q => to σ H λx H1 => Em K T x H1 /\ t σ H1 λxs H2 => r x xs H2 Q
variable {o e : Expr} {es : List Expr} {to : TE} {t : TA} {name : Str} {apos cpos : Pos} {T id : String} {r : V -> List V -> Hp -> VK -> Prop}
theorem xu (pa : PlainAttrs T)(slot : Slot T name id)(hty : typeOf (.builtin id) = pure (.type "method_descriptor"))(hm : C9 X id r)(ho : PE X o to)
    (hbase :autoParam (attributeBase o name X.env (eval o X.env) = eval o X.env) aZa._auto_1) (hline :autoParam ((apos.endLine == cpos.line) = true) aZa._auto_1):PE X (.Call (.Attribute o name apos) [] [] cpos) (CP X.K T r to) := by
  intro pins s σ H Q I h;refine wpAny_Call_method0_late hbase hline (cz (ho pins s σ H _ I h) ?_);rintro v s1 ⟨x, H1, I1, r1, ty, q1⟩;obtain ⟨h1, h2⟩ := x6 I1 r1 ty;exact ⟨T, id, pa, slot, hty, h1, h2, Calls.callWith_builtin rfl (PySem.evalArgs_none (hm pins s1 σ H1 x [] v [] Q I1 r1 .nil q1))⟩
theorem oo (pa : PlainAttrs T)(slot : Slot T name id)(hty : typeOf (.builtin id) = pure (.type "method_descriptor"))(hm : C9 X id r)(ho : PE X o to)(ha : PA X (e :: es) t)
    (hbase :autoParam (attributeBase o name X.env (eval o X.env) = eval o X.env) aZa._auto_1)
    (hfew :autoParam (((backTo cpos (starEach (e :: es) X.env)).all (λx => !x.1) && (backToKw cpos (keywordEach [] X.env)).all (λx => x.1.isSome)
      && decide ((e :: es).length + ([]:List Keyword).length + (if ([]:List Keyword).isEmpty then 0 else 1) < 30)) = true) aZa._auto_1)
    (hline :autoParam ((apos.endLine == cpos.line) = true) aZa._auto_1) (hs :autoParam (starEach (e :: es) X.env = (false, eval e X.env) :: starEach es X.env) aZa._auto_1) (hplain :autoParam ((backTo cpos (starEach es X.env)).any (·.1) = false) aZa._auto_1) :
    PE X (.Call (.Attribute o name apos) (e :: es) [] cpos) (EH X.K T r to t) := by
  intro pins s σ H Q I h;refine wpAny_Call_method_late hbase hfew hline rfl (cz (ho pins s σ H _ I h) ?_);rintro v s1 ⟨x, H1, I1, r1, ty, q1⟩;obtain ⟨h1, h2⟩ := x6 I1 r1 ty;refine ⟨T, id, pa, slot, hty, h1, h2, ?_⟩;have hA := ha cpos pins s1 σ H1 _ I1 q1;rw [hs] at hA ⊢;refine Calls.callWith_builtin (by show (false || (backTo cpos (starEach es X.env)).any (·.1)) = false;rw [hplain] <;> rfl) (Calls.evalArgs_plain ?_);exact cz hA (by rintro us s2 ⟨vs, H2, I2, r2, q2⟩;exact hm pins s2 σ H2 x vs v us Q I2 r1 r2 q2)
end
end L2
namespace L2
open PySem PySem.Spec PyProof.Rows
noncomputable def C8 (X : Cx)(id : String)(r : V -> List V -> Hp -> VK -> Prop):Prop :=
  ∀ (pins : List (Addr × Obj)) (s : Shared) (σ : St) (H : Hp) (x : V) (xs : List V) (v : Value) (us : List Value) (Q : VK), Inv X pins σ H s -> RelV x v -> Vals xs us -> r x xs H Q ->
    wpAny (model X.prog X.w) X.A (call (.builtin id) (v :: us)) (EP X pins σ Q) X.xe s
theorem Vals.one : ∀ {x : V} {us : List Value}, Vals [x] us -> ∃ u, us = [u] /\ RelV x u
  | _, _, .cons r .nil => ⟨_, rfl, r⟩
theorem Vals.eraseIdx : ∀ {xs : List V} {us : List Value} (i : Nat), Vals xs us -> Vals (xs.eraseIdx i) (us.eraseIdx i)
  | _, _, _, .nil => .nil
  | _, _, 0, .cons _ t => t
  | _, _, i + 1, .cons r t => .cons r (Vals.eraseIdx i t)
theorem Vals.rep {xs : List V}{us : List Value}(h : Vals xs us):∀ k : Nat, Vals (List.replicate k xs).flatten (List.replicate k us).flatten
  | 0 => .nil
  | k + 1 => by
    rw [List.replicate_succ, List.replicate_succ, List.flatten_cons, List.flatten_cons];exact Vals.append h (Vals.rep h k)
theorem og {α : Type}:∀ (l : List α) (i : Nat), (l.eraseIdx i).length <= l.length
  | [], _ => Nat.le_refl _
  | _ :: _, 0 => Nat.le_succ _
  | _ :: r, i + 1 => Nat.succ_le_succ (og r i)
theorem foldl_rep (its : List Value):∀ (k : Nat) (acc : List Value),
    List.foldl (λx1 x2 => x1 ++ x2) acc.toArray (List.replicate k its.toArray) = (acc ++ (List.replicate k its).flatten).toArray
  | 0, acc => by simp
  | k + 1, acc => by
    have e : acc.toArray ++ its.toArray = (acc ++ its).toArray := by simp
    have e2 : (acc ++ its) ++ (List.replicate k its).flatten = acc ++ (List.replicate (k + 1) its).flatten := by
      rw [List.replicate_succ, List.flatten_cons, append_assoc]
    rw [<- e2, <- foldl_rep its k (acc ++ its), <- e, List.replicate_succ, List.foldl_cons]
section
variable {X : Cx} {pins : List (Addr × Obj)} {σ : St} {H : Hp} {s : Shared} {l b : Addr} {xs ys zs : List V}
theorem Inv.yQ {its its' : List Value}{n : Nat}{f : Array Value -> Array Value}{t' : Nat}(I : Inv X pins σ H s)(hH : H l = some (.lst xs))
    (e : s.heap.get? l = some { cls := .type "list", data := .seq its.toArray n }) (hf : f its.toArray = its'.toArray) (hv : Vals ys its') (hz : ys.length <= sizeLine) :
    Inv X pins σ (upd H l (.lst ys)) { s with heap := s.heap.update l (Obj.mapSeq f), toks := t' } := by
  have q := PySem.IsL.update e f;rw [hf] at q;refine I.write (x := l) (e := l) (by rw [hH];exact trivial) (.inl rfl) (λb' u hb hu => (Heap.get?_update_other s.heap (Obj.mapSeq f) (Ne.symm hb)).trans hu) ⟨_, q⟩ ?_;exact ⟨hz, its', _, hv, q⟩
theorem Inv.AL {its : List Value}{t' : Nat}(I : Inv X pins σ H s)(hv : Vals ys its)(hz : ys.length <= sizeLine) :
    Inv X pins σ (upd H s.heap.objs.size (.lst ys)) { s with heap := s.heap.push { cls := .type "list", data := .seq its.toArray }, toks := t' } :=
  I.laid (λ_ _ q => Heap.get?_push_of_some _ q) (Nat.le_refl _) ⟨hz, its, 0, hv, Heap.get?_push_size _ rfl⟩
theorem Inv.fresh (I : Inv X pins σ H s):H s.heap.objs.size = none := I.bc.fresh (Nat.le_refl _)
theorem Inv.q0 (I : Inv X pins σ H s)(hH : H l = some (.lst xs)):xs.length <= sizeLine /\ ∃ (its : List Value) (n : Nat), Vals xs its /\ xs.length = its.length /\ s.heap.get? l = some { cls := .type "list", data := .seq its.toArray n } := by
  obtain ⟨z, its, n, r, e⟩ := I.bc l _ hH;exact ⟨z, its, n, r, r.length, e⟩
theorem q9 {n : Nat}(h : n <= sizeLine):Builtin.List.listTooLong n = false := by
  unfold Builtin.List.listTooLong;exact decide_eq_false (by lia)
end
section
variable {X : Cx}
noncomputable def zi : V -> List V -> Hp -> VK -> Prop := λx vs H Q => ∃ l xs y, x = .ref l /\ vs = [y] /\ H l = some (.lst xs) /\ xs.length < sizeLine /\ Q .non (upd H l (.lst (xs ++ [y])))
theorem gC : C8 X "list.append" zi := by
  intro pins s σ H x vs v us Q I rx rv h;obtain ⟨l, xs, y, rfl, rfl, hH, hz, q⟩ := h;cases rx;obtain ⟨u, rfl, ru⟩ := rv.one;obtain ⟨z, its, n, r, hl, e⟩ := I.q0 hH;refine call_meets F.slot_list_append ⟨_, e, rfl⟩ F.entry_list_append (F.args_list_append_2 _ _) (PySem.list_append l its.toArray n u (by rw [size_toArray];lia)) ⟨e, ?_⟩;refine ⟨.non, _, I.yQ (its' := its ++ [u]) hH e (by simp) (r.append (.cons ru .nil)) ?_, rfl, q⟩;rw [length_append, List.length_singleton];lia
noncomputable def zj : V -> List V -> Hp -> VK -> Prop := λx vs H Q => ∃ l b xs zs, x = .ref l /\ vs = [.ref b] /\ H l = some (.lst xs) /\ H b = some (.lst zs) /\ xs.length + zs.length <= sizeLine /\ Q .non (upd H l (.lst (xs ++ zs)))
theorem BD : C8 X "list.extend" zj := by
  intro pins s σ H x vs v us Q I rx rv h;obtain ⟨l, b, xs, zs, rfl, rfl, hH, hB, hz, q⟩ := h;cases rx;obtain ⟨u, rfl, ru⟩ := rv.one;cases ru;obtain ⟨z, its, n, r, hl, e⟩ := I.q0 hH;obtain ⟨z2, its2, n2, r2, hl2, e2⟩ := I.q0 hB;have hsz : its.toArray.size + its2.toArray.size <= sizeLine := by rw [size_toArray, size_toArray];lia
  have hlong : ¬ (!its.toArray.isEmpty && Builtin.List.listTooLong (its.toArray.size + its2.toArray.size)) = true := by
    rw [q9 hsz, Bool.and_false];exact Bool.false_ne_true
  refine call_meets F.slot_list_extend ⟨_, e, rfl⟩ F.entry_list_extend (F.args_list_extend_2 _ _)
    (AutoSeq1.list_extend_list_list_0 l its.toArray n b its2.toArray n2 hlong (by rw [size_toArray];lia) (by lia)) ⟨e, e2, ?_⟩
  refine ⟨.non, _, I.yQ (its' := its ++ its2) hH e (by simp) (r.append r2) ?_, rfl, q⟩;rw [length_append];lia
noncomputable def Bf : V -> List V -> Hp -> VK -> Prop := λx vs H Q => ∃ l xs i k y, x = .ref l /\ vs = [.int i] /\ H l = some (.lst xs) /\ -(2 ^ 63) <= i /\ i < 2 ^ 63 /\ seqIndex? i xs.length = some k /\ xs[k]? = some y /\ Q y (upd H l (.lst (xs.eraseIdx k)))
theorem xj : C8 X "list.pop" Bf := by
  intro pins s σ H x vs v us Q I rx rv h;obtain ⟨l, xs, i, k, y, rfl, rfl, hH, h1, h2, hk, hy, q⟩ := h;cases rx;obtain ⟨u, rfl, ru⟩ := rv.one;obtain ⟨t, rfl⟩ := ru;obtain ⟨z, its, n, r, hl, e⟩ := I.q0 hH;obtain ⟨w, hw, rw'⟩ := r.get hy;refine call_meets F.slot_list_pop ⟨_, e, rfl⟩ F.entry_list_pop (F.args_list_pop_2 _ _)
    (MeetsSeq.list_pop_at l its.toArray n i t k w (fitsIndex_both h1 h2) (by rw [size_toArray, <- hl];exact hk) (by rw [<- Array.getElem?_toList];exact hw) (by rw [size_toArray];lia)) ⟨e, ?_⟩
  refine ⟨y, _, I.yQ (its' := its.eraseIdx k) hH e ?_ (r.eraseIdx k) ?_, rw', q⟩
  · show its.toArray.eraseIdxIfInBounds k = (its.eraseIdx k).toArray;rw [List.eraseIdxIfInBounds_toArray]
  · have := og xs k;lia
noncomputable def D5 : R2 := λx y H Q => ∃ l b xs zs, x = .ref l /\ y = .ref b /\ H l = some (.lst xs) /\ H b = some (.lst zs) /\ xs.length + zs.length <= sizeLine /\ ∀ p, H p = none -> Q (.ref p) (upd H p (.lst (xs ++ zs)))
theorem AS : jg X (binaryOp .Add) D5 := by
  intro pins s σ H x y v u Q I rx ry h;obtain ⟨l, b, xs, zs, rfl, rfl, hH, hB, hz, q⟩ := h;cases rx;cases ry;obtain ⟨z, its, n, r, hl, e⟩ := I.q0 hH;obtain ⟨z2, its2, n2, r2, hl2, e2⟩ := I.q0 hB;refine PySem.P.add_list e e2 ?_ (by rw [size_toArray, size_toArray];lia);have ea : its.toArray ++ its2.toArray = (its ++ its2).toArray := by simp
  rw [ea];exact ⟨.ref _, _, I.AL (t' := s.toks) (r.append r2) (by rw [length_append];lia), rfl, q _ I.fresh⟩
noncomputable def D7 : R2 := λx y H Q => ∃ l k xs, x = .ref l /\ y = .int k /\ H l = some (.lst xs) /\ -(2 ^ 63) <= k /\ k < 2 ^ 63 /\ xs.length * k.toNat <= sizeLine /\
  ∀ p, H p = none -> Q (.ref p) (upd H p (.lst (List.replicate k.toNat xs).flatten))
theorem len_rep {α : Type}(xs : List α)(k : Nat):(List.replicate k xs).flatten.length = k * xs.length := by
  induction k with
  | zero => simp
  | succ k ih => rw [List.replicate_succ, List.flatten_cons, length_append, ih, Nat.succ_mul, Nat.add_comm]
theorem AZ : jg X (binaryOp .Mult) D7 := by
  intro pins s σ H x y v u Q I rx ry h;obtain ⟨l, k, xs, rfl, rfl, hH, h1, h2, hz, q⟩ := h;cases rx;obtain ⟨t, rfl⟩ := ry;obtain ⟨z, its, n, r, hl, e⟩ := I.q0 hH;have hlen : its.toArray.size * k.toNat <= sizeLine := by rw [size_toArray, <- hl];exact hz
  have hcap : ¬ its.toArray.size * k.toNat > (2 ^ 63 - 1) / 8 := by
    have : (sizeLine : Nat) <= (2 ^ 63 - 1) / 8 := by decide
    lia
  have hfit : ¬ (!Builtin.List.listFitsIndex k) = true := by
    rw [fitsIndex_both h1 h2];exact Bool.false_ne_true
  have hlong : ¬ Builtin.List.listTooLong (its.toArray.size * k.toNat) = true := by
    rw [q9 hlen];exact Bool.false_ne_true
  have hnew : List.foldl (λx1 x2 => x1 ++ x2) #[] (List.replicate (if its.toArray.isEmpty = true then 0 else k.toNat) its.toArray) = (List.replicate k.toNat its).flatten.toArray := by
    have f0 : ∀ m : Nat, List.foldl (λx1 x2 => x1 ++ x2) #[] (List.replicate m its.toArray) = (List.replicate m its).flatten.toArray := λm => by
      have := foldl_rep its m [];rw [List.nil_append] at this;exact this
    rw [f0];cases its with
    | nil => simp
    | cons a r' => rw [if_neg (by simp)]
  refine wpAny_binaryOp_repeat_ref (T := "list") (U := "int") (by decide) ⟨_, e, rfl⟩ (λs' => typeIs_int s' k t) noFill_list_mul F.fills_int_mul F.slot_int_rmul repeat_list F.slot_int_index.lookup
    (call_meets F.slot_int_rmul (typeIs_int s k t) F.entry_int_rmul (F.args_int_rmul_2 _ _) (int___rmul___int_list k t l its.toArray n)
      ⟨e, rfl, ⟨_, e, rfl⟩, call_meets F.slot_list_mul ⟨_, e, rfl⟩ F.entry_list_mul (F.args_list_mul_2 _ _) (AutoListH.list___mul___list_int_3 l its.toArray n k t hfit hcap hlong) ⟨e, ?_⟩⟩)
  rw [hnew];exact ⟨.ref _, _, I.AL (t' := s.toks) (r.rep k.toNat) (by rw [len_rep, Nat.mul_comm];exact hz), rfl, q _ I.fresh⟩
end
section
variable {prog : Program} {w : World} {A : Around} {E : Value -> Shared -> Prop} {s : Shared}
end
section
variable {X : Cx}
end
end L2
namespace Att
open PySem PySem.W PySem.Calls PyProof.Rows
theorem kU {P : Params}{h : Heap}:∀ (ns : List Int) (vs : List Value), WellAll P h vs (ns.map WData.int) -> IntsAre vs ns := by
  intro ns;induction ns with
  | nil =>
    intro vs w;rw [List.map_nil] at w;cases w;exact .nil
  | cons n ns ih =>
    intro vs w;rw [map_cons] at w;cases w with
    | cons a b =>
      cases a;exact .cons _ _ (ih _ b)
theorem vD {l : OpenLaw}{n : Nat}(hn : l.most = some n){P : Params}{h : Heap}{args : List WData}{vals : List Value}
    (hpre : l.row.toRowW.claim.pre args = true) (hwl : WellAll P h vals args) :
    ∃ a vs ns, vals = [Value.ref a] /\ args = [WData.list (ns.map WData.int)] /\ h.get? a = some { cls := .type "list", data := .seq vs.toArray } /\ IntsAre vs ns /\ ns.length <= n := by
  have hsh : WShape.hasAll [] args [.list .int] = true := (pre_splitW hpre).1;have hc : l.pre.holds [] { args := args } = true := (pre_splitW hpre).2;obtain ⟨d, r, rfl, h1, h2⟩ := hasAllW_cons hsh;obtain rfl := hasAllW_nil h2;obtain ⟨xs, rfl, h3⟩ := hasW_list h1;obtain ⟨ns, rfl⟩ := items_int h3;have hlen : ns.length <= n := by
    unfold OpenLaw.pre at hc;have h4 : (WTm.not (.lt (.lit (.int (n : Int))) (.len (.arg 0)))).holds [] { args := [.list (ns.map .int)] } = true := by
      have h4 := (holds_andW hc).1;rw [hn] at h4;exact h4
    have h5 := condW_of h4 (w_not (w_lt w_lit (w_len_list (w_arg rfl))));rw [length_map] at h5;refine Nat.le_of_not_lt λq => ?_;have q' : (n : Int) < ((ns.length : Nat):Int) := by lia
    first
      | (rw [decide_eq_true q'] at h5;exact absurd h5 (by decide))
      | (simp at h5;lia)
  cases hwl with
  | cons w1 w2 =>
    cases w2;cases w1 with
    | list ho hall => exact ⟨_, _, ns, rfl, rfl, ho, kU ns _ hall, hlen⟩
theorem vA (l : OpenLaw)(args : List WData):l.row.toRowW.claim.post args (.bool true) args = true :=
  postW_of (r := l.row.toRowW) (X := (true == true))
    (show WShape.has [] (.bool true) .bool = true by first | rfl | decide | simp [WShape.has, WShape.arms, WShape.armsAll])
    (show (WTm.eq .res (.lit (.bool true))).value [] { args := args, res := some (.bool true), after := args } = some (.bool (true == true)) from w_eq_bool (w_res rfl) w_lit) rfl
theorem qf {l : OpenLaw}{n : Nat}{q : Program}{loose : List Str}{XP : (Str -> Option Value) -> Heap -> Prop}{YP : World -> Heap -> Prop}{d : DefRec}
    (hn : l.most = some n) (hdf : d.params.defaults = [])
    (call : ∀ (w : World) (s₀ s₁ : Shared) (mg mb : Str -> Option Value) (fa : Addr) (o : Obj) (pm cd doc : Value) (a : Addr) (vs : List Value) (ns : List Int),
      Ground q loose [] XP w s₀ mg mb s₁.heap -> YP w s₁.heap ->
      s₁.heap.get? fa = some o -> o.data = .func (docDef d.name d.params d.body d.scope pm cd doc) -> s₁.heap.CodeRec cd d.name -> mg d.name = some (.ref fa) ->
      s₁.heap.get? a = some { cls := .type "list", data := .seq vs.toArray } -> IntsAre vs ns -> ns.length <= n -> s₁.gens = #[] ->
      codeAny (model l.prog w) callerA (.call (.ref fa) ⟨[.ref a], []⟩) (λr s' => r = .ok (.ret (.bool true)) /\ OldK s₁.heap s'.heap /\ s'.os = s₁.os /\ AllBare s'.gens) s₁) :
    WalkO q loose XP YP l.row.toRowW d [] (λf vs => PySem.call f vs) := by
  intro w s₀ s₁ mg mb G Y fa o pm cd doc dV kV ho hd hcd hD hmg hg args vals as hpre hlay hrd hwl hlo;obtain rfl : dV = .none := Dflts.none hD hdf;obtain rfl : kV = .none := Dflts.noKw hD;obtain ⟨a, vs, ns, rfl, rfl, hobj, hints, hlen⟩ := vD hn hpre hwl;refine enter_call (codeAny_mono (call w s₀ s₁ mg mb fa o pm cd doc a vs ns G Y ho (fd_plain hd) hcd hmg hobj hints hlen hg) λr s' hq => ?_);obtain ⟨rfl, h2, h3, h4⟩ := hq;exact ⟨.inl ⟨.bool true, .bool true, [], rfl, λ_ => rfl, .bool true, vA l _, λ_ => ⟨List.Pairwise.nil, λ_ hm => (nomatch hm)⟩⟩, h2, h3, h4⟩
section
variable {prog : Program} {w : World} {A : Around} {E : Value -> Shared -> Prop} {s : Shared} {K : Frag}
end
end Att
namespace L2
open PySem PySem.Spec PyProof.Rows
theorem oz : ∀ {vs : List Value} {ns : List Int}, IntsAre vs ns -> Vals (ns.map V.int) vs
  | _, _, .nil => .nil
  | _, _, .cons n t h => .cons ⟨t, rfl⟩ (oz h)
noncomputable def yj (H : Hp):Prop := ∀ b, H b = none \/ ∃ o xs, H b = some (.cq o (.lst xs))
theorem xa {P : Program}{w : World}{K : Frag}{mg mb : Str -> Option Value}{CX : rR}{k : Nat}{fa a : Addr}{fd : FuncData}{x : Str}{sp : Sp}{s₁ : Shared}{vs : List Value}{ns : List Int}
    (KX : K.In s₁.heap) (hns : s₁.heap.Ns mainGlobals mg) (hb : s₁.heap.Ns builtinsNs mb) (hbb : ∀ x : Str, x ≠ "__name__" -> mb x = bootBuiltins x) (hlim : s₁.heap.NoLimit) (hg : s₁.gens = #[])
    (ha : s₁.heap.get? a = some { cls := .type "list", data := .seq vs.toArray }) (hi : IntsAre vs ns) (hl : ns.length <= sizeLine) (hr : cZ k callerA)
    (F : ∀ base : Heap, K.In base -> base.Ns mainGlobals mg -> aM P w K mg base CX k fa fd [x] sp) (hbind : ∀ (s : Shared) (u : Value), BindsTo s fd ⟨[u], []⟩ [(x, u)])
    (hsp : ∀ H : Hp, yj H -> d0 K H a (ns.map V.int) -> sp [.ref a] H (λv _ => v = .bl true) λ_ _ _ => False)
    (hCX : ∀ H e s', CX [] H s₁ (λ_ _ _ => False) e s' -> False) :
    codeAny (model P w) callerA (.call (.ref fa) ⟨[.ref a], []⟩) (λr s' => r = .ok (.ret (.bool true)) /\ OldK s₁.heap s'.heap /\ s'.os = s₁.os /\ AllBare s'.gens) s₁ := by
  have rv := oz hi;have lenV := hi.length;have core : ∀ H : Hp, yj H -> d0 K H a (ns.map V.int) -> g6 P w H s₁.heap -> (∀ b, H b ≠ none -> b = a) -> (H a ≠ none -> K.lookup a = none) ->
      codeAny (model P w) callerA (.call (.ref fa) ⟨[.ref a], []⟩) (λr s' => r = .ok (.ret (.bool true)) /\ OldK s₁.heap s'.heap /\ s'.os = s₁.os /\ AllBare s'.gens) s₁ := by
    intro H hO hS bc hA hK;have base_of : ∀ {b : Addr} {o : Obj}, s₁.heap.get? b = some o -> H b = none -> (o5 s₁.heap H).get? b = some o := λe n => wV e n;have noA : ∀ {b : Addr} {o : Obj} {es : Array DictEntry} {ep : Nat}, s₁.heap.get? b = some o -> o.data = .dict es ep -> H b = none := λ{b o es ep} e d => by
      cases q : H b with
      | none => rfl
      | some u =>
        have e' : b = a := hA b (by rw [q];simp);subst e';rw [ha] at e;cases e;have d' : Data.seq vs.toArray _ = Data.dict es ep := d;cases d'
    have nsK : ∀ {b : Addr} {m : Str -> Option Value}, s₁.heap.Ns b m -> (o5 s₁.heap H).Ns b m := λ{b m} ⟨o, es, ep, e, d, r⟩ => ⟨o, es, ep, base_of e (noA e d), d, r⟩
    have hKb : K.In (o5 s₁.heap H) := λb o e => base_of (KX b o e) (by
      cases q : H b with
      | none => rfl
      | some u =>
        have e' : b = a := hA b (by rw [q];simp);subst e';rw [hK (by rw [q];simp)] at e;cases e)
    have hM : Mod K mg (o5 s₁.heap H) := ⟨hKb, nsK hns, ⟨mb, nsK hb, hbb⟩, let ⟨mc, h1, h2⟩ := hlim;⟨mc, nsK h1, h2⟩⟩
    have e0 : rU P w K mg (o5 s₁.heap H) callerA [] s₁ H := ⟨rfl, hM, λb o e => yV e, Nat.le_of_eq (vd _ _), trivial, λb hb => absurd (show b ∈ ([]:List Addr) from hb) (by simp), bc, .of_eq hg⟩
    refine codeAny_mono ((F _ hKb (nsK hns)).run callerA [] s₁ H ⟨[.ref a], []⟩ [.ref a] [.ref a] _ _ hr e0 (hbind s₁ (.ref a)) (.cons rfl .nil) (hsp H hO hS)) λr s' h => ?_;cases r with
    | error e => exact (hCX H e s' h).elim
    | ok fl =>
      cases fl with
      | next => exact False.elim h
      | brk => exact False.elim h
      | cont => exact False.elim h
      | ret u =>
        obtain ⟨v, H', os, bare, un, hok', r', q⟩ := h;have q' : v = .bl true := q;subst q';obtain rfl : u = Value.bool true := r';refine ⟨rfl, OldK.of_keep λb o e => ?_, os, bare⟩;cases q : H b with
        | none => exact un.keep b o e q (by intro z;exact absurd (show b ∈ ([]:List Addr) from z) (by simp)) (by simp)
        | some u =>
          rcases hO b with z | ⟨ob, xs, z⟩
          · rw [q] at z;cases z
          · have z2 := un.gR b ob _ z;obtain ⟨e1, _⟩ := bc b _ z;obtain ⟨e2, _⟩ := hok' b _ z2;rw [e] at e1;cases e1;exact e2
  cases hk : K.lookup a with
  | some o =>
    have e := KX a o hk;rw [ha] at e;cases e;refine core (λ_ => none) (λ_ => .inl rfl) (.inr ⟨_, vs.toArray, _, hk, rfl, rfl, rfl, by rw [size_toArray, lenV];exact hl, by simpa using rv⟩) (λb u z => by have z' : (none : Option HO) = some u := z;cases z') (λb z => absurd rfl z) λz => absurd rfl z
  | none =>
    refine core (λb => if b = a then some (.cq { cls := .type "list", data := .seq vs.toArray } (.lst (ns.map V.int))) else none) (λb => ?_) (.inl (.inr ⟨{ cls := .type "list", data := .seq vs.toArray }, if_pos rfl⟩)) (λb u z => ?_) (λb z => ?_) λ_ => hk
    · by_cases hb : b = a
      · exact .inr ⟨_, _, if_pos hb⟩
      · exact .inl (if_neg hb)
    · by_cases hb : b = a
      · have z' := (if_pos hb).symm.trans z;cases z';subst hb;exact ⟨ha, by rw [length_map];exact hl, vs, _, rv, ha⟩
      · have z' := (if_neg hb).symm.trans z;cases z'
    · by_cases hb : b = a
      · exact hb
      · exact absurd (if_neg hb) z
end L2
namespace L2
open PySem PySem.Spec PyProof.Rows
theorem zz {l : PySem.W.OpenLaw}{n k : Nat}{q : Program}{loose : List Str}{XP : (Str -> Option Value) -> Heap -> Prop}{YP : World -> Heap -> Prop}{d : DefRec}{K : Params -> Frag}{CX : World -> rR}{sp : World -> Sp}{x : Str}
    (hn : l.most = some n) (hn2 : n <= sizeLine) (hdf : d.params.defaults = []) (hr : cZ k callerA)
    (hY : ∀ (w : World) (h : Heap), YP w h -> (K w.params).In h)
    (F : ∀ (w : World) (mg : Str -> Option Value) (fa : Addr) (h : Heap), (K w.params).In h -> h.Ns mainGlobals mg -> mg d.name = some (.ref fa) ->
      ∃ fd : FuncData, (∀ (s : Shared) (u : Value), BindsTo s fd ⟨[u], []⟩ [(x, u)]) /\
        ∀ base : Heap, (K w.params).In base -> base.Ns mainGlobals mg -> aM l.prog w (K w.params) mg base (CX w) k fa fd [x] (sp w))
    (hsp : ∀ (w : World) (H : Hp) (a : Addr) (ns : List Int), ns.length <= n -> yj H -> d0 (K w.params) H a (ns.map V.int) -> sp w [.ref a] H (λv _ => v = .bl true) λ_ _ _ => False)
    (hCX : ∀ (w : World) (H : Hp) (s : Shared) (e : Value) (s' : Shared), CX w [] H s (λ_ _ _ => False) e s' -> False) :
    PySem.W.WalkO q loose XP YP l.row.toRowW d [] (λf vs => PySem.call f vs) := by
  refine Att.qf hn hdf λw s₀ s₁ mg mb fa o pm cd doc a vs ns G Y ho hd hcd hmg hobj hints hlen hg => ?_;have KX := hY w _ Y;obtain ⟨fd, hb, hF⟩ := F w mg fa _ KX G.T.g hmg;exact xa KX G.T.g G.T.b G.T.builtins G.T.nolimit hg hobj hints (Nat.le_trans hlen hn2) hr hF hb (λH hO hS => hsp w H a ns hlen hO hS) λH e s' => hCX w H s₁ e s'
theorem x8 {l : PySem.W.OpenLaw}{n k : Nat}{q : Program}{loose : List Str}{XP : (Str -> Option Value) -> Heap -> Prop}{YP : World -> Heap -> Prop}{d : DefRec}{K : Params -> Frag}{CX : rR}{sp : Frag -> Sp}{x : Str}
    (hn : l.most = some n) (hn2 : n <= sizeLine) (hdf : d.params.defaults = []) (hr : cZ k callerA)
    (hY : ∀ (w : World) (h : Heap), YP w h -> (K w.params).In h)
    (F : ∀ (w : World) (mg : Str -> Option Value) (fa : Addr) (h : Heap), (K w.params).In h -> h.Ns mainGlobals mg -> mg d.name = some (.ref fa) ->
      ∃ fd : FuncData, (∀ (s : Shared) (u : Value), BindsTo s fd ⟨[u], []⟩ [(x, u)]) /\
        ∀ base : Heap, (K w.params).In base -> base.Ns mainGlobals mg -> aM l.prog w (K w.params) mg base CX k fa fd [x] (sp (K w.params)))
    (hsp : ∀ (K : Frag) (H : Hp) (a : Addr) (ns : List Int), ns.length <= n -> yj H -> d0 K H a (ns.map V.int) -> sp K [.ref a] H (λv _ => v = .bl true) λ_ _ _ => False)
    (hCX : ∀ (H : Hp) (s : Shared) (e : Value) (s' : Shared), CX [] H s (λ_ _ _ => False) e s' -> False) :
    PySem.W.WalkO q loose XP YP l.row.toRowW d [] (λf vs => PySem.call f vs) :=
  zz (K := K) (CX := λ_ => CX) (sp := λw => sp (K w.params)) hn hn2 hdf hr hY F (λw H a ns h1 h2 h3 => hsp (K w.params) H a ns h1 h2 h3) λ_ H s e s' => hCX H s e s'
end L2
namespace L2
open PySem PySem.Spec PyProof.Rows
noncomputable def inClass (s : Stmt)(j : Nat):Stmt := match s with
  | .ClassDef _ _ _ body _ _ _ _ _ _ _ => body.getD j (.Pass ⟨0, 0, 0, 0⟩)
  | _ => .Pass ⟨0, 0, 0, 0⟩
noncomputable def aG (s : Stmt):Arguments := match s with
  | .FunctionDef _ a _ _ _ _ _ _ _ _ => a
  | _ => { posonlyargs := [], args := [], vararg := none, kwonlyargs := [], kw_defaults := [], kwarg := none, defaults := [] }
noncomputable def az (s : Stmt):List Stmt := match s with
  | .FunctionDef _ _ b _ _ _ _ _ _ _ => b
  | _ => []
noncomputable def ag (s : Stmt):Scope := match s with
  | .FunctionDef _ _ _ _ _ _ sc _ _ _ => sc
  | _ => { kind := .function, names := [], isGenerator := false, isCoroutine := false }
noncomputable abbrev gM : rR := λ_ _ _ _ _ _ => False
noncomputable abbrev E0 : XK := λ_ _ _ => False
theorem rm {X : Cx}:Passes gM X E0 := λ_ _ _ _ _ _ _ h => h.elim
structure fU (K : Frag)(x qual : Str)(st : Stmt)(f : Addr)(fd : FuncData):Prop where
  ex : ∃ (oc : Value) (od : Option Addr) (kV doc pm : Value) (an : Option Addr) (cdv ct : Value) (osl : Array (Option Value)),
    fd = fnOf x qual (aG st) (az st) (ag st) .none kV doc pm an cdv ct /\ K.lookup f = some ⟨oc, od, .func fd, osl⟩ /\ codeIn K cdv qual = true
  kp : keepIn K (.ref f) = true
section
variable {P : Program} {w : World} {K : Frag} {mg : Str -> Option Value} {base : Heap}
theorem fU.ok {x qual : Str}{st : Stmt}{f : Addr}{fd : FuncData}{N ps : List Str}{k : Nat}{sp : Sp}(F : fU K x qual st f fd)(S : aF N ps (ag st))(len : ∀ vs H Q E, sp vs H Q E -> vs.length = ps.length)
    (hbody : ∀ (cdv : Value) (A : Around) (outer : List Env) (s : Shared) (H : Hp) (vs : List V) (Q : VK) (E : XK), cZ k (A.deeper (envOfC qual (ag st) s.heap.objs.size f cdv)) -> sp vs H Q E ->
      ∃ t, mS (mU gM P w K mg base N qual (ag st) f cdv A outer s H E).Cf (az st) t /\ t { nx := λ_ H' => Q .non H', rt := Q } (start N vs) H):aM P w K mg base gM (k + 1) f fd ps sp := by
  obtain ⟨oc, od, kV, doc, pm, an, cdv, ct, osl, rfl, lk, hcd⟩ := F.ex;refine zI lk hcd S len λA outer s H vs Q E hr hsp => ?_;obtain ⟨t, h, q⟩ := hbody cdv A outer s H vs Q E hr hsp;exact ⟨t, h.Cf, q⟩
theorem fU.binds {x qual : Str}{st : Stmt}{f : Addr}{fd : FuncData}{ps : List Str}(F : fU K x qual st f fd)
    (h : ∀ (kV doc pm : Value) (an : Option Addr) (cdv ct : Value) (us : List Value), us.length = ps.length -> bindArgs (fnOf x qual (aG st) (az st) (ag st) .none kV doc pm an cdv ct) ⟨us, []⟩ = pure (ps.zip us)):Binds K fd ps [] := by
  obtain ⟨oc, od, kV, doc, pm, an, cdv, ct, osl, rfl, lk, hcd⟩ := F.ex;exact .all (h kV doc pm an cdv ct)
theorem aV {x qual : Str}{st : Stmt}{f : Addr}{oc : Value}{od an : Option Addr}{osl : Array (Option Value)}{kV doc pm cdv ct : Value}(l : K.lookup f = some ⟨oc, od, .func (fnOf x qual (aG st) (az st) (ag st) .none kV doc pm an cdv ct), osl⟩)
    (c : codeIn K cdv qual = true) (k : keepIn K (.ref f) = true):fU K x qual st f (fnOf x qual (aG st) (az st) (ag st) .none kV doc pm an cdv ct) := ⟨⟨oc, od, kV, doc, pm, an, cdv, ct, osl, rfl, l, c⟩, k⟩
end
theorem wX {A : Around}{k : Nat}(hr : cZ k A):A.units + 1 < cLine := Nat.lt_of_le_of_lt (Nat.add_le_add_left (by decide : 1 <= 64) _) hr.units
theorem iT {n : Nat}(h : n <= 1000):n < sizeLine := Nat.lt_of_le_of_lt h (by decide)
section
variable {X : Cx}
theorem pv (i : Nat){x : Str}{pos : Pos}(hN :autoParam (X.N[i]? = some x) aZa._auto_1)(hv :autoParam (Bz X.env.scope x) aZg._auto_1)(hd :autoParam ((x == ("__debug__" : Str)) = false) aZb._auto_1)
    (hcd :autoParam ((x == ("__classdict__" : Str)) = false) aZb._auto_1):PE X (.Name x pos) (Bt i) := pA hN hv hd hcd
end
theorem iY {A B : Prop}(h : B):if false = true then A else B := by
  rw [if_neg Bool.false_ne_true];exact h
theorem mW {A B : Prop}(h : A):if true = true then A else B := by
  rw [if_pos rfl];exact h
theorem qV {c A B : Prop}[Decidable c](h1 : c -> A)(h2 : ¬ c -> B):if c then A else B := by
  by_cases h : c
  · rw [if_pos h];exact h1 h
  · rw [if_neg h];exact h2 h
noncomputable def av (H H' : Hp):Prop := ∀ b o, H b = some o -> H' b = some o
theorem av.refl (H : Hp):av H H := λ_ _ h => h
theorem av.trans {H H1 H2 : Hp}(a : av H H1)(b : av H1 H2):av H H2 := λc o h => b c o (a c o h)
theorem av.free {H H' : Hp}(e : av H H'){l : Addr}(h : H' l = Option.none):H l = Option.none := by
  cases q : H l with
  | none => rfl
  | some o =>
    rw [e l o q] at h;cases h
theorem av.seq {K : Frag}{H H' : Hp}{a : Addr}{xs : List V}(e : av H H')(h : d0 K H a xs):d0 K H' a xs := by
  rcases h with (h | ⟨o, h⟩) | h
  · exact .inl (.inl (e _ _ h))
  · exact .inl (.inr ⟨o, e _ _ h⟩)
  · exact .inr h
end L2
namespace L2
open PySem PySem.Spec PyProof.Rows
noncomputable def mT (X : Cx)(scope : Scope)(N' : List Str)(cl : List (Str × Addr))(fp : List Addr)(C : Addr)(s : Shared)(H : Hp):Cx :=
  { X with N := N', s₀ := s, H₀ := H, env := compEnvC scope cl C X.env, outer := X.stack, stack := X.stack, ex := fp, fn := λ_ => false, pn := [], xe := λ_ _ => False }
noncomputable def gQ (sc0 : Scope)(N0 : List Str)(scope : Scope)(N' : List Str)(fr : List (Option Nat)):Bool :=
  decide (scope.kind = .function) && scope.names.all (λy => decide (y.2 ≠ .cell)) && scope.names.all (λy => decide (y.2 = .local -> scope.names.lookup y.1 = some .local)) &&
  scope.names.all (λy => decide (y.2 = .free -> (sc0.names.lookup y.1 = some .cell \/ sc0.names.lookup y.1 = some .free))) && decide (fr.length = N'.length) &&
  (List.range N'.length).all (λi => match fr[i]?, N'[i]? with
    | some (some j), some x => decide (N0[j]? = some x) && decide (scope.names.lookup x = some .free) && decide (sc0.names.lookup x = some .cell \/ sc0.names.lookup x = some .free)
    | _, _ => true)
structure j5 (sc0 : Scope)(N0 : List Str)(scope : Scope)(N' : List Str)(fr : List (Option Nat)):Prop where
  kind : scope.kind = .function
  xn : ∀ y ∈ scope.names, y.2 ≠ .cell
  names : ∀ y ∈ scope.names, y.2 = .local -> scope.names.lookup y.1 = some .local
  frees : ∀ y ∈ scope.names, y.2 = .free -> (sc0.names.lookup y.1 = some .cell \/ sc0.names.lookup y.1 = some .free)
  len : fr.length = N'.length
  fix : ∀ (i j : Nat) (x : Str), fr[i]? = some (some j) -> N'[i]? = some x -> N0[j]? = some x /\ scope.names.lookup x = some .free /\ (sc0.names.lookup x = some .cell \/ sc0.names.lookup x = some .free)
theorem nK {sc0 : Scope}{N0 : List Str}{scope : Scope}{N' : List Str}{fr : List (Option Nat)}(h : gQ sc0 N0 scope N' fr = true):j5 sc0 N0 scope N' fr := by
  unfold gQ at h;rw [Bool.and_eq_true, Bool.and_eq_true, Bool.and_eq_true, Bool.and_eq_true, Bool.and_eq_true] at h;obtain ⟨⟨⟨⟨⟨h1, h2⟩, h3⟩, h4⟩, h5⟩, h6⟩ := h;refine ⟨of_decide_eq_true h1, λy hy => of_decide_eq_true (List.all_eq_true.mp h2 y hy), λy hy => of_decide_eq_true (List.all_eq_true.mp h3 y hy), λy hy => of_decide_eq_true (List.all_eq_true.mp h4 y hy), of_decide_eq_true h5, λi j x e1 e2 => ?_⟩;have hi : i < N'.length := (List.getElem?_eq_some_iff.mp e2).1;have q := List.all_eq_true.mp h6 i (mem_range.mpr hi);rw [e1, e2] at q;dsimp only at q;rw [Bool.and_eq_true, Bool.and_eq_true] at q;exact ⟨of_decide_eq_true q.1.1, of_decide_eq_true q.1.2, of_decide_eq_true q.2⟩
noncomputable def pQ (env : Env):List (Str × NameKind) -> List (Str × Addr) -> List (Str × Addr)
  | [], cs => cs
  | (n, k) :: r, cs => if k = .free then pQ env r ((n, (env.cells.lookup n).getD 0) :: cs) else pQ env r cs
theorem mem_of_lookup {α : Type}:∀ {l : List (Str × α)} {x : Str} {v : α}, l.lookup x = some v -> (x, v) ∈ l
  | [], _, _, h => by simp at h
  | (y, w) :: r, x, v, h => by
    cases hx : x == y with
    | true =>
      simp only [lookup_cons, hx] at h;cases h;rw [beq_iff_eq.mp hx];exact mem_cons_self
    | false =>
      simp only [lookup_cons, hx] at h;exact mem_cons_of_mem _ (mem_of_lookup h)
theorem oI {env : Env}:∀ {l : List (Str × NameKind)} {cs : List (Str × Addr)} {p : Str × Addr}, p ∈ pQ env l cs -> p ∈ cs \/ (∃ y ∈ l, y.2 = .free /\ p = (y.1, (env.cells.lookup y.1).getD 0))
  | [], _, _, h => .inl h
  | (n, k) :: r, cs, p, h => by
    unfold pQ at h;by_cases hk : k = .free
    · rw [if_pos hk] at h;rcases oI h with q | ⟨y, hy, e1, e2⟩
      · rcases List.mem_cons.mp q with q | q
        · exact .inr ⟨(n, k), mem_cons_self, hk, q⟩
        · exact .inl q
      · exact .inr ⟨y, mem_cons_of_mem _ hy, e1, e2⟩
    · rw [if_neg hk] at h;rcases oI h with q | ⟨y, hy, e1, e2⟩
      · exact .inl q
      · exact .inr ⟨y, mem_cons_of_mem _ hy, e1, e2⟩
theorem lN {env : Env}:∀ {l : List (Str × NameKind)} {cs : List (Str × Addr)} {p : Str × Addr}, p ∈ cs -> p ∈ pQ env l cs
  | [], _, _, h => h
  | (n, k) :: r, cs, p, h => by
    unfold pQ;by_cases hk : k = .free
    · rw [if_pos hk];exact lN (mem_cons_of_mem _ h)
    · rw [if_neg hk];exact lN h
theorem lj {env : Env}:∀ {l : List (Str × NameKind)} {cs : List (Str × Addr)} {x : Str}, (x, NameKind.free) ∈ l -> (x, (env.cells.lookup x).getD 0) ∈ pQ env l cs
  | [], _, _, h => nomatch h
  | (n, k) :: r, cs, x, h => by
    unfold pQ;rcases List.mem_cons.mp h with q | q
    · cases q;rw [if_pos rfl];exact lN mem_cons_self
    · by_cases hk : k = .free
      · rw [if_pos hk];exact lj q
      · rw [if_neg hk];exact lj q
theorem gi {α : Type}:∀ {l : List (Str × α)} {x : Str} {v : α}, (x, v) ∈ l -> ∃ w, l.lookup x = some w
  | [], _, _, h => nomatch h
  | (y, w) :: r, x, v, h => by
    cases hx : x == y with
    | true => exact ⟨w, by simp [lookup_cons, hx]⟩
    | false =>
      rcases List.mem_cons.mp h with q | q
      · cases q;simp at hx
      · obtain ⟨w', e⟩ := gi q;exact ⟨w', by simp [lookup_cons, hx, e]⟩
theorem ji {env : Env}:∀ (l : List (Str × NameKind)) (cs : List (Str × Addr)), (∀ y ∈ l, y.2 = .free -> ∃ c, env.cells.lookup y.1 = some c) ->
    (forIn l cs λ(x : Str × NameKind) (r : List (Str × Addr)) => (if (x.2 == NameKind.free) = true then do let a <- cellOf env x.1;pure (ForInStep.yield ((x.1, a) :: r)) else pure (ForInStep.yield r):Sem (ForInStep (List (Str × Addr))))) = pure (pQ env l cs)
  | [], cs, _ => rfl
  | (n, k) :: r, cs, h => by
    rw [List.forIn_cons];by_cases hk : k = .free
    · subst hk;obtain ⟨c, e⟩ := h (n, .free) mem_cons_self rfl;have hc : cellOf env n = pure c := by unfold cellOf;rw [e]
      have ih := ji r ((n, c) :: cs) λy hy => h y (mem_cons_of_mem _ hy);simp only [beq_self_eq_true, if_true, hc];unfold pQ;rw [if_pos rfl, e];exact ih
    · have hb : (k == NameKind.free) = false := by simpa using hk
      have ih := ji r cs λy hy => h y (mem_cons_of_mem _ hy);simp only [hb, Bool.false_eq_true, if_false];unfold pQ;rw [if_neg hk];exact ih
theorem lO {scope : Scope}{env : Env}(h : ∀ y ∈ scope.names, y.2 = .free -> ∃ c, env.cells.lookup y.1 = some c):closureFor scope env = pure (pQ env scope.names []) := by
  unfold closureFor;have := ji scope.names [] h;first
    | (rw [this];rfl)
    | (refine Eq.trans ?_ this;rfl)
    | (simp only [this];rfl)
theorem iN {env : Env}{l : List (Str × NameKind)}(h : ∀ y ∈ l, y.2 = .free -> ∃ c, env.cells.lookup y.1 = some c){x : Str}{c : Addr}(e : (pQ env l []).lookup x = some c):env.cells.lookup x = some c := by
  rcases oI (mem_of_lookup e) with q | ⟨y, hy, e1, e2⟩
  · exact nomatch q
  · obtain ⟨c', ec⟩ := h y hy e1;have e3 : x = y.1 := congrArg Prod.fst e2;have e4 : c = (env.cells.lookup y.1).getD 0 := congrArg Prod.snd e2;rw [ec] at e4;rw [e3, ec, e4];rfl
theorem pE {scope : Scope}{env : Env}{x : Str}:scope.names.lookup x = some .free -> (relabel scope env).names.lookup x = some .cell \/ (relabel scope env).names.lookup x = some .free := by
  show scope.names.lookup x = some .free -> (scope.names.map _).lookup x = _ \/ (scope.names.map _).lookup x = _;induction scope.names with
  | nil => intro h;simp at h
  | cons p r ih =>
    intro h;obtain ⟨n, k⟩ := p;rw [map_cons];cases hx : x == n with
    | true =>
      simp only [lookup_cons, hx] at h;cases h;dsimp only;split
      · exact .inl (by simp [lookup_cons, hx])
      · exact .inr (by simp [lookup_cons, hx])
    | false =>
      simp only [lookup_cons, hx] at h;dsimp only;split <;> (simp only [lookup_cons, hx];exact ih h)
theorem pD {scope : Scope}{env : Env}{x : Str}(nc : ∀ y ∈ scope.names, y.2 ≠ .cell):((relabel scope env).names.lookup x = some .cell \/ (relabel scope env).names.lookup x = some .free) -> scope.names.lookup x = some .free := by
  show ((scope.names.map _).lookup x = _ \/ (scope.names.map _).lookup x = _) -> _;revert nc;induction scope.names with
  | nil => intro _ h;simp at h
  | cons p r ih =>
    intro nc h;obtain ⟨n, k⟩ := p;rw [map_cons] at h;have ih' := ih (λy hy => nc y (mem_cons_of_mem _ hy));cases hx : x == n with
    | true =>
      simp only [lookup_cons, hx];dsimp only at h;by_cases hc : (k == NameKind.free && env.scope.kind == .function && env.kindOf n == some .cell) = true
      · simp only [Bool.and_eq_true] at hc;have : k = .free := by simpa using hc.1.1
        rw [this]
      · rw [if_neg hc] at h;simp only [lookup_cons, hx] at h;rcases h with h | h
        · cases h;exact absurd rfl (nc (n, .cell) mem_cons_self)
        · exact h
    | false =>
      simp only [lookup_cons, hx];dsimp only at h;refine ih' ?_;by_cases hc : (k == NameKind.free && env.scope.kind == .function && env.kindOf n == some .cell) = true
      · rw [if_pos hc] at h;simpa only [lookup_cons, hx] using h
      · rw [if_neg hc] at h;simpa only [lookup_cons, hx] using h
theorem Un.but {fs ex : List Addr}{H H' : Hp}{h h1 h2 : Heap}{C : Addr}(u : Un fs ex H H' h h1)(sb : Heap.SameBut C h1 h2)(hC : h.objs.size <= C):Un fs ex H H' h h2 := by
  have ne : ∀ b o, h.get? b = some o -> b ≠ C := λb o e => Nat.ne_of_lt (Nat.lt_of_lt_of_le (Heap.lt_size e) hC);refine ⟨λb o e n hb hx => (sb.2 b (ne b o e)).trans (u.keep b o e n hb hx), λb o e n hb hx => ?_, u.free, λb o e hx => ?_, u.iJ, u.gR, u.iI⟩
  · obtain ⟨sl, q⟩ := u.slot b o e n hb hx;exact ⟨sl, (sb.2 b (ne b o e)).trans q⟩
  · obtain ⟨o', q⟩ := u.there b o e hx;exact ⟨o', (sb.2 b (ne b o e)).trans q⟩
theorem g6.but {P : Program}{w : World}{H : Hp}{h1 h2 : Heap}{C : Addr}(x : g6 P w H h1)(hC : H C = none)(sb : Heap.SameBut C h1 h2):g6 P w H h2 := λb ob e => by
  refine (x b ob e).fq (λc w' hc q => (sb.2 c ?_).trans q) (λ_ q => q) λ_ _ q => q;rintro rfl;rcases hc with rfl | hc
  · rw [hC] at e;cases e
  · rw [hC] at hc;cases hc
noncomputable def kd (fr : List (Option Nat))(σ : St):St := fr.map λo => match o with | none => none | some j => (σ[j]?).getD none
theorem wO {fr : List (Option Nat)}{σ : St}{i : Nat}{v : V}(e : (kd fr σ)[i]? = some (some v)):∃ j, fr[i]? = some (some j) /\ σ[j]? = some (some v) := by
  unfold kd at e;rw [getElem?_map] at e;cases q : fr[i]? with
  | none => rw [q] at e;cases e
  | some o =>
    rw [q] at e;cases o with
    | none => cases e
    | some j =>
      refine ⟨j, rfl, ?_⟩;have e' : (σ[j]?).getD none = some v := Option.some.inj e;cases r : σ[j]? with
      | none => rw [r] at e';cases e'
      | some y => rw [r] at e';rw [<- e'];rfl
section
variable {X : Cx} {pins : List (Addr × Obj)} {σ : St} {H : Hp} {s : Shared}
theorem Ai {scope : Scope}{N' : List Str}{fr : List (Option Nat)}{fp : List Addr}(I : Inv X pins σ H s)(S : j5 X.env.scope X.N scope N' fr)(hf : ∀ b ∈ fp, jA X pins H b)(ho : ∀ b ∈ fp, ∃ o, s.heap.get? b = some o) :
    (mT X scope N' (pQ X.env scope.names []) fp s.heap.objs.size s H).Ok := by
  have has : ∀ y ∈ scope.names, y.2 = .free -> ∃ c, X.env.cells.lookup y.1 = some c := λy hy hk => I.ok.has y.1 (S.frees y hy hk);refine ⟨I.ok.mod, S.kind, I.ok.glob, I.ok.blt, Nat.le_refl _, λx y c e1 e2 => I.ok.inj x y c (iN has e1) (iN has e2), λx hx => ?_, λx c hx => (nomatch hx), I.ok.hd, I.ok.frames, .inl rfl, λb hb => ⟨?_, λx c e => (hf b hb).2.2.2.2.1 x c (iN has e)⟩, I.bs, Nat.le_trans I.ok.yq I.sz, λb o e hb => ?_, λb hb hz => ?_, I.stack, I.pL⟩
  · have q := pD (env := X.env) S.xn (x := x) hx;exact gi (lj (mem_of_lookup q))
  · obtain ⟨o, e⟩ := ho b hb;exact Nat.ne_of_lt (Heap.lt_size e)
  · rcases (hf b hb).2.2.2.1 with z | z
    · exact I.ok.xp b o e z
    · exact absurd (Nat.lt_of_lt_of_le (Heap.lt_size e) (Nat.le_trans I.ok.yq z)) (Nat.lt_irrefl _)
  · rcases List.mem_cons.mp (I.sY b hz) with z | z
    · exact (hf b hb).2.1 z
    · exact (hf b hb).2.2.1 z
theorem uN {scope : Scope}{N' : List Str}{fr : List (Option Nat)}{fp : List Addr}{h₁ : Heap}{m₁ : Str -> Option Value}{tk : Nat}(I : Inv X pins σ H s)(S : j5 X.env.scope X.N scope N' fr)(hf : ∀ b ∈ fp, jA X pins H b)(ho : ∀ b ∈ fp, ∃ o, s.heap.get? b = some o)
    (hn : h₁.Ns s.heap.objs.size m₁) (hk : ∀ b o, s.heap.get? b = some o -> h₁.get? b = some o) :
    Inv (mT X scope N' (pQ X.env scope.names []) fp s.heap.objs.size s H) [] (kd fr σ) H { s with heap := h₁, toks := tk } := by
  have has : ∀ y ∈ scope.names, y.2 = .free -> ∃ c, X.env.cells.lookup y.1 = some c := λy hy hk => I.ok.has y.1 (S.frees y hy hk);have cellK : ∀ c v, s.heap.IsCell c v -> h₁.IsCell c v := by rintro c v ⟨o, e, d⟩;exact ⟨o, hk c o e, d⟩
  refine ⟨Ai I S hf ho, rfl, I.bare, Un.kept hk, ⟨m₁, hn, λi x v e1 e2 e3 => ?_⟩, λx c e => ?_, I.bc.fresh (Nat.le_refl _), λx c e => I.g4 x c (iN has e), λp hp => (nomatch hp), I.bc.kept hk, ?_⟩
  · obtain ⟨j, q1, q2⟩ := wO e2;obtain ⟨z1, z2, z3⟩ := S.fix i j x q1 e1;obtain ⟨m, hm, hl⟩ := I.loc;obtain ⟨u, ru, lk⟩ := hl j x v z1 q2 (.inr z3);refine ⟨u, ru, .inr ⟨pE (env := X.env) z2, ?_⟩⟩;rcases lk with ⟨k, _⟩ | ⟨k, c, e, z⟩
    · have k' : X.env.scope.names.lookup x = some .local := k;rcases z3 with z3 | z3 <;> (rw [z3] at k';cases k')
    · obtain ⟨c', ec⟩ := gi (lj (env := X.env) (cs := []) (mem_of_lookup z2));have := iN has ec;rw [e] at this;cases this;exact ⟨c, ec, cellK c _ z⟩
  · obtain ⟨v, z⟩ := I.cell x c (iN has e);exact ⟨v, cellK c v z⟩
  · show (kd fr σ).length = N'.length;unfold kd;rw [length_map];exact S.len
end
noncomputable def rW (X : Cx)(ifs : List Expr)(t : TT):Prop :=
  ∀ (pins : List (Addr × Obj)) (s : Shared) (σ : St) (H : Hp) (Q : Bool -> Hp -> Prop), Inv X pins σ H s -> t σ H Q ->
    wpAny (model X.prog X.w) X.A (forIn ifs true λc r => if r = true then do let ok <- isTrue c X.env (eval c X.env);pure (ForInStep.yield ok) else pure (ForInStep.yield r)) (TP X pins σ Q) X.xe s
noncomputable def C3 : TT := λ_ H Q => Q true H
theorem xD {X : Cx}:rW X [] C3 := λ_ _ _ H _ I h => wpAny_tests_nil ⟨H, I, h⟩
theorem xE {X : Cx}{c : Expr}{t : TT}(h : PT X c t):rW X [c] t := λpins s σ H Q I q => wpAny_tests_one (h pins s σ H Q I q)
section
variable {prog : Program} {w : World} {A : Around} {R : Result -> Shared -> Prop} {s : Shared}
theorem qj {elt target iter : Expr}{ifs : List Expr}{scope : Scope}{pos : Pos}{it acc : Value}{env : Env}(I : Nat -> Shared -> Prop)
    (turn : ∀ n s, I n s -> wpAny (model prog w) A (pyNext it) (λr s₁ => match r with
      | none => R (.ok .next) s₁
      | some v => wpAny (model prog w) A (letOwnedTupleGo target it v) (λ_ s₁' => wpAny (model prog w) A (assign target env v) (λ_ s₂ =>
          wpAny (model prog w) A (forIn ifs true λc r => if r = true then do let ok <- isTrue c env (eval c env);pure (ForInStep.yield ok) else pure (ForInStep.yield r)) (λok s₃ =>
            if ok = true then wpAny (model prog w) A (eval elt env) (λx s₄ =>
              wpAny (model prog w) A (call (.builtin "list.append") [acc, x]) (λ_ s₅ => ∃ m, m < n /\ I m s₅) (λ_ _ => False) s₄) (λ_ _ => False) s₃
            else ∃ m, m < n /\ I m s₃) (λ_ _ => False) s₂) (λ_ _ => False) s₁') (λ_ _ => False) s₁) (λ_ _ => False) s)
    (n : Nat) (h : I n s) :
    codeAny (model prog w) A (.compLoop (.ListComp elt [⟨target, iter, ifs, 0⟩] scope pos) 0 it acc env) R s := by
  refine codeAny_loop rfl I (λn s hI => ?_) n h;show wpAny _ A ((compTurn (.ListComp elt [⟨target, iter, ifs, 0⟩] scope pos) 0 it acc env).onRaise (λx => do noteFrame x env;theTreesLotGoes x)) _ _ s;refine wpAny_noted ?_;rw [compTurn_list];refine wpAny_mono (E := λ_ _ => False) ?_ (λ_ _ q => q) (λ_ _ f => f.elim);refine wpAny_bind (wpAny_standAt (wpAny_bind (wpAny_mono (turn n s hI) (λr s₁ h₁ => ?_) λ_ _ h' => h')));cases r with
  | none => exact wpAny_pure h₁
  | some v =>
    refine wpAny_bind (wpAny_mono h₁ (λ_ s₁' h₁' => ?_) λ_ _ h' => h');refine wpAny_bind (wpAny_mono h₁' (λ_ s₂ h₂ => wpAny_bind (wpAny_mono h₂ (λok s₃ h₃ => ?_) λ_ _ h' => h')) λ_ _ h' => h');cases ok with
    | false => exact wpAny_pure ⟨rfl, h₃⟩
    | true =>
      exact wpAny_bind (wpAny_bind (wpAny_mono h₃ (λx s₄ h₄ => wpAny_bind (wpAny_mono h₄ (λ_ s₅ h₅ => wpAny_pure (wpAny_pure ⟨rfl, h₅⟩)) λ_ _ h' => h')) λ_ _ h' => h'))
end
noncomputable def C7 (J : It)(D : Addr)(g : TG)(tc : TT)(te : TE)(Q : Hp -> Prop)(σ0 : St)(H0 : Hp):Prop :=
  ∃ W : Nat -> Nat -> List V -> St -> Hp -> Prop, (∃ m, W 0 m [] σ0 H0) /\ ∀ i m ys σ H, W i m ys σ H ->
    ((J.stop i H /\ Q H) \/ (J.go i H /\ ∃ N : List V -> St -> Hp -> Prop, (∀ ys' σ' H', N ys' σ' H' -> ∃ m', m' < m /\ W (i + 1) m' ys' σ' H') /\ ∀ x H', J.vM i H x H' -> g x σ H' λσ2 H2 => tc σ2 H2 λb H3 =>
      if b = true then te σ2 H3 λv H4 => H4 D = some (.lst ys) /\ ys.length < sizeLine /\ N (ys ++ [v]) σ2 (upd H4 D (.lst (ys ++ [v])))
      else N ys σ2 H3))
noncomputable def Dl (wi : TI)(fr : List (Option Nat))(g : TG)(tc : TT)(te : TE):TE := λσ H Q => wi σ H λJ H1 => ∀ D, H1 D = none -> C7 J D g tc te (Q (.ref D)) (kd fr σ) (upd H1 D (.lst []))
theorem vY {X : Cx}{tg iter elt : Expr}{ifs : List Expr}{scope : Scope}{pos : Pos}{g : TG}{tc : TT}{te : TE}{fp : List Addr}{it D : Addr}{tn : Nat -> Heap -> Prop}{J : It}{Q : Hp -> Prop}{σ0 : St}{H0 : Hp}{s : Shared}{R : Result -> Shared -> Prop}
    (hxe : X.xe = λ_ _ => False) (hc : X.calm = true) (hpn : X.pn = []) (hex : X.ex = fp) (hg : PG X tg g) (ht : rW X ifs tc) (he : PE X elt te) (T : Turn X.prog X.w X.K tg J fp it tn)
    (hf : ∀ b ∈ fp, b ≠ X.env.locals /\ b ∉ X.fs /\ ∀ x c, X.env.cells.lookup x = some c -> c ≠ b) (hW : C7 J D g tc te Q σ0 H0) (B : Inv X [] σ0 H0 s) (st : tn 0 s.heap) (fr : ∀ b ∈ fp, H0 b = none)
    (fin : ∀ σ H s', Inv X [] σ H s' -> Q H -> R (.ok .next) s') :
    codeAny (model X.prog X.w) X.A (.compLoop (.ListComp elt [⟨tg, iter, ifs, 0⟩] scope pos) 0 (.ref it) (.ref D) X.env) R s := by
  obtain ⟨W, ⟨m0, w0⟩, turn⟩ := hW;have stat : ∀ {H' : Hp}, (∀ b ∈ fp, H' b = none) -> ∀ b ∈ fp, jA X [] H' b := λ{H'} hn b hb =>
    ⟨hn b hb, (hf b hb).1, (hf b hb).2.1, .inl (by rw [hex];exact hb), (hf b hb).2.2, λp hp => by rw [hpn] at hp;exact nomatch hp⟩
  refine qj (λn s' => ∃ i ys σ' H', Inv X [] σ' H' s' /\ tn i s'.heap /\ (∀ b ∈ fp, H' b = none) /\ W i n ys σ' H') ?_ m0 ⟨0, [], σ0, H0, B, st, fr, w0⟩;rintro n s3 ⟨i, ys, σ3, H3, I3, st3, fr3, w3⟩;rcases turn i n ys σ3 H3 w3 with ⟨stop, qn⟩ | ⟨go, N, hN, step⟩
  · refine cz (T.done X rfl rfl rfl hc i [] s3 σ3 H3 _ I3 (stat fr3) st3 stop) ?_;rintro r s4 ⟨hr, I4⟩;subst hr;exact fin σ3 H3 s4 I4 qn
  · refine cz (T.item X rfl rfl rfl hc i [] s3 σ3 H3 _ I3 (stat fr3) st3 go) ?_;rintro r s4 ⟨u, hr, h4⟩;subst hr;refine cz h4 ?_;rintro _ s5 ⟨x, H5, I5, r5, y5, st5, fr5⟩;have I5' := I5.pinned (stat fr5) (T.obj _ _ st5);have q1 := hg _ s5 σ3 H5 x u _ I5' r5 (step x H5 y5);rw [hxe] at q1;refine cz q1 ?_;rintro _ s6 ⟨σ6, H6, I6, q6⟩;have q2 := ht _ s6 σ6 H6 _ I6 q6;rw [hxe] at q2;refine cz q2 ?_;rintro ok s7 ⟨H7, I7, q7⟩;have again : ∀ {ys' : List V} {σ8 : St} {H8 : Hp} {s8 : Shared}, Inv X ([] ++ my fp s5.heap) σ8 H8 s8 -> N ys' σ8 H8 -> ∃ m, m < n /\ ∃ i ys σ' H', Inv X [] σ' H' s8 /\ tn i s8.heap /\ (∀ b ∈ fp, H' b = none) /\ W i m ys σ' H' := λ{ys' σ8 H8 s8} I8 n8 => by
      obtain ⟨m', hm, w8⟩ := hN ys' σ8 H8 n8;refine ⟨m', hm, i + 1, ys', σ8, H8, I8.j3, T.keep _ _ _ st5 λb hb o e => (I8.pin (b, o) (mem_append_right _ (mem_append_right _ (gS hb e)))).1, λb hb => ?_, w8⟩;obtain ⟨o, e, d⟩ := T.obj _ _ st5 b hb;exact (I8.pin (b, o) (mem_append_right _ (mem_append_right _ (gS hb e)))).2.1
    cases ok with
    | false => exact again I7 q7
    | true =>
      have q3 := he _ s7 σ6 H7 _ I7 q7;rw [hxe] at q3;show wpAny _ _ (eval elt X.env) _ _ s7;refine cz q3 ?_;rintro xv s8 ⟨v, H8, I8, r8, hD8, hz8, n8⟩;have q4 := gC (X := X) _ s8 σ6 H8 (.ref D) [v] (.ref D) [xv] (λ_ H9 => N (ys ++ [v]) σ6 H9) I8 rfl (.cons r8 .nil) ⟨D, ys, v, rfl, rfl, hD8, hz8, n8⟩;rw [hxe] at q4;refine cz q4 ?_;rintro _ s9 ⟨_, H9, I9, _, n9⟩;exact again I9 n9
section
variable {X : Cx} {tg iter elt : Expr} {ifs : List Expr} {scope : Scope} {pos : Pos} {wi : TI} {g : TG} {tc : TT} {te : TE}
theorem tF {pins : List (Addr × Obj)}{σ : St}{H2 : Hp}{s2 : Shared}{it : Addr}{fp : List Addr}{tn : Nat -> Heap -> Prop}{J : It}{Q : Addr -> Hp -> Prop}{N' : List Str}{fr : List (Option Nat)}{RR : Value -> Addr -> Result -> Shared -> Prop}
    (hc : X.calm = true) (S : j5 X.env.scope X.N scope N' fr)
    (hg : ∀ cl fp C s H, PG (mT X scope N' cl fp C s H) tg g) (ht : ∀ cl fp C s H, rW (mT X scope N' cl fp C s H) ifs tc) (he : ∀ cl fp C s H, PE (mT X scope N' cl fp C s H) elt te)
    (I2 : Inv X pins σ H2 s2) (T : Turn X.prog X.w X.K tg J fp it tn) (st2 : tn 0 s2.heap) (f2 : ∀ b ∈ fp, jA X pins H2 b)
    (h : ∀ D, H2 D = none -> C7 J D g tc te (Q D) (kd fr σ) (upd H2 D (.lst [])))
    (fin : ∀ D C s' m' H', s2.heap.objs.size <= C -> C ≠ D -> H' C = none -> s'.heap.Ns C m' -> (∀ h', Heap.SameBut C s'.heap h' -> Inv X pins σ H' { s' with heap := h' }) -> Q D H' -> RR (.ref D) C (.ok .next) s') {E : Value -> Shared -> Prop} :
    wpAny (model X.prog X.w) X.A (newList []) (λacc s₃ => wpAny (model X.prog X.w) X.A (newFunctionEnv scope X.env.globals (pQ X.env scope.names []) [] X.env.qual none .none (some X.env)) (λcenv s₄ =>
      codeAny (model X.prog X.w) X.A (.compStart (.ListComp elt [⟨tg, iter, ifs, 0⟩] scope pos) 0 (.ref it) acc { cenv with scope := relabel scope X.env }) (RR acc cenv.locals) s₄) E s₃) E s2 := by
  refine wpAny_newObj_type (wpAny_newFunctionEnv S.xn (by intro y hy;simp at hy) (λh₁ hns₁ hsb₁ => ?_) S.kind);dsimp only at hns₁ hsb₁ ⊢;have hD : H2 s2.heap.objs.size = none := I2.bc.fresh (Nat.le_refl _);have I3 : Inv X pins σ (upd H2 s2.heap.objs.size (.lst [])) { s2 with heap := s2.heap.push { cls := .type "list", dict := none, data := .seq ([]:List Value).toArray }, toks := s2.toks } := I2.AL (its := []) .nil (Nat.zero_le _);generalize hH2 : s2.heap.push { cls := .type "list", dict := none, data := .seq ([]:List Value).toArray } = HH at hns₁ hsb₁ I3 ⊢;have hC : HH.objs.size = s2.heap.objs.size + 1 := by rw [<- hH2, Heap.size_push]
  have old : ∀ b o, HH.get? b = some o -> h₁.get? b = some o := λb o e => hsb₁.extBut b o (Nat.ne_of_lt (Heap.lt_size e)) (Heap.get?_push_of_some _ e);have old2 : ∀ b o, s2.heap.get? b = some o -> HH.get? b = some o := λb o e => hH2 ▸ Heap.get?_push_of_some _ e;have ofp : ∀ b ∈ fp, ∃ o, s2.heap.get? b = some o := λb hb => by
    obtain ⟨o, e, _⟩ := T.obj _ _ st2 b hb;exact ⟨o, e⟩
  have neD : ∀ b ∈ fp, b ≠ s2.heap.objs.size := λb hb => by
    obtain ⟨o, e⟩ := ofp b hb;exact Nat.ne_of_lt (Heap.lt_size e)
  have f3 : ∀ b ∈ fp, jA X pins (upd H2 s2.heap.objs.size (.lst [])) b := λb hb => ⟨by rw [ah (neD b hb)];exact (f2 b hb).1, (f2 b hb).2⟩
  have ofp3 : ∀ b ∈ fp, ∃ o, HH.get? b = some o := λb hb => by
    obtain ⟨o, e⟩ := ofp b hb;exact ⟨o, old2 b o e⟩
  have B := uN (h₁ := h₁) (tk := s2.toks + ([]:List (Str × Value)).length) I3 S f3 ofp3 hns₁ old;have st1 : tn 0 h₁ := T.keep _ _ _ st2 λb hb o e => old b o (old2 b o e);have loop : codeAny (model X.prog X.w) X.A (.compLoop (.ListComp elt [⟨tg, iter, ifs, 0⟩] scope pos) 0 (.ref it) (.ref s2.heap.objs.size) (compEnvC scope (pQ X.env scope.names []) HH.objs.size X.env))
      (RR (.ref s2.heap.objs.size) HH.objs.size) { s2 with heap := h₁, toks := s2.toks + ([]:List (Str × Value)).length } := by
    refine vY (X := mT X scope N' (pQ X.env scope.names []) fp HH.objs.size { s2 with heap := HH, toks := s2.toks } (upd H2 s2.heap.objs.size (.lst []))) (fp := fp) rfl hc rfl rfl (hg _ _ _ _ _) (ht _ _ _ _ _) (he _ _ _ _ _) T
      (λb hb => ⟨(B.ok.De b hb).1, B.ok.wL b hb, (B.ok.De b hb).2⟩) (h _ hD) B st1 (λb hb => (f3 b hb).1) λσ4 H4 s4 I4 q4 => ?_
    obtain ⟨m4, hn4, _⟩ := I4.loc;refine fin _ HH.objs.size s4 m4 H4 (by rw [hC];exact Nat.le_succ _) (by rw [hC];exact Nat.succ_ne_self _) I4.free hn4 (λh' sb => ?_) q4;have u4 : Un (jy X.stack) fp (upd H2 s2.heap.objs.size (.lst [])) H4 HH s4.heap := I4.base;exact I3.BS (s' := { s4 with heap := h' }) I4.os (u4.but sb (Nat.le_refl _)) (I4.bc.but I4.free sb) I4.bare λb hb => ⟨(f2 b hb).2.2.2.1, (f2 b hb).2.1, (f2 b hb).2.2.2.2.1, (f2 b hb).2.2.2.2.2⟩
  exact codeAny_compStart_list loop (T.self _ 0 _ _ _ st1 loop)
theorem Cs (N' : List Str)(fr : List (Option Nat))(hc : X.calm = true)(hi : PI X tg iter wi)
    (hg : ∀ cl fp C s H, PG (mT X scope N' cl fp C s H) tg g) (ht : ∀ cl fp C s H, rW (mT X scope N' cl fp C s H) ifs tc) (he : ∀ cl fp C s H, PE (mT X scope N' cl fp C s H) elt te)
    {sc0 : Scope} {N0 : List Str} (hsc :autoParam (X.env.scope = sc0) aZa._auto_1) (hN :autoParam (X.N = N0) aZa._auto_1) (bc :autoParam (gQ sc0 N0 scope N' fr = true) aZe._auto_1) (hs :autoParam (∀ x, foldedSetIterable iter X.env x = pure x) aZc._auto_1) :
    PE X (.ListComp elt [⟨tg, iter, ifs, 0⟩] scope pos) (Dl wi fr g tc te) := by
  intro pins s σ H Q I h;have S : j5 X.env.scope X.N scope N' fr := by rw [hsc, hN];exact nK bc
  have has : ∀ y ∈ scope.names, y.2 = .free -> ∃ c, X.env.cells.lookup y.1 = some c := λy hy hk => I.ok.has y.1 (S.frees y hy hk);rw [eval_ListComp];refine wpAny_comprehension_free (use := none) rfl hs (lO has) S.kind S.names (cz (hi pins s σ H _ I h) λv s1 h1 => cz h1 λitv s2 h2 => ?_);obtain ⟨it, fp, tn, J, H2, rfl, I2, T, st2, f2, w2⟩ := h2;refine tF (Q := λD => Q (.ref D)) (RR := λacc C => compPost (model X.prog X.w) X.A X.xe none (EP X pins σ Q) acc C) hc S hg ht he I2 T st2 f2 w2 λD C s' m' H' h1 h2 h3 h4 h5 q => ?_;exact ⟨m', h4, λh' sb => ⟨.ref D, H', h5 h' sb, rfl, q⟩⟩
noncomputable def xY (i : Nat)(t : TE):TS := λD σ H => t σ H λv H1 => D.nx (σ.set i (some v)) H1
theorem rE {i : Nat}{y : Str}{py spos : Pos}(hNd : X.N.Nodup)(hy : X.N[i]? = some y)(hly : Loc X.env.scope y)(N' : List Str)(fr : List (Option Nat))(hc : X.calm = true)(hi : PI X tg iter wi)
    (hg : ∀ cl fp C s H, PG (mT X scope N' cl fp C s H) tg g) (ht : ∀ cl fp C s H, rW (mT X scope N' cl fp C s H) ifs tc) (he : ∀ cl fp C s H, PE (mT X scope N' cl fp C s H) elt te)
    {sc0 : Scope} {N0 : List Str} (hsw :autoParam (swapsWith (.ListComp elt [⟨tg, iter, ifs, 0⟩] scope pos) (some (.Name y py)) spos.line X.env = pure true) aZa._auto_1)
    (hsc :autoParam (X.env.scope = sc0) aZa._auto_1) (hN :autoParam (X.N = N0) aZa._auto_1) (bc :autoParam (gQ sc0 N0 scope N' fr = true) aZe._auto_1) (hs :autoParam (∀ x, foldedSetIterable iter X.env x = pure x) aZc._auto_1)
    (hf :autoParam (X.fn y = true \/ X.env.scope.names.lookup y = some .local) aZf._auto_1) :
    PS X (.Assign [.Name y py] (.ListComp elt [⟨tg, iter, ifs, 0⟩] scope pos) spos) (xY i (Dl wi fr g tc te)) := by
  intro pins s σ H D I h;have S : j5 X.env.scope X.N scope N' fr := by rw [hsc, hN];exact nK bc
  have has : ∀ y ∈ scope.names, y.2 = .free -> ∃ c, X.env.cells.lookup y.1 = some c := λy hy hk => I.ok.has y.1 (S.frees y hy hk);rw [exec_Assign_Name_used _ _ _ _ hsw];refine wpAny_bind (wpAny_standAt (wpAny_bind ?_));show wpAny _ X.A (do let _ <- comprehension (.ListComp elt [⟨tg, iter, ifs, 0⟩] scope pos) scope X.env _ (newList []) false (eval iter X.env) (some (assign (.Name y py) X.env))) _ _ s;refine wpAny_bind (wpAny_mono (wpAny_comprehension_free (use := some (assign (.Name y py) X.env)) (Q := λ_ s' => SP X pins D .next s') rfl hs (lO has) S.kind S.names
    (cz (hi pins s σ H _ I h) λv s1 h1 => cz h1 λitv s2 h2 => ?_)) (λ_ s' hq => wpAny_pure (wpAny_pure hq)) λ_ _ e => e)
  obtain ⟨it, fp, tn, J, H2, rfl, I2, T, st2, f2, w2⟩ := h2;refine tF (Q := λB H1 => D.nx (σ.set i (some (.ref B))) H1) (RR := λacc C => compPost (model X.prog X.w) X.A X.xe (some (assign (.Name y py) X.env)) (λ_ s' => SP X pins D .next s') acc C) hc S hg ht he I2 T st2 f2 w2 λB C s' m' H' h1 h2 h3 h4 h5 q => ?_;have I5 : Inv X pins σ H' { s' with heap := s'.heap } := h5 s'.heap (.refl ..);show wpAny _ X.A (assign (.Name y py) X.env (.ref B)) _ _ s';refine wpAny_assign_Name (oy (v := .ref B) I5 hNd hy hly rfl ?_ hf);rintro s6 I6 ⟨a, sb, ha⟩;have nL : C ≠ X.env.locals := Nat.ne_of_gt (Nat.lt_of_lt_of_le I2.lt h1);have nC : ∀ x c, X.env.cells.lookup x = some c -> c ≠ C := λx c e => by
    obtain ⟨v, o, ho, _⟩ := I2.cell x c e;exact Nat.ne_of_lt (Nat.lt_of_lt_of_le (Heap.lt_size ho) h1)
  have nP : ∀ p ∈ X.pn ++ pins, p.1 ≠ C := λp hp => by
    have e := (I2.pin p hp).1;exact Nat.ne_of_lt (Nat.lt_of_lt_of_le (Heap.lt_size e) h1)
  have na : a ≠ C := by
    rcases ha with e | e
    · rw [e];exact nL.symm
    · exact nC _ _ e
  refine ⟨m', h4.sameBut sb (Ne.symm na), λh' sb' => ⟨σ.set i (some (.ref B)), H', ?_, q⟩⟩;exact I6.turned (t' := s6.toks) (λb o hb e => (sb'.2 b hb).trans e) h3 nL (.inr (Nat.le_trans I2.sz h1)) nC nP
end
end L2
namespace L2
open PySem PySem.Spec PyProof.Rows
section
variable {X : Cx}
noncomputable def Ea (K : Frag):List V -> Hp -> VK -> Prop := λxs H Q => ∃ (p : Addr) (ns : List Int), xs = [.ref p] /\ d0 K H p (ns.map V.int) /\ Q (.int ns.sum) H
theorem uU (hc : X.calm = true):fO X (.builtin "sum") (Ea X.K) := by
  intro pins s σ H xs us Q I r h;obtain ⟨p, ns, rfl, hp, q⟩ := h;obtain ⟨u, rfl, ru⟩ := vals1 r;cases ru;obtain ⟨its, rv, pl, hz⟩ := I.list hp;have hi : IntsAre its ns := intsAre_of rv;obtain ⟨zs, e⟩ := hi.allInts.items;refine sum_intListG (I.ok.hd hc) (xs := zs) (e ▸ pl.isList) λh' tk t' hk => ⟨.int ns.sum, H, I.kept hk, ⟨t', ?_⟩, q⟩
  have e2 := congrArg Array.toList e;have e3 : numsOf (intItems zs).toList = ns := by rw [<- e];exact hi.numsOf
  rw [nums_intItems] at e3;rw [preSum_eq, take_of_length_le (by simp), e3]
noncomputable def D6 (K : Frag):List V -> Hp -> VK -> Prop := λxs H Q => ∃ x n, xs = [x] /\ BJ K x H n /\ Q (.int n) H
theorem uQ : fO X (.builtin "len") (D6 X.K) := wb
theorem fA {n : Nat}(h : n <= 1000):n <= sizeLine := Nat.le_of_lt (iT h)
noncomputable def ow {α : Type}(xs : List α)(lo hi st : Option Int):List α := (sliceRange (sliceBounds lo hi st xs.length).1 (sliceBounds lo hi st xs.length).2.1 (sliceBounds lo hi st xs.length).2.2).filterMap (λj => xs[j]?)
inductive By (K : Frag)(H : Hp):Nat -> V -> V -> Prop where
  | sc {n : Nat} {x : V} (f : B3 x = true):By K H n x x
  | rf {n : Nat} {a : Addr}:By K H n (.ref a) (.ref a)
  | tup {n : Nat} {a b : Addr} {xs ys : List V} (h1 : lJ K H a xs) (h2 : lJ K H b ys) (hl : xs.length = ys.length) (h : ∀ (i : Nat) (x y : V), xs[i]? = some x -> ys[i]? = some y -> By K H n x y):By K H (n + 1) (.ref a) (.ref b)
  | lst {n : Nat} {a b : Addr} {xs ys : List V} (h1 : d0 K H a xs) (h2 : d0 K H b ys) (hl : xs.length = ys.length) (h : ∀ (i : Nat) (x y : V), xs[i]? = some x -> ys[i]? = some y -> By K H n x y):By K H (n + 1) (.ref a) (.ref b)
end
end L2
namespace WS
noncomputable abbrev S3 := Int × Int × Int
noncomputable def mx (i j : Int):Int := if j > i then j else i
noncomputable def j7 (b : S3)(L : Int):Int := b.2.2 * mx 0 (b.2.1 - mx b.1 L)
noncomputable def Ew (b : S3)(L : Int):Int := if b.1 <= L /\ L < b.2.1 then b.2.2 else 0
noncomputable def above (bs : List S3)(L : Int):Int := (bs.map λb => j7 b L).sum
noncomputable def qP (hs : List S3):List S3 := hs.map λx => (x.2.1, x.1, x.2.2)
noncomputable def kF (g : Int)(cs : List S3):List S3 := cs.map λx => (x.1 + g, x.2.1 + g, x.2.2)
noncomputable def cu (g : Int)(hs cs : List S3)(L : Int):Int := above (kF g cs) L - above (qP hs) L
structure vS (x : S3):Prop where
  lo : 0 <= x.2.1
  lt : x.2.1 < x.1
  hi : x.1 <= 200
  r0 : 1 <= x.2.2
  r1 : x.2.2 <= 1000000000
structure rS (x : S3):Prop where
  lo : 0 <= x.1
  lt : x.1 < x.2.1
  hi : x.2.1 <= 200
  r0 : 1 <= x.2.2
  r1 : x.2.2 <= 1000000000
end WS
namespace L2
open PySem PySem.Spec PyProof.Rows
structure Fn (P : Program)(w : World)(K : Frag)(mg : Str -> Option Value)(base : Heap)(x : Str)(k : Nat)(ps : List Str)(sp : Sp):Prop where
  ex : ∃ f fd, aM P w K mg base gM k f fd ps sp /\ mg x = some (.ref f) /\ keepIn K (.ref f) = true /\ Binds K fd ps []
theorem ot {X : Cx}{x : Str}{k : Nat}{ps : List Str}{sp : Sp}{p pos : Pos}{e : Expr}{es : List Expr}{t : TA}(F : Fn X.prog X.w X.K X.mg X.base x k ps sp)(hr : cZ k X.A)(hg : Gl X x)(ha : PA X (e :: es) t)
    (hdb :autoParam ((x == ("__debug__" : Str)) = false) aZb._auto_1) (he :autoParam (starEach (e :: es) X.env = (false, eval e X.env) :: starEach es X.env) aZa._auto_1) (hpl :autoParam ((backTo pos (starEach es X.env)).any (·.1) = false) aZa._auto_1) :
    PE X (.Call (.Name x p) (e :: es) [] pos) (xW sp [] E0 t) := by
  obtain ⟨f, fd, G, hm, hk, hb⟩ := F.ex;exact uy G hr hg hm hk hb .nil rm ha hdb he hpl
theorem cN {P : Program}{w : World}{K : Frag}{mg : Str -> Option Value}{base : Heap}{x qual : Str}{st : Stmt}{f : Addr}{fd : FuncData}{k : Nat}{ps : List Str}{sp : Sp}(F : fU K x qual st f fd)(hm : mg x = some (.ref f))(hb : Binds K fd ps [])(ok : aM P w K mg base gM k f fd ps sp) :
    Fn P w K mg base x k ps sp := ⟨f, fd, ok, hm, F.kp, hb⟩
theorem dB {H : Hp}{a : Addr}{o : HO}(h : H a = none):av H (upd H a o) := λb u e => by
  rw [ah (aI e h)];exact e
theorem av.upd {H H' : Hp}{a : Addr}{o : HO}(s : av H H')(h : H a = none):av H (upd H' a o) := λb u e => by
  rw [ah (aI e h)];exact s b u e
end L2
namespace WS
open PySem L2
theorem js {α β : Type}{F : α -> β -> Prop}:∀ {l : List α} {r : List β} {i : Nat} {a : α}, Paired F l r -> l[i]? = some a -> ∃ b, r[i]? = some b /\ F a b
  | _, _, _, _, .nil, e => by simp at e
  | _, _, 0, _, .cons h _, e => by simp at e;subst e;exact ⟨_, rfl, h⟩
  | _, _, i + 1, a, .cons _ t, e => by
    obtain ⟨b, h1, h2⟩ := js (i := i) (a := a) t (by simpa using e);exact ⟨b, by simpa using h1, h2⟩
theorem take_snoc {α : Type}{l : List α}{i : Nat}{x : α}(e : l[i]? = some x):l.take (i + 1) = l.take i ++ [x] := by
  rw [List.take_add_one, e];rfl
end WS
namespace L2
open PySem PySem.Spec PyProof.Rows
section
variable {X : Cx}
noncomputable abbrev TJ := St -> Hp -> Str -> (Str -> Hp -> Prop) -> Prop
noncomputable def PJ (X : Cx)(es : List Expr)(t : TJ):Prop :=
  ∀ (pins : List (Addr × Obj)) (s : Shared) (σ : St) (H : Hp) (acc : Str) (R : Str -> Hp -> Prop), Inv X pins σ H s -> t σ H acc R ->
    Joins (model X.prog X.w) X.A X.xe (evalEach es X.env) acc (λout s1 => ∃ H', Inv X pins σ H' s1 /\ R out H') s
noncomputable def DQ : TJ := λ_ H acc R => R acc H
noncomputable def DU (x : Str)(t : TJ):TJ := λσ H acc R => (acc ++ x).length <= sizeLine /\ t σ H (acc ++ x) R
noncomputable def Ac (v : V)(y : Str):Prop := (v = .str y /\ y.length <= sizeLine) \/ ∃ i : Int, v = .int i /\ i.natAbs.log2 < 1920 /\ y = toString i
noncomputable def DV (te : TE)(t : TJ):TJ := λσ H acc R => te σ H λv H1 => ∃ y, Ac v y /\ (acc ++ y).length <= sizeLine /\ t σ H1 (acc ++ y) R
theorem A7 : PJ X [] DQ := λ_ _ _ H _ _ I h => ⟨H, I, h⟩
theorem A8 {x : Str}{j pos}{es : List Expr}{t : TJ}(h : PJ X es t):PJ X (.Constant (.str x) j pos :: es) (DU x t) := by
  intro pins s σ H acc R I q;show wpAny _ _ (eval (.Constant (.str x) j pos) X.env) _ _ s;refine cz (kn (X := X) (x := x) (j := j) (pos := pos) pins s σ H (λv H1 => v = .str x /\ H1 = H) I ⟨rfl, rfl⟩) ?_;rintro v s1 ⟨y, H1, I1, r1, e1, e2⟩;subst e1;subst e2;obtain ⟨t', rfl⟩ := r1;exact ⟨x, t', rfl, q.1, h pins s1 σ _ _ R I1 q.2⟩
theorem A9 {value : Expr}{pos : Pos}{te : TE}{es : List Expr}{t : TJ}(hv : PE X value te)(h : PJ X es t):PJ X (.FormattedValue value (-1) none pos :: es) (DV te t) := by
  intro pins s σ H acc R I q;show wpAny _ _ (eval (.FormattedValue value (-1) none pos) X.env) _ _ s;refine wpAny_FormattedValue_plain (cz (hv pins s σ H _ I q) ?_);rintro v s1 ⟨x, H1, I1, r1, y, sh, hz, q1⟩;rcases sh with ⟨rfl, hy⟩ | ⟨i, rfl, hi, rfl⟩
  · obtain ⟨t', rfl⟩ := r1;exact wpAny_formatField_str ⟨y, _, rfl, hz, h pins s1 σ H1 _ R I1 q1⟩ ⟨y, _, rfl, hz, h pins _ σ H1 _ R (I1.tok _) q1⟩ hy
  · obtain ⟨t', rfl⟩ := r1;exact wpAny_formatField_int hi ⟨_, _, rfl, hz, h pins _ σ H1 _ R (I1.tok _) q1⟩
noncomputable def CV (t : TJ):TE := λσ H Q => t σ H Str.empty λout H1 => out.length <= sizeLine /\ Q (.str out) H1
theorem md {M : Model}{A : Around}{E : Value -> Shared -> Prop}:∀ {l : List (Sem Value)} {acc : Str} {Q Q' : Str -> Shared -> Prop} {s : Shared}, (∀ o s, Q o s -> Q' o s) -> Joins M A E l acc Q s -> Joins M A E l acc Q' s
  | [], _, _, _, _, h, q => h _ _ q
  | _ :: _, _, _, _, _, h, q => wpAny_mono q (by rintro v s1 ⟨y, t, e, z, r⟩;exact ⟨y, t, e, z, md h r⟩) λ_ _ x => x
theorem zb {v1 v2 : Expr}{rest : List Expr}{pos : Pos}{t : TJ}(h : PJ X (v1 :: v2 :: rest) t):PE X (.JoinedStr (v1 :: v2 :: rest) pos) (CV t) := by
  intro pins s σ H Q I q;refine wpAny_JoinedStr (md ?_ (h pins s σ H Str.empty _ I q));rintro o s1 ⟨H1, I1, z, q1⟩;exact ⟨z, .str o, H1, I1.tok _, ⟨_, rfl⟩, q1⟩
theorem Cr {x : Str}{i : Int}{pos : Pos}(hg : Gl X x)(h : ∃ t, X.mg x = some (.int i t))(hd :autoParam ((x == ("__debug__" : Str)) = false) aZb._auto_1):PE X (.Name x pos) (tC (.int i)) := by
  obtain ⟨t, e⟩ := h;exact za hg e ⟨t, rfl⟩ hd
end
end L2
namespace L2
open PySem PySem.Spec PyProof.Rows
section
variable {X : Cx} {pins : List (Addr × Obj)} {σ : St} {H : Hp} {s : Shared} {h' : Heap}
theorem Inv.zW {t' : Nat}{wr : List Addr}{T : Addr}{us : List Value}{vs : List V}(I : Inv X pins σ H s)(hf : ∀ b ∈ wr, jA X pins H b)(k : ∀ b o, b ∉ wr -> s.heap.get? b = some o -> h'.get? b = some o)(hT : s.heap.objs.size <= T)(ht : h'.IsTuple T us.toArray)(r : Vals vs us)(hz : vs.length <= sizeLine) :
    Inv X pins σ (upd H T (.tup vs)) { s with heap := h', toks := t' } := by
  have hn : H T = none := I.bc.fresh hT;have nit : ∀ b u, H b = some u -> b ∉ wr := λb u e z => by
    have := (hf b z).1;rw [this] at e;cases e
  refine I.step (g' := s.gens) (d' := s.drawn) (ch := wr) (λb hb => ⟨(hf b hb).2.2.2.1, (hf b hb).2.1, (hf b hb).2.2.2.2.1, (hf b hb).2.2.2.2.2⟩) (λb o _ _ hc e _ => k b o hc e) (λb o _ _ hc e _ => ⟨o.slots, k b o hc e⟩)
    (λb o hc e n => ?_) (λb o hc e => ⟨o, k b o hc e⟩) (λb xs e => ?_) (λb o u e => ?_) (λb ps e => ⟨#[], ?_⟩) (λm hm => ?_) (λb u e => ?_) I.bare
  · rw [ah (Nat.ne_of_lt (Nat.lt_of_lt_of_le (Heap.lt_size e) hT))];exact n
  · rw [ah (aI e hn)];exact e
  · rw [ah (aI e hn)];exact e
  · rw [ah (aI e hn)];simpa using e
  · obtain ⟨o, es, ep, ho, r⟩ := hm;exact ⟨o, es, ep, k _ o (λz => (hf _ z).2.1 rfl) ho, r⟩
  · by_cases hb : b = T
    · subst hb;rw [aq] at e;cases e;exact ⟨hz, us, r, ht⟩
    · rw [ah hb] at e;refine (I.bc b u e).fq (λc v hc q => k c v ?_ q) (λc q => by rw [ah (aI q hn)];exact q) λc xs q => by rw [ah (aI q hn)];exact q
      rcases hc with z | z
      · rw [z];exact nit b u e
      · exact nit c _ z
theorem Inv.zy {t' : Nat}{wr : List Addr}(I : Inv X pins σ H s)(hf : ∀ b ∈ wr, jA X pins H b)(k : ∀ b o, b ∉ wr -> s.heap.get? b = some o -> h'.get? b = some o):Inv X pins σ H { s with heap := h', toks := t' } := by
  have nit : ∀ b u, H b = some u -> b ∉ wr := λb u e z => by
    have := (hf b z).1;rw [this] at e;cases e
  refine I.step (g' := s.gens) (d' := s.drawn) (ch := wr) (λb hb => ⟨(hf b hb).2.2.2.1, (hf b hb).2.1, (hf b hb).2.2.2.2.1, (hf b hb).2.2.2.2.2⟩) (λb o _ _ hc e _ => k b o hc e) (λb o _ _ hc e _ => ⟨o.slots, k b o hc e⟩)
    (λb o hc e n => n) (λb o hc e => ⟨o, k b o hc e⟩) (λb xs e => e) (λb o u e => e) (λb ps e => ⟨#[], by rw [e];simp⟩) (λm hm => ?_) (λb u e => ?_) I.bare
  · obtain ⟨o, es, ep, ho, r⟩ := hm;exact ⟨o, es, ep, k _ o (λz => (hf _ z).2.1 rfl) ho, r⟩
  · refine (I.bc b u e).fq (λc v hc q => k c v ?_ q) (λ_ q => q) λ_ _ q => q;rcases hc with z | z
    · rw [z];exact nit b u e
    · exact nit c _ z
end
noncomputable def C5 (Src : Hp -> List (List V) -> Prop):It :=
  ⟨λi H => ∃ rows row, Src H rows /\ rows[i]? = some row, λi H x H' => ∀ rows, Src H rows -> ∃ row p, rows[i]? = some row /\ H p = none /\ x = .ref p /\ H' = upd H p (.tup row), λi H => ∃ rows, Src H rows /\ i = rows.length⟩
theorem Bu {P : Program}{w : World}{K : Frag}{elts : List Expr}{kx : Nat}{pos : Pos}{e : Addr}{fp wr fpw : List Addr}{Src : Hp -> List (List V) -> Prop}{core : Nat -> Heap -> Prop}
    (me : e ∈ fp) (hwr : ∀ b ∈ wr, b ∈ fp) (src1 : ∀ H r r', Src H r -> Src H r' -> r = r')
    (obj : ∀ i h, core i h -> ∀ b ∈ fp, ∃ o, h.get? b = some o /\ ∀ v, o.data ≠ .cell v)
    (keep : ∀ i h h', core i h -> (∀ b ∈ fp, ∀ o, h.get? b = some o -> h'.get? b = some o) -> core i h')
    (self : ∀ (A : Around) (i : Nat) (s : Shared) (Q : Value -> Shared -> Prop) (E : Value -> Shared -> Prop), core i s.heap -> Q (.ref e) s -> wpAny (model P w) A (pyIter (.ref e)) Q E s)
    (W : ∀ (X : Cx), X.prog = P -> X.w = w -> X.K = K -> X.calm = true -> ∀ (i : Nat) (pins : List (Addr × Obj)) (s : Shared) (σ : St) (H : Hp), Inv X pins σ H s -> (∀ b ∈ fp, jA X pins H b) -> core i s.heap -> ∀ rows, Src H rows ->
      ∃ (n : Nat) (Pt : Nat -> Array Value -> Prop) (St' : Nat -> Heap -> Prop) (Mid : Nat -> Addr -> Heap -> Prop), WalksT P w X.A e fpw wr n Pt St' Mid /\ n = rows.length /\ St' i s.heap /\ (∀ j vals, Pt j vals -> ∃ row us, rows[j]? = some row /\ vals = us.toArray /\ Vals row us /\ row.length <= sizeLine) /\ ∀ j h, St' j h -> core j h) :
    Turn P w K (.Tuple elts kx pos) (C5 Src) fp e core where
  mem := me
  obj := obj
  keep := keep
  self := self
  item := by
    intro X hP hw hK hc i pins s σ H E I hf st hg;obtain ⟨rows, row, hs, hr⟩ := hg;obtain ⟨n, Pt, St', Mid, V, hn, st', hp, back⟩ := W X hP hw hK hc i pins s σ H I hf st rows hs;have hi : i < n := by rw [hn];exact (List.getElem?_eq_some_iff.mp hr).1
    refine V.item i s _ E hi st' λT vals h' tk pt hT ht mid kk => ?_;obtain ⟨row', us, hr', rfl, rv, hz⟩ := hp i vals pt;refine ⟨.ref T, rfl, ?_⟩;refine V.go elts kx pos i T { s with heap := h', toks := tk } _ E mid λh2 st2 k2 => ?_;have nT := V.apart i T h' mid;have ht2 : h2.IsTuple T us.toArray := ht.at λo q => k2 T o nT q;have I2 : Inv X pins σ (upd H T (.tup row')) { s with heap := h2, toks := tk } := I.zW (λb hb => hf b (hwr b hb)) (λb o hb q => k2 b o hb (kk b o hb q)) hT ht2 rv hz;refine ⟨.ref T, _, I2, rfl, λrows2 hs2 => ?_, back _ _ st2, λb hb => ?_⟩
    · rw [src1 _ _ _ hs2 hs];exact ⟨row', T, hr', I.bc.fresh hT, rfl, rfl⟩
    · have hbT : b ≠ T := by
        rintro rfl;obtain ⟨o, ho, _⟩ := obj _ _ st b hb;exact absurd (Nat.lt_of_lt_of_le (Heap.lt_size ho) hT) (Nat.lt_irrefl _)
      rw [ah hbT];exact (hf b hb).1
  done := by
    intro X hP hw hK hc i pins s σ H E I hf st hg;obtain ⟨rows, hs, hr⟩ := hg;obtain ⟨n, Pt, St', Mid, V, hn, st', hp, back⟩ := W X hP hw hK hc i pins s σ H I hf st rows hs;rw [hr, <- hn] at st';exact V.done s _ E st' λh' tk kk => ⟨rfl, I.zy (λb hb => hf b (hwr b hb)) kk⟩
section
variable {X : Cx}
noncomputable def CD (K : Frag):List V -> Hp -> VK -> Prop := λxs H Q => ∃ (p : Addr) (ns : List Int), xs = [.ref p] /\ d0 K H p (ns.map V.int) /\ ns ≠ [] /\ ∀ m : Int, m ∈ ns -> (∀ n ∈ ns, n <= m) -> Q (.int m) H
theorem yp {zs : Array (Int × Tok)}{k : Nat}{v : Value}(h : (intItems zs)[k]? = some v):(∃ t, v = .int (numAt zs k) t) /\ numAt zs k ∈ zs.toList.map (·.1) := by
  refine ⟨intItems_at h, ?_⟩;simp only [intItems, Array.getElem?_map, Option.map_eq_some_iff] at h;obtain ⟨p, hp, rfl⟩ := h;rw [numAt_eq];have hp' : zs.toList[k]? = some p := by rw [<- hp];simp
  rw [getD_eq_getElem?_getD, getElem?_map, hp'];exact mem_map.mpr ⟨p, mem_of_getElem? hp', rfl⟩
theorem sI {zs : Array (Int × Tok)}{n : Int}(h : n ∈ zs.toList.map (·.1)):∃ j, j <= zs.size - 1 /\ numAt zs j = n := by
  obtain ⟨j, hj⟩ := List.getElem?_of_mem h;have hl : j < zs.size := by have := (List.getElem?_eq_some_iff.mp hj).1;simpa using this
  exact ⟨j, by lia, by rw [numAt_eq, getD_eq_getElem?_getD, hj];rfl⟩
theorem uS (hc : X.calm = true):fO X (.builtin "max") (CD X.K) := by
  intro pins s σ H xs us Q I r h;obtain ⟨p, ns, rfl, hp, hne, q⟩ := h;obtain ⟨u, rfl, ru⟩ := vals1 r;cases ru;obtain ⟨its, rv, pl, hz⟩ := I.list hp;have hi : IntsAre its ns := intsAre_of rv;obtain ⟨zs, e⟩ := hi.allInts.items;have e3 : zs.toList.map (·.1) = ns := by rw [<- nums_intItems, <- e];exact hi.numsOf
  have hsz : 0 < zs.size := by
    have : ns.length = zs.size := by rw [<- e3];simp
    have : ns.length ≠ 0 := λz => hne (length_eq_zero_iff.mp z);lia
  refine max_intList (I.ok.hd hc) (xs := zs) (e ▸ pl.isList) hsz λv h' tk hv hk => ?_;obtain ⟨⟨t, rfl⟩, hm⟩ := yp hv;refine ⟨.int _, H, I.kept hk, ⟨t, rfl⟩, q _ (e3 ▸ hm) λn hn => ?_⟩;obtain ⟨j, hj, ej⟩ := sI (e3 ▸ hn);rw [<- ej];exact (argBest_gt (numAt zs) (zs.size - 1)).2 j hj
noncomputable def gy (xs : List V):List (List V) := (List.range xs.length).map λi => [V.int (i : Nat), (xs[i]?).getD .non]
theorem jM {xs : List V}{i : Nat}{x : V}(h : xs[i]? = some x):(gy xs)[i]? = some [.int (i : Nat), x] := by
  unfold gy;rw [getElem?_map, List.getElem?_range (List.getElem?_eq_some_iff.mp h).1, Option.map_some, h];rfl
theorem jN (xs : List V):(gy xs).length = xs.length := by unfold gy;simp
noncomputable def uL (a : Addr)(H : Hp)(rows : List (List V)):Prop := ∃ xs, H a = some (.lst xs) /\ rows = gy xs
theorem vJ {P : Program}{w : World}{K : Frag}{elts : List Expr}{kx : Nat}{pos : Pos}(a e it : Addr)(hei : e ≠ it) :
    Turn P w K (.Tuple elts kx pos) (C5 (uL a)) [e, it] e (λi h => (∃ old, IsEnum h e it i old) /\ h.IsListIter it a i) := by
  refine Bu (fpw := [e, it, a]) (wr := [e, it]) (by simp) (λb hb => hb) (λH r r' ⟨xs, h1, h2⟩ ⟨ys, h3, h4⟩ => ?_) (λi h ⟨⟨old, he⟩, hit⟩ b hb => ?_) (by rintro i h h' ⟨⟨old, he⟩, hit⟩ k;exact ⟨⟨old, k e (by simp) _ he⟩, hit.at λo q => k it (by simp) o q⟩) (by rintro A i s Q E ⟨⟨old, he⟩, hit⟩ q;exact wpAny_pyIter_enum he q) ?_
  · rw [h1] at h3;cases h3;rw [h2, h4]
  · rcases List.mem_cons.mp hb with rfl | hb
    · exact ⟨_, he, λv z => by have z' : Data.fields _ = Data.cell v := z;cases z'⟩
    · have : b = it := by simpa using hb
      subst this;obtain ⟨o, ho, _, hd⟩ := hit;exact ⟨o, ho, λv z => by rw [hd] at z;cases z⟩
  · intro X hP hw hK hc i pins s σ H I hf st rows ⟨xs, hx, hr⟩;subst hP hw hK;obtain ⟨z, its, n, rv, hl⟩ := I.bc a _ hx;have hlist : s.heap.IsList a its.toArray := ⟨_, hl, rfl, n, rfl⟩
    have nae : a ≠ e := λq => by have := (hf e (by simp)).1;rw [<- q, hx] at this;cases this
    have nai : a ≠ it := λq => by have := (hf it (by simp)).1;rw [<- q, hx] at this;cases this
    refine ⟨its.toArray.size, _, _, _, WalksT.enumerate (I.ok.hd hc) e it a hei nae nai its.toArray, by rw [hr, jN, size_toArray, rv.length], ⟨st.1, st.2, hlist⟩, ?_, λj h ⟨h1, h2, _⟩ => ⟨h1, h2⟩⟩;rintro j vals ⟨t, x, h1, h2⟩;have h1' : its[j]? = some x := by simpa using h1
    have hj : j < xs.length := by rw [rv.length];exact (List.getElem?_eq_some_iff.mp h1').1
    obtain ⟨u, g1, g2⟩ := rv.get (getElem?_eq_getElem hj);rw [h1'] at g1;cases g1;exact ⟨[.int (j : Nat), xs[j]], [.int j t, x], by rw [hr];exact jM (getElem?_eq_getElem hj), h2, .cons ⟨t, rfl⟩ (.cons g2 .nil), fA (Nat.le_of_ble_eq_true rfl)⟩
noncomputable def B7 (ta : TA):TI := λσ H R => ta σ H λvs H1 => ∃ a xs, vs = [.ref a] /\ H1 a = some (.lst xs) /\ R (C5 (uL a)) H1
theorem zd {elts : List Expr}{kx : Nat}{tpos : Pos}{l : Expr}{ta : TA}{p pos : Pos}(hg : Gl X "enumerate")(hm : X.mg "enumerate" = none)(ha : PA X [l] ta)(hs :autoParam (starEach [l] X.env = [(false, eval l X.env)]) aZa._auto_1):PI X (.Tuple elts kx tpos) (.Call (.Name "enumerate" p) [l] [] pos) (B7 ta) := by
  intro pins s σ H R I h;refine Call_ (mh I hg hm boot_enumerate (PyProof.Rows.callWith_type1 (cz (ha pos pins s σ H _ I h) ?_) hs rfl));rintro us s1 ⟨vs, H1, I1, r1, q1⟩;obtain ⟨a, xs, rfl, hx, q⟩ := q1;obtain ⟨u, rfl, ru⟩ := vals1 r1;cases ru;obtain ⟨z, its, n, rv, hl⟩ := I1.bc a _ hx;refine call_enumerate_list (items := its.toArray) ⟨_, hl, rfl, n, rfl⟩ λh' he hit hsz hk => ?_;refine wpAny_pyIter_enum he ?_;have I2 : Inv X pins σ H1 { s1 with heap := h' } := I1.kept (t' := s1.toks) hk;refine ⟨s1.heap.objs.size + 1, [s1.heap.objs.size + 1, s1.heap.objs.size], _, _, H1, rfl, I2, vJ a _ _ (Nat.succ_ne_self _), ⟨⟨_, he⟩, hit⟩, λb hb => ?_, q⟩;rcases List.mem_cons.mp hb with rfl | hb
  · exact I1.wN (Nat.le_succ _) (I1.bc.fresh (Nat.le_succ _))
  · have e : b = s1.heap.objs.size := by simpa using hb
    subst e;exact I1.wN (Nat.le_refl _) (I1.bc.fresh (Nat.le_refl _))
section
variable {prog : Program} {w : World} {A : Around} {E : Value -> Shared -> Prop} {s : Shared}
theorem nV {it t : Addr}{items : Array Value}(hne : t ≠ it):∀ (n i : Nat) (s : Shared) (Q : List Value -> Shared -> Prop), s.heap.IsListIter it t i -> s.heap.IsList t items -> i + n <= items.size ->
    (∀ h', h'.IsListIter it t (i + n) -> Heap.SameBut it s.heap h' -> Q ((items.toList.drop i).take n) { s with heap := h' }) -> wpAny (model prog w) A (draw (.ref it) n) Q E s
  | 0, i, s, Q, hit, _, _, hQ => by
    show wpAny _ _ (pure []) Q E s;exact wpAny_pure (by simpa using hQ s.heap hit (Heap.SameBut.refl ..))
  | n + 1, i, s, Q, hit, ht, hle, hQ => by
    have hlt : i < items.size := by lia
    show wpAny _ _ (pyNext (.ref it) >>= _) Q E s;refine wpAny_bind (wpAny_pyNext_list_item hit ht (x := items[i]) (by simp [hlt]) λh₁ hit₁ hs₁ => ?_);refine wpAny_bind (wpAny_holding (nV hne n (i + 1) _ _ hit₁ (ht.extBut hs₁.extBut hne) (by lia) λh₂ hit₂ hs₂ => wpAny_pure ?_));have hd : items.toList.drop i = items[i] :: items.toList.drop (i + 1) := by simp [drop_eq_getElem_cons, hlt]
    have := hQ h₂ (by rw [show i + (n + 1) = i + 1 + n by lia];exact hit₂) (hs₁.trans hs₂);rw [hd, List.take_succ_cons] at this;exact this
theorem kD {t : Addr}{items : Array Value}{Q : List Value -> Shared -> Prop}(hh : A.handled = none)(ht : s.heap.IsList t items)
    (hQ : ∀ h', Heap.ExtBut s.heap.objs.size s.heap h' -> Q items.toList { s with heap := h' }):wpAny (model prog w) A (unpackItems (.ref t) items.size none) Q E s := by
  have hlt : t ≠ s.heap.objs.size := by obtain ⟨o, ho, _⟩ := ht;exact Nat.ne_of_lt (Heap.lt_size ho)
  unfold unpackItems;refine wpAny_bind ?_;unfold notIterableAtAll;refine wpAny_bind (wpAny_specialOf ht.typeIs slot_list_iter.lookup ?_);refine wpAny_pure ?_;simp only [Bool.false_eq_true, if_false];refine wpAny_bind (wpAny_holding (wpAny_pyIter_list ht ?_));refine wpAny_bind (wpAny_holding (nV hlt items.size 0 _ _ ⟨_, Heap.get?_push_size _ rfl, rfl, rfl⟩ (ht.at λo e => Heap.get?_push_of_some _ e) (by lia) λh₁ hit₁ hs₁ => ?_));have hall : List.take items.size (List.drop 0 items.toList) = items.toList := by
    rw [List.drop_zero];exact take_of_length_le (by simp)
  rw [hall];rw [if_neg (by simp)];have ht₁ : h₁.IsList t items := (ht.at λo e => Heap.get?_push_of_some _ e).extBut hs₁.extBut hlt;refine wpAny_bind (wpAny_holding (wpAny_pyNext_list_end hh hit₁ ht₁ (by simp) λh₂ he₂ => ?_));simp only [Option.isSome_none, Bool.false_eq_true, if_false];refine wpAny_pure (hQ h₂ λb o hb e => he₂ b o hb (hs₁.extBut b o hb (Heap.get?_push_of_some _ e)))
theorem jC {env : Env}{elts : List Expr}{x1}{pos : Pos}{t : Addr}{items : Array Value}{Q : Unit -> Shared -> Prop}(hh : A.handled = none)(ht : s.heap.IsList t items)
    (hn : (assignEach elts env).length = items.size) (hstar : (assignEach elts env).findIdx? (·.1) = none)
    (h : ∀ h', Heap.ExtBut s.heap.objs.size s.heap h' -> wpAny (model prog w) A (assignInOrder ((assignEach elts env).map (·.2)) items.toList) Q E { s with heap := h' }) :
    wpAny (model prog w) A (assign (.Tuple elts x1 pos) env (.ref t)) Q E s := by
  rw [assign_Tuple];refine wpAny_bind (wpAny_standAt ?_);unfold unpack;rw [hn, hstar];exact wpAny_bind (wpAny_holding (kD hh ht h))
end
noncomputable def B5 (K : Frag)(n : Nat)(t : zB):TG := λv σ H Q => ∃ a xs, v = .ref a /\ (lJ K H a xs \/ d0 K H a xs) /\ xs.length = n /\ t xs σ H Q
theorem iC {es : List Expr}{k : Nat}{t : zB}{n : Nat}{pos : Pos}(hc : X.calm = true)(h : Dc X es t)
    (hn :autoParam ((assignEach es X.env).length = n) aZa._auto_1) (hst :autoParam ((assignEach es X.env).findIdx? (·.1) = none) aZa._auto_1):PG X (.Tuple es k pos) (B5 X.K n t) := by
  intro pins s σ H v u Q I r hw;obtain ⟨a, xs, e1, hq, hl, hw⟩ := hw;subst e1;cases r;rcases hq with hq | hq
  · obtain ⟨its, rv, ht, hz⟩ := I.tuple hq;refine assign_Tuple_tuple (I.ok.hd hc) ht (by simp [hn, <- hl, rv.length]) hst λh' hx => ?_;have I1 : Inv X pins σ H { s with heap := h' } := I.kept (t' := s.toks) λb o e => hx b o (Nat.ne_of_lt (Heap.lt_size e)) e;exact h pins _ σ H xs _ Q I1 (by simpa using rv) hw
  · obtain ⟨its, rv, ht, hz⟩ := I.list hq;refine jC (I.ok.hd hc) ht.isList (by simp [hn, <- hl, rv.length]) hst λh' hx => ?_;have I1 : Inv X pins σ H { s with heap := h' } := I.kept (t' := s.toks) λb o e => hx b o (Nat.ne_of_lt (Heap.lt_size e)) e;exact h pins _ σ H xs _ Q I1 (by simpa using rv) hw
end
end L2
namespace DL
open PySem L2
inductive Ext where
  | any
  | dki (kvs : List (Int × Int × Int × Int))
  | dks (kvs : List (Str × Int))
  | rws (n : Int) (hs cs : List (Int × Int × Int × Int))
  | obj (C : Addr) (g : Int) (hs cs : List (Int × Int × Int × Int)) (n : Int)
inductive D where
  | non | bl (b : Bool) | int (i : Int) | str (x : Str) | tup (xs : List D) | lst (xs : List D) | scr (ns : List Int)
  | dct (kvs : List ((Int × Int) × Int))
  | sen (ks : List (List Int))
  | ext (x : Ext)
noncomputable def E3 (G : Hp)(e : Key × V)(p : Int × Int × Int × Int):Prop := e.1 = Sum.inl p.1 /\ ∃ t, e.2 = .ref t /\ G t = some (.tup [.int p.2.1, .int p.2.2.1, .int p.2.2.2])
noncomputable def eI (g : Int)(b c : Addr)(n : Int):List (Str × V) := [("gap", .int g), ("hots", .ref b), ("colds", .ref c), ("spent", .int n)]
noncomputable def bL (G H : Hp)(a : Addr)(kvs : List (Int × Int × Int × Int)):Prop := ∃ es, H a = some (.dK es) /\ Paired (E3 G) es kvs
noncomputable def Du (H : Hp)(v : V)(p : Int × Int × Int × Int):Prop := ∃ q t, v = .ref q /\ H q = some (.tup [.int p.1, .ref t]) /\ H t = some (.tup [.int p.2.1, .int p.2.2.1, .int p.2.2.2])
noncomputable abbrev qe (H : Hp):List V -> List (Int × Int × Int × Int) -> Prop := Paired (Du H)
theorem qe.on {H H2 : Hp}{vs : List V}{l : List (Int × Int × Int × Int)}(h : qe H vs l)(kt : ∀ t xs, H t = some (.tup xs) -> H2 t = some (.tup xs)):qe H2 vs l :=
  Paired.imp' (by rintro _ _ ⟨q, t, e, h1, h2⟩;exact ⟨q, t, e, kt _ _ h1, kt _ _ h2⟩) h
noncomputable def vT (H : Hp)(y : Addr)(l : List (Int × Int × Int × Int)):Prop := ∃ vs, H y = some (.lst vs) /\ qe H vs l
theorem vT.on {H H2 : Hp}{y : Addr}{l : List (Int × Int × Int × Int)}(h : vT H y l)(kb : ∀ o, H y = some o -> H2 y = some o)(kt : ∀ t xs, H t = some (.tup xs) -> H2 t = some (.tup xs)):vT H2 y l := by
  obtain ⟨vs, e, p⟩ := h;exact ⟨vs, kb _ e, qe.on p kt⟩
noncomputable abbrev CH (lh lk : Addr)(n : Int):HO := .dK [(Sum.inr ("hot" : Str), .ref lh), (Sum.inr ("cold" : Str), .ref lk), (Sum.inr ("last" : Str), .int n)]
noncomputable def qd (G H : Hp)(a : Addr):Ext -> Prop
  | .any => True
  | .dki kvs => bL G H a kvs
  | .dks kvs => H a = some (.dK (kvs.map λp => (Sum.inr p.1, V.int p.2)))
  | .rws n hs cs => ∃ lh lk, G a = some (CH lh lk n) /\ vT G lh hs /\ vT G lk cs
  | .obj C g hs cs n => ∃ dx b c, H a = some (.ins C dx (eI g b c n)) /\ bL G H b hs /\ bL G H c cs
theorem E3.mono {G G' : Hp}{e : Key × V}{p : Int × Int × Int × Int}(s : av G G')(h : E3 G e p):E3 G' e p := by
  obtain ⟨h1, t, h2, h3⟩ := h;exact ⟨h1, t, h2, s _ _ h3⟩
theorem bL.mono {G G' H H' : Hp}{a : Addr}{kvs : List (Int × Int × Int × Int)}(s : av G G')(k : ∀ o, H a = some o -> H' a = some o)(h : bL G H a kvs):bL G' H' a kvs := by
  obtain ⟨es, h1, h2⟩ := h;exact ⟨es, k _ h1, Paired.imp' (λ_ _ => E3.mono s) h2⟩
theorem qd.mono {G G' : Hp}{a : Addr}{x : Ext}(s : av G G')(h : qd G G a x):qd G' G' a x := by
  cases x with
  | any => trivial
  | dki kvs => exact bL.mono s (s a) h
  | dks kvs => exact s _ _ h
  | rws n hs cs =>
    obtain ⟨lh, lk, h1, h2, h3⟩ := h;exact ⟨lh, lk, s _ _ h1, h2.on (λo e => s _ _ e) λt xs e => s _ _ e, h3.on (λo e => s _ _ e) λt xs e => s _ _ e⟩
  | obj C g hs cs n =>
    obtain ⟨dx, b, c, h1, h2, h3⟩ := h;exact ⟨dx, b, c, s _ _ h1, h2.mono s (s b), h3.mono s (s c)⟩
noncomputable def fB (G H : Hp)(a : Addr):Ext -> Prop
  | .dki kvs => bL G H a kvs
  | .dks kvs => H a = some (.dK (kvs.map λp => (Sum.inr p.1, V.int p.2)))
  | _ => False
theorem fB.fq {G H G' H' : Hp}{a : Addr}{x : Ext}(h : fB G H a x)(s : av G G')(k : ∀ o, H a = some o -> H' a = some o):fB G' H' a x := by
  cases x with
  | dki kvs => exact bL.mono s k h
  | dks kvs => exact k _ h
  | any => exact h.elim
  | obj _ _ _ _ _ => exact h.elim
  | rws _ _ _ => exact h.elim
theorem fB.obj {G H : Hp}{a : Addr}{x : Ext}(h : fB G H a x):∃ es, H a = some (.dK es) := by
  cases x with
  | dki kvs => obtain ⟨es, h, _⟩ := h;exact ⟨es, h⟩
  | dks kvs => exact ⟨_, h⟩
  | any => exact h.elim
  | obj _ _ _ _ _ => exact h.elim
  | rws _ _ _ => exact h.elim
theorem fB.at {G H G2 : Hp}{a : Addr}{x : Ext}(h : fB G H a x)(s : av G G2)(k : ∀ o, H a = some o -> G2 a = some o):qd G2 G2 a x := by
  cases x with
  | dki kvs => exact bL.mono s k h
  | dks kvs => exact k _ h
  | any => exact h.elim
  | obj _ _ _ _ _ => exact h.elim
  | rws _ _ _ => exact h.elim
noncomputable def B0 (ks : List (List Int)):List (List Key × V) := ks.map λk => (k.map Sum.inl, V.bl true)
noncomputable def encD (kvs : List ((Int × Int) × Int)):List (List Key × V) := kvs.map λp => ([Sum.inl p.1.1, Sum.inl p.1.2], V.int p.2)
inductive Rep (K : Frag)(G : Hp):V -> D -> Prop where
  | non : Rep K G .non .non
  | bl (b : Bool):Rep K G (.bl b) (.bl b)
  | int (i : Int):Rep K G (.int i) (.int i)
  | str (x : Str):Rep K G (.str x) (.str x)
  | tup {a : Addr} {vs : List V} {ds : List D} (h : G a = some (.tup vs)) (l : vs.length = ds.length) (r : ∀ (i : Nat) (v : V) (d : D), vs[i]? = some v -> ds[i]? = some d -> Rep K G v d):Rep K G (.ref a) (.tup ds)
  | scr {a : Addr} {ns : List Int} (h : d0 K G a (ns.map V.int)):Rep K G (.ref a) (.scr ns)
  | dct {a : Addr} {kvs : List ((Int × Int) × Int)} (h : Rd G a (.dT (encD kvs))):Rep K G (.ref a) (.dct kvs)
  | sen {a : Addr} {ks : List (List Int)} (h : Rd G a (.dT (B0 ks))):Rep K G (.ref a) (.sen ks)
  | ext {a : Addr} {x : Ext} (h : qd G G a x):Rep K G (.ref a) (.ext x)
  | lst {a : Addr} {vs : List V} {ds : List D} (h : G a = some (.lst vs)) (l : vs.length = ds.length) (r : ∀ (i : Nat) (v : V) (d : D), vs[i]? = some v -> ds[i]? = some d -> Rep K G v d):Rep K G (.ref a) (.lst ds)
noncomputable abbrev bx (K : Frag)(G : Hp):List V -> List D -> Prop := Paired (Rep K G)
theorem aB {α β : Type}{F : α -> β -> Prop}:∀ {l : List α} {r : List β}, l.length = r.length -> (∀ (i : Nat) (a : α) (b : β), l[i]? = some a -> r[i]? = some b -> F a b) -> Paired F l r
  | [], [], _, _ => .nil
  | a :: l, b :: r, e, h => .cons (h 0 a b rfl rfl) (aB (by simpa using e) λi x y h1 h2 => h (i + 1) x y (by simpa using h1) (by simpa using h2))
theorem eO {α β : Type}{F : α -> β -> Prop}:∀ {l : List α} {r : List β}, Paired F l r -> ∀ (i : Nat) (a : α) (b : β), l[i]? = some a -> r[i]? = some b -> F a b
  | _, _, .nil, _, _, _, h, _ => by simp at h
  | _, _, .cons h _, 0, _, _, h1, h2 => by simp at h1 h2;subst h1;subst h2;exact h
  | _, _, .cons _ t, i + 1, a, b, h1, h2 => eO t i a b (by simpa using h1) (by simpa using h2)
theorem cP {α β : Type}{F : α -> β -> Prop}:∀ {l : List α} {r : List β} {i : Nat} {b : β}, Paired F l r -> r[i]? = some b -> ∃ a, l[i]? = some a /\ F a b
  | _, _, _, _, .nil, e => by simp at e
  | _, _, 0, _, .cons h _, e => by simp at e;subst e;exact ⟨_, rfl, h⟩
  | _, _, i + 1, b, .cons _ t, e => by
    obtain ⟨a, h1, h2⟩ := cP (i := i) (b := b) t (by simpa using e);exact ⟨a, by simpa using h1, h2⟩
section
variable {K : Frag} {G G' H H' : Hp} {v : V} {d : D} {ds : List D} {vs : List V}
theorem Rep.kC {a : Addr}(h : G a = some (.tup vs))(r : bx K G vs ds):Rep K G (.ref a) (.tup ds) := .tup h (Paired.length r) (eO r)
theorem Rep.qZ {a : Addr}(h : G a = some (.lst vs))(r : bx K G vs ds):Rep K G (.ref a) (.lst ds) := .lst h (Paired.length r) (eO r)
theorem Rep.iU (h : Rep K G v (.tup ds)):∃ a vs, v = .ref a /\ lJ K G a vs /\ bx K G vs ds := by
  cases h with | tup h l r => exact ⟨_, _, rfl, .inl (.inl h), aB l r⟩
theorem Rep.mH (h : Rep K G v (.tup ds)):∃ a vs, v = .ref a /\ G a = some (.tup vs) /\ bx K G vs ds := by
  cases h with | tup h l r => exact ⟨_, _, rfl, h, aB l r⟩
theorem Rep.lst_inv (h : Rep K G v (.lst ds)):∃ a vs, v = .ref a /\ G a = some (.lst vs) /\ bx K G vs ds := by
  cases h with | lst h l r => exact ⟨_, _, rfl, h, aB l r⟩
theorem Rep.int_inv {i : Int}(h : Rep K G v (.int i)):v = .int i := by cases h;rfl
theorem Rep.vX {b : Bool}(h : Rep K G v (.bl b)):v = .bl b := by cases h;rfl
theorem lG {a : Addr}{u : HO}(e : av G G')(h : Rd G a u):Rd G' a u := h.elim (λz => .inl (e _ _ z)) λ⟨o, z⟩ => .inr ⟨o, e _ _ z⟩
theorem aJ {a : Addr}{xs : List V}(e : av G G')(h : lJ K G a xs):lJ K G' a xs := by
  rcases h with (h | ⟨o, h⟩) | h
  · exact .inl (.inl (e _ _ h))
  · exact .inl (.inr ⟨o, e _ _ h⟩)
  · exact .inr h
theorem Rep.mono (s : av G G')(h : Rep K G v d):Rep K G' v d := by
  induction h with
  | non => exact .non
  | bl b => exact .bl b
  | int i => exact .int i
  | str x => exact .str x
  | tup h l r ih => exact .tup (s _ _ h) l ih
  | lst h l r ih => exact .lst (s _ _ h) l ih
  | scr h => exact .scr (s.seq h)
  | dct h => exact .dct (lG s h)
  | sen h => exact .sen (lG s h)
  | ext h => exact .ext (h.mono s)
theorem bx.mono (s : av G G')(h : bx K G vs ds):bx K G' vs ds := Paired.imp' (λ_ _ => Rep.mono s) h
noncomputable def D.sc : D -> Bool
  | .tup _ => false
  | .lst _ => false
  | .scr _ => false
  | .dct _ => false
  | .sen _ => false
  | .ext _ => false
  | _ => true
theorem Rep.sc (h : Rep K G v d)(e : d.sc = true):Rep K G' v d := by
  cases h with
  | non => exact .non
  | bl b => exact .bl b
  | int i => exact .int i
  | str x => exact .str x
  | tup h l r => cases e
  | lst h l r => cases e
  | scr h => cases e
  | dct h => cases e
  | sen h => cases e
  | ext h => cases e
end
inductive Ct where
  | tup | lst
  | obj (C : Addr) (g n : Int)
  | wk (g : Int)
  | fnd (x : Str) (p : Int)
inductive B where
  | p (d : D) | o (d : D) | n (t : Ct) (ds : List D)
noncomputable def Ct.own : Ct -> Bool
  | .lst => true
  | .obj _ _ _ => true
  | _ => false
noncomputable def Cg (C : Addr)(g n : Int)(hs : List (Int × Int × Int × Int)):D -> D
  | .ext (.dki cs) => .ext (.obj C g hs cs n)
  | _ => .ext .any
noncomputable def zQ (C : Addr)(g n : Int)(b : D):D -> D
  | .ext (.dki hs) => Cg C g n hs b
  | _ => .ext .any
noncomputable def D1 (C : Addr)(g n : Int):List D -> D
  | [a, b] => zQ C g n b a
  | _ => .ext .any
noncomputable def EK (g : Int):List D -> D
  | [x, y] => .tup [.int g, x, y]
  | _ => .ext .any
noncomputable def DC (x : Str)(p : Int):List D -> D
  | [a, b, c] => .tup [.str x, .tup [a, b], .int p, c]
  | _ => .ext .any
noncomputable def Ct.val : Ct -> List D -> D
  | .tup => .tup
  | .lst => .lst
  | .obj C g n => D1 C g n
  | .wk g => EK g
  | .fnd x p => DC x p
noncomputable def Ct.at (t : Ct)(H : Hp)(a : Addr)(as : List Addr):Prop := match t with
  | .tup => H a = some (.tup (as.map V.ref))
  | .lst => H a = some (.lst (as.map V.ref))
  | .obj C g n => ∃ dx b c, as = [b, c] /\ H a = some (.ins C dx (eI g b c n))
  | .wk g => ∃ b c, as = [b, c] /\ H a = some (.tup [.int g, .ref b, .ref c])
  | .fnd x p => ∃ b c e t, as = [b, c, e] /\ H a = some (.tup [.str x, .ref t, .int p, .ref e]) /\ H t = some (.tup [.ref b, .ref c])
theorem Ct.oE {t : Ct}{H H' : Hp}{a : Addr}{as : List Addr}(s : av H H')(h : t.at H a as):t.at H' a as := by
  cases t with
  | tup => exact s _ _ h
  | lst => exact s _ _ h
  | obj C g n => obtain ⟨dx, b, c, e, h⟩ := h;exact ⟨dx, b, c, e, s _ _ h⟩
  | wk g => obtain ⟨b, c, e, h⟩ := h;exact ⟨b, c, e, s _ _ h⟩
  | fnd x p => obtain ⟨b, c, e, t, h1, h2, h3⟩ := h;exact ⟨b, c, e, t, h1, s _ _ h2, s _ _ h3⟩
theorem Ct.lL {t : Ct}{H H' : Hp}{a : Addr}{as : List Addr}(o : t.own = true)(s : ∀ o, H a = some o -> H' a = some o)(h : t.at H a as):t.at H' a as := by
  cases t with
  | tup => cases o
  | lst => exact s _ h
  | obj C g n => obtain ⟨dx, b, c, e, h⟩ := h;exact ⟨dx, b, c, e, s _ h⟩
  | wk g => cases o
  | fnd x p => cases o
theorem Ct.Af {t : Ct}{H : Hp}{a : Addr}{as : List Addr}(o : t.own = true)(h : t.at H a as):∃ o, H a = some o /\ ∀ xs, o ≠ .tup xs := by
  cases t with
  | tup => cases o
  | lst => exact ⟨_, h, λ_ z => nomatch z⟩
  | obj C g n => obtain ⟨dx, b, c, e, h⟩ := h;exact ⟨_, h, λ_ z => nomatch z⟩
  | wk g => cases o
  | fnd x p => cases o
set_option tactic.hygienic true in
theorem Ct.rep {K : Frag}{t : Ct}{G : Hp}{a : Addr}{as : List Addr}{ds : List D}(h : t.at G a as)(r : bx K G (as.map V.ref) ds):Rep K G (.ref a) (t.val ds) := by
  cases t with
  | tup => exact Rep.kC h r
  | lst => exact Rep.qZ h r
  | obj C g n =>
    obtain ⟨dx, b, c, rfl, h⟩ := h;cases r with
    | cons r1 r => cases r with
      | cons r2 r =>
        cases r;rename_i d1 d2;show Rep K G (.ref a) (zQ C g n d2 d1);cases r1 with
        | @ext _ e1 r1 => cases e1 with
          | dki hs => cases r2 with
            | @ext _ e2 r2 => cases e2 with
              | dki cs => exact .ext ⟨dx, b, c, h, r1, r2⟩
              | _ => exact .ext trivial
            | _ => exact .ext trivial
          | _ => exact .ext trivial
        | _ => exact .ext trivial
  | wk g =>
    obtain ⟨b, c, rfl, h⟩ := h;cases r with
    | cons r1 r => cases r with
      | cons r2 r => cases r;exact Rep.kC h (.cons (.int _) (.cons r1 (.cons r2 .nil)))
  | fnd x p =>
    obtain ⟨b, c, e, t, rfl, h, h'⟩ := h;cases r with
    | cons r1 r => cases r with
      | cons r2 r => cases r with
        | cons r3 r => cases r;exact Rep.kC h (.cons (.str _) (.cons (Rep.kC h' (.cons r1 (.cons r2 .nil))) (.cons (.int _) (.cons r3 .nil))))
noncomputable def B.val : B -> D
  | .p d => d
  | .o d => d
  | .n t ds => t.val ds
noncomputable def Ct.On (t : Ct)(F : Prop)(G H : Hp)(a : Addr)(as : List Addr):Prop := match t.own with
  | true => F /\ G a = none /\ a ∉ as /\ t.at H a as
  | false => t.at G a as
theorem Ct.On.imp {t : Ct}{F F' : Prop}{G H G' H' : Hp}{a : Addr}{as : List Addr}(h : t.On F G H a as)(s : av G G')(k : F -> G a = none -> (∃ o, H a = some o /\ ∀ xs, o ≠ .tup xs) -> F' /\ G' a = none /\ ∀ o, H a = some o -> H' a = some o):t.On F' G' H' a as := by
  unfold Ct.On at h ⊢;cases e : t.own with
  | true =>
    rw [e] at h;obtain ⟨f, g, n, q⟩ := h;obtain ⟨k1, k2, k3⟩ := k f g (Ct.Af e q);exact ⟨k1, k2, n, Ct.lL e k3 q⟩
  | false =>
    rw [e] at h;exact Ct.oE s h
noncomputable abbrev aH := List (Option B)
noncomputable def bf : aH -> Nat -> Option B
  | [], _ => none
  | b :: _, 0 => b
  | _ :: r, n + 1 => bf r n
noncomputable def dput : aH -> Nat -> B -> aH
  | [], _, _ => []
  | _ :: r, 0, b => some b :: r
  | c :: r, n + 1, b => c :: dput r n b
noncomputable def gA : Option B -> Option B
  | none => none
  | some b => some (.p b.val)
noncomputable def cq : aH -> aH
  | [] => []
  | c :: r => gA c :: cq r
theorem ip (b : B):∀ (ρ : aH) (i : Nat), (dput ρ i b).length = ρ.length
  | [], _ => rfl
  | _ :: _, 0 => rfl
  | _ :: r, n + 1 => by show (dput r n b).length + 1 = r.length + 1;rw [ip b r n]
theorem t7 : ∀ (ρ : aH), (cq ρ).length = ρ.length
  | [] => rfl
  | _ :: r => by show (cq r).length + 1 = _;rw [t7 r];rfl
theorem cD {b : B}:∀ {ρ : aH} {i j : Nat} {c : B}, bf (dput ρ i b) j = some c -> (i = j /\ j < ρ.length /\ c = b) \/ (i ≠ j /\ bf ρ j = some c)
  | [], _, _, _, h => by cases h
  | _ :: _, 0, 0, _, h => .inl ⟨rfl, Nat.succ_pos _, (Option.some.inj h).symm⟩
  | _ :: _, 0, j + 1, _, h => .inr ⟨Nat.succ_ne_zero j |>.symm, h⟩
  | _ :: _, i + 1, 0, _, h => .inr ⟨Nat.succ_ne_zero i, h⟩
  | _ :: r, i + 1, j + 1, _, h => by
    rcases cD (ρ := r) (i := i) (j := j) h with ⟨h1, h2, h3⟩ | ⟨h1, h2⟩
    · exact .inl ⟨by rw [h1], Nat.succ_lt_succ h2, h3⟩
    · exact .inr ⟨λe => h1 (Nat.succ.inj e), h2⟩
theorem lU : ∀ {ρ : aH} {i : Nat} {c : B}, bf (cq ρ) i = some c -> ∃ b, bf ρ i = some b /\ c = .p b.val
  | [], _, _, h => by cases h
  | none :: _, 0, _, h => by cases h
  | some b :: _, 0, _, h => ⟨b, rfl, (Option.some.inj h).symm⟩
  | _ :: r, i + 1, _, h => lU (ρ := r) h
noncomputable def dN (K : Frag)(G H : Hp)(a : Addr)(d : D):Prop := G a = none /\ match d with
  | .lst ds => ∃ vs, H a = some (.lst vs) /\ bx K G vs ds
  | .dct kvs => H a = some (.dT (encD kvs))
  | .sen ks => H a = some (.dT (B0 ks))
  | .ext x => fB G H a x
  | _ => False
noncomputable def Aa (H : Hp)(a : Addr):Prop := ∃ o, H a = some o /\ ∀ xs, o ≠ .tup xs
theorem Aa.there {H : Hp}{a : Addr}(h : Aa H a):H a ≠ none := by obtain ⟨o, e, _⟩ := h;rw [e];simp
structure Wd (H0 G0 H G : Hp):Prop where
  hh : av H0 H
  gg : av G0 G
  gh : av G H
  old : ∀ a, Aa H0 a -> G a = G0 a
theorem Wd.refl {H G : Hp}(s : av G H):Wd H G H G := ⟨av.refl _, av.refl _, s, λ_ _ => rfl⟩
theorem Wd.trans {H0 G0 H1 G1 H2 G2 : Hp}(a : Wd H0 G0 H1 G1)(b : Wd H1 G1 H2 G2):Wd H0 G0 H2 G2 :=
  ⟨a.hh.trans b.hh, a.gg.trans b.gg, b.gh, λx h => by
    have h1 : Aa H1 x := by obtain ⟨o, e, n⟩ := h;exact ⟨o, a.hh _ _ e, n⟩
    rw [b.old x h1, a.old x h]⟩
theorem Wd.new {H0 G0 H G : Hp}{p : Addr}{o : HO}(w : Wd H0 G0 H G)(h : H p = none):Wd H0 G0 (upd H p o) (upd G p o) :=
  ⟨w.hh.upd (w.hh.free h), w.gg.upd (w.gg.free (w.gh.free h)), λb u e => by
    by_cases z : b = p
    · subst z;rw [aq] at e ⊢;exact e
    · rw [ah z] at e ⊢;exact w.gh b u e, λa ha => by
    have z : a ≠ p := λe => ha.there (e ▸ w.hh.free h);rw [ah z, w.old a ha]⟩
theorem Wd.own {H0 G0 H G : Hp}{p : Addr}{o : HO}(w : Wd H0 G0 H G)(h0 : H0 p = none)(h : G p = none):Wd H0 G0 (upd H p o) G :=
  ⟨w.hh.upd h0, w.gg, w.gh.upd h, w.old⟩
theorem dN.rep {K : Frag}{G H G2 : Hp}{a : Addr}{d : D}(h : dN K G H a d)(s : av G G2)(e : ∀ o, H a = some o -> G2 a = some o):Rep K G2 (.ref a) d := by
  obtain ⟨g, k⟩ := h;cases d with
  | lst ds =>
    obtain ⟨vs, e', r⟩ := k;exact Rep.qZ (e _ e') (bx.mono s r)
  | dct kvs => exact .dct (.inl (e _ k))
  | sen kvs => exact .sen (.inl (e _ k))
  | ext x => exact .ext (fB.at k s e)
  | non => exact k.elim
  | bl _ => exact k.elim
  | int _ => exact k.elim
  | str _ => exact k.elim
  | tup _ => exact k.elim
  | scr _ => exact k.elim
noncomputable def fT (K : Frag)(H G' H' : Hp)(v : V):B -> Prop
  | .p d => Rep K G' v d
  | .o d => ∃ a, v = .ref a /\ H a = none /\ dN K G' H' a d
  | .n t ds => ∃ a as, v = .ref a /\ as.Nodup /\ Paired (λx d => H x = none /\ dN K G' H' x d) as ds /\ t.On (H a = none) G' H' a as
theorem fT.ahead {K : Frag}{H0 H G' H' : Hp}{v : V}{b : B}(s : av H0 H)(h : fT K H G' H' v b):fT K H0 G' H' v b := by
  cases b with
  | p d => exact h
  | o d => obtain ⟨a, e, n, o⟩ := h;exact ⟨a, e, s.free n, o⟩
  | n t ds =>
    obtain ⟨a, as, e, nd, pr, q⟩ := h;exact ⟨a, as, e, nd, Paired.imp' (λ_ _ z => ⟨s.free z.1, z.2⟩) pr, q.imp (av.refl _) λf g _ => ⟨s.free f, g, λ_ z => z⟩⟩
theorem Wd.all {H G H' G' : Hp}(w : Wd H G H' G'):∃ G2, Wd H G H' G2 /\ av G' G2 /\ ∀ a, H a = none -> G' a = none -> G2 a = H' a := by
  classical
  have sG : av G' (λa => if H a = none /\ G' a = none then H' a else G' a) := λa o h => by
    show (if _ then H' a else G' a) = _;rw [if_neg λq => by rw [q.2] at h;cases h];exact h
  refine ⟨λa => if H a = none /\ G' a = none then H' a else G' a, ⟨w.hh, w.gg.trans sG, λa o h => ?_, λa h => ?_⟩, sG, λa h1 h2 => if_pos ⟨h1, h2⟩⟩
  · have h' : (if H a = none /\ G' a = none then H' a else G' a) = some o := h;split at h'
    · exact h'
    · exact w.gh _ _ h'
  · show (if H a = none /\ G' a = none then H' a else G' a) = _;rw [if_neg λq => h.there q.1];exact w.old a h
theorem fT.give {K : Frag}{H G H' G' : Hp}{v : V}{b : B}(w : Wd H G H' G')(h : fT K H G' H' v b):∃ G2, Wd H G H' G2 /\ Rep K G2 v b.val := by
  cases b with
  | p d => exact ⟨G', w, h⟩
  | n t ds =>
    obtain ⟨a, as, rfl, nd, pr, q⟩ := h;obtain ⟨G2, w2, s2, k2⟩ := w.all;have qa : t.at G2 a as := by
      unfold Ct.On at q;cases e : t.own with
      | true =>
        rw [e] at q;exact Ct.lL e (λo z => by rw [k2 _ q.1 q.2.1];exact z) q.2.2.2
      | false =>
        rw [e] at q;exact Ct.oE s2 q
    refine ⟨G2, w2, Ct.rep qa ?_⟩;clear q nd qa;induction pr with
    | nil => exact .nil
    | cons f _ ih => exact .cons (f.2.rep s2 λo z => by rw [k2 _ f.1 f.2.1];exact z) ih
  | o d =>
    obtain ⟨a, rfl, n, k⟩ := h;obtain ⟨G2, w2, s2, k2⟩ := w.all;exact ⟨G2, w2, k.rep s2 λo z => by rw [k2 _ n k.1];exact z⟩
noncomputable abbrev DT := aH -> (B -> Prop) -> Prop
noncomputable abbrev gO := aH -> (Bool -> Prop) -> Prop
noncomputable abbrev eF := aH -> (List D -> Prop) -> Prop
noncomputable def cy (K : Frag)(G : Hp)(σ : St)(ρ : aH):Prop := ∀ i d, bf ρ i = some (.p d) -> ∃ v, σ[i]? = some (some v) /\ Rep K G v d
theorem cy.mono {K : Frag}{G G' : Hp}{σ : St}{ρ : aH}(s : av G G')(h : cy K G σ ρ):cy K G' σ ρ := λi d e => by
  obtain ⟨v, h1, h2⟩ := h i d e;exact ⟨v, h1, h2.mono s⟩
noncomputable def cE (K : Frag)(t : DT):TE := λσ H Q => ∃ (G : Hp) (ρ : aH) (P : B -> Prop), av G H /\ cy K G σ ρ /\ t ρ P /\ ∀ b v H' G', P b -> Wd H G H' G' -> fT K H G' H' v b -> Q v H'
noncomputable def cT (K : Frag)(t : gO):TT := λσ H Q => ∃ (G : Hp) (ρ : aH) (P : Bool -> Prop), av G H /\ cy K G σ ρ /\ t ρ P /\ ∀ b H' G', P b -> Wd H G H' G' -> Q b H'
noncomputable def cA (K : Frag)(n : Nat)(t : eF):TA := λσ H Q => ∃ (G : Hp) (ρ : aH) (P : List D -> Prop), av G H /\ cy K G σ ρ /\ t ρ P /\ ∀ ds vs H' G', P ds -> ds.length = n -> Wd H G H' G' -> bx K G' vs ds -> Q vs H'
structure DE (X : Cx)(e : Expr)(t : DT):Prop where
  pe : PE X e (cE X.K t)
structure qb (X : Cx)(e : Expr)(t : gO):Prop where
  pt : PT X e (cT X.K t)
structure DW (X : Cx)(e : Expr)(t : gO):Prop where
  pw : PW X e (cT X.K t)
structure DA (X : Cx)(es : List Expr)(t : eF):Prop where
  pa : PA X es (cA X.K es.length t)
theorem PE.imp {X : Cx}{e : Expr}{t t' : TE}(h : PE X e t)(i : ∀ σ H Q, t' σ H Q -> t σ H Q):PE X e t' := λpins s σ H Q I q => h pins s σ H Q I (i σ H Q q)
theorem PT.imp {X : Cx}{e : Expr}{t t' : TT}(h : PT X e t)(i : ∀ σ H Q, t' σ H Q -> t σ H Q):PT X e t' := λpins s σ H Q I q => h pins s σ H Q I (i σ H Q q)
theorem PW.imp {X : Cx}{e : Expr}{t t' : TT}(h : PW X e t)(i : ∀ σ H Q, t' σ H Q -> t σ H Q):PW X e t' := λwh pins s σ H Q I q => h wh pins s σ H Q I (i σ H Q q)
theorem PA.imp {X : Cx}{es : List Expr}{t t' : TA}(h : PA X es t)(i : ∀ σ H Q, t' σ H Q -> t σ H Q):PA X es t' := λpos pins s σ H Q I q => h pos pins s σ H Q I (i σ H Q q)
theorem PS.imp {X : Cx}{st : Stmt}{t t' : TS}(h : PS X st t)(i : ∀ D σ H, t' D σ H -> t D σ H):PS X st t' := λpins s σ H D I q => h pins s σ H D I (i D σ H q)
theorem mS.imp {X : Cx}{st : List Stmt}{t t' : TS}(h : mS X st t)(i : ∀ D σ H, t' D σ H -> t D σ H):mS X st t' := λpins s σ H D I q => h pins s σ H D I (i D σ H q)
theorem DE.of {X : Cx}{e : Expr}{t : TE}{t' : DT}(h : PE X e t)(i : ∀ σ H Q, cE X.K t' σ H Q -> t σ H Q):DE X e t' := ⟨PE.imp h i⟩
theorem qb.of {X : Cx}{e : Expr}{t : TT}{t' : gO}(h : PT X e t)(i : ∀ σ H Q, cT X.K t' σ H Q -> t σ H Q):qb X e t' := ⟨PT.imp h i⟩
theorem DW.of {X : Cx}{e : Expr}{t : TT}{t' : gO}(h : PW X e t)(i : ∀ σ H Q, cT X.K t' σ H Q -> t σ H Q):DW X e t' := ⟨PW.imp h i⟩
theorem DA.of {X : Cx}{es : List Expr}{t : TA}{t' : eF}(h : PA X es t)(i : ∀ σ H Q, cA X.K es.length t' σ H Q -> t σ H Q):DA X es t' := ⟨PA.imp h i⟩
section
variable {X : Cx} {a b e : Expr} {ta tb te : DT} {pos : Pos}
noncomputable def bw (i : Nat):DT := λρ Q => match bf ρ i with
  | some (.p d) => Q (.p d)
  | _ => False
set_option tactic.hygienic true in
theorem dv (i : Nat){x : Str}(hN :autoParam (X.N[i]? = some x) aZa._auto_1)(hv :autoParam (Bz X.env.scope x) aZg._auto_1)(hd :autoParam ((x == ("__debug__" : Str)) = false) aZb._auto_1)
    (hcd :autoParam ((x == ("__classdict__" : Str)) = false) aZb._auto_1):DE X (.Name x pos) (bw i) :=
  DE.of (pA hN hv hd hcd)<|by
    rintro σ H Q ⟨G, ρ, P, s, r, h, k⟩;unfold bw at h;split at h
    · rename_i d e;obtain ⟨v, h1, h2⟩ := r _ _ e;exact ⟨v, h1, k _ v H G h (Wd.refl s) h2⟩
    · exact h.elim
noncomputable def dC (d : D):DT := λ_ Q => Q (.p d)
noncomputable def zZ (K : Frag)(v : V)(d : D):Prop := ∀ G, Rep K G v d
theorem yw {v : V}{d : D}(h : PE X e (tC v))(r : zZ X.K v d):DE X e (dC d) :=
  DE.of h (by rintro σ H Q ⟨G, ρ, P, s, _, h, k⟩;exact k _ v H G h (Wd.refl s) (r G))
theorem ak {i : Int}{j}:DE X (.Constant (.int i) j pos) (dC (.int i)) := yw eh λ_ => .int i
theorem As {j}:DE X (.Constant .none j pos) (dC .non) := yw sP λ_ => .non
theorem lT {x : Str}{j}:DE X (.Constant (.str x) j pos) (dC (.str x)) := yw kn λ_ => .str x
theorem n4 {K : Frag}{H G H1 G1 : Hp}{P : B -> Prop}{Q : VK}(k : ∀ b v H' G', P b -> Wd H G H' G' -> fT K H G' H' v b -> Q v H')(w : Wd H G H1 G1):∀ b v H' G', P b -> Wd H1 G1 H' G' -> fT K H1 G' H' v b -> Q v H' :=
  λb v H' G' p w' r => k b v H' G' p (w.trans w') (r.ahead w.hh)
noncomputable abbrev D2 := D -> D -> (B -> Prop) -> Prop
noncomputable def oB (X : Cx)(f : Value -> Value -> Sem Value)(r : D2):Prop := ∃ rv : R2, jg X f rv /\
  ∀ (H G : Hp) (x y : V) (dx dy : D) (P : B -> Prop) (Q : VK), av G H -> Rep X.K G x dx -> Rep X.K G y dy -> r dx dy P -> (∀ b v H' G', P b -> Wd H G H' G' -> fT X.K H G' H' v b -> Q v H') -> rv x y H Q
noncomputable def hG (r : D2)(ta tb : DT):DT := λρ Q => ta ρ λx => tb ρ λy => r x.val y.val Q
theorem oF {K : Frag}{ta tb : DT}{r : D2}{rv : R2}(hr : ∀ (H G : Hp) (x y : V) (dx dy : D) (P : B -> Prop) (Q : VK), av G H -> Rep K G x dx -> Rep K G y dy -> r dx dy P -> (∀ b v H' G', P b -> Wd H G H' G' -> fT K H G' H' v b -> Q v H') -> rv x y H Q)
    (σ : St) (H : Hp) (Q : VK):cE K (hG r ta tb) σ H Q -> C0 rv (cE K ta) (cE K tb) σ H Q := by
  rintro ⟨G, ρ, P, s, re, h, k⟩;refine ⟨G, ρ, _, s, re, h, λb v H1 G1 p1 w1 r1 => ?_⟩;obtain ⟨G1', w1', r1'⟩ := r1.give w1;refine ⟨G1', ρ, _, w1'.gh, re.mono w1'.gg, p1, λb2 v2 H2 G2 p2 w2 r2 => ?_⟩;obtain ⟨G2', w2', r2'⟩ := r2.give w2;exact hr H2 G2' v v2 b.val b2.val P Q w2'.gh (r1'.mono w2'.gg) r2' p2 (n4 k (w1'.trans w2'))
theorem aD {op : Operator}{r : D2}(ho : oB X (binaryOp op) r)(ha : DE X a ta)(hb : DE X b tb):DE X (.BinOp a op b pos) (hG r ta tb) := by
  obtain ⟨rv, h1, h2⟩ := ho;exact DE.of (Cu h1 ha.pe hb.pe) (oF h2)
theorem ij {op : CmpOp}{r : D2}(ho : oB X (compareOp op) r)(ha : DE X a ta)(hb : DE X b tb)(hm : behindInMarks op b = false):DE X (.Compare a [op] [b] pos) (hG r ta tb) := by
  obtain ⟨rv, h1, h2⟩ := ho;exact DE.of (y6 h1 ha.pe hb.pe hm) (oF h2)
noncomputable def dI (g : Int -> Int -> D):D2 := λx y Q => match x, y with
  | .int i, .int j => Q (.p (g i j))
  | _, _ => False
noncomputable def lp (C : Int -> Int -> Prop)(g : Int -> Int -> D):D2 := λx y Q => match x, y with
  | .int i, .int j => C i j /\ Q (.p (g i j))
  | _, _ => False
theorem rj {f : Value -> Value -> Sem Value}{g : Int -> Int -> D}{gv : Int -> Int -> V}(h : jg X f (zk gv))(hg : ∀ i j, zZ X.K (gv i j) (g i j)):oB X f (dI g) := by
  refine ⟨_, h, λH G x y dx dy P Q s rx ry hr k => ?_⟩;unfold dI at hr;split at hr
  · cases rx;cases ry;exact ⟨_, _, rfl, rfl, k _ _ H G hr (Wd.refl s) (hg _ _ _)⟩
  · exact hr.elim
theorem sN {f : Value -> Value -> Sem Value}{C : Int -> Int -> Prop}{g : Int -> Int -> D}{gv : Int -> Int -> V}(h : jg X f (rI C gv))(hg : ∀ i j, zZ X.K (gv i j) (g i j)):oB X f (lp C g) := by
  refine ⟨_, h, λH G x y dx dy P Q s rx ry hr k => ?_⟩;unfold lp at hr;split at hr
  · cases rx;cases ry;exact ⟨_, _, rfl, rfl, hr.1, k _ _ H G hr.2 (Wd.refl s) (hg _ _ _)⟩
  · exact hr.elim
theorem gT : oB X (binaryOp .Sub) (dI λi j => .int (i - j)) := rj A0 λ_ _ _ => .int _
theorem uq : oB X (binaryOp .FloorDiv) (lp BG λi j => .int (i / j)) := sN y0 λ_ _ _ => .int _
theorem bI : oB X (binaryOp .Mod) (lp (λ_ j => 0 < j) λi j => .int (i % j)) := sN AV λ_ _ _ => .int _
theorem sJ : oB X (binaryOp .Pow) (lp zY λi j => .int (i ^ j.toNat)) := sN AY λ_ _ _ => .int _
theorem zS : oB X (compareOp .Lt) (dI λi j => .bl (decide (i < j))) := rj Cp λ_ _ _ => .bl _
theorem Cj : oB X (compareOp .LtE) (dI λi j => .bl (decide (i <= j))) := rj Co λ_ _ _ => .bl _
theorem Ci : oB X (compareOp .Gt) (dI λi j => .bl (decide (j < i))) := rj Cn λ_ _ _ => .bl _
theorem zR : oB X (compareOp .GtE) (dI λi j => .bl (decide (j <= i))) := rj Cm λ_ _ _ => .bl _
noncomputable def fK : D2 := λx y Q => match x, y with
  | .int i, .int j => Q (.p (.bl (decide (i = j))))
  | .str i, .str j => Q (.p (.bl (decide (i = j))))
  | .bl i, .bl j => Q (.p (.bl (decide (i = j))))
  | _, _ => False
noncomputable def fj : D2 := λx y Q => match x, y with
  | .int i, .int j => Q (.p (.bl (!decide (i = j))))
  | .str i, .str j => Q (.p (.bl (!decide (i = j))))
  | .bl i, .bl j => Q (.p (.bl (!decide (i = j))))
  | _, _ => False
theorem uY {α : Type}[DecidableEq α]{f : α -> V}(hf : ∀ a b, f a = f b -> a = b)(i j : α):decide (f i = f j) = decide (i = j) := by
  by_cases h : i = j
  · rw [h, decide_eq_true rfl, decide_eq_true rfl]
  · rw [decide_eq_false h, decide_eq_false λe => h (hf _ _ e)]
theorem fH : oB X (compareOp .Eq) fK := by
  refine ⟨_, om, λH G x y dx dy P Q s rx ry hr k => ?_⟩;unfold fK at hr;split at hr
  · cases rx;cases ry;exact ⟨rfl, by rw [uY (λ_ _ e => V.int.inj e)];exact k _ _ H G hr (Wd.refl s) (.bl _)⟩
  · cases rx;cases ry;exact ⟨rfl, by rw [uY (λ_ _ e => V.str.inj e)];exact k _ _ H G hr (Wd.refl s) (.bl _)⟩
  · cases rx;cases ry;exact ⟨rfl, by rw [uY (λ_ _ e => V.bl.inj e)];exact k _ _ H G hr (Wd.refl s) (.bl _)⟩
  · exact hr.elim
theorem rg : oB X (compareOp .NotEq) fj := by
  refine ⟨_, Cq, λH G x y dx dy P Q s rx ry hr k => ?_⟩;unfold fj at hr;split at hr
  · cases rx;cases ry;exact ⟨rfl, by rw [uY (λ_ _ e => V.int.inj e)];exact k _ _ H G hr (Wd.refl s) (.bl _)⟩
  · cases rx;cases ry;exact ⟨rfl, by rw [uY (λ_ _ e => V.str.inj e)];exact k _ _ H G hr (Wd.refl s) (.bl _)⟩
  · cases rx;cases ry;exact ⟨rfl, by rw [uY (λ_ _ e => V.bl.inj e)];exact k _ _ H G hr (Wd.refl s) (.bl _)⟩
  · exact hr.elim
noncomputable def ic : D2 := λx y Q => match y with
  | .non => Q (.p (.bl (match x with | .non => true | _ => false)))
  | _ => False
noncomputable def eY : D2 := λx y Q => match y with
  | .non => Q (.p (.bl (match x with | .non => false | _ => true)))
  | _ => False
noncomputable def qA (r : D -> (B -> Prop) -> Prop)(ta : DT):DT := λρ Q => ta ρ λx => r x.val Q
noncomputable def ie : D -> (B -> Prop) -> Prop := λx Q => match x with
  | .int i => Q (.p (.int (-i)))
  | _ => False
noncomputable def d6 (ta : DT):DT := λρ Q => ta ρ λx => match x.val with
  | .bl c => Q (.p (.bl (!c)))
  | _ => False
theorem kZ {K : Frag}{H G H' G' : Hp}{v : V}{b : B}{c : Bool}(w : Wd H G H' G')(r : fT K H G' H' v b)(e : b.val = .bl c):v = .bl c := by
  obtain ⟨G1, _, r1⟩ := r.give w;rw [e] at r1;exact r1.vX
set_option tactic.hygienic true in
theorem Au (ha : DE X a ta):DE X (.UnaryOp .Not a pos) (d6 ta) :=
  DE.of (A3 ha.pe)<|by
    rintro σ H Q ⟨G, ρ, P, s, re, h, k⟩;refine ⟨G, ρ, _, s, re, h, λb v H1 G1 p1 w1 r1 => ?_⟩;split at p1
    · rename_i c e;exact ⟨c, kZ w1 r1 e, k _ _ H1 G1 p1 w1 (.bl _)⟩
    · exact p1.elim
noncomputable def d4 (ta tb : DT):DT := λρ Q => ta ρ λx => match x.val with
  | .bl c => (c = true -> tb ρ Q) /\ (c = false -> Q (.p (.bl false)))
  | _ => False
noncomputable def ig (ta tb : DT):DT := λρ Q => ta ρ λx => match x.val with
  | .bl c => (c = true -> Q (.p (.bl true))) /\ (c = false -> tb ρ Q)
  | _ => False
theorem se {op}{t : DT}(h : DE X a t):DE X (.BoolOp op [a] pos) t := ⟨A4 h.pe⟩
set_option tactic.hygienic true in
theorem sd {rest : List Expr}(ha : DE X a ta)(hb : DE X (.BoolOp .And (b :: rest) pos) tb):DE X (.BoolOp .And (a :: b :: rest) pos) (d4 ta tb) :=
  DE.of (A1 ha.pe hb.pe)<|by
    rintro σ H Q ⟨G, ρ, P, s, re, h, k⟩;refine ⟨G, ρ, _, s, re, h, λb v H1 G1 p1 w1 r1 => ?_⟩;split at p1
    · rename_i c e;refine ⟨c, kZ w1 r1 e, ?_⟩;cases c with
      | true => exact mW ⟨G1, ρ, P, w1.gh, re.mono w1.gg, p1.1 rfl, n4 k w1⟩
      | false => exact iY (k _ _ H1 G1 (p1.2 rfl) w1 (.bl _))
    · exact p1.elim
noncomputable def eG (t : DT):gO := λρ P => t ρ λx => match x.val with
  | .bl c => P c
  | _ => False
set_option tactic.hygienic true in
theorem bU {op : CmpOp}{r : D2}(ho : oB X (compareOp op) r)(ha : DE X a ta)(hb : DE X b tb)(hm : behindInMarks op b = false):qb X (.Compare a [op] [b] pos) (eG (hG r ta tb)) := by
  obtain ⟨rv, h1, h2⟩ := ho;refine qb.of (iS h1 ha.pe hb.pe hm) ?_;rintro σ H Q ⟨G, ρ, P, s, re, h, k⟩;refine oF h2 σ H _ ⟨G, ρ, _, s, re, h, λb v H1 G1 p1 w1 r1 => ?_⟩;split at p1
  · rename_i c e;exact ⟨c, kZ w1 r1 e, k _ H1 G1 p1 w1⟩
  · exact p1.elim
set_option tactic.hygienic true in
theorem oR (ha : DE X a ta)(he :autoParam (∀ whole, isTrue a X.env whole = (do let v <- whole;standAt a.pos;holding [v] (truthy v))) aZc._auto_1):qb X a (eG ta) :=
  qb.of (mz ha.pe he)<|by
    rintro σ H Q ⟨G, ρ, P, s, re, h, k⟩;refine ⟨G, ρ, _, s, re, h, λb v H1 G1 p1 w1 r1 => ?_⟩;split at p1
    · rename_i c e;exact ⟨c, kZ w1 r1 e, k _ H1 G1 p1 w1⟩
    · exact p1.elim
noncomputable def gr (t : gO):gO := λρ P => t ρ λc => P (!c)
theorem wJ {t : gO}(ha : qb X a t):qb X (.UnaryOp .Not a pos) (gr t) :=
  qb.of (sT ha.pt) (by rintro σ H Q ⟨G, ρ, P, s, re, h, k⟩;exact ⟨G, ρ, _, s, re, h, λb H1 G1 p1 w1 => k _ H1 G1 p1 w1⟩)
noncomputable def fX (t u : gO):gO := λρ P => t ρ λc => (c = true -> u ρ P) /\ (c = false -> P false)
noncomputable def mV (t u : gO):gO := λρ P => t ρ λc => (c = true -> P true) /\ (c = false -> u ρ P)
theorem wU {K : Frag}{H G H1 G1 : Hp}{P : Bool -> Prop}{Q : Bool -> Hp -> Prop}(k : ∀ b H' G', P b -> Wd H G H' G' -> Q b H')(w : Wd H G H1 G1):∀ b H' G', P b -> Wd H1 G1 H' G' -> Q b H' :=
  λb H' G' p w' => k b H' G' p (w.trans w')
theorem Aj {K : Frag}{t u : gO}(σ : St)(H : Hp)(Q : Bool -> Hp -> Prop):cT K (fX t u) σ H Q -> CM (cT K t) (cT K u) σ H Q := by
  rintro ⟨G, ρ, P, s, re, h, k⟩;refine ⟨G, ρ, _, s, re, h, λc H1 G1 p1 w1 => ?_⟩;cases c with
  | true => exact mW ⟨G1, ρ, P, w1.gh, re.mono w1.gg, p1.1 rfl, wU (K := K) k w1⟩
  | false => exact iY (k _ H1 G1 (p1.2 rfl) w1)
theorem BQ {K : Frag}{t u : gO}(σ : St)(H : Hp)(Q : Bool -> Hp -> Prop):cT K (mV t u) σ H Q -> EA (cT K t) (cT K u) σ H Q := by
  rintro ⟨G, ρ, P, s, re, h, k⟩;refine ⟨G, ρ, _, s, re, h, λc H1 G1 p1 w1 => ?_⟩;cases c with
  | true => exact mW (k _ H1 G1 (p1.1 rfl) w1)
  | false => exact iY ⟨G1, ρ, P, w1.gh, re.mono w1.gg, p1.2 rfl, wU (K := K) k w1⟩
end
end DL
namespace DL
open PySem L2
section
variable {X : Cx} {a b c e : Expr} {ta tb tc te : DT} {pos : Pos} {es : List Expr}
noncomputable def ib (t : gO)(ta tb : DT):DT := λρ Q => t ρ λc => (c = true -> ta ρ Q) /\ (c = false -> tb ρ Q)
noncomputable def cQ (r r' : D2)(ta tb tc : DT):DT := λρ Q => ta ρ λx => tb ρ λy => r x.val y.val λz => match z.val with
  | .bl c => (c = true -> tc ρ λw => r' y.val w.val Q) /\ (c = false -> Q (.p (.bl false)))
  | _ => False
theorem lx {t : gO}(ha : qb X a t):DW X (.BoolOp .And [a] pos) t := ⟨zh ha.pt⟩
theorem oT {t : gO}(ha : qb X a t):DW X (.BoolOp .Or [a] pos) t := ⟨Bd ha.pt⟩
theorem oS {t u : gO}{rest : List Expr}(ha : qb X a t)(hb : DW X (.BoolOp .And (b :: rest) pos) u):DW X (.BoolOp .And (a :: b :: rest) pos) (fX t u) := DW.of (Bc ha.pt hb.pw) Aj
theorem nZ {t u : gO}{rest : List Expr}(ha : qb X a t)(hb : DW X (.BoolOp .Or (b :: rest) pos) u):DW X (.BoolOp .Or (a :: b :: rest) pos) (mV t u) := DW.of (Cw ha.pt hb.pw) BQ
theorem DW.dt {t : gO}(h : DW X e t):qb X e t := ⟨PW.pt h.pw⟩
noncomputable def fk : eF := λ_ P => P []
noncomputable def bN (te : DT)(t : eF):eF := λρ P => te ρ λb => t ρ λds => P (b.val :: ds)
theorem ao : DA X [] fk := DA.of aY λσ H Q ⟨G, ρ, P, s, re, h, k⟩ => k [] [] H G h rfl (Wd.refl s) .nil
theorem ae {t : eF}(ha : DE X e te)(hr : DA X es t)(hs :autoParam (starEach (e :: es) X.env = (false, eval e X.env) :: starEach es X.env) aZa._auto_1):DA X (e :: es) (bN te t) :=
  DA.of (au ha.pe hr.pa hs)<|by
    rintro σ H Q ⟨G, ρ, P, s, re, h, k⟩;refine ⟨G, ρ, _, s, re, h, λb v H1 G1 p1 w1 r1 => ?_⟩;obtain ⟨G1', w1', r1'⟩ := r1.give w1;refine ⟨G1', ρ, _, w1'.gh, re.mono w1'.gg, p1, λds vs H2 G2 p2 l2 w2 r2 => ?_⟩;exact k _ _ H2 G2 p2 (by show ds.length + 1 = es.length + 1;rw [l2]) (w1'.trans w2) (.cons (r1'.mono w2.gg) r2)
noncomputable def fL (t : eF):DT := λρ Q => t ρ λds => Q (.p (.tup ds))
noncomputable def gp (t : eF):DT := λρ Q => t ρ λds => Q (.o (.lst ds))
theorem jU {K : Frag}{H G H1 G1 : Hp}{vs : List V}{ds : List D}{p : Addr}(w : Wd H G H1 G1)(hp : H1 p = none)(r : bx K G1 vs ds):Wd H G (upd H1 p (.lst vs)) G1 /\ fT K H G1 (upd H1 p (.lst vs)) (.ref p) (.o (.lst ds)) :=
  ⟨w.own (w.hh.free hp) (w.gh.free hp), p, rfl, w.hh.free hp, w.gh.free hp, vs, aq, r⟩
theorem pM {K : Frag}{H G H1 G1 : Hp}{vs : List V}{ds : List D}{p : Addr}(w : Wd H G H1 G1)(hp : H1 p = none)(r : bx K G1 vs ds):Wd H G (upd H1 p (.tup vs)) (upd G1 p (.tup vs)) /\ fT K H (upd G1 p (.tup vs)) (upd H1 p (.tup vs)) (.ref p) (.p (.tup ds)) :=
  ⟨w.new hp, Rep.kC aq (bx.mono (dB (w.gh.free hp)) r)⟩
theorem gd {t : eF}{x1}(h : DA X es t)(hn :autoParam (es.length <= 1000) aZh._auto_1):DE X (.Tuple es x1 pos) (fL t) :=
  DE.of (jt h.pa)<|by
    rintro σ H Q ⟨G, ρ, P, s, re, h, k⟩;refine ⟨G, ρ, _, s, re, h, λds vs H1 G1 p1 l1 w1 r1 => ⟨fA (by rw [Paired.length r1, l1];exact hn), λp hp => ?_⟩⟩;obtain ⟨w2, r2⟩ := pM w1 hp r1;exact k _ _ _ _ p1 w2 r2
theorem j8 {t : eF}(h : DA X es t)(hn :autoParam (es.length <= 1000) aZh._auto_1):DE X (.List es pos) (gp t) :=
  DE.of (xx h.pa)<|by
    rintro σ H Q ⟨G, ρ, P, s, re, h, k⟩;refine ⟨G, ρ, _, s, re, h, λds vs H1 G1 p1 l1 w1 r1 => ⟨fA (by rw [Paired.length r1, l1];exact hn), λp hp => ?_⟩⟩;obtain ⟨w2, r2⟩ := jU w1 hp r1;exact k _ _ _ _ p1 w2 r2
noncomputable abbrev DR := List D -> (B -> Prop) -> Prop
noncomputable def fN (K : Frag)(R : DR):Sp := λvs H Q _ => ∃ (ds : List D) (G : Hp) (P : B -> Prop), av G H /\ bx K G vs ds /\ R ds P /\ ∀ b v H' G', P b -> Wd H G H' G' -> fT K H G' H' v b -> Q v H'
noncomputable abbrev EB (P : Program)(w : World)(K : Frag)(mg : Str -> Option Value)(base : Heap)(x : Str)(k : Nat)(ps : List Str)(R : DR):Prop := Fn P w K mg base x k ps (fN K R)
noncomputable def dS (R : DR)(t : eF):DT := λρ Q => t ρ λds => R ds Q
theorem aW {x : Str}{k : Nat}{ps : List Str}{R : DR}{p : Pos}{t : eF}(F : EB X.prog X.w X.K X.mg X.base x k ps R)(hr : cZ k X.A)(hg : Gl X x)(ha : DA X (e :: es) t)
    (hdb :autoParam ((x == ("__debug__" : Str)) = false) aZb._auto_1) (he :autoParam (starEach (e :: es) X.env = (false, eval e X.env) :: starEach es X.env) aZa._auto_1) (hpl :autoParam ((backTo pos (starEach es X.env)).any (·.1) = false) aZa._auto_1) :
    DE X (.Call (.Name x p) (e :: es) [] pos) (dS R t) :=
  DE.of (ot F hr hg ha.pa hdb he hpl)<|by
    rintro σ H Q ⟨G, ρ, P, s, re, h, k⟩;refine ⟨G, ρ, _, s, re, h, λds vs H1 G1 p1 l1 w1 r1 => ?_⟩;show fN X.K R (vs ++ []) H1 Q E0;rw [append_nil];exact ⟨ds, G1, P, w1.gh, r1, p1, n4 k w1⟩
noncomputable def CallD (X : Cx)(f : Value)(r : DR):Prop := ∃ rv, fO X f rv /\ ∀ (H G : Hp) (vs : List V) (ds : List D) (P : B -> Prop) (Q : VK), av G H -> bx X.K G vs ds -> r ds P -> (∀ b v H' G', P b -> Wd H G H' G' -> fT X.K H G' H' v b -> Q v H') -> rv vs H Q
noncomputable def ll (r : DR)(t : eF):DT := λρ Q => t ρ λds => r ds Q
theorem zF {K : Frag}{n : Nat}{t : eF}{r : DR}{rv : List V -> Hp -> VK -> Prop}(hr : ∀ (H G : Hp) (vs : List V) (ds : List D) (P : B -> Prop) (Q : VK), av G H -> bx K G vs ds -> r ds P -> (∀ b v H' G', P b -> Wd H G H' G' -> fT K H G' H' v b -> Q v H') -> rv vs H Q)
    (σ : St) (H : Hp) (Q : VK):cE K (ll r t) σ H Q -> Ec rv (cA K n t) σ H Q := by
  rintro ⟨G, ρ, P, s, re, h, k⟩;exact ⟨G, ρ, _, s, re, h, λds vs H1 G1 p1 l1 w1 r1 => hr H1 G1 vs ds P Q w1.gh r1 p1 (n4 k w1)⟩
theorem cC {id : String}{x : Str}{p : Pos}{t : eF}{r : DR}(hc : CallD X (.builtin id) r)(hg : Gl X x)(hm : X.mg x = none)(hv : bootBuiltins x = some (.builtin id))(ha : DA X (e :: es) t)(hn :autoParam (x ≠ "__name__") aZb._auto_1)(hdb :autoParam ((x == ("__debug__" : Str)) = false) aZb._auto_1)
    (he :autoParam (starEach (e :: es) X.env = (false, eval e X.env) :: starEach es X.env) aZa._auto_1) (hpl :autoParam ((backTo pos (starEach es X.env)).any (·.1) = false) aZa._auto_1):DE X (.Call (.Name x p) (e :: es) [] pos) (ll r t) := by
  obtain ⟨rv, h1, h2⟩ := hc;exact DE.of (rn h1 hg hm hv ha.pa hn hdb he hpl) (zF h2)
theorem nS {T : String}{x : Str}{p : Pos}{t : eF}{r : DR}(hc : CallD X (.type T) r)(hg : Gl X x)(hm : X.mg x = none)(hv : bootBuiltins x = some (.type T))(ha : DA X (e :: es) t)(hn :autoParam (x ≠ "__name__") aZb._auto_1)(hdb :autoParam ((x == ("__debug__" : Str)) = false) aZb._auto_1)
    (he :autoParam (starEach (e :: es) X.env = (false, eval e X.env) :: starEach es X.env) aZa._auto_1) (hpl :autoParam ((backTo pos (starEach es X.env)).any (·.1) = false) aZa._auto_1):DE X (.Call (.Name x p) (e :: es) [] pos) (ll r t) := by
  obtain ⟨rv, h1, h2⟩ := hc;exact DE.of (oq h1 hg hm hv ha.pa hn hdb he hpl) (zF h2)
theorem gI {K : Frag}{G : Hp}{vs : List V}{d : D}(h : bx K G vs [d]):∃ v, vs = [v] /\ Rep K G v d := by
  cases h with | cons h t => cases t;exact ⟨_, rfl, h⟩
theorem CG {K : Frag}{G : Hp}{vs : List V}{d d' : D}(h : bx K G vs [d, d']):∃ v v', vs = [v, v'] /\ Rep K G v d /\ Rep K G v' d' := by
  cases h with | cons h t => obtain ⟨v', rfl, h'⟩ := gI t;exact ⟨_, _, rfl, h, h'⟩
theorem ky {K : Frag}{G : Hp}:∀ {ns : List Int} {vs : List V}, bx K G vs (ns.map D.int) -> vs = ns.map V.int
  | [], _, h => by cases h;rfl
  | n :: ns, _, h => by cases h with | cons h t => rw [h.int_inv, ky t];rfl
theorem ke {K : Frag}{G : Hp}:∀ (ns : List Int), bx K G (ns.map V.int) (ns.map D.int)
  | [] => .nil
  | n :: ns => .cons (.int n) (ke ns)
noncomputable def fD : DR := λds P => match ds with
  | [.lst xs] => P (.p (.int xs.length))
  | [.tup xs] => P (.p (.int xs.length))
  | [.scr ns] => P (.p (.int ns.length))
  | [.str x] => x.length <= sizeLine /\ P (.p (.int x.length))
  | _ => False
set_option tactic.hygienic true in
theorem lM : CallD X (.builtin "len") fD := by
  refine ⟨_, uQ, λH G vs ds P Q s r h k => ?_⟩;unfold fD at h;split at h
  · obtain ⟨v, rfl, rv⟩ := gI r;obtain ⟨a, us, rfl, e, rr⟩ := rv.lst_inv;exact ⟨_, us.length, rfl, .inl ⟨us, d0.of (s _ _ e), rfl⟩, by rw [Paired.length rr];exact k _ _ H G h (Wd.refl s) (.int _)⟩
  · obtain ⟨v, rfl, rv⟩ := gI r;obtain ⟨a, us, rfl, e, rr⟩ := rv.iU;exact ⟨_, us.length, rfl, .inr ⟨us, aJ s e, rfl⟩, by rw [Paired.length rr];exact k _ _ H G h (Wd.refl s) (.int _)⟩
  · rename_i ns;obtain ⟨v, rfl, rv⟩ := gI r;cases rv with
    | scr e => exact ⟨_, ns.length, rfl, .inl ⟨_, s.seq e, by simp⟩, k _ _ H G h (Wd.refl s) (.int _)⟩
  · rename_i x;obtain ⟨v, rfl, rv⟩ := gI r;cases rv;exact ⟨_, x.length, rfl, ⟨h.1, rfl⟩, k _ _ H G h.2 (Wd.refl s) (.int _)⟩
  · exact h.elim
noncomputable def Ar : DR := λds P => match ds with
  | [.lst xs] => ∃ ns : List Int, xs = ns.map D.int /\ P (.p (.int ns.sum))
  | _ => False
theorem Ak (hc : X.calm = true):CallD X (.builtin "sum") Ar := by
  refine ⟨_, uU hc, λH G vs ds P Q s r h k => ?_⟩;unfold Ar at h;split at h
  · obtain ⟨ns, rfl, h⟩ := h;obtain ⟨v, rfl, rv⟩ := gI r;obtain ⟨a, us, rfl, e, rr⟩ := rv.lst_inv;rw [ky rr] at e;exact ⟨a, ns, rfl, d0.of (s _ _ e), k _ _ H G h (Wd.refl s) (.int _)⟩
  · exact h.elim
noncomputable def lP (g : Int -> Int -> Int):DR := λds P => match ds with
  | [.int i, .int j] => P (.p (.int (g i j)))
  | _ => False
theorem zG {f : Value}{g : Int -> Int -> Int}(h : fO X f (λxs H Q => ∃ i j, xs = [.int i, .int j] /\ Q (.int (g i j)) H)):CallD X f (lP g) := by
  refine ⟨_, h, λH G vs ds P Q s r h k => ?_⟩;unfold lP at h;split at h
  · obtain ⟨v, v', rfl, r1, r2⟩ := CG r;cases r1;cases r2;exact ⟨_, _, rfl, k _ _ H G h (Wd.refl s) (.int _)⟩
  · exact h.elim
theorem tH (hc : X.calm = true):CallD X (.builtin "max") (lP λi j => if j > i then j else i) := zG (uR hc)
theorem tJ (hc : X.calm = true):CallD X (.builtin "min") (lP λi j => if j < i then j else i) := zG (uT hc)
noncomputable def hV : DR := λds P => match ds with
  | [.int i] => P (.p (.int (if i < 0 then -i else i)))
  | _ => False
noncomputable def fZ : DR := λds P => match ds with
  | [.int i] => P (.p (.int i))
  | [.bl c] => P (.p (.int (if c then 1 else 0)))
  | _ => False
theorem wc : CallD X (.type "int") fZ := by
  refine ⟨_, uO, λH G vs ds P Q s r h k => ?_⟩;unfold fZ at h;split at h
  · obtain ⟨v, rfl, r1⟩ := gI r;cases r1;exact .inl ⟨_, rfl, k _ _ H G h (Wd.refl s) (.int _)⟩
  · obtain ⟨v, rfl, r1⟩ := gI r;cases r1;exact .inr ⟨_, rfl, k _ _ H G h (Wd.refl s) (.int _)⟩
  · exact h.elim
noncomputable def d5 : DR := λds P => match ds with
  | [.lst xs] => P (.o (.lst xs))
  | [.tup xs] => P (.o (.lst xs))
  | [.scr ns] => P (.o (.lst (ns.map D.int)))
  | _ => False
noncomputable def EJ : D -> String
  | .non => "NoneType"
  | .bl _ => "bool"
  | .int _ => "int"
  | .str _ => "str"
  | .tup _ => "tuple"
  | .lst _ => "list"
  | .scr _ => "list"
  | .dct _ => "dict"
  | .sen _ => "dict"
  | .ext _ => "dict"
noncomputable def AB (T : String)(d : D):Bool := match T with
  | "int" => (match d with | .int _ => true | .bl _ => true | _ => false)
  | "bool" => (match d with | .bl _ => true | _ => false)
  | "str" => (match d with | .str _ => true | _ => false)
  | "tuple" => (match d with | .tup _ => true | _ => false)
  | "list" => (match d with | .lst _ => true | .scr _ => true | _ => false)
  | _ => false
noncomputable def lQ : D2 := λx y Q => match x, y with
  | .lst xs, .int i => ∃ d, iW xs i = some d /\ Q (.p d)
  | .tup xs, .int i => ∃ d, iW xs i = some d /\ Q (.p d)
  | .scr ns, .int i => ∃ n, iW ns i = some n /\ Q (.p (.int n))
  | .str z, .int i => ∃ c, z.length <= sizeLine /\ iW z.cps.toList i = some c /\ Q (.p (.str ⟨#[c]⟩))
  | _, _ => False
theorem tD {K : Frag}{G : Hp}{vs : List V}{ds : List D}{i : Int}{d : D}(r : bx K G vs ds)(h : iW ds i = some d):∃ v, iW vs i = some v /\ Rep K G v d := by
  unfold iW at *;rw [Paired.length r];cases e : sv ds.length i with
  | none => rw [e] at h;cases h
  | some j =>
    rw [e] at h;exact cP r h
theorem ym {α β : Type}(f : α -> β){xs : List α}{i : Int}{x : α}(h : iW xs i = some x):iW (xs.map f) i = some (f x) := by
  unfold iW at *;rw [length_map];cases e : sv xs.length i with
  | none => rw [e] at h;cases h
  | some j =>
    rw [e] at h;have h' : xs[j]? = some x := h;show (xs.map f)[j]? = _;rw [getElem?_map, h'];rfl
theorem bT (ha : DE X a ta)(hb : DE X b tb)(hs : tp b := by exact λ_ _ => rfl):DE X (.Subscript a b pos) (hG lQ ta tb) :=
  DE.of (kP jo ha.pe hb.pe hs) (oF λH G x y dx dy P Q s rx ry h k => by
    unfold lQ at h;split at h
    · cases ry;obtain ⟨d, h1, h2⟩ := h;obtain ⟨a, us, rfl, e, rr⟩ := rx.lst_inv;obtain ⟨v, h3, h4⟩ := tD rr h1;exact .inl ⟨a, us, _, v, rfl, rfl, d0.of (s _ _ e), h3, k _ _ H G h2 (Wd.refl s) h4⟩
    · cases ry;obtain ⟨d, h1, h2⟩ := h;obtain ⟨a, us, rfl, e, rr⟩ := rx.iU;obtain ⟨v, h3, h4⟩ := tD rr h1;exact .inr (.inl ⟨a, us, _, v, rfl, rfl, aJ s e, h3, k _ _ H G h2 (Wd.refl s) h4⟩)
    · cases ry;obtain ⟨n, h1, h2⟩ := h;cases rx with
      | scr e => exact .inl ⟨_, _, _, .int n, rfl, rfl, s.seq e, ym _ h1, k _ _ H G h2 (Wd.refl s) (.int _)⟩
    · cases rx;cases ry;obtain ⟨c, h0, h1, h2⟩ := h;exact .inr (.inr ⟨_, _, c, rfl, rfl, h0, h1, k _ _ H G h2 (Wd.refl s) (.str _)⟩)
    · exact h.elim)
noncomputable abbrev yd := aH -> (Option Int -> Prop) -> Prop
noncomputable def cO (K : Frag)(t : yd):TO := λσ H Q => ∃ (G : Hp) (ρ : aH) (P : Option Int -> Prop), av G H /\ cy K G σ ρ /\ t ρ P /\ ∀ o H' G', P o -> Wd H G H' G' -> Q o H'
structure DO (X : Cx)(e : Option Expr)(t : yd):Prop where
  po : PO X e (cO X.K t)
noncomputable def cf : yd := λ_ P => P none
noncomputable def d7 (t : DT):yd := λρ P => t ρ λb => match b.val with
  | .int i => P (some i)
  | _ => False
theorem vZ {K : Frag}{H G H' G' : Hp}{v : V}{b : B}{c : Int}(w : Wd H G H' G')(r : fT K H G' H' v b)(e : b.val = .int c):v = .int c := by
  obtain ⟨G1, _, r1⟩ := r.give w;rw [e] at r1;exact r1.int_inv
theorem PO.imp {e : Option Expr}{t t' : TO}(h : PO X e t)(i : ∀ σ H Q, t' σ H Q -> t σ H Q):PO X e t' := λpins s σ H Q I q => h pins s σ H Q I (i σ H Q q)
theorem DO.of {e : Option Expr}{t : TO}{t' : yd}(h : PO X e t)(i : ∀ σ H Q, cO X.K t' σ H Q -> t σ H Q):DO X e t' := ⟨PO.imp h i⟩
set_option tactic.hygienic true in
theorem tX (he : DE X e te):DO X (some e) (d7 te) := DO.of (zf he.pe)<|by
  rintro σ H Q ⟨G, ρ, P, s, re, h, k⟩;refine ⟨G, ρ, _, s, re, h, λb v H1 G1 p1 w1 r1 => ?_⟩;split at p1
  · rename_i i e;exact ⟨i, vZ w1 r1 e, k _ H1 G1 p1 w1⟩
  · exact p1.elim
noncomputable def hU {α : Type}(xs : List α)(lo hi : Option Int):List α := (xs.drop (HT.d9 xs.length 0 lo)).take (HT.d9 xs.length xs.length hi - HT.d9 xs.length 0 lo)
theorem kM {α β : Type}{F : α -> β -> Prop}:∀ {l : List α} {r : List β} (n : Nat), Paired F l r -> Paired F (l.drop n) (r.drop n)
  | _, _, 0, h => h
  | _, _, n + 1, .nil => by rw [List.drop_nil, List.drop_nil];exact .nil
  | _, _, n + 1, .cons _ t => kM n t
theorem kO {α β : Type}{F : α -> β -> Prop}:∀ {l : List α} {r : List β} (n : Nat), Paired F l r -> Paired F (l.take n) (r.take n)
  | _, _, 0, h => by rw [List.take_zero, List.take_zero];exact .nil
  | _, _, n + 1, .nil => by rw [List.take_nil, List.take_nil];exact .nil
  | _, _, n + 1, .cons h t => .cons h (kO n t)
theorem rF {K : Frag}{G : Hp}{vs : List V}{ds : List D}(r : bx K G vs ds)(lo hi : Option Int):bx K G (bH vs lo hi) (hU ds lo hi) := by
  unfold bH hU;rw [Paired.length r];exact kO _ (kM _ r)
noncomputable def oK (te : DT)(tl th : yd):DT := λρ Q => te ρ λb => tl ρ λlo => th ρ λhi => match b.val with
  | .lst xs => Q (.o (.lst (hU xs lo hi)))
  | .scr ns => Q (.o (.lst ((hU ns lo hi).map D.int)))
  | .tup xs => ¬ (HT.d9 xs.length 0 lo = 0 /\ HT.d9 xs.length xs.length hi = xs.length) /\ Q (.p (.tup (hU xs lo hi)))
  | _ => False
theorem wg {α : Type}(f : α -> V)(xs : List α)(lo hi : Option Int):bH (xs.map f) lo hi = (hU xs lo hi).map f := by
  unfold bH hU;rw [length_map, map_take, map_drop]
set_option tactic.hygienic true in
theorem wz {lo hi : Option Expr}{tl th : yd}{p2 : Pos}(he : DE X e te)(hl : DO X lo tl)(hu : DO X hi th):DE X (.Subscript e (.Slice lo hi none p2) pos) (oK te tl th) :=
  DE.of (xA (zv.or Bn) he.pe hl.po hu.po)<|by
    rintro σ H Q ⟨G, ρ, P, s, re, h, k⟩;refine ⟨G, ρ, _, s, re, h, λb v H1 G1 p1 w1 r1 => ?_⟩;obtain ⟨G1', w1', r1'⟩ := r1.give w1;refine ⟨G1', ρ, _, w1'.gh, re.mono w1'.gg, p1, λl H2 G2 p2 w2 => ?_⟩;have w12 := w1'.trans w2;refine ⟨G2, ρ, _, w2.gh, re.mono w12.gg, p2, λu H3 G3 p3 w3 => ?_⟩;have w13 := w12.trans w3;have r3 := r1'.mono (w2.trans w3).gg;split at p3
    · rename_i xs e;rw [e] at r3;obtain ⟨a, us, rfl, e, rr⟩ := r3.lst_inv;refine .inl ⟨a, us, rfl, d0.of (w3.gh _ _ e), λp hp => ?_⟩;obtain ⟨w4, r4⟩ := jU w13 hp (rF rr l u);exact k _ _ _ _ p3 w4 r4
    · rename_i ns e;rw [e] at r3;cases r3 with
      | scr e =>
        refine .inl ⟨_, _, rfl, w3.gh.seq e, λp hp => ?_⟩;rw [wg];obtain ⟨w4, r4⟩ := jU w13 hp (ke (K := X.K) (hU ns l u));exact k _ _ _ _ p3 w4 r4
    · rename_i xs e;rw [e] at r3;obtain ⟨a, us, rfl, e, rr⟩ := r3.iU;refine .inr ⟨a, us, rfl, aJ w3.gh e, by rw [Paired.length rr];exact p3.1, λp hp => ?_⟩;obtain ⟨w4, r4⟩ := pM w13 hp (rF rr l u);exact k _ _ _ _ p3.2 w4 r4
    · exact p3.elim
noncomputable def g7 (te : DT)(tl th ts : yd):DT := λρ Q => te ρ λb => tl ρ λlo => th ρ λhi => ts ρ λst => st ≠ some 0 /\ match b.val with
  | .lst xs => Q (.o (.lst (ow xs lo hi st)))
  | .scr ns => Q (.o (.lst ((ow ns lo hi st).map D.int)))
  | _ => False
noncomputable def fC : D2 := λx y Q => match x, y with
  | .int i, .int j => Q (.p (.int (i + j)))
  | .lst xs, .lst ys => xs.length + ys.length <= sizeLine /\ Q (.o (.lst (xs ++ ys)))
  | .str x, .str y => x.length + y.length <= sizeLine /\ Q (.p (.str (x ++ y)))
  | .tup xs, .tup ys => xs ≠ [] /\ ys ≠ [] /\ xs.length + ys.length <= sizeLine /\ Q (.p (.tup (xs ++ ys)))
  | _, _ => False
theorem eN {α β : Type}{F : α -> β -> Prop}:∀ {l l' : List α} {r r' : List β}, Paired F l r -> Paired F l' r' -> Paired F (l ++ l') (r ++ r')
  | _, _, _, _, .nil, h => h
  | _, _, _, _, .cons h t, h' => .cons h (eN t h')
theorem bE : oB X (binaryOp .Add) fC := by
  refine ⟨_, AR.or (AS.or (sM.or yZ)), λH G x y dx dy P Q s rx ry h k => ?_⟩;unfold fC at h;split at h
  · cases rx;cases ry;exact .inl ⟨_, _, rfl, rfl, k _ _ H G h (Wd.refl s) (.int _)⟩
  · obtain ⟨a, us, rfl, e, rr⟩ := rx.lst_inv;obtain ⟨a', us', rfl, e', rr'⟩ := ry.lst_inv;refine .inr (.inl ⟨a, a', us, us', rfl, rfl, s _ _ e, s _ _ e', by rw [Paired.length rr, Paired.length rr'];exact h.1, λp hp => ?_⟩);obtain ⟨w2, r2⟩ := jU (Wd.refl s) hp (eN rr rr');exact k _ _ _ _ h.2 w2 r2
  · cases rx;cases ry;exact .inr (.inr (.inl ⟨_, _, rfl, rfl, h.1, k _ _ H G h.2 (Wd.refl s) (.str _)⟩))
  · obtain ⟨h1, h2, h3, h4⟩ := h;obtain ⟨a, us, rfl, e, rr⟩ := rx.iU;obtain ⟨a', us', rfl, e', rr'⟩ := ry.iU;refine .inr (.inr (.inr ⟨a, a', us, us', rfl, rfl, aJ s e, aJ s e', λz => ?_, by rw [Paired.length rr, Paired.length rr'];exact h3, λz => ?_, λ_ p hp => ?_⟩))
    · subst z;cases rr;exact h1 rfl
    · subst z;cases rr';exact (h2 rfl).elim
    · obtain ⟨w2, r2⟩ := pM (Wd.refl s) hp (eN rr rr');exact k _ _ _ _ h4 w2 r2
  · exact h.elim
noncomputable def gq : D2 := λx y Q => match x, y with
  | .int i, .int j => p9 i j /\ Q (.p (.int (i * j)))
  | .lst xs, .int k => (-(2 ^ 63) <= k /\ k < 2 ^ 63) /\ xs.length * k.toNat <= sizeLine /\ Q (.o (.lst (List.replicate k.toNat xs).flatten))
  | _, _ => False
theorem rH {K : Frag}{G : Hp}{vs : List V}{ds : List D}(r : bx K G vs ds):∀ n : Nat, bx K G (List.replicate n vs).flatten (List.replicate n ds).flatten
  | 0 => .nil
  | n + 1 => by
    rw [List.replicate_succ, List.replicate_succ, List.flatten_cons, List.flatten_cons];exact eN r (rH r n)
theorem gF : oB X (binaryOp .Mult) gq := by
  refine ⟨_, AW.or AZ, λH G x y dx dy P Q s rx ry h k => ?_⟩;unfold gq at h;split at h
  · cases rx;cases ry;exact .inl ⟨_, _, rfl, rfl, h.1, k _ _ H G h.2 (Wd.refl s) (.int _)⟩
  · cases ry;obtain ⟨a, us, rfl, e, rr⟩ := rx.lst_inv;obtain ⟨⟨h1, h2⟩, h3, h4⟩ := h;refine .inr ⟨a, _, us, rfl, rfl, s _ _ e, h1, h2, by rw [Paired.length rr];exact h3, λp hp => ?_⟩;obtain ⟨w2, r2⟩ := jU (Wd.refl s) hp (rH rr _);exact k _ _ _ _ h4 w2 r2
  · exact h.elim
end
end DL
namespace DL
open PySem L2
mutual
noncomputable def bP : D -> D -> Bool
  | .non, .non => true
  | .bl a, .bl b => a == b
  | .bl a, .int b => (if a then 1 else 0) == b
  | .int a, .bl b => a == (if b then 1 else 0)
  | .int a, .int b => a == b
  | .str a, .str b => a == b
  | .tup xs, .tup ys => ju xs ys
  | .lst xs, .lst ys => ju xs ys
  | _, _ => false
noncomputable def ju : List D -> List D -> Bool
  | [], [] => true
  | x :: xs, y :: ys => bP x y && ju xs ys
  | _, _ => false
end
mutual
noncomputable def dep : D -> Nat
  | .tup xs => g8 xs + 1
  | .lst xs => g8 xs + 1
  | _ => 0
noncomputable def g8 : List D -> Nat
  | [] => 0
  | x :: xs => max (dep x) (g8 xs)
end
mutual
noncomputable def aX : D -> Bool
  | .tup xs => iZ xs
  | .lst xs => iZ xs
  | .scr _ => false
  | .dct _ => false
  | .sen _ => false
  | .ext _ => false
  | _ => true
noncomputable def iZ : List D -> Bool
  | [] => true
  | x :: xs => aX x && iZ xs
end
theorem lE (xs : List D):aX (.tup xs) = iZ xs := by rw [aX]
theorem yS (xs : List D):aX (.lst xs) = iZ xs := by rw [aX]
theorem lD (i : Int):aX (.int i) = true := by unfold aX;rfl
theorem yU (x : Str):aX (.str x) = true := by unfold aX;rfl
theorem yT : aX .non = true := by unfold aX;rfl
theorem ix : iZ [] = true := by rw [iZ]
theorem gE (x : D)(xs : List D):iZ (x :: xs) = (aX x && iZ xs) := by rw [iZ]
theorem lu (xs : List D):dep (.tup xs) = g8 xs + 1 := by rw [dep]
theorem yy (xs : List D):dep (.lst xs) = g8 xs + 1 := by rw [dep]
theorem lq (i : Int):dep (.int i) = 0 := by unfold dep;rfl
theorem yA (x : Str):dep (.str x) = 0 := by unfold dep;rfl
theorem yz : dep .non = 0 := by unfold dep;rfl
theorem il : g8 [] = 0 := by rw [g8]
theorem gw (x : D)(xs : List D):g8 (x :: xs) = max (dep x) (g8 xs) := by rw [g8]
theorem ik : ∀ {xs : List D} {i : Nat} {x : D}, xs[i]? = some x -> dep x <= g8 xs
  | [], _, _, h => by simp at h
  | y :: xs, 0, x, h => by simp at h;subst h;unfold g8;exact Nat.le_max_left _ _
  | y :: xs, i + 1, x, h => by
    have := ik (xs := xs) (i := i) (x := x) (by simpa using h);unfold g8;exact Nat.le_trans this (Nat.le_max_right _ _)
theorem cG : ∀ {xs : List D} {i : Nat} {x : D}, iZ xs = true -> xs[i]? = some x -> aX x = true
  | [], _, _, _, h => by simp at h
  | y :: xs, 0, x, n, h => by simp at h;subst h;unfold iZ at n;exact (Bool.and_eq_true _ _ ▸ n).1
  | y :: xs, i + 1, x, n, h => by
    unfold iZ at n;exact cG (xs := xs) (i := i) (x := x) (Bool.and_eq_true _ _ ▸ n).2 (by simpa using h)
theorem all_succ (n : Nat)(f : Nat -> Bool):(List.range (n + 1)).all f = (f 0 && (List.range n).all λi => f (i + 1)) := by
  rw [List.range_succ_eq_map, List.all_cons, List.all_map];rfl
theorem rA : ∀ (xs ys : List D), ju xs ys = ((List.range (min xs.length ys.length)).all (λi => match xs[i]?, ys[i]? with | some x, some y => bP x y | _, _ => true) && xs.length == ys.length)
  | [], [] => by unfold ju;rfl
  | [], y :: ys => by unfold ju;simp
  | x :: xs, [] => by unfold ju;simp
  | x :: xs, y :: ys => by
    unfold ju;rw [rA xs ys];have : min (x :: xs).length (y :: ys).length = min xs.length ys.length + 1 := by simp only [length_cons];lia
    rw [this, all_succ];simp only [List.getElem?_cons_zero, List.getElem?_cons_succ, length_cons, Bool.and_assoc];congr 2;simp
noncomputable def ja (xs ys : List D)(i : Nat):Bool := match xs[i]?, ys[i]? with | some x, some y => bP x y | _, _ => true
section
variable {X : Cx} {pins : List (Addr × Obj)} {σ : St} {H G : Hp} {s : Shared}
theorem items_eqAt {A : Around}{us us' : List Value}{vs vs' : List V}{ds ds' : List D}(r1 : Vals vs us)(r2 : Vals vs' us')(k1 : bx X.K G vs ds)(k2 : bx X.K G vs' ds')
    (ih : ∀ (i : Nat) (d d' : D) (x y : V) (u v : Value), ds[i]? = some d -> ds'[i]? = some d' -> Rep X.K G x d -> Rep X.K G y d' -> RelV x u -> RelV y v -> SeqAt.EqAt A s u v (bP d d')) :
    ∀ j (h1 : j < us.toArray.size) (h2 : j < us'.toArray.size), SeqAt.EqAt A s us.toArray[j] us'.toArray[j] (ja ds ds' j) := λj q1 q2 => by
  have q1' : j < us.length := by simpa using q1
  have q2' : j < us'.length := by simpa using q2
  have l1 := r1.length;have l2 := r2.length;have e1 : vs[j]? = some vs[j] := getElem?_eq_getElem (by lia);have e2 : vs'[j]? = some vs'[j] := getElem?_eq_getElem (by lia);obtain ⟨u1, g1, s1⟩ := r1.get e1;obtain ⟨u2, g2, s2⟩ := r2.get e2;obtain ⟨d1, f1, t1⟩ := WS.js k1 e1;obtain ⟨d2, f2, t2⟩ := WS.js k2 e2;have z1 : us.toArray[j] = u1 := by rw [getElem?_eq_getElem q1'] at g1;simpa using Option.some.inj g1
  have z2 : us'.toArray[j] = u2 := by rw [getElem?_eq_getElem q2'] at g2;simpa using Option.some.inj g2
  rw [z1, z2];unfold ja;rw [f1, f2];exact ih j d1 d2 _ _ _ _ f1 f2 t1 t2 s1 s2
theorem jW (xs ys : List D):ju xs ys = ((List.range (min xs.length ys.length)).all (ja xs ys) && xs.length == ys.length) := rA xs ys
theorem rC {xs ys : List D}(h : xs.length = ys.length):ju xs ys = (List.range xs.length).all (ja xs ys) := by
  rw [jW, h];simp
theorem rB {xs ys : List D}(h : xs.length ≠ ys.length):ju xs ys = false := by
  rw [jW];have : (xs.length == ys.length) = false := by simpa using h
  rw [this, Bool.and_false]
theorem sz {vs : List V}{us : List Value}{ds : List D}(r : Vals vs us)(k : bx X.K G vs ds):us.toArray.size = ds.length := by
  rw [size_toArray, <- r.length, Paired.length k]
mutual
theorem gH : ∀ d : D, aX d = true -> bP d d = true
  | .non, _ => by unfold bP;rfl
  | .bl a, _ => by unfold bP;simp
  | .int a, _ => by unfold bP;simp
  | .str a, _ => by unfold bP;simp
  | .tup xs, h => by unfold bP;unfold aX at h;exact fI xs h
  | .lst xs, h => by unfold bP;unfold aX at h;exact fI xs h
  | .scr _, h => by unfold aX at h;cases h
  | .dct _, h => by unfold aX at h;cases h
  | .sen _, h => by unfold aX at h;cases h
  | .ext _, h => by unfold aX at h;cases h
theorem fI : ∀ ds : List D, iZ ds = true -> ju ds ds = true
  | [], _ => by unfold ju;rfl
  | d :: ds, h => by
    unfold iZ at h;have h' := Bool.and_eq_true _ _ ▸ h;unfold ju;rw [gH d h'.1, fI ds h'.2];rfl
end
theorem uC (I : Inv X pins σ H s)(sG : av G H){x : V}{d : D}(h : Rep X.K G x d):aX d = true -> ∀ {d' : D}, Rep X.K G x d' -> aX d' = true -> d = d' := by
  induction h with
  | non => intro _ d' h _;cases h;rfl
  | bl b => intro _ d' h _;cases h;rfl
  | int i => intro _ d' h _;cases h;rfl
  | str z => intro _ d' h _;cases h;rfl
  | scr _ => intro n;unfold aX at n;cases n
  | dct _ => intro n;unfold aX at n;cases n
  | sen _ => intro n;unfold aX at n;cases n
  | ext _ => intro n;unfold aX at n;cases n
  | @tup a vs ds h l r ih =>
    intro n d' h' n';unfold aX at n;cases h' with
    | scr _ => unfold aX at n';cases n'
    | dct _ => unfold aX at n';cases n'
    | sen _ => unfold aX at n';cases n'
    | ext _ => unfold aX at n';cases n'
    | lst h2 l2 r2 =>
      obtain ⟨_, _, t1, _⟩ := I.tuple (aJ sG (.inl (.inl h)));obtain ⟨_, _, t2, _⟩ := I.list (d0.of (sG _ _ h2));exact absurd rfl (SeqAt.ne_of_list_tuple t2.isList t1)
    | @tup _ _ ds2 h2 l2 r2 =>
      unfold aX at n';have e := I.vI (aJ sG (.inl (.inl h))) (aJ sG (.inl (.inl h2)));subst e;congr 1;refine List.ext_getElem? λi => ?_;by_cases hi : i < vs.length
      · rw [getElem?_eq_getElem (show i < _ by lia), getElem?_eq_getElem (show i < _ by lia)];have e1 := getElem?_eq_getElem (l := ds) (show i < _ by lia);have e2 := getElem?_eq_getElem (l := ds2) (show i < _ by lia);exact congrArg some (ih i _ _ (getElem?_eq_getElem hi) e1 (cG n e1) (r2 i _ _ (getElem?_eq_getElem hi) e2) (cG n' e2))
      · rw [List.getElem?_eq_none (by lia), List.getElem?_eq_none (by lia)]
  | @lst a vs ds h l r ih =>
    intro n d' h' n';unfold aX at n;cases h' with
    | scr _ => unfold aX at n';cases n'
    | dct _ => unfold aX at n';cases n'
    | sen _ => unfold aX at n';cases n'
    | ext _ => unfold aX at n';cases n'
    | tup h2 l2 r2 =>
      obtain ⟨_, _, t1, _⟩ := I.tuple (aJ sG (.inl (.inl h2)));obtain ⟨_, _, t2, _⟩ := I.list (d0.of (sG _ _ h));exact absurd rfl (SeqAt.ne_of_list_tuple t2.isList t1)
    | @lst _ _ ds2 h2 l2 r2 =>
      unfold aX at n';rw [h] at h2;cases h2;congr 1;refine List.ext_getElem? λi => ?_;by_cases hi : i < vs.length
      · rw [getElem?_eq_getElem (show i < _ by lia), getElem?_eq_getElem (show i < _ by lia)];have e1 := getElem?_eq_getElem (l := ds) (show i < _ by lia);have e2 := getElem?_eq_getElem (l := ds2) (show i < _ by lia);exact congrArg some (ih i _ _ (getElem?_eq_getElem hi) e1 (cG n e1) (r2 i _ _ (getElem?_eq_getElem hi) e2) (cG n' e2))
      · rw [List.getElem?_eq_none (by lia), List.getElem?_eq_none (by lia)]
theorem sj (I : Inv X pins σ H s)(sG : av G H):∀ (n : Nat) (dx dy : D), dep dx <= n -> aX dx = true -> aX dy = true -> ∀ {x y : V} {u v : Value} {A : Around}, Rep X.K G x dx -> Rep X.K G y dy -> RelV x u -> RelV y v -> A.units + n < cLine -> SeqAt.EqAt A s u v (bP dx dy) := by
  intro n;induction n with
  | zero =>
    intro dx dy hd n1 n2 x y u v A rx ry ru rv hu;have hu0 : A.units < cLine := hu;cases rx with
    | scr _ => unfold aX at n1;cases n1
    | dct _ => unfold aX at n1;cases n1
    | sen _ => unfold aX at n1;cases n1
    | ext _ => unfold aX at n1;cases n1
    | tup h l r => unfold dep at hd;lia
    | lst h l r => unfold dep at hd;lia
    | non =>
      cases ru;cases ry with
      | scr _ => unfold aX at n2;cases n2
      | dct _ => unfold aX at n2;cases n2
      | sen _ => unfold aX at n2;cases n2
      | ext _ => unfold aX at n2;cases n2
      | non => cases rv;unfold bP;exact SeqAt.EqAt.same _
      | bl b => cases rv;unfold bP;exact SeqAt.EqAt.none_bool b
      | int i => obtain ⟨t, rfl⟩ := rv;unfold bP;exact SeqAt.EqAt.none_int i t
      | str z => obtain ⟨t, rfl⟩ := rv;unfold bP;exact SeqAt.EqAt.none_str z t
      | tup h l r => cases rv;obtain ⟨is, r1, t1, z1⟩ := I.tuple (aJ sG (.inl (.inl h)));unfold bP;exact SeqAt.EqAt.none_tuple t1 hu0
      | lst h l r => cases rv;obtain ⟨is, r1, t1, z1⟩ := I.list (d0.of (sG _ _ h));unfold bP;exact SeqAt.EqAt.none_list t1.isList hu0
    | bl a =>
      cases ru;cases ry with
      | scr _ => unfold aX at n2;cases n2
      | dct _ => unfold aX at n2;cases n2
      | sen _ => unfold aX at n2;cases n2
      | ext _ => unfold aX at n2;cases n2
      | non => cases rv;unfold bP;exact SeqAt.EqAt.bool_none a
      | bl b => cases rv;unfold bP;exact SeqAt.EqAt.bool_bool a b
      | int i => obtain ⟨t, rfl⟩ := rv;unfold bP;exact SeqAt.EqAt.bool_int a i t
      | str z => obtain ⟨t, rfl⟩ := rv;unfold bP;exact SeqAt.EqAt.bool_str a z t
      | tup h l r => cases rv;obtain ⟨is, r1, t1, z1⟩ := I.tuple (aJ sG (.inl (.inl h)));unfold bP;exact SeqAt.EqAt.bool_tuple a t1 hu0
      | lst h l r => cases rv;obtain ⟨is, r1, t1, z1⟩ := I.list (d0.of (sG _ _ h));unfold bP;exact SeqAt.EqAt.bool_list a t1.isList hu0
    | int a =>
      obtain ⟨tt, rfl⟩ := ru;cases ry with
      | scr _ => unfold aX at n2;cases n2
      | dct _ => unfold aX at n2;cases n2
      | sen _ => unfold aX at n2;cases n2
      | ext _ => unfold aX at n2;cases n2
      | non => cases rv;unfold bP;exact SeqAt.EqAt.int_none a tt
      | bl b => cases rv;unfold bP;exact SeqAt.EqAt.int_bool a tt b
      | int i => obtain ⟨t, rfl⟩ := rv;unfold bP;exact SeqAt.EqAt.int_int a tt i t
      | str z => obtain ⟨t, rfl⟩ := rv;unfold bP;exact SeqAt.EqAt.int_str a tt z t
      | tup h l r => cases rv;obtain ⟨is, r1, t1, z1⟩ := I.tuple (aJ sG (.inl (.inl h)));unfold bP;exact SeqAt.EqAt.int_tuple a tt t1 hu0
      | lst h l r => cases rv;obtain ⟨is, r1, t1, z1⟩ := I.list (d0.of (sG _ _ h));unfold bP;exact SeqAt.EqAt.int_list a tt t1.isList hu0
    | str a =>
      obtain ⟨tt, rfl⟩ := ru;cases ry with
      | scr _ => unfold aX at n2;cases n2
      | dct _ => unfold aX at n2;cases n2
      | sen _ => unfold aX at n2;cases n2
      | ext _ => unfold aX at n2;cases n2
      | non => cases rv;unfold bP;exact SeqAt.EqAt.str_none a tt
      | bl b => cases rv;unfold bP;exact SeqAt.EqAt.str_bool a tt b
      | int i => obtain ⟨t, rfl⟩ := rv;unfold bP;exact SeqAt.EqAt.str_int a tt i t
      | str z => obtain ⟨t, rfl⟩ := rv;unfold bP;exact SeqAt.EqAt.str_str a tt z t
      | tup h l r => cases rv;obtain ⟨is, r1, t1, z1⟩ := I.tuple (aJ sG (.inl (.inl h)));unfold bP;exact SeqAt.EqAt.str_tuple a tt t1 hu0
      | lst h l r => cases rv;obtain ⟨is, r1, t1, z1⟩ := I.list (d0.of (sG _ _ h));unfold bP;exact SeqAt.EqAt.str_list a tt t1.isList hu0
  | succ n ihn =>
    intro dx dy hd n1 n2 x y u v A rx ry ru rv hu;have hu0 : A.units < cLine := by lia
    by_cases hs : dep dx = 0
    · exact ihn dx dy (by lia) n1 n2 rx ry ru rv (by lia)
    cases rx with
    | scr _ => unfold aX at n1;cases n1
    | dct _ => unfold aX at n1;cases n1
    | sen _ => unfold aX at n1;cases n1
    | ext _ => unfold aX at n1;cases n1
    | non => unfold dep at hs;exact absurd rfl hs
    | bl _ => unfold dep at hs;exact absurd rfl hs
    | int _ => unfold dep at hs;exact absurd rfl hs
    | str _ => unfold dep at hs;exact absurd rfl hs
    | @tup a vs ds h l r =>
      cases ru;obtain ⟨is, r1, t1, z1⟩ := I.tuple (aJ sG (.inl (.inl h)));cases ry with
      | scr _ => unfold aX at n2;cases n2
      | dct _ => unfold aX at n2;cases n2
      | sen _ => unfold aX at n2;cases n2
      | ext _ => unfold aX at n2;cases n2
      | non => cases rv;unfold bP;exact SeqAt.EqAt.tuple_none t1 hu0
      | bl b => cases rv;unfold bP;exact SeqAt.EqAt.tuple_bool b t1 hu0
      | int i => obtain ⟨t, rfl⟩ := rv;unfold bP;exact SeqAt.EqAt.tuple_int i t t1 hu0
      | str z => obtain ⟨t, rfl⟩ := rv;unfold bP;exact SeqAt.EqAt.tuple_str z t t1 hu0
      | lst h2 l2 rr2 => cases rv;obtain ⟨is2, r2, t2, z2⟩ := I.list (d0.of (sG _ _ h2));unfold bP;exact SeqAt.EqAt.tuple_list t1 t2.isList hu0
      | @tup a' vs' ds' h2 l2 rr2 =>
        cases rv;obtain ⟨is2, r2, t2, z2⟩ := I.tuple (aJ sG (.inl (.inl h2)));unfold bP;unfold dep at hd;unfold aX at n1 n2;have key := SeqAt.RcAt.tuples (A := A) (s := s) (e := ja ds ds') t1 t2 hu0 (items_eqAt (X := X) (G := G) r1 r2 (aB l r) (aB l2 rr2) λi d d' x y u v e1 e2 k1 k2 w1 w2 =>
          ihn d d' (by have := ik e1;lia) (cG n1 e1) (cG n2 e2) k1 k2 w1 w2 (by show A.units + 1 + n < cLine;lia))
        rw [sz r1 (aB l r), sz r2 (aB l2 rr2), <- jW] at key;by_cases hab : a = a'
        · subst hab;have e : ds = ds' := by
            have := uC I sG (.tup h l r) (by unfold aX;exact n1) (.tup h2 l2 rr2) (by unfold aX;exact n2);injection this
          subst e;rw [fI ds n1];exact SeqAt.EqAt.same _
        · exact SeqAt.EqAt.of_refs hab key
    | @lst a vs ds h l r =>
      cases ru;obtain ⟨is, r1, t1, z1⟩ := I.list (d0.of (sG _ _ h));cases ry with
      | scr _ => unfold aX at n2;cases n2
      | dct _ => unfold aX at n2;cases n2
      | sen _ => unfold aX at n2;cases n2
      | ext _ => unfold aX at n2;cases n2
      | non => cases rv;unfold bP;exact SeqAt.EqAt.list_none t1.isList hu0
      | bl b => cases rv;unfold bP;exact SeqAt.EqAt.list_bool b t1.isList hu0
      | int i => obtain ⟨t, rfl⟩ := rv;unfold bP;exact SeqAt.EqAt.list_int i t t1.isList hu0
      | str z => obtain ⟨t, rfl⟩ := rv;unfold bP;exact SeqAt.EqAt.list_str z t t1.isList hu0
      | tup h2 l2 rr2 => cases rv;obtain ⟨is2, r2, t2, z2⟩ := I.tuple (aJ sG (.inl (.inl h2)));unfold bP;exact SeqAt.EqAt.list_tuple t1.isList t2 hu0
      | @lst a' vs' ds' h2 l2 rr2 =>
        cases rv;obtain ⟨is2, r2, t2, z2⟩ := I.list (d0.of (sG _ _ h2));unfold bP;unfold dep at hd;unfold aX at n1 n2;by_cases hab : a = a'
        · subst hab;have e : ds = ds' := by
            have := uC I sG (.lst h l r) (by unfold aX;exact n1) (.lst h2 l2 rr2) (by unfold aX;exact n2);injection this
          subst e;rw [fI ds n1];exact SeqAt.EqAt.same _
        · refine SeqAt.EqAt.of_refs hab ?_;by_cases hlen : ds.length = ds'.length
          · have key := SeqAt.RcAt.lists (A := A) (s := s) (e := ja ds ds') t1.isList t2.isList (by rw [sz r1 (aB l r), sz r2 (aB l2 rr2)];exact hlen) hu0 (items_eqAt (X := X) (G := G) r1 r2 (aB l r) (aB l2 rr2) λi d d' x y u v e1 e2 k1 k2 w1 w2 =>
              ihn d d' (by have := ik e1;lia) (cG n1 e1) (cG n2 e2) k1 k2 w1 w2 (by show A.units + 1 + n < cLine;lia))
            rw [sz r1 (aB l r), <- rC hlen] at key;exact key
          · rw [rB hlen];exact SeqAt.RcAt.lists_lengths t1.isList t2.isList (by rw [sz r1 (aB l r), sz r2 (aB l2 rr2)];simpa using hlen) hu0
theorem xO (I : Inv X pins σ H s)(sG : av G H){dx dy : D}{x y : V}{u v : Value}{A : Around}(n1 : aX dx = true)(n2 : aX dy = true)(rx : Rep X.K G x dx)(ry : Rep X.K G y dy)(ru : RelV x u)(rv : RelV y v)(hu : A.units + dep dx < cLine) :
    SeqAt.RcAt A s u v (bP dx dy) /\ SeqAt.RcNeAt A s u v (!(bP dx dy)) := by
  have hu0 : A.units < cLine := by lia
  cases rx with
  | scr _ => unfold aX at n1;cases n1
  | dct _ => unfold aX at n1;cases n1
  | sen _ => unfold aX at n1;cases n1
  | ext _ => unfold aX at n1;cases n1
  | non =>
    cases ru;cases ry with
    | scr _ => unfold aX at n2;cases n2
    | dct _ => unfold aX at n2;cases n2
    | sen _ => unfold aX at n2;cases n2
    | ext _ => unfold aX at n2;cases n2
    | non => cases rv;unfold bP;exact ⟨SeqAt.RcAt.none_none, SeqAt.RcNeAt.none_none⟩
    | bl b => cases rv;unfold bP;exact ⟨SeqAt.RcAt.none_bool b, SeqAt.RcNeAt.none_bool b⟩
    | int i => obtain ⟨t, rfl⟩ := rv;unfold bP;exact ⟨SeqAt.RcAt.none_int i t, SeqAt.RcNeAt.none_int i t⟩
    | str z => obtain ⟨t, rfl⟩ := rv;unfold bP;exact ⟨SeqAt.RcAt.none_str z t, SeqAt.RcNeAt.none_str z t⟩
    | tup h l r => cases rv;obtain ⟨is, r1, t1, z1⟩ := I.tuple (aJ sG (.inl (.inl h)));unfold bP;exact ⟨SeqAt.RcAt.none_tuple t1 hu0, SeqAt.RcNeAt.none_tuple t1 hu0⟩
    | lst h l r => cases rv;obtain ⟨is, r1, t1, z1⟩ := I.list (d0.of (sG _ _ h));unfold bP;exact ⟨SeqAt.RcAt.none_list t1.isList hu0, SeqAt.RcNeAt.none_list t1.isList hu0⟩
  | bl a =>
    cases ru;cases ry with
    | scr _ => unfold aX at n2;cases n2
    | dct _ => unfold aX at n2;cases n2
    | sen _ => unfold aX at n2;cases n2
    | ext _ => unfold aX at n2;cases n2
    | non => cases rv;unfold bP;exact ⟨SeqAt.RcAt.bool_none a, SeqAt.RcNeAt.bool_none a⟩
    | bl b => cases rv;unfold bP;exact ⟨SeqAt.RcAt.bool_bool a b, SeqAt.RcNeAt.bool_bool a b⟩
    | int i => obtain ⟨t, rfl⟩ := rv;unfold bP;exact ⟨SeqAt.RcAt.bool_int a i t, SeqAt.RcNeAt.bool_int a i t⟩
    | str z => obtain ⟨t, rfl⟩ := rv;unfold bP;exact ⟨SeqAt.RcAt.bool_str a z t, SeqAt.RcNeAt.bool_str a z t⟩
    | tup h l r => cases rv;obtain ⟨is, r1, t1, z1⟩ := I.tuple (aJ sG (.inl (.inl h)));unfold bP;exact ⟨SeqAt.RcAt.bool_tuple a t1 hu0, SeqAt.RcNeAt.bool_tuple a t1 hu0⟩
    | lst h l r => cases rv;obtain ⟨is, r1, t1, z1⟩ := I.list (d0.of (sG _ _ h));unfold bP;exact ⟨SeqAt.RcAt.bool_list a t1.isList hu0, SeqAt.RcNeAt.bool_list a t1.isList hu0⟩
  | int a =>
    obtain ⟨tt, rfl⟩ := ru;cases ry with
    | scr _ => unfold aX at n2;cases n2
    | dct _ => unfold aX at n2;cases n2
    | sen _ => unfold aX at n2;cases n2
    | ext _ => unfold aX at n2;cases n2
    | non => cases rv;unfold bP;exact ⟨SeqAt.RcAt.int_none a tt, SeqAt.RcNeAt.int_none a tt⟩
    | bl b => cases rv;unfold bP;exact ⟨SeqAt.RcAt.int_bool a tt b, SeqAt.RcNeAt.int_bool a tt b⟩
    | int i => obtain ⟨t, rfl⟩ := rv;unfold bP;exact ⟨SeqAt.RcAt.int_int a tt i t, SeqAt.RcNeAt.int_int a tt i t⟩
    | str z => obtain ⟨t, rfl⟩ := rv;unfold bP;exact ⟨SeqAt.RcAt.int_str a tt z t, SeqAt.RcNeAt.int_str a tt z t⟩
    | tup h l r => cases rv;obtain ⟨is, r1, t1, z1⟩ := I.tuple (aJ sG (.inl (.inl h)));unfold bP;exact ⟨SeqAt.RcAt.int_tuple a tt t1 hu0, SeqAt.RcNeAt.int_tuple a tt t1 hu0⟩
    | lst h l r => cases rv;obtain ⟨is, r1, t1, z1⟩ := I.list (d0.of (sG _ _ h));unfold bP;exact ⟨SeqAt.RcAt.int_list a tt t1.isList hu0, SeqAt.RcNeAt.int_list a tt t1.isList hu0⟩
  | str a =>
    obtain ⟨tt, rfl⟩ := ru;cases ry with
    | scr _ => unfold aX at n2;cases n2
    | dct _ => unfold aX at n2;cases n2
    | sen _ => unfold aX at n2;cases n2
    | ext _ => unfold aX at n2;cases n2
    | non => cases rv;unfold bP;exact ⟨SeqAt.RcAt.str_none a tt, SeqAt.RcNeAt.str_none a tt⟩
    | bl b => cases rv;unfold bP;exact ⟨SeqAt.RcAt.str_bool a tt b, SeqAt.RcNeAt.str_bool a tt b⟩
    | int i => obtain ⟨t, rfl⟩ := rv;unfold bP;exact ⟨SeqAt.RcAt.str_int a tt i t, SeqAt.RcNeAt.str_int a tt i t⟩
    | str z => obtain ⟨t, rfl⟩ := rv;unfold bP;exact ⟨SeqAt.RcAt.str_str a tt z t, SeqAt.RcNeAt.str_str a tt z t⟩
    | tup h l r => cases rv;obtain ⟨is, r1, t1, z1⟩ := I.tuple (aJ sG (.inl (.inl h)));unfold bP;exact ⟨SeqAt.RcAt.str_tuple a tt t1 hu0, SeqAt.RcNeAt.str_tuple a tt t1 hu0⟩
    | lst h l r => cases rv;obtain ⟨is, r1, t1, z1⟩ := I.list (d0.of (sG _ _ h));unfold bP;exact ⟨SeqAt.RcAt.str_list a tt t1.isList hu0, SeqAt.RcNeAt.str_list a tt t1.isList hu0⟩
  | @tup a vs ds h l r =>
    cases ru;obtain ⟨is, r1, t1, z1⟩ := I.tuple (aJ sG (.inl (.inl h)));cases ry with
    | scr _ => unfold aX at n2;cases n2
    | dct _ => unfold aX at n2;cases n2
    | sen _ => unfold aX at n2;cases n2
    | ext _ => unfold aX at n2;cases n2
    | non => cases rv;unfold bP;exact ⟨SeqAt.RcAt.tuple_none t1 hu0, SeqAt.RcNeAt.tuple_none t1 hu0⟩
    | bl b => cases rv;unfold bP;exact ⟨SeqAt.RcAt.tuple_bool b t1 hu0, SeqAt.RcNeAt.tuple_bool b t1 hu0⟩
    | int i => obtain ⟨t, rfl⟩ := rv;unfold bP;exact ⟨SeqAt.RcAt.tuple_int i t t1 hu0, SeqAt.RcNeAt.tuple_int i t t1 hu0⟩
    | str z => obtain ⟨t, rfl⟩ := rv;unfold bP;exact ⟨SeqAt.RcAt.tuple_str z t t1 hu0, SeqAt.RcNeAt.tuple_str z t t1 hu0⟩
    | lst h2 l2 rr2 => cases rv;obtain ⟨is2, r2, t2, z2⟩ := I.list (d0.of (sG _ _ h2));unfold bP;exact ⟨SeqAt.RcAt.tuple_list t1 t2.isList hu0, SeqAt.RcNeAt.tuple_list t1 t2.isList hu0⟩
    | @tup a' vs' ds' h2 l2 rr2 =>
      cases rv;obtain ⟨is2, r2, t2, z2⟩ := I.tuple (aJ sG (.inl (.inl h2)));unfold bP;unfold dep at hu;unfold aX at n1 n2;have it := items_eqAt (A := A.in1) (s := s) (X := X) (G := G) r1 r2 (aB l r) (aB l2 rr2) λi d d' x y u v e1 e2 k1 k2 w1 w2 =>
        sj I sG (g8 ds) d d' (ik e1) (cG n1 e1) (cG n2 e2) k1 k2 w1 w2 (by show A.units + 1 + g8 ds < cLine;lia)
      have key := SeqAt.RcAt.tuples (A := A) (s := s) (e := ja ds ds') t1 t2 hu0 it;have key' := SeqAt.RcNeAt.tuples (A := A) (s := s) (e := ja ds ds') t1 t2 hu0 it;rw [sz r1 (aB l r), sz r2 (aB l2 rr2), <- jW] at key key';exact ⟨key, key'⟩
  | @lst a vs ds h l r =>
    cases ru;obtain ⟨is, r1, t1, z1⟩ := I.list (d0.of (sG _ _ h));cases ry with
    | scr _ => unfold aX at n2;cases n2
    | dct _ => unfold aX at n2;cases n2
    | sen _ => unfold aX at n2;cases n2
    | ext _ => unfold aX at n2;cases n2
    | non => cases rv;unfold bP;exact ⟨SeqAt.RcAt.list_none t1.isList hu0, SeqAt.RcNeAt.list_none t1.isList hu0⟩
    | bl b => cases rv;unfold bP;exact ⟨SeqAt.RcAt.list_bool b t1.isList hu0, SeqAt.RcNeAt.list_bool b t1.isList hu0⟩
    | int i => obtain ⟨t, rfl⟩ := rv;unfold bP;exact ⟨SeqAt.RcAt.list_int i t t1.isList hu0, SeqAt.RcNeAt.list_int i t t1.isList hu0⟩
    | str z => obtain ⟨t, rfl⟩ := rv;unfold bP;exact ⟨SeqAt.RcAt.list_str z t t1.isList hu0, SeqAt.RcNeAt.list_str z t t1.isList hu0⟩
    | tup h2 l2 rr2 => cases rv;obtain ⟨is2, r2, t2, z2⟩ := I.tuple (aJ sG (.inl (.inl h2)));unfold bP;exact ⟨SeqAt.RcAt.list_tuple t1.isList t2 hu0, SeqAt.RcNeAt.list_tuple t1.isList t2 hu0⟩
    | @lst a' vs' ds' h2 l2 rr2 =>
      cases rv;obtain ⟨is2, r2, t2, z2⟩ := I.list (d0.of (sG _ _ h2));unfold bP;unfold dep at hu;unfold aX at n1 n2;by_cases hlen : ds.length = ds'.length
      · have it := items_eqAt (A := A.in1) (s := s) (X := X) (G := G) r1 r2 (aB l r) (aB l2 rr2) λi d d' x y u v e1 e2 k1 k2 w1 w2 =>
          sj I sG (g8 ds) d d' (ik e1) (cG n1 e1) (cG n2 e2) k1 k2 w1 w2 (by show A.units + 1 + g8 ds < cLine;lia)
        have e0 : is.toArray.size = is2.toArray.size := by rw [sz r1 (aB l r), sz r2 (aB l2 rr2)];exact hlen
        have key := SeqAt.RcAt.lists (A := A) (s := s) (e := ja ds ds') t1.isList t2.isList e0 hu0 it;have key' := SeqAt.RcNeAt.lists (A := A) (s := s) (e := ja ds ds') t1.isList t2.isList e0 hu0 it;rw [sz r1 (aB l r), <- rC hlen] at key key';exact ⟨key, key'⟩
      · rw [rB hlen];have e0 : (is.toArray.size != is2.toArray.size) = true := by rw [sz r1 (aB l r), sz r2 (aB l2 rr2)];simpa using hlen
        exact ⟨SeqAt.RcAt.lists_lengths t1.isList t2.isList e0 hu0, SeqAt.RcNeAt.lists_lengths t1.isList t2.isList e0 hu0⟩
noncomputable def Cz (K : Frag)(u : Nat)(neg : Bool):R2 := λx y H Q => ∃ G dx dy, av G H /\ Rep K G x dx /\ Rep K G y dy /\ aX dx = true /\ aX dy = true /\ u + dep dx < cLine /\ Q (.bl (if neg then !(bP dx dy) else bP dx dy)) H
theorem AU : jg X (compareOp .Eq) (Cz X.K X.A.units false) := by
  intro pins s σ H x y v u Q I rx ry h;obtain ⟨G, dx, dy, sG, r1, r2, n1, n2, hu, q⟩ := h;exact (xO I sG n1 n2 r1 r2 rx ry hu).1 _ _ _ _ ⟨.bl _, H, I, rfl, q⟩
theorem AX : jg X (compareOp .NotEq) (Cz X.K X.A.units true) := by
  intro pins s σ H x y v u Q I rx ry h;obtain ⟨G, dx, dy, sG, r1, r2, n1, n2, hu, q⟩ := h;exact (xO I sG n1 n2 r1 r2 rx ry hu).2 _ _ _ _ ⟨.bl _, H, I, rfl, q⟩
noncomputable def Dy : D2 := λx y Q => (aX x = true /\ aX y = true /\ dep x <= 60) /\ Q (.p (.bl (bP x y)))
noncomputable def Dz : D2 := λx y Q => (aX x = true /\ aX y = true /\ dep x <= 60) /\ Q (.p (.bl (!(bP x y))))
theorem AO {k : Nat}(hr : cZ k X.A):oB X (compareOp .Eq) Dy :=
  ⟨_, AU, by rintro H G x y dx dy P Q s rx ry ⟨⟨h1, h2, h3⟩, h4⟩ c;exact ⟨G, dx, dy, s, rx, ry, h1, h2, by have := hr.units;lia, c _ _ H G h4 (Wd.refl s) (.bl _)⟩⟩
theorem ph {k : Nat}(hr : cZ k X.A):oB X (compareOp .NotEq) Dz :=
  ⟨_, AX, by rintro H G x y dx dy P Q s rx ry ⟨⟨h1, h2, h3⟩, h4⟩ c;exact ⟨G, dx, dy, s, rx, ry, h1, h2, by have := hr.units;lia, c _ _ H G h4 (Wd.refl s) (.bl _)⟩⟩
end
end DL
namespace DL
open PySem L2
section
variable {X : Cx} {a b c e : Expr} {ta tb tc te : DT} {pos : Pos} {es : List Expr}
noncomputable def D.told : D -> Bool
  | .ext _ => false
  | _ => true
theorem yN {K : Frag}{T : String}(h : T = "int" \/ T = "bool" \/ T = "str" \/ T = "tuple" \/ T = "list")(d : D):kitOne K (.type (EJ d)) (.type T) = some (AB T d) := by
  rcases h with rfl | rfl | rfl | rfl | rfl <;> cases d <;> rfl
theorem oH : fO X (.builtin "isinstance") (λxs H Q => ∃ G x d T, xs = [x, .ty T] /\ av G H /\ Rep X.K G x d /\ d.told = true /\ (T = "int" \/ T = "bool" \/ T = "str" \/ T = "tuple" \/ T = "list") /\ Q (.bl (AB T d)) H) := by
  intro pins s σ H xs us Q I r h;obtain ⟨G, x, d, T, rfl, sG, rx, hd, hT, q⟩ := h;obtain ⟨u, w', rfl, ru, rw'⟩ := vals2 r;cases (show w' = Value.type T from rw');have e := yN (K := X.K) hT d;have fin : ∀ tk, EP X pins σ Q (.bool (AB T d)) { s with toks := tk } := λtk => ⟨.bl _, H, I.tok tk, rfl, q⟩
  cases rx with
  | non => exact iP I ru .non e fin
  | bl b => exact iP I ru (.bl b) e fin
  | int i => exact iP I ru (.int i) e fin
  | str z => exact iP I ru (.str z) e fin
  | @tup a vs ds h l r =>
    cases ru;obtain ⟨is, r1, ⟨o, h1, h2, _⟩, z1⟩ := I.tuple (aJ sG (.inl (.inl h)));exact kia_one kitx_tuple I.jz ⟨o, h1, h2⟩ e (λz => nomatch z) fin
  | @lst a vs ds h l r =>
    cases ru;obtain ⟨is, r1, t1, z1⟩ := I.list (d0.of (sG _ _ h));obtain ⟨o, h1, h2, _⟩ := t1.isList;exact kia_one kitx_list I.jz ⟨o, h1, h2⟩ e (λz => nomatch z) fin
  | @dct a kvs h =>
    cases ru;obtain ⟨_, _, _, _, o, _, _, h1, h2, _⟩ := Rd.ok (lG sG h) I.bc;exact kia_one kitx_dict I.jz ⟨o, h1, h2.1⟩ e (λz => nomatch z) fin
  | @sen a kvs h =>
    cases ru;obtain ⟨_, _, _, _, o, _, _, h1, h2, _⟩ := Rd.ok (lG sG h) I.bc;exact kia_one kitx_dict I.jz ⟨o, h1, h2.1⟩ e (λz => nomatch z) fin
  | ext h => cases hd
  | @scr a ns h =>
    cases ru;obtain ⟨is, r1, t1, z1⟩ := I.list (sG.seq h);obtain ⟨o, h1, h2, _⟩ := t1.isList;exact kia_one kitx_list I.jz ⟨o, h1, h2⟩ e (λz => nomatch z) fin
noncomputable def yI (T : String)(d : D)(Q : B -> Prop):Prop := match d with
  | .ext _ => False
  | d => Q (.p (.bl (AB T d)))
noncomputable def gn (T : String)(te : DT):DT := λρ Q => te ρ λb => yI T b.val Q
theorem yJ {T : String}{d : D}{Q : B -> Prop}(h : yI T d Q):d.told = true /\ Q (.p (.bl (AB T d))) := by
  cases d with
  | ext _ => exact h.elim
  | _ => exact ⟨rfl, h⟩
theorem wy {T : String}{p : Pos}{e2 : Expr}(hT : T = "int" \/ T = "bool" \/ T = "str" \/ T = "tuple" \/ T = "list")(hg : Gl X "isinstance")(hm : X.mg "isinstance" = none)(he : DE X e te)(h2 : PE X e2 (tC (.ty T)))
    (hs :autoParam (starEach (e :: [e2]) X.env = (false, eval e X.env) :: starEach [e2] X.env) aZa._auto_1) (hs2 :autoParam (starEach (e2 :: []) X.env = (false, eval e2 X.env) :: starEach [] X.env) aZa._auto_1) (hpl :autoParam ((backTo pos (starEach [e2] X.env)).any (·.1) = false) aZa._auto_1):DE X (.Call (.Name "isinstance" p) [e, e2] [] pos) (gn T te) :=
  DE.of (rn oH hg hm boot_isinstance (au he.pe (au h2 aY hs2) hs) (he := hs) (hpl := hpl))<|by
    rintro σ H Q ⟨G, ρ, P, s, re, h, k⟩;refine ⟨G, ρ, _, s, re, h, λb v H1 G1 p1 w1 r1 => ?_⟩;obtain ⟨G1', w1', r1'⟩ := r1.give w1;obtain ⟨p0, p1⟩ := yJ p1;exact ⟨G1', v, b.val, T, rfl, w1'.gh, r1', p0, hT, k _ _ H1 G1' p1 w1' (.bl _)⟩
end
inductive Tg where
  | n (i : Nat) | t (is : List Nat)
noncomputable def jm : List Nat -> zB
  | [] => B4
  | i :: is => zJ (t8 i) (jm is)
noncomputable def Tg.v (K : Frag):Tg -> TG
  | .n i => t8 i
  | .t is => B5 K is.length (jm is)
noncomputable def putN : List Nat -> List D -> aH -> (aH -> Prop) -> Prop
  | [], [], ρ, P => P ρ
  | i :: is, d :: ds, ρ, P => putN is ds (dput ρ i (.p d)) P
  | _, _, _, _ => False
noncomputable def Tg.d : Tg -> D -> aH -> (aH -> Prop) -> Prop
  | .n i, d, ρ, P => P (dput ρ i (.p d))
  | .t is, .tup ds, ρ, P => putN is ds ρ P
  | .t is, .lst ds, ρ, P => putN is ds ρ P
  | .t _, _, _, _ => False
noncomputable def Tg.is : Tg -> List Nat
  | .n i => [i]
  | .t is => is
noncomputable def oA (K : Frag)(H0 G H : Hp)(w : Addr -> Nat)(i : Nat)(a : Addr)(t : Ct)(dss : List D):Prop := ∃ as : List Addr, as.Nodup /\ Paired (λx ds => H0 x = none /\ w x = i /\ dN K G H x ds) as dss /\ t.On (H0 a = none /\ w a = i) G H a as
structure mR (K : Frag)(H0 G H : Hp)(w : Addr -> Nat)(σ : St)(ρ : aH):Prop where
  len : σ.length = ρ.length
  p : ∀ i d, bf ρ i = some (.p d) -> ∃ v, σ[i]? = some (some v) /\ Rep K G v d
  o : ∀ i d, bf ρ i = some (.o d) -> ∃ a, σ[i]? = some (some (.ref a)) /\ H0 a = none /\ w a = i /\ dN K G H a d
  n : ∀ i t dss, bf ρ i = some (.n t dss) -> ∃ a, σ[i]? = some (some (.ref a)) /\ oA K H0 G H w i a t dss
noncomputable def cM (K : Frag)(H0 G H : Hp)(σ : St)(ρ : aH):Prop := ∃ w, mR K H0 G H w σ ρ
section
variable {K : Frag} {H0 G H : Hp} {σ : St} {ρ : aH}
theorem cM.p (h : cM K H0 G H σ ρ):∀ i d, bf ρ i = some (.p d) -> ∃ v, σ[i]? = some (some v) /\ Rep K G v d := by obtain ⟨w, h⟩ := h;exact h.p
theorem cM.only (l : σ.length = ρ.length)(hp : cy K G σ ρ)(h : ∀ i b, bf ρ i = some b -> ∃ d, b = .p d):cM K H0 G H σ ρ := by
  refine ⟨λ_ => 0, l, hp, λi d e => ?_, λi t dss e => ?_⟩
  · obtain ⟨_, q⟩ := h i _ e;cases q
  · obtain ⟨_, q⟩ := h i _ e;cases q
end
theorem dN.fq {K : Frag}{G H G' H' : Hp}{a : Addr}{d : D}(h : dN K G H a d)(hg : av G G')(hn : G' a = none)(hh : ∀ o, H a = some o -> H' a = some o):dN K G' H' a d := by
  obtain ⟨h1, h2⟩ := h;refine ⟨hn, ?_⟩;cases d with
  | lst ds => obtain ⟨vs, e, r⟩ := h2;exact ⟨vs, hh _ e, bx.mono hg r⟩
  | non => exact h2
  | bl _ => exact h2
  | int _ => exact h2
  | str _ => exact h2
  | tup _ => exact h2
  | scr _ => exact h2
  | dct kvs => exact hh _ h2
  | sen kvs => exact hh _ h2
  | ext x => exact fB.fq h2 hg hh
theorem dN.chg {K : Frag}{G H : Hp}{a : Addr}{d : D}(h : dN K G H a d):Aa H a := by
  obtain ⟨h1, h2⟩ := h;cases d with
  | lst ds => obtain ⟨vs, e, r⟩ := h2;exact ⟨_, e, λ_ z => nomatch z⟩
  | non => exact h2.elim
  | bl _ => exact h2.elim
  | int _ => exact h2.elim
  | str _ => exact h2.elim
  | tup _ => exact h2.elim
  | scr _ => exact h2.elim
  | dct kvs => exact ⟨_, h2, λ_ z => nomatch z⟩
  | sen kvs => exact ⟨_, h2, λ_ z => nomatch z⟩
  | ext x => obtain ⟨es, e⟩ := fB.obj h2;exact ⟨_, e, λ_ z => nomatch z⟩
theorem dN.there {K : Frag}{G H : Hp}{a : Addr}{d : D}(h : dN K G H a d):H a ≠ none := h.chg.there
theorem kN {α β : Type}{F F' : α -> β -> Prop}{l : List α}{r : List β}(k : ∀ x d, x ∈ l -> F x d -> F' x d)(h : Paired F l r):Paired F' l r := by
  induction h with
  | nil => exact .nil
  | cons f _ ih => exact .cons (k _ _ mem_cons_self f) (ih λx d m => k x d (mem_cons_of_mem _ m))
theorem rk {α β : Type}{F : α -> β -> Prop}{l : List α}{r : List β}(h : Paired F l r):∀ x ∈ l, ∃ d, F x d := by
  induction h with
  | nil => intro x m;cases m
  | cons f _ ih =>
    intro x m;rcases List.mem_cons.mp m with rfl | m
    · exact ⟨_, f⟩
    · exact ih x m
theorem oA.fq {K : Frag}{H0 G H G' H' : Hp}{w w' : Addr -> Nat}{i : Nat}{a : Addr}{t : Ct}{dss : List D}(h : oA K H0 G H w i a t dss)(hg : av G G')(hn : ∀ x, H0 x = .none -> w x = i -> G x = .none -> Aa H x -> G' x = .none /\ w' x = i /\ ∀ o, H x = some o -> H' x = some o):oA K H0 G' H' w' i a t dss := by
  obtain ⟨as, nd, pr, e⟩ := h;have pr' := kN (F' := λx ds => H0 x = none /\ w' x = i /\ dN K G' H' x ds) ( by
    rintro x d m ⟨h1, h2, h3⟩;obtain ⟨k1, k2, k3⟩ := hn x h1 h2 h3.1 h3.chg;exact ⟨h1, k2, h3.fq hg k1 k3⟩) pr
  exact ⟨as, nd, pr', e.imp hg λf g c => by
    obtain ⟨k1, k2, k3⟩ := hn a f.1 f.2 g c;exact ⟨⟨f.1, k2⟩, k1, k3⟩⟩
theorem mR.on {K : Frag}{H0 G H G' H' : Hp}{o : Addr -> Nat}{σ : St}{ρ : aH}(h : mR K H0 G H o σ ρ)(w : Wd H G H' G'):mR K H0 G' H' o σ ρ :=
  ⟨h.len, λi d e => by obtain ⟨v, h1, h2⟩ := h.p i d e;exact ⟨v, h1, h2.mono w.gg⟩, λi d e => by
    obtain ⟨a, h1, h2, h2', h3⟩ := h.o i d e;exact ⟨a, h1, h2, h2', h3.fq w.gg (by rw [w.old a h3.chg];exact h3.1) λo q => w.hh _ _ q⟩, λi t dss e => by
    obtain ⟨a, h1, h2⟩ := h.n i t dss e;exact ⟨a, h1, h2.fq w.gg λx k1 k2 k3 k4 => ⟨by rw [w.old x k4];exact k3, k2, λo q => w.hh _ _ q⟩⟩⟩
theorem cM.on {K : Frag}{H0 G H G' H' : Hp}{σ : St}{ρ : aH}(h : cM K H0 G H σ ρ)(w : Wd H G H' G'):cM K H0 G' H' σ ρ := by
  obtain ⟨o, h⟩ := h;exact ⟨o, h.on w⟩
theorem eE {σ : St}{i j : Nat}{v : V}(h : i ≠ j):(σ.set i (some v))[j]? = σ[j]? := by rw [List.getElem?_set_ne h]
theorem mE {σ : St}{i : Nat}{v : V}(h : i < σ.length):(σ.set i (some v))[i]? = some (some v) := by rw [List.getElem?_set_self h]
theorem cM.Bb {K : Frag}{H0 G H : Hp}{σ : St}{ρ : aH}{v : V}{d : D}(h : cM K H0 G H σ ρ)(i : Nat)(r : Rep K G v d):cM K H0 G H (σ.set i (some v)) (dput ρ i (.p d)) := by
  obtain ⟨o, h⟩ := h;refine ⟨o, by rw [length_set, ip];exact h.len, λj d' e => ?_, λj d' e => ?_, λj t dss e => ?_⟩
  · rcases cD e with ⟨rfl, hl, e⟩ | ⟨hne, e⟩
    · cases e;exact ⟨v, mE (by rw [h.len];exact hl), r⟩
    · obtain ⟨w, h1, h2⟩ := h.p j d' e;exact ⟨w, by rw [eE hne];exact h1, h2⟩
  · rcases cD e with ⟨rfl, hl, e⟩ | ⟨hne, e⟩
    · cases e
    · obtain ⟨a, h1, h2⟩ := h.o j d' e;exact ⟨a, by rw [eE hne];exact h1, h2⟩
  · rcases cD e with ⟨rfl, hl, e⟩ | ⟨hne, e⟩
    · cases e
    · obtain ⟨a, h1, h2⟩ := h.n j t dss e;exact ⟨a, by rw [eE hne];exact h1, h2⟩
theorem mR.BM {K : Frag}{H0 G H : Hp}{o : Addr -> Nat}{σ : St}{ρ : aH}(h : mR K H0 G H o σ ρ){o' : Addr -> Nat}(q : ∀ x, H x ≠ .none -> o' x = o x):mR K H0 G H o' σ ρ :=
  ⟨h.len, h.p, λj d e => by
    obtain ⟨a, h1, h2, h3, h4⟩ := h.o j d e;exact ⟨a, h1, h2, by rw [q a h4.there];exact h3, h4⟩, λj t dss e => by
    obtain ⟨a, h1, h2⟩ := h.n j t dss e;exact ⟨a, h1, h2.fq (av.refl _) λx k1 k2 k3 k4 => ⟨k3, by rw [q x k4.there];exact k2, λo q => q⟩⟩⟩
theorem cM.D3 {K : Frag}{H0 G H G' H' : Hp}{σ : St}{ρ : aH}{a : Addr}{d : D}(h : cM K H0 G H σ ρ)(w : Wd H G H' G')(i : Nat)(h0 : H0 a = none)(hn : H a = none)(r : dN K G' H' a d):cM K H0 G' H' (σ.set i (some (.ref a))) (dput ρ i (.o d)) := by
  obtain ⟨o, h⟩ := h;have h2 := (h.BM (o' := λx => if x = a then i else o x) λx q => if_neg λe : x = a => q (e ▸ hn)).on w;refine ⟨λx => if x = a then i else o x, by rw [length_set, ip];exact h.len, λj d' e => ?_, λj d' e => ?_, λj t dss e => ?_⟩
  · rcases cD e with ⟨rfl, hl, e⟩ | ⟨hne, e⟩
    · cases e
    · obtain ⟨w, h1, h2⟩ := h2.p j d' e;exact ⟨w, by rw [eE hne];exact h1, h2⟩
  · rcases cD e with ⟨rfl, hl, e⟩ | ⟨hne, e⟩
    · cases e;exact ⟨a, mE (by rw [h.len];exact hl), h0, if_pos rfl, r⟩
    · obtain ⟨b, h1, h2⟩ := h2.o j d' e;exact ⟨b, by rw [eE hne];exact h1, h2⟩
  · rcases cD e with ⟨rfl, hl, e⟩ | ⟨hne, e⟩
    · cases e
    · obtain ⟨b, h1, h2⟩ := h2.n j t dss e;exact ⟨b, by rw [eE hne];exact h1, h2⟩
theorem cM.Cv {K : Frag}{H0 G H G' H' : Hp}{σ : St}{ρ : aH}{a : Addr}{as : List Addr}{ds : List D}{t : Ct}(h : cM K H0 G H σ ρ)(w : Wd H G H' G')(hh : av H0 H)(i : Nat)(nd : as.Nodup)(pr : Paired (λx d => H x = none /\ dN K G' H' x d) as ds)(q : t.On (H a = none) G' H' a as):cM K H0 G' H' (σ.set i (some (.ref a))) (dput ρ i (.n t ds)) := by
  obtain ⟨o, h⟩ := h;have h2 := (h.BM (o' := λx => if (t.own = true /\ x = a) \/ x ∈ as then i else o x) λx z => if_neg λm => by
    rcases m with ⟨to, rfl⟩ | m
    · unfold Ct.On at q;rw [to] at q;exact z q.1
    · obtain ⟨_, k, _⟩ := rk pr x m;exact z k).on w
  refine ⟨λx => if (t.own = true /\ x = a) \/ x ∈ as then i else o x, by rw [length_set, ip];exact h.len, λj d' e => ?_, λj d' e => ?_, λj t dss e => ?_⟩
  · rcases cD e with ⟨rfl, hl, e⟩ | ⟨hne, e⟩
    · cases e
    · obtain ⟨w, h1, h2⟩ := h2.p j d' e;exact ⟨w, by rw [eE hne];exact h1, h2⟩
  · rcases cD e with ⟨rfl, hl, e⟩ | ⟨hne, e⟩
    · cases e
    · obtain ⟨b, h1, h2⟩ := h2.o j d' e;exact ⟨b, by rw [eE hne];exact h1, h2⟩
  · rcases cD e with ⟨rfl, hl, e⟩ | ⟨hne, e⟩
    · cases e;refine ⟨a, mE (by rw [h.len];exact hl), as, nd, kN (λx d m z => ⟨hh.free z.1, if_pos (.inr m), z.2⟩) pr, ?_⟩;unfold Ct.On at q ⊢;cases to : t.own with
      | true =>
        rw [to] at q;exact ⟨⟨hh.free q.1, if_pos (.inl ⟨rfl, rfl⟩)⟩, q.2⟩
      | false =>
        rw [to] at q;exact q
    · obtain ⟨b, h1, h2⟩ := h2.n j t dss e;exact ⟨b, by rw [eE hne];exact h1, h2⟩
theorem pC {K : Frag}{H0 G H : Hp}:∀ {is : List Nat} {ds : List D} {vs : List V} {σ : St} {ρ : aH} {P : aH -> Prop} {Q : St -> Hp -> Prop}, cM K H0 G H σ ρ -> bx K G vs ds -> putN is ds ρ P -> (∀ σ' ρ', cM K H0 G H σ' ρ' -> P ρ' -> Q σ' H) -> jm is vs σ H Q
  | [], [], _, σ, ρ, P, Q, h, r, p, k => by cases r;exact ⟨rfl, k _ _ h p⟩
  | i :: is, d :: ds, _, σ, ρ, P, Q, h, r, p, k => by
    cases r with
    | cons r rr => exact ⟨_, _, rfl, pC (h.Bb i r) rr p k⟩
  | [], _ :: _, _, _, _, _, _, _, _, p, _ => p.elim
  | _ :: _, [], _, _, _, _, _, _, _, p, _ => p.elim
theorem mB : ∀ {is : List Nat} {ds : List D} {ρ : aH} {P : aH -> Prop}, putN is ds ρ P -> is.length = ds.length
  | [], [], _, _, _ => rfl
  | _ :: is, _ :: ds, ρ, P, p => by rw [length_cons, length_cons, mB (is := is) p]
  | [], _ :: _, _, _, p => p.elim
  | _ :: _, [], _, _, p => p.elim
theorem Tg.ok {K : Frag}{H0 G H : Hp}{g : Tg}{d : D}{v : V}{σ : St}{ρ : aH}{P : aH -> Prop}{Q : St -> Hp -> Prop}(s : av G H)(h : cM K H0 G H σ ρ)(r : Rep K G v d)(p : g.d d ρ P)(k : ∀ σ' ρ', cM K H0 G H σ' ρ' -> P ρ' -> Q σ' H):g.v K v σ H Q := by
  cases g with
  | n i => exact k _ _ (h.Bb i r) p
  | t is =>
    cases d with
    | tup ds =>
      obtain ⟨a, vs, rfl, e, rr⟩ := r.iU;exact ⟨a, vs, rfl, .inl (aJ s e), by rw [Paired.length rr];exact (mB p).symm, pC h rr p k⟩
    | lst ds =>
      obtain ⟨a, vs, rfl, e, rr⟩ := r.lst_inv;exact ⟨a, vs, rfl, .inr (d0.of (s _ _ e)), by rw [Paired.length rr];exact (mB p).symm, pC h rr p k⟩
    | non => exact p.elim
    | bl _ => exact p.elim
    | int _ => exact p.elim
    | str _ => exact p.elim
    | scr _ => exact p.elim
    | dct _ => exact p.elim
    | sen _ => exact p.elim
    | ext _ => exact p.elim
structure zA (K : Frag)(G0 : Hp)(J : It)(xs : List D):Prop where
  go : ∀ i d H G, xs[i]? = some d -> av G0 G -> av G H -> J.go i H
  vM : ∀ i d H G x H', xs[i]? = some d -> av G0 G -> av G H -> J.vM i H x H' -> ∃ G', Wd H G H' G' /\ Rep K G' x d
  stop : ∀ i H G, i = xs.length -> av G0 G -> av G H -> J.stop i H
noncomputable def cI (K : Frag)(t : eF):TI := λσ H R => ∃ (G : Hp) (ρ : aH) (P : List D -> Prop), av G H /\ cy K G σ ρ /\ t ρ P /\ ∀ xs J H' G', P xs -> Wd H G H' G' -> zA K G' J xs -> R J H'
structure DI (X : Cx)(tg e : Expr)(t : eF):Prop where
  pi : PI X tg e (cI X.K t)
theorem PI.imp {X : Cx}{tg e : Expr}{t t' : TI}(h : PI X tg e t)(i : ∀ σ H Q, t' σ H Q -> t σ H Q):PI X tg e t' := λpins s σ H Q I q => h pins s σ H Q I (i σ H Q q)
theorem DI.of {X : Cx}{tg e : Expr}{t : TI}{t' : eF}(h : PI X tg e t)(i : ∀ σ H Q, cI X.K t' σ H Q -> t σ H Q):DI X tg e t' := ⟨PI.imp h i⟩
section
variable {X : Cx} {tg e : Expr} {te : DT} {pos : Pos}
theorem qU {K : Frag}{G : Hp}{a : Addr}{vs : List V}{ds : List D}(h : d0 K G a vs)(r : bx K G vs ds):zA K G (Dr K a) ds where
  go := λi d H G' e s1 s2 => by
    obtain ⟨v, h1, h2⟩ := cP r e;exact ⟨vs, v, (s1.trans s2).seq h, h1⟩
  vM := by
    rintro i d H G' x H' e s1 s2 ⟨eH, y⟩;obtain ⟨v, h1, h2⟩ := cP r e;have := y vs ((s1.trans s2).seq h);rw [h1] at this;cases this;subst eH;exact ⟨G', Wd.refl s2, h2.mono s1⟩
  stop := λi H G' hi s1 s2 => ⟨vs, (s1.trans s2).seq h, by rw [Paired.length r, hi];exact Nat.le_refl _⟩
noncomputable def cU (te : DT):eF := λρ P => te ρ λb => match b.val with
  | .lst xs => P xs
  | .scr ns => P (ns.map D.int)
  | _ => False
set_option tactic.hygienic true in
theorem jG (he : DE X e te):DI X tg e (cU te) := DI.of (ze he.pe)<|by
  rintro σ H R ⟨G, ρ, P, s, re, h, k⟩;refine ⟨G, ρ, _, s, re, h, λb v H1 G1 p1 w1 r1 => ?_⟩;obtain ⟨G1', w1', r1'⟩ := r1.give w1;split at p1
  · rename_i xs e;rw [e] at r1';obtain ⟨a, us, rfl, e, rr⟩ := r1'.lst_inv;exact ⟨a, rfl, ⟨us, d0.of (w1'.gh _ _ e)⟩, k _ _ H1 G1' p1 w1' (qU (d0.of e) rr)⟩
  · rename_i ns e;rw [e] at r1';cases r1' with
    | scr e => exact ⟨_, rfl, ⟨_, w1'.gh.seq e⟩, k _ _ H1 G1' p1 w1' (qU e (ke ns))⟩
  · exact p1.elim
noncomputable def fe (te : DT):eF := λρ P => te ρ λb => match b.val with
  | .tup xs => P xs
  | _ => False
noncomputable def fJ (lo : Int)(n : Nat):List D := (List.range n).map λi => D.int (lo + (i : Nat))
theorem mI {lo : Int}{n i : Nat}{d : D}(h : (fJ lo n)[i]? = some d):i < n /\ d = .int (lo + (i : Nat)) := by
  unfold fJ at h;rw [getElem?_map] at h;by_cases hi : i < n
  · rw [List.getElem?_range hi] at h;exact ⟨hi, (Option.some.inj h).symm⟩
  · rw [List.getElem?_eq_none (by simpa using hi)] at h;cases h
theorem mJ (lo : Int)(n : Nat):(fJ lo n).length = n := by unfold fJ;simp
theorem yK {K : Frag}{G : Hp}{lo : Int}{n : Nat}:zA K G (C6 lo n) (fJ lo n) where
  go := λi d H G' e s1 s2 => (mI e).1
  vM := by
    rintro i d H G' x H' e s1 s2 ⟨eH, y⟩;obtain ⟨h1, rfl⟩ := mI e;subst eH;subst y;exact ⟨G', Wd.refl s2, .int _⟩
  stop := λi H G' hi s1 s2 => by rw [mJ] at hi;rw [hi];exact Nat.le_refl n
noncomputable def cF (t : eF):eF := λρ P => t ρ λds => match ds with
  | [.int j] => (-(2 ^ 62) <= j /\ j < 2 ^ 62) /\ P (fJ 0 j.toNat)
  | _ => False
noncomputable def du (t : eF):eF := λρ P => t ρ λds => match ds with
  | [.int i, .int j] => (-(2 ^ 62) <= i /\ i < 2 ^ 62 /\ -(2 ^ 62) <= j /\ j < 2 ^ 62) /\ P (fJ i (j - i).toNat)
  | _ => False
end
noncomputable def iq (fr : List (Option Nat))(ρ : aH):aH := fr.map λo => match o with
  | none => none
  | some j => bf ρ j
theorem oP : ∀ (ρ : aH) (i : Nat), bf ρ i = (ρ[i]?).getD none
  | [], _ => by simp [bf]
  | _ :: _, 0 => by simp [bf]
  | _ :: r, i + 1 => by simp [bf, oP r i]
theorem t6 {fr : List (Option Nat)}{ρ : aH}{i : Nat}{b : B}(h : bf (iq fr ρ) i = some b):∃ j, fr[i]? = some (some j) /\ bf ρ j = some b := by
  rw [oP] at h;unfold iq at h;rw [getElem?_map] at h;cases e : fr[i]? with
  | none => rw [e] at h;cases h
  | some o =>
    rw [e] at h;cases o with
    | none => cases h
    | some j => exact ⟨j, rfl, h⟩
theorem yF {fr : List (Option Nat)}{σ : St}{i j : Nat}{v : V}(h1 : fr[i]? = some (some j))(h2 : σ[j]? = some (some v)):(kd fr σ)[i]? = some (some v) := by
  unfold kd;rw [getElem?_map, h1];show some ((σ[j]?).getD none) = _;rw [h2];rfl
noncomputable def bD (ρ : aH):aH := ρ.map λo => match o with
  | some (.p d) => some (.p d)
  | _ => none
theorem km {ρ : aH}{i : Nat}{b : B}(h : bf (bD ρ) i = some b):∃ d, b = .p d /\ bf ρ i = some (.p d) := by
  rw [oP] at h ⊢;unfold bD at h;rw [getElem?_map] at h;cases e : ρ[i]? with
  | none => rw [e] at h;cases h
  | some o =>
    rw [e] at h;cases o with
    | none => cases h
    | some b' =>
      cases b' with
      | p d => exact ⟨d, (Option.some.inj h).symm, rfl⟩
      | o d => cases h
      | n _ _ => cases h
noncomputable def yO (xs : List D)(g : Tg)(tc : gO)(te : DT)(ρ : aH)(Q : B -> Prop):Prop := xs.length <= sizeLine /\ ∃ F : D -> Option D -> Prop,
  (∀ x ∈ xs, g.d x ρ λρ' => tc ρ' λc => (c = true -> te ρ' λb => F x (some b.val)) /\ (c = false -> F x none)) /\ ∀ os, Paired F xs os -> Q (.o (.lst (os.filterMap id)))
noncomputable def mQ (ti : eF)(fr : List (Option Nat))(g : Tg)(tc : gO)(te : DT):DT := λρ Q => ti ρ λxs => yO xs g tc te (bD (iq fr ρ)) Q
noncomputable def de : gO := λ_ P => P true
theorem gG {α β : Type}{F : α -> β -> Prop}{xs : List α}{os : List β}{i : Nat}{x : α}{o : β}(h : Paired F (xs.take i) os)(e : xs[i]? = some x)(f : F x o):Paired F (xs.take (i + 1)) (os ++ [o]) := by
  rw [WS.take_snoc e];exact Paired.snoc h f
noncomputable def vH (fr : List (Option Nat))(g : Tg):Bool := g.is.all λi => match fr[i]? with
  | some none => true
  | _ => false
theorem ou {K : Frag}{G H : Hp}{ρ0 : aH}:∀ {is : List Nat} {vs : List V} {σ : St} {Q : St -> Hp -> Prop}, (∀ i ∈ is, bf ρ0 i = none) -> cy K G σ ρ0 -> σ.length = ρ0.length -> jm is vs σ H Q -> jm is vs σ H λσ' H' => Q σ' H' /\ H' = H /\ cy K G σ' ρ0 /\ σ'.length = ρ0.length
  | [], _, σ, Q, _, h, l, ⟨e, q⟩ => ⟨e, q, rfl, h, l⟩
  | i :: is, _, σ, Q, hn, h, l, ⟨v, r, e, q⟩ => by
    refine ⟨v, r, e, ou (is := is) (λj hj => hn j (mem_cons_of_mem _ hj)) (λj d hd => ?_) (by rw [length_set];exact l) q⟩;have hne : i ≠ j := by
      rintro rfl;rw [hn i mem_cons_self] at hd;cases hd
    obtain ⟨w, h1, h2⟩ := h j d hd;exact ⟨w, by rw [eE hne];exact h1, h2⟩
theorem zw {K : Frag}{G H : Hp}{ρ0 : aH}{g : Tg}{v : V}{σ : St}{Q : St -> Hp -> Prop}(hn : ∀ i ∈ g.is, bf ρ0 i = none)(h : cy K G σ ρ0)(l : σ.length = ρ0.length)(q : g.v K v σ H Q):g.v K v σ H λσ' H' => Q σ' H' /\ H' = H /\ cy K G σ' ρ0 /\ σ'.length = ρ0.length := by
  cases g with
  | n i =>
    refine ⟨q, rfl, λj d hd => ?_, by rw [length_set];exact l⟩;have hne : i ≠ j := by
      rintro rfl;rw [hn i (mem_singleton.mpr rfl)] at hd;cases hd
    obtain ⟨w, h1, h2⟩ := h j d hd;exact ⟨w, by rw [eE hne];exact h1, h2⟩
  | t is =>
    obtain ⟨a, xs, e, h1, h2, q⟩ := q;exact ⟨a, xs, e, h1, h2, ou hn h l q⟩
structure vN (X : Cx)(ifs : List Expr)(t : gO):Prop where
  pf : rW X ifs (cT X.K t)
theorem jH {X : Cx}:vN X [] de := ⟨by rintro pins s σ H Q I ⟨G, ρ, P, sg, re, h, k⟩;exact xD pins s σ H Q I (k true H G h (Wd.refl sg))⟩
theorem jI {X : Cx}{c : Expr}{t : gO}(h : qb X c t):vN X [c] t := ⟨xE h.pt⟩
theorem uf {K : Frag}{fr : List (Option Nat)}{g : Tg}{tc : gO}{te : DT}(ht : vH fr g = true){σ : St}{H G : Hp}{Q : VK}{ρ : aH}{P : B -> Prop}(re : cy K G σ ρ)(k : ∀ b v H' G', P b -> Wd H G H' G' -> fT K H G' H' v b -> Q v H'){xs : List DL.D}{J : It}{H1 G1 : Hp}(p1 : yO xs g tc te (bD (iq fr ρ)) P)(w1 : Wd H G H1 G1)(it : zA K G1 J xs)(D : Addr)(hD : H1 D = none) :
    C7 J D (g.v K) (cT K tc) (cE K te) (Q (.ref D)) (kd fr σ) (upd H1 D (.lst [])) := by
  obtain ⟨hz, F, hF, hP⟩ := p1;have hn : ∀ i ∈ g.is, bf (bD (iq fr ρ)) i = none := λi hi => by
    cases e : bf (bD (iq fr ρ)) i with
    | none => rfl
    | some b =>
      obtain ⟨d, rfl, e'⟩ := km e;obtain ⟨j, h1, _⟩ := t6 e';have := List.all_eq_true.mp ht i hi;rw [h1] at this;cases this
  have len0 : (bD (iq fr ρ)).length = fr.length := by unfold bD iq;simp
  have fn0 : (kd fr σ).length = fr.length := by unfold kd;simp
  have rep0 : cy K G1 (kd fr σ) (bD (iq fr ρ)) := λi d e => by
    obtain ⟨d', e1, e2⟩ := km e;cases e1;obtain ⟨j, h1, h2⟩ := t6 e2;obtain ⟨v, h3, h4⟩ := re j d h2;exact ⟨v, yF h1 h3, h4.mono w1.gg⟩
  have gD : G1 D = none := w1.gh.free hD;refine ⟨λi m ys σ' H' => m = xs.length - i /\ i <= xs.length /\ ∃ G' os, Wd H1 G1 H' G' /\ G' D = none /\ H' D = some (.lst ys) /\ ys.length <= i /\ Paired F (xs.take i) os /\ bx K G' ys (os.filterMap id) /\ cy K G' σ' (bD (iq fr ρ)) /\ σ'.length = (bD (iq fr ρ)).length, ⟨xs.length, by simp, Nat.zero_le _, G1, [], (Wd.refl w1.gh).own hD gD, gD, aq, Nat.le_refl _, by rw [List.take_zero];exact .nil, .nil, rep0, by rw [fn0, len0]⟩, ?_⟩;rintro i m ys σ' H' ⟨rfl, hi, G', os, w', gD', hD', hy, hos, hr, re', ln'⟩;by_cases hlt : i < xs.length
  · have hx : xs[i]? = some xs[i] := getElem?_eq_getElem hlt;refine .inr ⟨it.go i _ H' G' hx w'.gg w'.gh, λys' σ2 H2 => ∃ G2 os', Wd H1 G1 H2 G2 /\ G2 D = none /\ H2 D = some (.lst ys') /\ ys'.length <= i + 1 /\ Paired F (xs.take (i + 1)) os' /\ bx K G2 ys' (os'.filterMap id) /\ cy K G2 σ2 (bD (iq fr ρ)) /\ σ2.length = (bD (iq fr ρ)).length, by rintro ys' σ2 H2 ⟨G2, os', z⟩;exact ⟨xs.length - (i + 1), by lia, rfl, hlt, G2, os', z⟩, λx H2 y => ?_⟩;obtain ⟨G2, w2, r2⟩ := it.vM i _ H' G' x H2 hx w'.gg w'.gh y;have e2 : cM K H2 G2 H2 σ' (bD (iq fr ρ)) := cM.only ln' (re'.mono w2.gg) λj b e => by
        obtain ⟨d', e1, _⟩ := km e;exact ⟨d', e1⟩
    have re2 : cy K G2 σ' (bD (iq fr ρ)) := e2.p;have w12 := w'.trans w2;have hD2 : H2 D = some (.lst ys) := w2.hh _ _ hD';have gD2 : G2 D = none := by rw [w2.old D ⟨_, hD', λ_ z => nomatch z⟩];exact gD'
    refine (?_ : g.v K x σ' H2 _);refine tgv_mono (zw hn re2 ln' (Tg.ok w2.gh e2 r2 (hF _ (List.getElem_mem hlt)) (Q := λσ3 H3 => H3 = H2 /\ ∃ ρ3, cM K H2 G2 H2 σ3 ρ3 /\ tc ρ3 λc => (c = true -> te ρ3 λb => F xs[i] (some b.val)) /\ (c = false -> F xs[i] none)) λσ3 ρ3 e3 p3 => ⟨rfl, ρ3, e3, p3⟩)) ?_;rintro σ3 H3 ⟨⟨rfl, ρ3, e3, p3⟩, _, re3, ln3⟩;refine ⟨G2, ρ3, _, w2.gh, e3.p, p3, λc H4 G4 p4 w4 => ?_⟩;have hD4 : H4 D = some (.lst ys) := w4.hh _ _ hD2;have gD4 : G4 D = none := by rw [w4.old D ⟨_, hD2, λ_ z => nomatch z⟩];exact gD2
    cases c with
    | true =>
      refine mW ⟨G4, ρ3, _, w4.gh, cy.mono w4.gg e3.p, p4.1 rfl, λb v H5 G5 p5 w5 r5 => ?_⟩;obtain ⟨G5', w5', r5'⟩ := r5.give w5;have hD5 : H5 D = some (.lst ys) := w5.hh _ _ hD4;have gD5 : G5' D = none := by rw [w5'.old D ⟨_, hD4, λ_ z => nomatch z⟩];exact gD4
      have w15 := (w12.trans w4).trans w5';refine ⟨hD5, by have : sizeLine = 16777216 := sizeLine_eq;lia, G5', os ++ [some b.val], w15.own hD gD5, gD5, aq, by rw [length_append, List.length_singleton];lia, gG hos hx p5, ?_, cy.mono (w4.trans w5').gg re3, ln3⟩;rw [List.filterMap_append];exact eN (bx.mono ((w2.trans w4).trans w5').gg hr) (.cons r5' .nil)
    | false =>
      refine iY ⟨G4, os ++ [none], w12.trans w4, gD4, hD4, by lia, gG hos hx (p4.2 rfl), ?_, cy.mono w4.gg re3, ln3⟩;rw [List.filterMap_append, show List.filterMap id [(none : Option DL.D)] = [] from rfl, append_nil];exact bx.mono (w2.trans w4).gg hr
  · have e : i = xs.length := by lia
    subst e;refine .inl ⟨it.stop _ H' G' rfl w'.gg w'.gh, ?_⟩;rw [List.take_length] at hos;exact k _ _ H' G' (hP os hos) (w1.trans w') ⟨D, rfl, w1.hh.free hD, gD', ys, hD', hr⟩
where
  tgv_mono {K : Frag} {g : Tg} {v : V} {σ : St} {H : Hp} {Q Q' : St -> Hp -> Prop} (h : g.v K v σ H Q) (i : ∀ σ' H', Q σ' H' -> Q' σ' H'):g.v K v σ H Q' := by
    cases g with
    | n j => exact i _ _ h
    | t is =>
      obtain ⟨a, xs, e, h1, h2, q⟩ := h;exact ⟨a, xs, e, h1, h2, names_mono q i⟩
  names_mono {Q Q' : St -> Hp -> Prop}:∀ {is : List Nat} {vs : List V} {σ : St} {H : Hp}, jm is vs σ H Q -> (∀ σ' H', Q σ' H' -> Q' σ' H') -> jm is vs σ H Q'
    | [], _, _, _, ⟨e, q⟩, i => ⟨e, i _ _ q⟩
    | _ :: is, _, _, _, ⟨v, r, e, q⟩, i => ⟨v, r, e, names_mono (is := is) q i⟩
theorem ug {K : Frag}{ti : eF}{fr : List (Option Nat)}{g : Tg}{tc : gO}{te : DT}(ht : vH fr g = true)(σ : St)(H : Hp)(Q : VK):cE K (mQ ti fr g tc te) σ H Q -> Dl (cI K ti) fr (g.v K) (cT K tc) (cE K te) σ H Q := by
  rintro ⟨G, ρ, P, s, re, h, k⟩;exact ⟨G, ρ, _, s, re, h, λxs J H1 G1 p1 w1 it D hD => uf ht re k p1 w1 it D hD⟩
section
variable {X : Cx} {tg iter elt : Expr} {ifs : List Expr} {scope : Scope} {pos : Pos} {ti : eF} {g : Tg} {tc : gO} {te : DT}
theorem qB (N' : List Str)(fr : List (Option Nat))(hc : X.calm = true)(hi : DI X tg iter ti)
    (hg : ∀ cl fp C s H, PG (mT X scope N' cl fp C s H) tg (g.v X.K)) (ht : ∀ cl fp C s H, vN (mT X scope N' cl fp C s H) ifs tc) (he : ∀ cl fp C s H, DE (mT X scope N' cl fp C s H) elt te)
    {sc0 : Scope} {N0 : List Str} (htg :autoParam (vH fr g = true) aZb._auto_1) (hsc :autoParam (X.env.scope = sc0) aZa._auto_1) (hN :autoParam (X.N = N0) aZa._auto_1) (bc :autoParam (gQ sc0 N0 scope N' fr = true) aZe._auto_1) (hs :autoParam (∀ x, foldedSetIterable iter X.env x = pure x) aZc._auto_1) :
    DE X (.ListComp elt [⟨tg, iter, ifs, 0⟩] scope pos) (mQ ti fr g tc te) :=
  DE.of (Cs (tc := cT X.K tc) (te := cE X.K te) N' fr hc hi.pi hg (λcl fp C s H => (ht cl fp C s H).pf) (λcl fp C s H => (he cl fp C s H).pe) hsc hN bc hs) (ug htg)
end
end DL
namespace DL
open PySem L2
structure nE where
  nx : aH -> Prop
  rt : B -> Prop
  bk : aH -> Prop := λ_ => False
  ct : aH -> Prop := λ_ => False
noncomputable abbrev gN := nE -> aH -> Prop
structure vR (K : Frag)(H0 G0 : Hp)(E : nE)(Dn : Ends):Prop where
  nx : ∀ σ H G ρ, Wd H0 G0 H G -> cM K H0 G H σ ρ -> E.nx ρ -> Dn.nx σ H
  bk : ∀ σ H G ρ, Wd H0 G0 H G -> cM K H0 G H σ ρ -> E.bk ρ -> Dn.bk σ H
  ct : ∀ σ H G ρ, Wd H0 G0 H G -> cM K H0 G H σ ρ -> E.ct ρ -> Dn.ct σ H
  rt : ∀ b v H G, Wd H0 G0 H G -> fT K H0 G H v b -> E.rt b -> Dn.rt v H
noncomputable def cS (K : Frag)(H0 G0 : Hp)(t : gN):TS := λDn σ H => ∃ (E : nE) (G : Hp) (ρ : aH), vR K H0 G0 E Dn /\ Wd H0 G0 H G /\ cM K H0 G H σ ρ /\ t E ρ
structure DS (X : Cx)(st : Stmt)(t : gN):Prop where
  ps : ∀ H0 G0, PS X st (cS X.K H0 G0 t)
structure vP (X : Cx)(st : List Stmt)(t : gN):Prop where
  yg : ∀ H0 G0, mS X st (cS X.K H0 G0 t)
section
variable {K : Frag} {H0 G0 G H H' : Hp} {σ : St} {ρ : aH}
theorem cM.freeze (e : cM K H0 G H σ ρ)(w : Wd H0 G0 H G):∃ G1, Wd H0 G0 H G1 /\ av G G1 /\ cM K H0 G1 H σ (cq ρ) := by
  classical
  obtain ⟨o, e⟩ := e;have to : ∀ a, H0 a = none -> G a = none -> (if H0 a = none /\ G a = none then H a else G a) = H a := λa h1 h2 => if_pos ⟨h1, h2⟩;have sG : av G (λa => if H0 a = none /\ G a = none then H a else G a) := λa o h => by
    show (if _ then H a else G a) = _;rw [if_neg λq => by rw [q.2] at h;cases h];exact h
  refine ⟨λa => if H0 a = none /\ G a = none then H a else G a, ⟨w.hh, w.gg.trans sG, λa o h => ?_, λa h => ?_⟩, sG, ?_⟩
  · have h' : (if H0 a = none /\ G a = none then H a else G a) = some o := h;split at h'
    · exact h'
    · exact w.gh _ _ h'
  · show (if H0 a = none /\ G a = none then H a else G a) = _;rw [if_neg λq => h.there q.1];exact w.old a h
  · have own : ∀ a d, H0 a = none -> dN K G H a d -> Rep K (λa => if H0 a = none /\ G a = none then H a else G a) (.ref a) d := λa d h0 h => h.rep sG λo z => by
      show (if H0 a = none /\ G a = none then H a else G a) = _;rw [to a h0 h.1];exact z
    refine cM.only (by rw [t7];exact e.len) (λi d h => ?_) λi b h => ?_
    · obtain ⟨b, h1, h2⟩ := lU h;cases h2;cases b with
      | p d =>
        obtain ⟨v, h3, h4⟩ := e.p i d h1;exact ⟨v, h3, h4.mono sG⟩
      | o d =>
        obtain ⟨a, h3, h4, h4', h5⟩ := e.o i d h1;exact ⟨.ref a, h3, own a d h4 h5⟩
      | n t dss =>
        obtain ⟨a, h3, as, nd, pr, q⟩ := e.n i t dss h1;have rs : bx K (λa => if H0 a = none /\ G a = none then H a else G a) (as.map V.ref) dss := by
          clear q h1 h nd;induction pr with
          | nil => exact .nil
          | cons f _ ih => exact .cons (own _ _ f.1 f.2.2) ih
        refine ⟨.ref a, h3, ?_⟩;refine Ct.rep ?_ rs;unfold Ct.On at q;cases te : t.own with
        | true =>
          rw [te] at q;exact Ct.lL te (λo z => by
            show (if H0 a = none /\ G a = none then H a else G a) = _;rw [to a q.1.1 q.2.1];exact z) q.2.2.2
        | false =>
          rw [te] at q;exact Ct.oE sG q
    · obtain ⟨b', h1, h2⟩ := lU h;exact ⟨_, h2⟩
theorem mR.back {o : Addr -> Nat}(e : mR K H0 G H o σ ρ)(hh : av H H'):mR K H0 G H' o σ ρ :=
  ⟨e.len, e.p, λi d h => by
    obtain ⟨a, h1, h2, h2', h3⟩ := e.o i d h;exact ⟨a, h1, h2, h2', h3.fq (av.refl _) h3.1 λo q => hh _ _ q⟩, λi t dss h => by
    obtain ⟨a, h1, h2⟩ := e.n i t dss h;exact ⟨a, h1, h2.fq (av.refl _) λx k1 k2 k3 k4 => ⟨k3, k2, λo q => hh _ _ q⟩⟩⟩
theorem cM.back (e : cM K H0 G H σ ρ)(hh : av H H'):cM K H0 G H' σ ρ := by
  obtain ⟨o, e⟩ := e;exact ⟨o, e.back hh⟩
theorem Wd.back {G1 G1' : Hp}(w : Wd H0 G0 H G)(w1 : Wd H G1 H' G1'):Wd H0 G0 H' G := ⟨w.hh.trans w1.hh, w.gg, w.gh.trans w1.hh, w.old⟩
end
section
variable {X : Cx} {st : Stmt} {rest : List Stmt} {t u : gN} {a b c e : Expr} {ta tb te : DT} {pos : Pos}
noncomputable def dU : gN := λE ρ => E.nx ρ
noncomputable def gb (t u : gN):gN := λE ρ => t { E with nx := u E } ρ
theorem jJ : vP X [] dU := vP.mk λH0 G0 => mS.imp cV λDn σ H ⟨E, G, ρ, eo, w, en, h⟩ => eo.nx σ H G ρ w en h
theorem cm (h1 : DS X st t)(h2 : vP X rest u):vP X (st :: rest) (gb t u) := vP.mk λH0 G0 => mS.imp (ar (h1.ps H0 G0) (h2.yg H0 G0)) λDn σ H ⟨E, G, ρ, eo, w, en, h⟩ =>
  ⟨{ E with nx := u E }, G, ρ, ⟨λσ' H' G' ρ' w' en' h' => ⟨E, G', ρ', eo, w', en', h'⟩, eo.bk, eo.ct, eo.rt⟩, w, en, h⟩
theorem bt (h1 : DS X st t):vP X [st] t := vP.mk λH0 G0 => aN (h1.ps H0 G0)
noncomputable def eV (te : DT):gN := λE ρ => te (cq ρ) λ_ => E.nx ρ
noncomputable def gu (te : DT):gN := λE ρ => te (cq ρ) E.rt
theorem cv (he : DE X e te):DS X (.Return (some e) pos) (gu te) := DS.mk λH0 G0 => PS.imp (cH he.pe)<|by
  rintro Dn σ H ⟨E, G, ρ, eo, w, en, h⟩;obtain ⟨G1, w1, sg, e1⟩ := en.freeze w;exact ⟨G1, cq ρ, _, w1.gh, e1.p, h, λb v H' G' p' w' r' => eo.rt b v H' G' (w1.trans w') (r'.ahead w.hh) p'⟩
noncomputable def eZ : gN := λE _ => E.rt (.p .non)
noncomputable def e7 (i : Nat):gN := λE ρ => match bf ρ i with
  | some (.o d) => E.rt (.o d)
  | _ => False
noncomputable def fY (tc : gO)(t u : gN):gN := λE ρ => tc (cq ρ) λc => (c = true -> t E ρ) /\ (c = false -> u E ρ)
theorem qH {x y : List Stmt}{tc : gO}(hc : qb X c tc)(ha : vP X x t)(hb : vP X y u):DS X (.If c x y pos) (fY tc t u) := DS.mk λH0 G0 => PS.imp (fh hc.pt (ha.yg H0 G0) (hb.yg H0 G0))<|by
  rintro Dn σ H ⟨E, G, ρ, eo, w, en, h⟩;obtain ⟨G1, w1, sg, e1⟩ := en.freeze w;refine ⟨G1, cq ρ, _, w1.gh, e1.p, h, λc H' G' p' w' => ?_⟩;cases c with
  | true => exact mW ⟨E, G, ρ, eo, w.back w', en.back w'.hh, p'.1 rfl⟩
  | false => exact iY ⟨E, G, ρ, eo, w.back w', en.back w'.hh, p'.2 rfl⟩
noncomputable def gc (i : Nat)(te : DT):gN := λE ρ => te ρ λb => E.nx (dput ρ i b)
noncomputable def fc (i : Nat)(te : DT):gN := λE ρ => te (cq ρ) λb => b.val.sc = true /\ E.nx (dput ρ i (.p b.val))
noncomputable def fb (i : Nat)(te : DT):gN := λE ρ => te (cq ρ) λb => E.nx (dput (cq ρ) i b)
theorem rK {K : Frag}{H0 G0 H G H' G' : Hp}{σ : St}{ρ : aH}{E : nE}{Dn : Ends}(i : Nat)(eo : vR K H0 G0 E Dn)(w : Wd H0 G0 H G)(en : cM K H0 G H σ ρ){b : B}{v : V}(p : E.nx (dput ρ i b))(w' : Wd H G H' G')(r : fT K H G' H' v b):Dn.nx (σ.set i (some v)) H' := by
  cases b with
  | p d => exact eo.nx _ H' G' _ (w.trans w') ((en.on w').Bb i r) p
  | o d =>
    obtain ⟨a, rfl, hn, o⟩ := r;exact eo.nx _ H' G' _ (w.trans w') (en.D3 w' i (w.hh.free hn) hn o) p
  | n t ds =>
    obtain ⟨a, as, rfl, nd, pr, q⟩ := r;exact eo.nx _ H' G' _ (w.trans w') (en.Cv w' w.hh i nd pr q) p
theorem wI {K : Frag}{H0 G0 : Hp}{i : Nat}(Dn : Ends)(σ : St)(H : Hp):cS K H0 G0 (gc i te) Dn σ H -> cE K te σ H λv H1 => Dn.nx (σ.set i (some v)) H1 := by
  rintro ⟨E, G, ρ, eo, w, en, h⟩;exact ⟨G, ρ, _, w.gh, en.p, h, λb v H' G' p' w' r' => rK i eo w en p' w' r'⟩
noncomputable def dP (i : Nat)(te : DT):gN := λE ρ => te ρ λb => E.nx (dput ρ i (.p b.val))
noncomputable def dq (i : Nat)(te : DT):gN := λE ρ => te (cq ρ) λb => E.nx (dput (cq ρ) i (.p b.val))
theorem nY {K : Frag}{H0 G0 : Hp}{i : Nat}(Dn : Ends)(σ : St)(H : Hp):cS K H0 G0 (dP i te) Dn σ H -> cE K te σ H λv H1 => Dn.nx (σ.set i (some v)) H1 := by
  rintro ⟨E, G, ρ, eo, w, en, h⟩;refine ⟨G, ρ, _, w.gh, en.p, h, λb v H' G' p' w' r' => ?_⟩;obtain ⟨G2, w2, r2⟩ := r'.give w';exact rK i eo w en (b := .p b.val) p' w2 r2
section
variable {i : Nat} {x : Str} {px : Pos}
theorem Aw (hN : X.N.Nodup)(hi : X.N[i]? = some x)(hx : Loc X.env.scope x)(he : DE X e te)(hs :autoParam (swapsWith e (some (.Name x px)) pos.line X.env = pure false) aZa._auto_1)(hf :autoParam (X.fn x = true \/ X.env.scope.names.lookup x = some .local) aZd._auto_1) :
    DS X (.Assign [.Name x px] e pos) (gc i te) := DS.mk λH0 G0 => PS.imp (br hN hi hx he.pe hs hf) wI
theorem dm (hN : X.N.Nodup)(hi : X.N[i]? = some x)(hx : Loc X.env.scope x)(he : DE X e te)(hs :autoParam (swapsWith e (some (.Name x px)) pos.line X.env = pure false) aZa._auto_1)(hf :autoParam (X.fn x = true \/ X.env.scope.names.lookup x = some .local) aZd._auto_1) :
    DS X (.Assign [.Name x px] e pos) (dP i te) := DS.mk λH0 G0 => PS.imp (br hN hi hx he.pe hs hf) nY
variable {tg iter elt : Expr} {ifs : List Expr} {scope : Scope} {spos : Pos} {ti : eF} {g : Tg} {tc : gO}
noncomputable def h8 (i : Nat)(te : DT)(f : Int -> Int -> Int):gN := λE ρ => match bf ρ i with
  | some (.p (.int m)) => te (cq ρ) λb => match b.val with
    | .int n => E.nx (dput ρ i (.p (.int (f m n))))
    | _ => False
  | _ => False
end
noncomputable def h7 (te : DT)(g : Tg):gN := λE ρ => te ρ λb => g.d b.val ρ E.nx
noncomputable def hX (i : Nat)(te : DT):gN := λE ρ => match bf ρ i with
  | some (.o (.lst ds)) => te ρ λb => ds.length < sizeLine /\ E.nx (dput ρ i (.o (.lst (ds ++ [b.val]))))
  | _ => False
noncomputable def eU (i : Nat)(te : DT):gN := λE ρ => match bf ρ i with
  | some (.o (.lst ds)) => te (cq ρ) λb => b.val.sc = true /\ ds.length < sizeLine /\ E.nx (dput ρ i (.o (.lst (ds ++ [b.val]))))
  | _ => False
section
variable {i : Nat} {x : Str} {px apos cpos spos : Pos}
noncomputable def dr (i : Nat)(tk te : DT):gN := λE ρ => te ρ λb => match bf ρ i with
  | some (.o (.lst ds)) => tk (cq ρ) λk => match k.val with
    | .int z => ∃ j, sv ds.length z = some j /\ E.nx (dput ρ i (.o (.lst (ds.set j b.val))))
    | _ => False
  | _ => False
noncomputable def cg (i : Nat)(tk te : DT):gN := λE ρ => te (cq ρ) λb => b.val.sc = true /\ match bf ρ i with
  | some (.o (.lst ds)) => tk (cq ρ) λk => match k.val with
    | .int z => ∃ j, sv ds.length z = some j /\ E.nx (dput ρ i (.o (.lst (ds.set j b.val))))
    | _ => False
  | _ => False
noncomputable def dn (i : Nat)(tk te : DT)(f : Int -> Int -> Int):gN := λE ρ => match bf ρ i with
  | some (.o (.lst ds)) => tk (cq ρ) λk => match k.val with
    | .int z => ∃ j m, sv ds.length z = some j /\ ds[j]? = some (.int m) /\ te (cq ρ) λb => match b.val with
      | .int n => E.nx (dput ρ i (.o (.lst (ds.set j (.int (f m n))))))
      | _ => False
    | _ => False
  | _ => False
end
noncomputable def Ax (g : Tg)(tb : gN)(E : nE)(xs : List D)(ρ : aH):Prop := ∃ I : Nat -> aH -> Prop, I 0 ρ /\
  (∀ i d ρ, xs[i]? = some d -> I i ρ -> g.d d ρ λρ' => tb { E with nx := I (i + 1), ct := I (i + 1), bk := E.nx } ρ') /\ ∀ ρ, I xs.length ρ -> E.nx ρ
noncomputable def h9 (ti : eF)(g : Tg)(tb : gN):gN := λE ρ => ti ρ λxs => Ax g tb E xs ρ
noncomputable def eW (ti : eF)(g : Tg)(tb : gN):gN := λE ρ => ti (cq ρ) λxs => Ax g tb E xs (cq ρ)
section
variable {tg iter : Expr} {body : List Stmt} {ti : eF} {g : Tg} {tb : gN}
noncomputable def Ex (K : Frag)(t : eF):TI := λσ H R => ∃ (G : Hp) (ρ : aH) (P : List D -> Prop), av G H /\ cy K G σ ρ /\ t ρ P /\ ∀ xs J H' G', P xs -> Wd H G H' G' -> (∀ G, zA K G J xs) -> R J H'
structure Bx (X : Cx)(tg e : Expr)(t : eF):Prop where
  pi : PI X tg e (Ex X.K t)
theorem Bx.of {e : Expr}{t : TI}{t' : eF}(h : PI X tg e t)(i : ∀ σ H Q, Ex X.K t' σ H Q -> t σ H Q):Bx X tg e t' := ⟨PI.imp h i⟩
theorem Bx.di {e : Expr}{t : eF}(h : Bx X tg e t):DI X tg e t := DI.of h.pi λσ H R ⟨G, ρ, P, s, re, h, k⟩ => ⟨G, ρ, P, s, re, h, λxs J H' G' p' w' it => k xs J H' G' p' w' (it G')⟩
theorem wC {a : Expr}{t : eF}{p : Pos}(hg : Gl X "range")(hm : X.mg "range" = none)(ha : DA X [a] t)(hs :autoParam (starEach [a] X.env = [(false, eval a X.env)]) aZa._auto_1):Bx X tg (.Call (.Name "range" p) [a] [] pos) (cF t) :=
  Bx.of (vz hg hm ha.pa hs)<|by
    rintro σ H R ⟨G, ρ, P, s, re, h, k⟩;refine ⟨G, ρ, _, s, re, h, λds vs H1 G1 p1 l1 w1 r1 => ?_⟩;split at p1
    · obtain ⟨v, rfl, rv⟩ := gI r1;cases rv;exact ⟨_, rfl, p1.1.1, p1.1.2, k _ _ H1 G1 p1.2 w1 λ_ => yK⟩
    · exact p1.elim
noncomputable def eX (ti : eF)(g : Tg)(tb : gN):gN := λE ρ => ti (cq ρ) λxs => Ax g tb E xs ρ
end
end
noncomputable def aZ : Nat -> List D -> aH
  | 0, ds => ds.map λd => some (.p d)
  | n + 1, [] => none :: aZ n []
  | n + 1, d :: ds => some (.p d) :: aZ n ds
theorem gK {K : Frag}{G : Hp}:∀ (n : Nat) {vs : List V} {ds : List D}, bx K G vs ds -> cy K G (vs.map some ++ List.replicate (n - vs.length) none) (aZ n ds) /\ (vs.map some ++ List.replicate (n - vs.length) (none : Option V)).length = (aZ n ds).length /\ ∀ i d, bf (aZ n ds) i ≠ some (.o d)
  | 0, _, _, .nil => ⟨λi d h => (nomatch (show (none : Option B) = some (.p d) from h)), rfl, λi d h => (nomatch (show (none : Option B) = some (.o d) from h))⟩
  | 0, _, _, .cons (a := v) (b := d) (l₁ := vs) (l₂ := ds) r rr => by
    obtain ⟨h1, h2, h3⟩ := gK (K := K) (G := G) 0 rr;have e0 : aZ 0 (d :: ds) = some (.p d) :: aZ 0 ds := rfl;have e1 : (v :: vs).map some ++ List.replicate (0 - (v :: vs).length) (none : Option V) = some v :: (vs.map some ++ List.replicate (0 - vs.length) none) := by simp
    rw [e0, e1];refine ⟨λi d' h => ?_, by rw [length_cons, length_cons, h2], λi d' h => ?_⟩
    · cases i with
      | zero => cases h;exact ⟨v, rfl, r⟩
      | succ i => exact h1 i d' h
    · cases i with
      | zero => cases h
      | succ i => exact h3 i d' h
  | n + 1, _, _, .nil => by
    obtain ⟨h1, h2, h3⟩ := gK (K := K) (G := G) n (vs := []) (ds := []) .nil;have e1 : ([]:List V).map some ++ List.replicate (n + 1 - ([]:List V).length) (none : Option V) = none :: (([]:List V).map some ++ List.replicate (n - ([]:List V).length) none) := by simp [List.replicate_succ]
    rw [e1];refine ⟨λi d' h => ?_, by show _ = (none :: aZ n []).length;rw [length_cons, length_cons, h2], λi d' h => ?_⟩
    · cases i with
      | zero => cases h
      | succ i => exact h1 i d' h
    · cases i with
      | zero => cases h
      | succ i => exact h3 i d' h
  | n + 1, _, _, .cons (a := v) (b := d) (l₁ := vs) (l₂ := ds) r rr => by
    obtain ⟨h1, h2, h3⟩ := gK (K := K) (G := G) n rr;have e1 : (v :: vs).map some ++ List.replicate (n + 1 - (v :: vs).length) (none : Option V) = some v :: (vs.map some ++ List.replicate (n - vs.length) none) := by simp
    rw [e1];refine ⟨λi d' h => ?_, by show _ = (some (B.p d) :: aZ n ds).length;rw [length_cons, length_cons, h2], λi d' h => ?_⟩
    · cases i with
      | zero => cases h;exact ⟨v, rfl, r⟩
      | succ i => exact h1 i d' h
    · cases i with
      | zero => cases h
      | succ i => exact h3 i d' h
theorem iH : ∀ (n : Nat) (ds : List D) (i : Nat) (b : B), bf (aZ n ds) i = some b -> ∃ d, b = .p d
  | 0, [], _, _, h => by cases h
  | 0, d :: ds, 0, _, h => by cases h;exact ⟨_, rfl⟩
  | 0, d :: ds, i + 1, b, h => iH 0 ds i b h
  | n + 1, [], 0, _, h => by cases h
  | n + 1, [], i + 1, b, h => iH n [] i b h
  | n + 1, d :: ds, 0, _, h => by cases h;exact ⟨_, rfl⟩
  | n + 1, d :: ds, i + 1, b, h => iH n ds i b h
section
variable {P : Program} {w : World} {K : Frag} {mg : Str -> Option Value} {base : Heap}
theorem rQ {x qual : Str}{st : Stmt}{f : Addr}{fd : FuncData}{N ps : List Str}{k : Nat}{R : DR}(F : fU K x qual st f fd)(S : aF N ps (ag st))(len : ∀ ds Q, R ds Q -> ds.length = ps.length)
    (hbody : ∀ (cdv : Value) (A : Around) (outer : List Env) (s : Shared) (H : Hp) (E : XK), cZ k (A.deeper (PyProof.Rows.envOfC qual (ag st) s.heap.objs.size f cdv)) ->
      ∃ t, vP (mU gM P w K mg base N qual (ag st) f cdv A outer s H E).Cf (az st) t /\ ∀ ds Q, R ds Q -> t { nx := λ_ => Q (.p .non), rt := Q } (aZ N.length ds)):aM P w K mg base gM (k + 1) f fd ps (fN K R) := by
  refine F.ok S (by rintro vs H Q E ⟨ds, G, P, s, r, h, _⟩;rw [Paired.length r];exact len ds P h) ?_;rintro cdv A outer s H vs Q E hr ⟨ds, G, P, sg, r, h, k⟩;obtain ⟨t, h1, h2⟩ := hbody cdv A outer s H E hr;obtain ⟨e1, e2, e3⟩ := gK (K := K) N.length r;refine ⟨_, h1.yg H G, _, G, _, ?_, Wd.refl sg, cM.only e2 e1 (iH _ _), h2 ds P h⟩;exact ⟨λσ H' G' ρ w' _ p => k _ _ H' G' p w' (show Rep K G' V.non D.non from .non), λσ H' G' ρ w' _ p => p.elim, λσ H' G' ρ w' _ p => p.elim, λb v H' G' w' r' p => k b v H' G' p w' r'⟩
end
end DL
namespace DL
open PySem L2
section
variable {X : Cx} {tg e : Expr} {te : DT} {pos : Pos} {es : List Expr}
theorem lS {x : Str}{i : Int}(hg : Gl X x)(h : ∃ t, X.mg x = some (.int i t))(hd :autoParam ((x == ("__debug__" : Str)) = false) aZb._auto_1):DE X (.Name x pos) (dC (.int i)) := yw (Cr hg h hd) λ_ => .int i
noncomputable def zH : DR := λds P => match ds with
  | [.lst xs] => ∃ ns : List Int, xs = ns.map D.int /\ ns ≠ [] /\ ∀ m, m ∈ ns -> (∀ n ∈ ns, n <= m) -> P (.p (.int m))
  | _ => False
theorem tI (hc : X.calm = true):CallD X (.builtin "max") zH := by
  refine ⟨_, uS hc, λH G vs ds P Q s r h k => ?_⟩;unfold zH at h;split at h
  · obtain ⟨ns, rfl, hn, h⟩ := h;obtain ⟨v, rfl, rv⟩ := gI r;obtain ⟨a, us, rfl, e, rr⟩ := rv.lst_inv;rw [ky rr] at e;exact ⟨a, ns, rfl, d0.of (s _ _ e), hn, λm h1 h2 => k _ _ H G (h m h1 h2) (Wd.refl s) (.int _)⟩
  · exact h.elim
theorem Cb {K : Frag}{G : Hp}{Src : Hp -> List (List V) -> Prop}{rows : List (List V)}{xs : List D}(hs : ∀ H, av G H -> Src H rows)(r : Paired (λrow d => ∃ ds, d = D.tup ds /\ bx K G row ds) rows xs):zA K G (C5 Src) xs where
  go := λi d H G' e s1 s2 => by
    obtain ⟨row, h1, h2⟩ := cP r e;exact ⟨rows, row, hs H (s1.trans s2), h1⟩
  vM := λi d H G' x H' e s1 s2 y => by
    obtain ⟨row, h1, ds, rfl, h2⟩ := cP r e;obtain ⟨row', p, h3, h4, rfl, rfl⟩ := y rows (hs H (s1.trans s2));rw [h1] at h3;cases h3;exact ⟨_, (Wd.refl s2).new h4, Rep.kC aq (bx.mono (dB (s2.free h4)) (bx.mono s1 h2))⟩
  stop := λi H G' hi s1 s2 => ⟨rows, hs H (s1.trans s2), by rw [Paired.length r, hi]⟩
noncomputable def bV : Nat -> List D -> List D
  | _, [] => []
  | k, x :: xs => .tup [.int (k : Nat), x] :: bV (k + 1) xs
theorem fw : ∀ (k : Nat) (xs : List D), (bV k xs).length = xs.length
  | _, [] => rfl
  | k, x :: xs => by show (bV (k + 1) xs).length + 1 = _;rw [fw];rfl
theorem fv : ∀ {k : Nat} {xs : List D} {i : Nat} {d : D}, (bV k xs)[i]? = some d -> ∃ x, xs[i]? = some x /\ d = .tup [.int ((k + i : Nat):Int), x]
  | _, [], _, _, h => by simp [bV] at h
  | k, x :: xs, 0, d, h => ⟨x, rfl, by simpa [bV] using h.symm⟩
  | k, x :: xs, i + 1, d, h => by
    have h' : (bV (k + 1) xs)[i]? = some d := by simpa [bV] using h
    obtain ⟨y, h1, h2⟩ := fv h';exact ⟨y, by simpa using h1, by rw [h2];congr 3;lia⟩
noncomputable def aw (t : eF):eF := λρ P => t ρ λds => match ds with
  | [.lst xs] => P (bV 0 xs)
  | _ => False
theorem vC {K : Frag}{G : Hp}{vs : List V}{ds : List D}(r : bx K G vs ds):Paired (λrow d => ∃ ds, d = D.tup ds /\ bx K G row ds) (gy vs) (bV 0 ds) := by
  refine aB (by rw [jN, fw, Paired.length r]) λi row d h1 h2 => ?_;obtain ⟨x, h3, rfl⟩ := fv h2;obtain ⟨v, h4, h5⟩ := cP r h3;rw [jM h4] at h1;cases h1;exact ⟨_, rfl, .cons (by rw [Nat.zero_add];exact .int _) (.cons h5 .nil)⟩
theorem oQ {elts : List Expr}{kx : Nat}{tpos : Pos}{l : Expr}{t : eF}{p : Pos}(hg : Gl X "enumerate")(hm : X.mg "enumerate" = none)(ha : DA X [l] t)(hs :autoParam (starEach [l] X.env = [(false, eval l X.env)]) aZa._auto_1):DI X (.Tuple elts kx tpos) (.Call (.Name "enumerate" p) [l] [] pos) (aw t) :=
  DI.of (zd hg hm ha.pa hs)<|by
    rintro σ H R ⟨G, ρ, P, s, re, h, k⟩;refine ⟨G, ρ, _, s, re, h, λds vs H1 G1 p1 l1 w1 r1 => ?_⟩;split at p1
    · obtain ⟨v, rfl, rv⟩ := gI r1;obtain ⟨a, us, rfl, e, rr⟩ := rv.lst_inv;exact ⟨a, us, rfl, w1.gh _ _ e, k _ _ H1 G1 p1 w1 (Cb (λH s => ⟨us, s _ _ e, rfl⟩) (vC rr))⟩
    · exact p1.elim
noncomputable def Eo (xs ys : List D):List D := (xs.zip ys).map λp => .tup [p.1, p.2]
noncomputable def bK (t : eF):eF := λρ P => t ρ λds => match ds with
  | [.lst xs, .lst ys] => P (Eo xs ys)
  | _ => False
noncomputable def aC (t : eF):eF := λρ P => t ρ λds => match ds with
  | [.lst xs] => P xs.reverse
  | _ => False
noncomputable def Av (a : Int)(n : Nat):List D := (List.range n).map λi => D.int (a + (i : Nat) * (-1))
noncomputable def cj (t : eF):eF := λρ P => t ρ λds => match ds with
  | [.int j] => (0 <= j /\ j < 2 ^ 62) /\ P (Av (j - 1) j.toNat)
  | _ => False
end
end DL
namespace DL
open PySem L2
noncomputable def xV (K : Frag):Sp := λvs H Q _ => ∃ (a : Addr) (ns : List Int), vs = [.ref a] /\ d0 K H a (ns.map V.int) /\ ns.length <= 63 /\ ∀ H', Q (.bl true) H'
noncomputable def xM : DR := λds P => ∃ ns : List Int, ds = [.scr ns] /\ ns.length <= 63 /\ P (.p (.bl true))
theorem AJ {P : Program}{w : World}{K : Frag}{mg : Str -> Option Value}{base : Heap}{k : Nat}{f : Addr}{fd : FuncData}{ps : List Str}(h : aM P w K mg base gM k f fd ps (fN K xM)):aM P w K mg base gM k f fd ps (xV K) :=
  h.imp λvs H Q E ⟨a, ns, e, hs, hl, q⟩ => ⟨[.scr ns], H, λb => b = .p (.bl true), av.refl _, by rw [e];exact .cons (.scr hs) .nil, ⟨ns, rfl, hl, rfl⟩, λb v H' G' hb w r => by
    subst hb;have : v = .bl true := Rep.vX r;rw [this];exact q H'⟩
theorem kr {P P' : aH -> Prop}(i : ∀ ρ, P ρ -> P' ρ):∀ {is : List Nat} {ds : List D} {ρ : aH}, putN is ds ρ P -> putN is ds ρ P'
  | [], [], ρ, h => i ρ h
  | _ :: is, _ :: ds, _, h => kr i (is := is) (ds := ds) h
  | [], _ :: _, _, h => h.elim
  | _ :: _, [], _, h => h.elim
theorem xZ {g : Tg}{d : D}{ρ : aH}{P P' : aH -> Prop}(h : g.d d ρ P)(i : ∀ ρ, P ρ -> P' ρ):g.d d ρ P' := by
  cases g with
  | n j => exact i _ h
  | t is =>
    cases d with
    | tup ds => exact kr i h
    | non => exact h
    | bl _ => exact h
    | int _ => exact h
    | str _ => exact h
    | lst ds => exact kr i h
    | scr _ => exact h
    | dct _ => exact h
    | sen _ => exact h
    | ext _ => exact h
theorem mv {α β : Type}{f : α -> β}:∀ {xs : List α} {os : List β}, Paired (λx o => o = f x) xs os -> os = xs.map f
  | _, _, .nil => rfl
  | _, _, .cons h t => by rw [h, mv t];rfl
theorem jO {α β : Type}(f : α -> Option β):∀ xs : List α, (xs.map f).filterMap id = xs.filterMap f
  | [] => rfl
  | x :: xs => by
    rw [map_cons, filterMap_cons, filterMap_cons, jO f xs];rfl
theorem filterMap_some {α β : Type}(f : α -> β):∀ xs : List α, xs.filterMap (λx => some (f x)) = xs.map f
  | [] => rfl
  | x :: xs => by rw [filterMap_cons, filterMap_some f xs];rfl
theorem sy {xs : List D}{g : Tg}{tc : gO}{te : DT}{ρ : aH}{Q : B -> Prop}(f : D -> Option D)(hz : xs.length <= 1000000)(h : ∀ x ∈ xs, g.d x ρ λρ' => tc ρ' λc => (c = true -> te ρ' λb => some b.val = f x) /\ (c = false -> none = f x))(q : Q (.o (.lst (xs.filterMap f)))) :
    yO xs g tc te ρ Q := by
  refine ⟨by have : sizeLine = 16777216 := sizeLine_eq;lia, λx o => o = f x, h, λos ho => ?_⟩;rw [mv ho, jO];exact q
theorem o9 {xs : List D}{g : Tg}{te : DT}{ρ : aH}{Q : B -> Prop}(f : D -> D)(hz : xs.length <= 1000000)(h : ∀ x ∈ xs, g.d x ρ λρ' => te ρ' λb => some b.val = some (f x))(q : Q (.o (.lst (xs.map f)))) :
    yO xs g de te ρ Q :=
  sy (λx => some (f x)) hz (λx hx => xZ (h x hx) λρ' z => ⟨λ_ => z, λe => nomatch e⟩) (by rw [filterMap_some];exact q)
theorem eQ {α β : Type}(p : α -> Prop)[DecidablePred p](f : α -> β):∀ xs : List α, xs.filterMap (λx => if p x then some (f x) else none) = (xs.filter λx => decide (p x)).map f
  | [] => rfl
  | x :: xs => by
    rw [filterMap_cons, filter_cons, eQ p f xs];by_cases h : p x
    · rw [if_pos h, if_pos (decide_eq_true h)];rfl
    · rw [if_neg h, if_neg (by simpa using h)]
theorem lW (n : Nat)(f : Nat -> D):bV 0 ((List.range n).map f) = (List.range n).map λi => D.tup [.int (i : Nat), f i] := by
  refine List.ext_getElem? λi => ?_;have hl : (bV 0 ((List.range n).map f)).length = n := by rw [fw];simp
  by_cases h : i < n
  · have e := getElem?_eq_getElem (show i < (bV 0 ((List.range n).map f)).length by lia);obtain ⟨y, h1, h2⟩ := fv e;rw [getElem?_map, List.getElem?_range h] at h1;cases h1;rw [e, h2, getElem?_map, List.getElem?_range h, Nat.zero_add];rfl
  · rw [List.getElem?_eq_none (by lia), List.getElem?_eq_none (by simpa using h)]
theorem yv {ns : List Int}{P : B -> Prop}(h : P (.p (.int ns.sum))):Ar [.lst (ns.map D.int)] P := ⟨ns, rfl, h⟩
theorem sF {lo : Int}{n : Nat}{x : D}(h : x ∈ fJ lo n):∃ i : Nat, i < n /\ x = .int (lo + (i : Nat)) := by
  unfold fJ at h;obtain ⟨i, hi, e⟩ := mem_map.mp h;exact ⟨i, mem_range.mp hi, e.symm⟩
end DL
namespace WS
section
variable {cb hb : List S3}
end
end WS
namespace WS
open PySem L2
noncomputable def num (i : Int):Str := Str.ofString (toString i)
noncomputable def sp : Str := ⟨#[32]⟩
noncomputable def aO : Str := Str.ofString "hot"
noncomputable def bC : Str := Str.ofString "cold"
noncomputable def xQ (k : Str)(x : S3):List Str := [k, num x.1, num x.2.1, num x.2.2]
noncomputable def row (k : Str)(x : S3):Str := Str.join sp (xQ k x)
structure Es (x : S3):Prop where
  a0 : 0 <= x.1
  a1 : x.1 < 10 ^ 10
  b0 : 0 <= x.2.1
  b1 : x.2.1 < 10 ^ 10
  c0 : 0 <= x.2.2
  c1 : x.2.2 < 10 ^ 10
theorem len_app (x y : Str):(x ++ y).length = x.length + y.length := Str.length_append x y
end WS
namespace WS
end WS
namespace WS
noncomputable def Di (xs : List Int)(L : Nat):Int := (xs.drop L).sum
structure Drawn (g : Int)(hs cs : List S3)(gv wt : List Int):Prop where
  lg : gv.length = 251
  lw : wt.length = 251
  ng : ∀ x ∈ gv, 0 <= x
  nw : ∀ x ∈ wt, 0 <= x
  ED : ∀ L : Nat, L <= 251 -> cu g hs cs (L : Nat) <= Di wt L - Di gv L
  all : Di wt 0 - Di gv 0 = cu g hs cs 0
end WS
namespace WS
end WS
namespace DL
open PySem L2
theorem gz {α β : Type}{f g : α -> Option β}:∀ {xs : List α}, (∀ x ∈ xs, f x = g x) -> xs.filterMap f = xs.filterMap g
  | [], _ => rfl
  | x :: xs, h => by rw [filterMap_cons, filterMap_cons, h x mem_cons_self, gz λy hy => h y (mem_cons_of_mem _ hy)]
theorem uh {α : Type}{xs : List α}{e : α -> D}{g : Tg}{tc : gO}{te : DT}{ρ : aH}{Q : B -> Prop}(F : D -> Option D)(f : α -> Option D)(hF : ∀ x ∈ xs, F (e x) = f x)(hz : xs.length <= 1000000)(h : ∀ x ∈ xs, g.d (e x) ρ λρ' => tc ρ' λc => (c = true -> te ρ' λb => some b.val = f x) /\ (c = false -> none = f x))(q : Q (.o (.lst (xs.filterMap f)))) :
    yO (xs.map e) g tc te ρ Q := by
  refine sy F (by rw [length_map];exact hz) (λd hd => ?_) ?_
  · obtain ⟨x, hx, rfl⟩ := mem_map.mp hd;rw [hF x hx];exact h x hx
  · rw [List.filterMap_map, show xs.filterMap (F ∘ e) = xs.filterMap f from gz hF];exact q
theorem tM (xs : List D)(i : Int)(Q : B -> Prop):lQ (.lst xs) (.int i) Q = ∃ d, iW xs i = some d /\ Q (.p d) := rfl
theorem tO (xs : List D)(i : Int)(Q : B -> Prop):lQ (.tup xs) (.int i) Q = ∃ d, iW xs i = some d /\ Q (.p d) := rfl
theorem tN (ns : List Int)(i : Int)(Q : B -> Prop):lQ (.scr ns) (.int i) Q = ∃ n, iW ns i = some n /\ Q (.p (.int n)) := rfl
theorem qk (i j : Int)(Q : B -> Prop):fC (.int i) (.int j) Q = Q (.p (.int (i + j))) := rfl
theorem ql (xs ys : List D)(Q : B -> Prop):fC (.lst xs) (.lst ys) Q = (xs.length + ys.length <= sizeLine /\ Q (.o (.lst (xs ++ ys)))) := rfl
theorem qm (x y : Str)(Q : B -> Prop):fC (.str x) (.str y) Q = (x.length + y.length <= sizeLine /\ Q (.p (.str (x ++ y)))) := rfl
theorem qo (xs ys : List D)(Q : B -> Prop):fC (.tup xs) (.tup ys) Q = (xs ≠ [] /\ ys ≠ [] /\ xs.length + ys.length <= sizeLine /\ Q (.p (.tup (xs ++ ys)))) := rfl
theorem qx (i j : Int)(Q : B -> Prop):gq (.int i) (.int j) Q = (p9 i j /\ Q (.p (.int (i * j)))) := rfl
theorem qp (i j : Int)(Q : B -> Prop):fK (.int i) (.int j) Q = Q (.p (.bl (decide (i = j)))) := rfl
theorem qq (i j : Str)(Q : B -> Prop):fK (.str i) (.str j) Q = Q (.p (.bl (decide (i = j)))) := rfl
theorem tL (i j : Bool)(Q : B -> Prop):fK (.bl i) (.bl j) Q = Q (.p (.bl (decide (i = j)))) := rfl
theorem qy (i j : Int)(Q : B -> Prop):fj (.int i) (.int j) Q = Q (.p (.bl (!decide (i = j)))) := rfl
theorem qz (i j : Str)(Q : B -> Prop):fj (.str i) (.str j) Q = Q (.p (.bl (!decide (i = j)))) := rfl
theorem tQ (i j : Bool)(Q : B -> Prop):fj (.bl i) (.bl j) Q = Q (.p (.bl (!decide (i = j)))) := rfl
theorem qt (xs : List D)(P : B -> Prop):fD [.lst xs] P = P (.p (.int xs.length)) := rfl
theorem qw (xs : List D)(P : B -> Prop):fD [.tup xs] P = P (.p (.int xs.length)) := rfl
theorem qu (xs : List Int)(P : B -> Prop):fD [.scr xs] P = P (.p (.int xs.length)) := rfl
noncomputable def DG (d : D)(P : List D -> Prop):Prop := match d with
  | .lst xs => P xs
  | .scr ns => P (ns.map D.int)
  | _ => False
theorem nU (te : DT)(ρ : aH)(P : List D -> Prop):cU te ρ P = te ρ λb => DG b.val P := rfl
theorem ud (xs : List D)(P : List D -> Prop):DG (.lst xs) P = P xs := rfl
theorem ue (xs : List Int)(P : List D -> Prop):DG (.scr xs) P = P (xs.map D.int) := rfl
noncomputable def Dj (d : D)(lo hi : Option Int)(Q : B -> Prop):Prop := match d with
  | .lst xs => Q (.o (.lst (hU xs lo hi)))
  | .scr ns => Q (.o (.lst ((hU ns lo hi).map D.int)))
  | .tup xs => ¬ (HT.d9 xs.length 0 lo = 0 /\ HT.d9 xs.length xs.length hi = xs.length) /\ Q (.p (.tup (hU xs lo hi)))
  | _ => False
theorem wu (te : DT)(tl th : yd)(ρ : aH)(Q : B -> Prop):oK te tl th ρ Q = te ρ λb => tl ρ λlo => th ρ λhi => Dj b.val lo hi Q := rfl
theorem uE (xs : List D)(lo hi : Option Int)(Q : B -> Prop):Dj (.lst xs) lo hi Q = Q (.o (.lst (hU xs lo hi))) := rfl
theorem uF (xs : List Int)(lo hi : Option Int)(Q : B -> Prop):Dj (.scr xs) lo hi Q = Q (.o (.lst ((hU xs lo hi).map D.int))) := rfl
theorem uG (xs : List D)(lo hi : Option Int)(Q : B -> Prop):Dj (.tup xs) lo hi Q = (¬ (HT.d9 xs.length 0 lo = 0 /\ HT.d9 xs.length xs.length hi = xs.length) /\ Q (.p (.tup (hU xs lo hi)))) := rfl
noncomputable def Bm (d : D)(lo hi st : Option Int)(Q : B -> Prop):Prop := match d with
  | .lst xs => Q (.o (.lst (ow xs lo hi st)))
  | .scr ns => Q (.o (.lst ((ow ns lo hi st).map D.int)))
  | _ => False
theorem tR (te : DT)(tl th ts : yd)(ρ : aH)(Q : B -> Prop):g7 te tl th ts ρ Q = te ρ λb => tl ρ λlo => th ρ λhi => ts ρ λst => st ≠ some 0 /\ Bm b.val lo hi st Q := rfl
theorem rL (xs : List D)(lo hi st : Option Int)(Q : B -> Prop):Bm (.lst xs) lo hi st Q = Q (.o (.lst (ow xs lo hi st))) := rfl
theorem rM (xs : List Int)(lo hi st : Option Int)(Q : B -> Prop):Bm (.scr xs) lo hi st Q = Q (.o (.lst ((ow xs lo hi st).map D.int))) := rfl
theorem nM (xs : List D)(P : B -> Prop):d5 [.lst xs] P = P (.o (.lst xs)) := rfl
theorem nO (xs : List D)(P : B -> Prop):d5 [.tup xs] P = P (.o (.lst xs)) := rfl
theorem nN (xs : List Int)(P : B -> Prop):d5 [.scr xs] P = P (.o (.lst (xs.map D.int))) := rfl
theorem DH {α : Type}(a : α)(l : List α):iW (a :: l) (0 : Int) = some a := by unfold iW sv;simp
theorem DK {α : Type}(a b : α)(l : List α):iW (a :: b :: l) (1 : Int) = some b := by
  have : iW (a :: b :: l) (((1 : Nat)):Int) = some b := gP rfl;exact this
theorem DM {α : Type}(a b c : α)(l : List α):iW (a :: b :: c :: l) (2 : Int) = some c := by
  have : iW (a :: b :: c :: l) (((2 : Nat)):Int) = some c := gP rfl;exact this
theorem DN {α : Type}(a b c d : α)(l : List α):iW (a :: b :: c :: d :: l) (3 : Int) = some d := by
  have : iW (a :: b :: c :: d :: l) (((3 : Nat)):Int) = some d := gP rfl;exact this
theorem DP {α : Type}(a b c d e : α)(l : List α):iW (a :: b :: c :: d :: e :: l) (4 : Int) = some e := by
  have : iW (a :: b :: c :: d :: e :: l) (((4 : Nat)):Int) = some e := gP rfl;exact this
theorem B2 {α : Type}(a : α)(p : α -> Prop):(∃ d, some a = some d /\ p d) = p a := propext ⟨by rintro ⟨d, e, h⟩;cases e;exact h, λh => ⟨a, rfl, h⟩⟩
end DL
set_option maxHeartbeats 4000000
namespace L2
open PySem PySem.Spec PyProof.Rows
theorem bM.has {P : Program}{w : World}{H : Hp}{h : Heap}{a : Addr}{o : HO}(x : bM P w H h a o):∃ ob, h.get? a = some ob := by
  cases o with
  | lst xs => obtain ⟨_, _, _, _, e⟩ := x;exact ⟨_, e⟩
  | tup xs => obtain ⟨_, _, _, ob, e, _⟩ := x;exact ⟨_, e⟩
  | dK kvs => obtain ⟨_, _, _, _, o, _, _, e, _⟩ := x;exact ⟨_, e⟩
  | dT kvs => obtain ⟨_, _, _, _, o, _, _, e, _⟩ := x;exact ⟨_, e⟩
  | set S n => obtain ⟨o, _, _, _, e, _⟩ := x;exact ⟨_, e⟩
  | ins C dx fs => obtain ⟨_, _, _, e, _⟩ := x;exact ⟨_, e⟩
  | own y => exact x
  | xd fs => obtain ⟨_, ⟨_, _, _, e, _⟩, _⟩ := x;exact ⟨_, e⟩
  | rng lo hi => obtain ⟨_, _, _, e⟩ := x;exact ⟨_, e⟩
  | cq ob u => obtain ⟨e, _⟩ := x;exact ⟨_, e⟩
  | tbl ps =>
    unfold bM at x;first
      | exact ⟨_, x⟩
      | (obtain ⟨tb, e, _⟩ := x;exact ⟨_, e⟩)
  | met f y =>
    have e : h.get? a = some (methodObj (.ref f) (.ref y)) := x;exact ⟨_, e⟩
  | ext φ => obtain ⟨_, e, _⟩ := x;exact e
structure KB (fs : List Addr)(H H' : Hp)(h B : Heap):Prop where
  keep : ∀ b o, h.get? b = some o -> H b = none -> b ∉ fs -> B.get? b = some o
  there : ∀ b o, h.get? b = some o -> b ∉ fs -> ∃ o', B.get? b = some o'
  zV : ∀ a u, H' a = some u -> ∃ o, B.get? a = some o
theorem KB.un {fs : List Addr}{H H' : Hp}{h h1 h2 B : Heap}(k : KB fs H H' h B)(st : B.StaysIn h2)(u : Un fs [] H H' h h1)(up : h1.UpToSlots h2)
    (nf : ∀ b ∈ fs, ∀ o, h1.get? b = some o -> ∀ vs, o.data ≠ .fields vs):Un fs [] H H' h h2 where
  keep := λb o e n hb _ => st b o (k.keep b o e n hb)
  slot := λb o e n hb hx => by
    obtain ⟨sl, e1⟩ := u.slot b o e n hb hx;obtain ⟨sl', e2⟩ := up b _ e1 (nf b hb _ e1);exact ⟨sl', e2⟩
  free := u.free
  there := λb o e hx => by
    by_cases hb : b ∈ fs
    · obtain ⟨o', e1⟩ := u.there b o e hx;obtain ⟨sl, e2⟩ := up b o' e1 (nf b hb _ e1);exact ⟨_, e2⟩
    · obtain ⟨o', e1⟩ := k.there b o e hb;exact ⟨o', st b o' e1⟩
  iJ := u.iJ
  gR := u.gR
  iI := u.iI
theorem KB.bc {P : Program}{w : World}{fs : List Addr}{H H' : Hp}{h h1 h2 B : Heap}(k : KB fs H H' h B)(st1 : B.StaysIn h1)(st2 : B.StaysIn h2)(ok : g6 P w H' h1):g6 P w H' h2 := λa o e => by
  refine (ok a o e).fq (λb u hb q => ?_) (λ_ z => z) λ_ _ z => z;have : ∃ v, H' b = some v := by
    rcases hb with rfl | hb
    · exact ⟨o, e⟩
    · exact ⟨_, hb⟩
  obtain ⟨v, ev⟩ := this;obtain ⟨o', e'⟩ := k.zV b v ev;have := st1 b o' e';rw [q] at this;cases this;exact st2 b _ e'
noncomputable def g9 (P : Program)(w : World):rR := λouter H s E e s' =>
  ∃ (ea : Addr) (cls a0 : Value) (H' : Hp) (B : Heap), e = .ref ea /\ Heap.FlyingW B outer ea cls a0 s'.heap /\ KB (jy outer) H H' s.heap B /\ s'.os = s.os /\ AllBare s'.gens /\
    Un (jy outer) [] H H' s.heap s'.heap /\ g6 P w H' s'.heap /\ E cls none H'
theorem g9.never {P : Program}{w : World}{outer : List Env}{H : Hp}{s s' : Shared}{e : Value}(h : g9 P w outer H s (λ_ _ _ => False) e s'):False := by
  obtain ⟨_, _, _, _, _, _, _, _, _, _, _, _, z⟩ := h;exact z
theorem Az {h base : Heap}{l : List Env}(f : h.FunFrames base l):∀ b ∈ jy l, ∀ o, h.get? b = some o -> ∀ vs, o.data ≠ .fields vs := λb hb o e => by
  obtain ⟨_, o', e', d⟩ := f.mem hb;rw [e] at e';cases e';exact d
structure Body (X : Cx)(E : XK):Prop where
  ex : X.ex = []
  stack : X.stack = X.env :: X.outer
  frame : X.env.frame = some X.env.locals
  xe : ∀ e s', wpAny (model X.prog X.w) X.A (leaving X.env e) (λ_ s'' => g9 X.prog X.w X.outer X.H₀ X.s₀ E e s'') (λe' s'' => g9 X.prog X.w X.outer X.H₀ X.s₀ E e' s'') s' -> X.xe e s'
theorem bJ {P : Program}{w : World}{K : Frag}{mg : Str -> Option Value}{base : Heap}{N : List Str}{qual : Str}{scope : Scope}{f : Addr}{cd : Value}{A : Around}{outer : List Env}{s : Shared}{H : Hp}{E : XK} :
    Body (mU (g9 P w) P w K mg base N qual scope f cd A outer s H E) E := ⟨rfl, rfl, rfl, λ_ _ h => h⟩
section
variable {X : Cx} {E : XK} {pins : List (Addr × Obj)} {σ : St} {H : Hp} {s s' : Shared}
theorem Body.oX (b : Body X E):jy X.stack = X.env.locals :: X.fs := by
  rw [b.stack];show jy (X.env :: X.outer) = _;unfold jy;rw [filterMap_cons, b.frame];rfl
theorem Body.BE (b : Body X E)(I : Inv X pins σ H s){c : Addr}{o : Obj}(e : X.s₀.heap.get? c = some o)(hc : c ∉ X.fs):c ∉ jy X.stack := λz => by
  rw [b.oX] at z;rcases List.mem_cons.mp z with rfl | z
  · exact absurd (Nat.lt_of_lt_of_le (Heap.lt_size e) I.ok.above) (Nat.lt_irrefl _)
  · exact hc z
theorem Body.kb {H' : Hp}{B : Heap}(b : Body X E)(I : Inv X pins σ H s)(k : KB (jy X.stack) H H' s.heap B):KB X.fs X.H₀ H' X.s₀.heap B where
  keep := λc o e n hc => k.keep c o (I.base.keep c o e n hc (by rw [b.ex];simp)) (I.base.free c o e n (by rw [b.ex];simp)) (b.BE I e hc)
  there := λc o e hc => by
    obtain ⟨o', e'⟩ := I.base.there c o e (by rw [b.ex];simp);exact k.there c o' e' (b.BE I e hc)
  zV := k.zV
theorem Body.un {H' : Hp}{h' : Heap}(b : Body X E)(I : Inv X pins σ H s)(u : Un (jy X.stack) [] H H' s.heap h'):Un X.fs [] X.H₀ H' X.s₀.heap h' := by
  have u0 : Un (jy X.stack) [] X.H₀ H X.s₀.heap s.heap := I.base.mono (λc hc => by rw [b.oX];exact .tail _ hc) λc hc => by rw [b.ex] at hc;exact hc
  have u2 := u0.trans u;exact ⟨λc o e n hc hx => u2.keep c o e n (b.BE I e hc) hx, λc o e n _ hx => u2.any e n hx, u2.free, u2.there, u2.iJ, u2.gR, u2.iI⟩
theorem Body.passes (b : Body X E){E' : XK}(hE : ∀ cls dx H, E' cls dx H -> E cls dx H):Passes (g9 X.prog X.w) X E' := by
  intro pins σ H s e s' I h;obtain ⟨ea, cls, a0, H', B, rfl, fl, k, os, bare, un, bc, q⟩ := h;refine b.xe _ _ ?_;have fl' := fl;rw [b.stack] at fl';refine wpAny_leaves_onW (by rw [I.ok.frames, b.stack]) b.frame fl' λh' fl2 up => ?_;refine ⟨ea, cls, a0, H', B, rfl, fl2, b.kb I k, os.trans I.os, bare, (b.kb I k).un fl2.1 (b.un I un) up ?_, k.bc fl.1 fl2.1 bc, hE _ _ _ q⟩;intro c hc;exact Az fl.2.2.1 c (by rw [b.oX];exact .tail _ hc)
theorem Body.raises (b : Body X E)(I : Inv X pins σ H s){ea : Addr}{cls : Value}{args : List Value}(hx : Heap.MadeExcOf s.heap s'.heap ea cls args)(os : s'.os = s.os)(bare : AllBare s'.gens)(q : E cls none H):X.xe (.ref ea) s' := by
  refine b.xe _ _ ?_;have hfr : X.A.frames = some (X.env :: X.outer) := by rw [I.ok.frames, b.stack]
  have st : (PySem.W.hideAll s.heap (jy X.stack)).StaysIn s.heap := λc o e => PySem.W.of_hideAll _ e;have ff : s.heap.FunFrames (PySem.W.hideAll s.heap (jy X.stack)) (X.env :: X.outer) := by
    have z := I.stack;rw [b.stack] at z;exact PySem.W.funFrames_hide z λenv he a ha => by
      rw [b.stack];exact List.mem_filterMap.mpr ⟨env, he, ha⟩
  have k : KB (jy X.stack) H H s.heap (PySem.W.hideAll s.heap (jy X.stack)) := by
    refine ⟨λc o e _ hc => PySem.W.hideAll_get _ e hc, λc o e hc => ⟨o, PySem.W.hideAll_get _ e hc⟩, λa u e => ?_⟩;obtain ⟨o, ho⟩ := (I.bc a u e).has;exact ⟨o, PySem.W.hideAll_get _ ho λhm => by rw [I.pL a hm] at e;cases e⟩
  refine wpAny_leaves_madeW hfr b.frame st ff hx λh' t fl _ _ up => ?_;have u1 : Un (jy X.stack) [] H H s.heap s'.heap := Un.kept hx.keeps;refine ⟨ea, cls, .ref t, H, _, rfl, fl, b.kb I k, os.trans I.os, bare, (b.kb I k).un fl.1 (b.un I u1) up ?_, k.bc st fl.1 I.bc, q⟩;intro c hc o e;obtain ⟨_, o', e', d⟩ := ff.mem (show c ∈ jy (X.env :: X.outer) by rw [<- b.stack, b.oX];exact .tail _ hc);have := hx.keeps _ _ e';rw [e] at this;cases this;exact d
end
end L2
set_option maxHeartbeats 4000000
namespace L2
open PySem PySem.Spec PyProof.Rows
abbrev Bv : List Value := [.type "ValueError", .type "Exception", .type "BaseException", .type "object"]
noncomputable def j6 (K : Frag)(C : Addr):Prop := PySem.W.excIn K C Bv "ValueError.__new__" = true
set_option tactic.hygienic true in
theorem j6.obj {K : Frag}{h : Heap}{C : Addr}(X : K.In h)(q : j6 K C):∃ bm N nm q bs hdct sn sub ab col dd k0 k1 k2 k3 k5 mN, h.get? C = some (excClassObj nm q C N bs bm hdct sn sub ab col dd k0 k1 k2 k3 k5 "ValueError.__new__") /\ h.Ns N mN /\ mN "__init__" = none /\ OwnTail h Bv bm := by
  unfold j6 PySem.W.excIn at q;split at q
  · rename_i dd cd sl ho;split at q
    · rename_i C' bm k0 k1 k2 k3 n k5 hm hs;simp only [Bool.and_eq_true, beq_iff_eq, Bool.not_eq_true'] at q;obtain ⟨⟨⟨⟨⟨rfl, rfl⟩, hdel⟩, ht⟩, bc⟩, hni⟩ := q;obtain ⟨nm, bs, mro, ns, qn, hd, sn, sub, ab, col, del⟩ := cd;dsimp only at hm hdel bc hni;subst hm hdel;have hsl : sl = #[k0, k1, k2, k3, some (.builtin "ValueError.__new__"), k5] := by
        obtain ⟨l⟩ := sl;simp only at hs;rw [hs]
      subst hsl;exact ⟨bm, ns, nm, qn, bs, hd, sn, sub, ab, col, dd, k0, k1, k2, k3, k5, _, X _ _ ho, .of_isNs (PySem.W.isNs_of_in X bc), PySem.W.nsMap_none_of_in X bc hni, PySem.W.tail_of_in X ht⟩
    · cases q
  · cases q
section
variable {X : Cx} {E : XK} {C : Addr} {x : Str} {e₀ : Expr} {rest : List Expr} {np cpos pos : Pos} {ta : TA}
noncomputable def Br (C : Addr)(E : XK)(ta : TA):TS := λ_ σ H => ta σ H λvs H1 => vs.length <= sizeLine /\ E (.ref C) none H1
theorem rD (b : Body X E)(hc : X.calm = true)(q : j6 X.K C)(hg : Gl X x)(hm : X.mg x = some (.ref C))(ha : PA X (e₀ :: rest) ta)(hdb :autoParam ((x == ("__debug__" : Str)) = false) aZb._auto_1)
    (he :autoParam (starEach (e₀ :: rest) X.env = (false, eval e₀ X.env) :: starEach rest X.env) aZa._auto_1) (hpl :autoParam ((backTo cpos (starEach rest X.env)).any (·.1) = false) aZa._auto_1) :
    PS X (.Raise (some (.Call (.Name x np) (e₀ :: rest) [] cpos)) none pos) (Br C E ta) := by
  intro pins s σ H D I h;obtain ⟨tl, N, nm, qn, bs, hdct, sn, sub, ab, col, dd, k0, k1, k2, k3, k5, mN, hC, hN, hni, T⟩ := q.obj I.ok.mod.BC;refine wpAny_Raise_call_subT (C := C) (nm := nm) (q := qn) (N := N) (bs := bs) (bm := tl) (hdct := hdct) (sn := sn) (sub := sub) (ab := ab) (col := col) (dd := dd) (k0 := k0) (k1 := k1) (k2 := k2) (k3 := k3) (k5 := k5)
    PySem.F.excBase_ValueError (mN := mN) (T.hasType PySem.F.excBase_ValueError.hasBase) (I.ok.hd hc) (by rw [he];show (false || (backTo cpos (starEach rest X.env)).any (·.1)) = false;rw [hpl];rfl) hni (lB I hg hm ⟨rfl, ?_⟩ hdb)
  have hs := ha cpos pins s σ H _ I h;rw [he] at hs ⊢;refine Calls.evalArgs_plain (wpAny_mono hs ?_ λ_ _ y => y);rintro us s2 ⟨vs, H1, I1, r, hl, qE⟩;refine ⟨rfl, by show us.length <= _;rw [<- r.length];exact hl, I1.bk _ _ hC, hN.keeps I1.bk, T.keeps I1.bk, λh' e hx => ?_⟩;exact b.raises (s' := { s2 with heap := h' }) I1 hx rfl I1.bare qE
end
end L2
set_option maxHeartbeats 4000000
namespace L2
open PySem PySem.Spec PyProof.Rows PySem.W Builtin.Getset_descriptor
structure Ab (K : Frag)(C : Addr):Prop where
  ga : findIn K (.ref C) "__getattribute__" = some (some (.builtin "BaseException.__getattribute__"))
  gt : findIn K (.ref C) "__getattr__" = some none
  cls : findIn K (.ref C) "__class__" = some (some (.builtin "object.__class__"))
  get : specialIn K (.builtin "object.__class__") "__get__" = some (some (.builtin "getset_descriptor.__get__"))
  tk : takesIn K (.builtin "object.__class__") = some true
  mo : mroIn K C (.type "object") = some true
  mb : mroIn K C (.type "BaseException") = some true
  is : (clsIn K C).isSome = true
section
variable {prog : Program} {w : World} {A : Around} {E : Value -> Shared -> Prop} {s : Shared} {K : Frag} {x C : Addr}
end
section
variable {X : Cx} {C : Addr} {x : Addr} {ox : Obj}
end
end L2
set_option maxHeartbeats 4000000
namespace L2
open PySem PySem.Spec PyProof.Rows PySem.W
structure Ep (X : Cx)(pins : List (Addr × Obj))(σ : St)(H0 H : Hp)(s0 s : Shared)(ea : Addr)(cls : Value)(B : Heap):Prop where
  I0 : Inv X pins σ H0 s0
  fl : ∃ a0, Heap.FlyingW B X.stack ea cls a0 s.heap
  kb : KB (jy X.stack) H0 H s0.heap B
  os : s.os = s0.os
  bare : AllBare s.gens
  un : Un (jy X.stack) [] H0 H s0.heap s.heap
  bc : g6 X.prog X.w H s.heap
section
variable {X : Cx} {pins : List (Addr × Obj)} {σ : St} {H0 H : Hp} {s0 s : Shared} {ea : Addr} {cls : Value} {B : Heap}
end
section
variable {X : Cx} {y : Str} {c : Value} {np hpos : Pos} {b₀ : Stmt} {suite : List Stmt} {rest : List ExceptHandler} {ts : Addr -> Value -> TS} {tr : Value -> TS}
end
end L2
set_option maxHeartbeats 4000000
namespace L2
open PySem PySem.Spec PyProof.Rows PySem.W
section
variable {X : Cx} {pins : List (Addr × Obj)} {σ : St} {H : Hp} {s : Shared}
end
section
variable {X : Cx} {y n : Str} {i : Nat} {c : Value} {np hpos : Pos} {b₀ : Stmt} {suite : List Stmt} {rest : List ExceptHandler} {ts : Addr -> Value -> TS} {tr : Value -> TS}
end
section
variable {X : Cx} {CX : rR} {k : Nat} {f : Addr} {fd : FuncData} {ps : List Str} {sp : Sp} {x : Str} {p pos epos tpos : Pos} {e : Expr} {es : List Expr} {t : TA} {h₀ : ExceptHandler} {hs : List ExceptHandler} {th : Value -> TS}
end
section
variable {P : Program} {w : World} {K : Frag} {mg : Str -> Option Value} {base : Heap}
theorem fU.yf {x qual : Str}{st : Stmt}{f : Addr}{fd : FuncData}{N ps : List Str}{k : Nat}{sp : Sp}(F : fU K x qual st f fd)(S : aF N ps (ag st))(len : ∀ vs H Q E, sp vs H Q E -> vs.length = ps.length)
    (hbody : ∀ (cdv : Value) (A : Around) (outer : List Env) (s : Shared) (H : Hp) (vs : List V) (Q : VK) (E : XK), cZ k (A.deeper (envOfC qual (ag st) s.heap.objs.size f cdv)) -> sp vs H Q E ->
      ∃ t, mS (mU (g9 P w) P w K mg base N qual (ag st) f cdv A outer s H E) (az st) t /\ t { nx := λ_ H' => Q .non H', rt := Q } (start N vs) H):aM P w K mg base (g9 P w) (k + 1) f fd ps sp := by
  obtain ⟨oc, od, kV, doc, pm, an, cdv, ct, osl, rfl, lk, hcd⟩ := F.ex;exact zI lk hcd S len λA outer s H vs Q E hr hsp => hbody cdv A outer s H vs Q E hr hsp
structure BH (P : Program)(w : World)(K : Frag)(mg : Str -> Option Value)(base : Heap)(x : Str)(k : Nat)(ps : List Str)(sp : Sp):Prop where
  ex : ∃ f fd, aM P w K mg base (g9 P w) k f fd ps sp /\ mg x = some (.ref f) /\ keepIn K (.ref f) = true /\ Binds K fd ps []
theorem wM {x qual : Str}{st : Stmt}{f : Addr}{fd : FuncData}{k : Nat}{ps : List Str}{sp : Sp}(F : fU K x qual st f fd)(hm : mg x = some (.ref f))(hb : Binds K fd ps [])(ok : aM P w K mg base (g9 P w) k f fd ps sp) :
    BH P w K mg base x k ps sp := ⟨f, fd, ok, hm, F.kp, hb⟩
end
theorem A2 {X : Cx}{E : XK}{x : Str}{k : Nat}{ps : List Str}{sp : Sp}{p pos : Pos}{e : Expr}{es : List Expr}{t : TA}(b : Body X E)(F : BH X.prog X.w X.K X.mg X.base x k ps sp)(hr : cZ k X.A)(hg : Gl X x)(ha : PA X (e :: es) t)
    (hdb :autoParam ((x == ("__debug__" : Str)) = false) aZb._auto_1) (he :autoParam (starEach (e :: es) X.env = (false, eval e X.env) :: starEach es X.env) aZa._auto_1) (hpl :autoParam ((backTo pos (starEach es X.env)).any (·.1) = false) aZa._auto_1) :
    PE X (.Call (.Name x p) (e :: es) [] pos) (xW sp [] E t) := by
  obtain ⟨f, fd, G, hm, hk, hb⟩ := F.ex;exact uy G hr hg hm hk hb .nil (b.passes λ_ _ _ h => h) ha hdb he hpl
end L2
set_option maxHeartbeats 4000000
namespace DL
open PySem L2
noncomputable abbrev rT := List D -> (B -> Prop) -> (Value -> Prop) -> Prop
noncomputable def vL (K : Frag)(R : rT):Sp := λvs H Q E => ∃ (ds : List D) (G : Hp) (P : B -> Prop) (Z : Value -> Prop), av G H /\ bx K G vs ds /\ R ds P Z /\ (∀ b v H' G', P b -> Wd H G H' G' -> fT K H G' H' v b -> Q v H') /\ ∀ cls H', Z cls -> av H H' -> E cls none H'
noncomputable abbrev Dp (P : Program)(w : World)(K : Frag)(mg : Str -> Option Value)(base : Heap)(x : Str)(k : Nat)(ps : List Str)(R : rT):Prop := BH P w K mg base x k ps (vL K R)
structure DX (X : Cx)(H0 : Hp)(st : Stmt)(t : gN):Prop where
  ps : ∀ G0, PS X st (cS X.K H0 G0 t)
structure ye (X : Cx)(H0 : Hp)(st : List Stmt)(t : gN):Prop where
  yg : ∀ G0, mS X st (cS X.K H0 G0 t)
section
variable {X : Cx} {H0 : Hp} {E : XK} {Z : Value -> Prop} {st : Stmt} {rest : List Stmt} {t u : gN} {a b c e : Expr} {es : List Expr} {ta tb te : DT} {pos p epos : Pos} {x : Str} {k : Nat} {ps : List Str} {R : rT} {tA : eF} {C : Addr}
theorem dx (h : DS X st t):DX X H0 st t := ⟨λG0 => h.ps H0 G0⟩
theorem EC (h : vP X rest t):ye X H0 rest t := ⟨λG0 => h.yg H0 G0⟩
theorem lz : ye X H0 [] dU := EC jJ
theorem cn (h1 : DX X H0 st t)(h2 : ye X H0 rest u):ye X H0 (st :: rest) (gb t u) := ye.mk λG0 => mS.imp (ar (h1.ps G0) (h2.yg G0)) λDn σ H ⟨E, G, ρ, eo, w, en, h⟩ =>
  ⟨{ E with nx := u E }, G, ρ, ⟨λσ' H' G' ρ' w' en' h' => ⟨E, G', ρ', eo, w', en', h'⟩, eo.bk, eo.ct, eo.rt⟩, w, en, h⟩
theorem fu (h1 : DX X H0 st t):ye X H0 [st] t := ye.mk λG0 => aN (h1.ps G0)
theorem tY {x y : List Stmt}{tc : gO}(hc : qb X c tc)(ha : ye X H0 x t)(hb : ye X H0 y u):DX X H0 (.If c x y pos) (fY tc t u) := DX.mk λG0 => PS.imp (fh hc.pt (ha.yg G0) (hb.yg G0))<|by
  rintro Dn σ H ⟨E, G, ρ, eo, w, en, h⟩;obtain ⟨G1, w1, sg, e1⟩ := en.freeze w;refine ⟨G1, cq ρ, _, w1.gh, e1.p, h, λc H' G' p' w' => ?_⟩;cases c with
  | true => exact mW ⟨E, G, ρ, eo, w.back w', en.back w'.hh, p'.1 rfl⟩
  | false => exact iY ⟨E, G, ρ, eo, w.back w', en.back w'.hh, p'.2 rfl⟩
noncomputable def r9 (Z : Value -> Prop)(c : Value)(t : eF):gN := λ_ ρ => t (cq ρ) λ_ => Z c
theorem jL {np cpos : Pos}(bd : Body X E)(hZ : ∀ cls H', Z cls -> av H0 H' -> E cls none H')(hc : X.calm = true)(q : j6 X.K C)(hg : Gl X x)(hm : X.mg x = some (.ref C))(ha : DA X (e :: es) tA)(hn :autoParam ((e :: es).length <= 1000) aZb._auto_1)(hdb :autoParam ((x == ("__debug__" : Str)) = false) aZb._auto_1)
    (he :autoParam (starEach (e :: es) X.env = (false, eval e X.env) :: starEach es X.env) aZa._auto_1) (hpl :autoParam ((backTo cpos (starEach es X.env)).any (·.1) = false) aZa._auto_1) :
    DX X H0 (.Raise (some (.Call (.Name x np) (e :: es) [] cpos)) none pos) (r9 Z (.ref C) tA) := DX.mk λG0 => PS.imp (rD bd hc q hg hm ha.pa hdb he hpl)<|by
  rintro Dn σ H ⟨Ed, G, ρ, eo, w, en, h⟩;obtain ⟨G1, w1, sg, e1⟩ := en.freeze w;exact ⟨G1, cq ρ, _, w1.gh, e1.p, h, λds vs H' G' p' l' w' r' => ⟨by rw [Paired.length r', l'];exact Nat.le_of_lt (iT hn), hZ _ _ p' (w.hh.trans w'.hh)⟩⟩
section
variable (bd : Body X E) (hZ : ∀ cls H', Z cls -> av H0 H' -> E cls none H') (F : Dp X.prog X.w X.K X.mg X.base x k ps R) (hr : cZ k X.A) (hg : Gl X x) (ha : DA X (e :: es) tA)
include bd hZ F hr hg ha
theorem jK (hdb :autoParam ((x == ("__debug__" : Str)) = false) aZb._auto_1)(he :autoParam (starEach (e :: es) X.env = (false, eval e X.env) :: starEach es X.env) aZa._auto_1)(hpl :autoParam ((backTo pos (starEach es X.env)).any (·.1) = false) aZa._auto_1)
    (hs :autoParam (swapsWith (.Call (.Name x p) (e :: es) [] pos) none epos.line X.env = pure false) aZa._auto_1):DX X H0 (.Expr (.Call (.Name x p) (e :: es) [] pos) epos) (λE ρ => tA (cq ρ) λds => R ds (λ_ => E.nx ρ) Z) :=
  DX.mk λG0 => PS.imp (dY (A2 bd F hr hg ha.pa hdb he hpl) hs)<|by
    rintro Dn σ H ⟨Ed, G, ρ, eo, w, en, h⟩;obtain ⟨G1, w1, sg, e1⟩ := en.freeze w;refine ⟨G1, cq ρ, _, w1.gh, e1.p, h, λds vs H' G' p' l' w' r' => ?_⟩;show vL X.K R (vs ++ []) H' _ E;rw [append_nil];exact ⟨ds, G', _, Z, w'.gh, r', p', λb v H2 G2 p2 w2 r2 => eo.nx σ H2 G ρ (w.back (w'.trans w2)) (en.back (w'.trans w2).hh) p2, λcls H2 z s2 => hZ cls H2 z ((w.hh.trans w'.hh).trans s2)⟩
end
end
section
variable {X : Cx} {H0 : Hp} {tg iter : Expr} {body : List Stmt} {ti : eF} {g : Tg} {tb : gN} {pos : Pos}
end
section
variable {P : Program} {w : World} {K : Frag} {mg : Str -> Option Value} {base : Heap}
theorem xq {x qual : Str}{st : Stmt}{f : Addr}{fd : FuncData}{N ps : List Str}{k : Nat}{R : rT}(F : fU K x qual st f fd)(S : aF N ps (ag st))(len : ∀ ds Q Z, R ds Q Z -> ds.length = ps.length)
    (hbody : ∀ (cdv : Value) (A : Around) (outer : List Env) (s : Shared) (H : Hp) (E : XK) (Z : Value -> Prop), cZ k (A.deeper (PyProof.Rows.envOfC qual (ag st) s.heap.objs.size f cdv)) -> (∀ cls H', Z cls -> av H H' -> E cls none H') ->
      ∃ t, ye (mU (g9 P w) P w K mg base N qual (ag st) f cdv A outer s H E) H (az st) t /\ ∀ ds Q, R ds Q Z -> t { nx := λ_ => Q (.p .non), rt := Q } (aZ N.length ds)):aM P w K mg base (g9 P w) (k + 1) f fd ps (vL K R) := by
  refine F.yf S (by rintro vs H Q E ⟨ds, G, P, Z, s, r, h, _⟩;rw [Paired.length r];exact len ds P Z h) ?_;rintro cdv A outer s H vs Q E hr ⟨ds, G, P, Z, sg, r, h, k, kz⟩;obtain ⟨t, h1, h2⟩ := hbody cdv A outer s H E Z hr kz;obtain ⟨e1, e2, e3⟩ := gK (K := K) N.length r;refine ⟨_, h1.yg G, _, G, _, ?_, Wd.refl sg, cM.only e2 e1 (iH _ _), h2 ds P h⟩;exact ⟨λσ H' G' ρ w' _ p => k _ _ H' G' p w' (show Rep K G' V.non D.non from .non), λσ H' G' ρ w' _ p => p.elim, λσ H' G' ρ w' _ p => p.elim, λb v H' G' w' r' p => k b v H' G' p w' r'⟩
theorem aM.drop {f : Addr}{fd : FuncData}{ps : List Str}{k : Nat}{sp : Sp}(F : aM P w K mg base (g9 P w) k f fd ps sp)(h : ∀ vs H Q E, sp vs H Q E -> sp vs H Q E0):aM P w K mg base gM k f fd ps sp := by
  refine ⟨F.len, λA outer s H args us vs Q E hr he hb hv hs => codeAny_mono (F.run A outer s H args us vs Q E0 hr he hb hv (h _ _ _ _ hs)) λr s' q => ?_⟩;cases r with
  | error e => exact (g9.never (show g9 P w outer H s (λ_ _ _ => False) e s' from q)).elim
  | ok fl => cases fl <;> exact q
end
structure qc (K : Frag)(mg : Str -> Option Value)(x : Str)(C : Addr):Prop where
  er : j6 K C
  at_ : mg x = some (.ref C)
  get : Ab K C
end DL
set_option maxHeartbeats 4000000
namespace DL
open PySem L2
section
variable {X : Cx} {o e : Expr} {es : List Expr} {te : DT} {tA : eF} {pos : Pos}
noncomputable def Aq (a : Str)(ds : List D)(P : B -> Prop):Prop := match ds with
  | [.str y] => (y.length == 0) = false /\ a.length + 2 <= sizeLine /\ P (.o (.lst ((Txt.split a y).map D.str)))
  | _ => False
noncomputable def Ao (sep : Str)(ds : List D)(P : B -> Prop):Prop := match ds with
  | [.lst xs] => ∃ ts : List Str, xs = ts.map D.str /\ JoinOk sep ts = true /\ P (.p (.str (Str.join sep ts)))
  | _ => False
noncomputable def BW : DR := λds P => match ds with
  | [.str x] => ∃ n, PySem.intText? x = some n /\ x.length <= 640 /\ P (.p (.int n))
  | _ => False
noncomputable abbrev vQ := aH -> Str -> (Str -> Prop) -> Prop
noncomputable def cJ (K : Frag)(t : vQ):TJ := λσ H acc R => ∃ (G : Hp) (ρ : aH) (P : Str -> Prop), av G H /\ cy K G σ ρ /\ t ρ acc P /\ ∀ out H' G', P out -> Wd H G H' G' -> R out H'
structure DJ (X : Cx)(es : List Expr)(t : vQ):Prop where
  pj : PJ X es (cJ X.K t)
theorem PJ.imp {t t' : TJ}(h : PJ X es t)(i : ∀ σ H acc R, t' σ H acc R -> t σ H acc R):PJ X es t' := λpins s σ H acc R I q => h pins s σ H acc R I (i σ H acc R q)
noncomputable def wD : vQ := λ_ acc P => P acc
noncomputable def wF (x : Str)(t : vQ):vQ := λρ acc P => (acc ++ x).length <= sizeLine /\ t ρ (acc ++ x) P
noncomputable def wG (te : DT)(t : vQ):vQ := λρ acc P => te ρ λb => match b.val with
  | .str y => y.length <= sizeLine /\ (acc ++ y).length <= sizeLine /\ t ρ (acc ++ y) P
  | .int i => i.natAbs.log2 < 1920 /\ (acc ++ (toString i : Str)).length <= sizeLine /\ t ρ (acc ++ (toString i : Str)) P
  | _ => False
theorem lV : DJ X [] wD := ⟨PJ.imp A7 (by rintro σ H acc R ⟨G, ρ, P, s, re, h, k⟩;exact k _ H G h (Wd.refl s))⟩
theorem fE {x : Str}{j : Nat}{t : vQ}(h : DJ X es t):DJ X (.Constant (.str x) j pos :: es) (wF x t) :=
  ⟨PJ.imp (A8 h.pj) (by rintro σ H acc R ⟨G, ρ, P, s, re, h, k⟩;exact ⟨h.1, G, ρ, P, s, re, h.2, k⟩)⟩
set_option tactic.hygienic true in
theorem gf {value : Expr}{t : vQ}(hv : DE X value te)(h : DJ X es t):DJ X (.FormattedValue value (-1) none pos :: es) (wG te t) :=
  ⟨PJ.imp (A9 hv.pe h.pj)<|by
    rintro σ H acc R ⟨G, ρ, P, s, re, h, k⟩;refine ⟨G, ρ, _, s, re, h, λb v H1 G1 p1 w1 r1 => ?_⟩;obtain ⟨G1', w1', r1'⟩ := r1.give w1;split at p1
    · rename_i y ey;rw [ey] at r1';cases r1';exact ⟨y, .inl ⟨rfl, p1.1⟩, p1.2.1, G1', ρ, P, w1'.gh, re.mono w1'.gg, p1.2.2, λout H2 G2 q w2 => k out H2 G2 q (w1'.trans w2)⟩
    · rename_i i ei;rw [ei] at r1';cases r1';exact ⟨_, .inr ⟨i, rfl, p1.1, rfl⟩, p1.2.1, G1', ρ, P, w1'.gh, re.mono w1'.gg, p1.2.2, λout H2 G2 q w2 => k out H2 G2 q (w1'.trans w2)⟩
    · exact p1.elim⟩
noncomputable def An (t : vQ):DT := λρ Q => t ρ Str.empty λout => out.length <= sizeLine /\ Q (.p (.str out))
theorem lR {v1 v2 : Expr}{rest : List Expr}{t : vQ}(h : DJ X (v1 :: v2 :: rest) t):DE X (.JoinedStr (v1 :: v2 :: rest) pos) (An t) :=
  DE.of (zb h.pj) (by rintro σ H Q ⟨G, ρ, P, s, re, h, k⟩;exact ⟨G, ρ, _, s, re, h, λout H' G' p' w' => ⟨p'.1, k _ _ H' G' p'.2 w' (.str _)⟩⟩)
end
theorem qv (x : Str)(P : B -> Prop):fD [.str x] P = (x.length <= sizeLine /\ P (.p (.int x.length))) := rfl
theorem nR (a y : Str)(P : B -> Prop):Aq a [.str y] P = ((y.length == 0) = false /\ a.length + 2 <= sizeLine /\ P (.o (.lst ((Txt.split a y).map D.str)))) := rfl
theorem nQ (sep : Str)(xs : List D)(P : B -> Prop):Ao sep [.lst xs] P = ∃ ts : List Str, xs = ts.map D.str /\ JoinOk sep ts = true /\ P (.p (.str (Str.join sep ts))) := rfl
theorem qr (x : Str)(P : B -> Prop):BW [.str x] P = ∃ n, PySem.intText? x = some n /\ x.length <= 640 /\ P (.p (.int n)) := rfl
end DL
set_option maxHeartbeats 4000000
namespace L2
open PySem PySem.Spec PyProof.Rows PySem.W
section
variable {X : Cx} {k : Nat} {f C : Addr} {fd : FuncData} {ps : List Str} {sp : Sp} {x m : Str} {p pos apos epos tpos : Pos} {e o : Expr} {es : List Expr} {ta : TE} {t : TA} {te : XK -> TE} {h₀ : ExceptHandler} {hs : List ExceptHandler} {th : Value -> TS}
end
end L2
set_option maxHeartbeats 4000000
namespace L2
open PySem PySem.Spec PyProof.Rows PySem.W
section
variable {X : Cx} {pins : List (Addr × Obj)} {σ : St} {H : Hp} {s : Shared}
end
section
variable {X : Cx} {E : XK} {pins : List (Addr × Obj)} {σ : St} {H0 H : Hp} {s0 s : Shared} {ea : Addr} {cls : Value} {B : Heap}
end
section
variable {X : Cx} {E : XK} {y n : Str} {i : Nat} {c : Value} {np hpos : Pos} {b₀ : Stmt} {suite : List Stmt} {rest : List ExceptHandler} {ts : Addr -> Value -> TS} {tr : Value -> TS}
end
end L2
namespace L2
open PySem PySem.Spec PyProof.Rows
section
variable {κ : Type} [DecidableEq κ]
noncomputable def gL (kvs : List (κ × V))(k : κ):Option V := (kvs.find? λkv => decide (kv.1 = k)).map (·.2)
noncomputable def putK (kvs : List (κ × V))(k : κ)(v : V):List (κ × V) :=
  if (kvs.any λkv => decide (kv.1 = k)) = true then kvs.map (λkv => if kv.1 = k then (kv.1, v) else kv) else kvs ++ [(k, v)]
noncomputable def fg (kvs : List (κ × V))(k : κ):List (κ × V) := kvs.filter λkv => decide (kv.1 ≠ k)
theorem iM {p : κ × V}{r : List (κ × V)}{k : κ}(e : p.1 = k):gL (p :: r) k = some p.2 := by simp [gL, List.find?_cons, e]
theorem iL {p : κ × V}{r : List (κ × V)}{k : κ}(e : ¬ p.1 = k):gL (p :: r) k = gL r k := by simp [gL, List.find?_cons, e]
theorem mK (k : κ):∀ kvs : List (κ × V), (kvs.any λkv => decide (kv.1 = k)) = (gL kvs k).isSome
  | [] => rfl
  | p :: r => by
    rw [List.any_cons];by_cases e : p.1 = k
    · simp only [iM e, decide_eq_true e, Bool.true_or, Option.isSome_some]
    · rw [iL e, decide_eq_false e, Bool.false_or];exact mK k r
theorem kK (kvs : List (κ × V))(k : κ)(v : V):(putK kvs k v).length <= kvs.length + 1 := by
  unfold putK;split
  · rw [length_map];lia
  · rw [length_append, length_cons, List.length_nil];lia
theorem xH {kvs : List (κ × V)}{k : κ}(v : V)(h : gL kvs k = none):putK kvs k v = kvs ++ [(k, v)] := by
  unfold putK;rw [mK, h];exact if_neg (by decide)
theorem jh.iO {o : Option V}{u : Option Value}(r : jh o u):o.isSome = u.isSome := by
  cases o with
  | none => cases u with
    | none => rfl
    | some _ => exact (show False from r).elim
  | some _ => cases u with
    | none => exact (show False from r).elim
    | some _ => rfl
theorem KV.val {kvs : List (κ × V)}{vs : List (κ × Value)}(r : KV kvs vs)(k : κ):jh (gL kvs k) (valueAt vs k) := by
  unfold KV at r;induction r with
  | nil => exact True.intro
  | @cons p q ps qs h t ih =>
    obtain ⟨h1, h2⟩ := h;by_cases e : p.1 = k
    · have e' : q.1 = k := h1.symm.trans e;have b : valueAt (q :: qs) k = some q.2 := by simp [valueAt, List.find?_cons, e']
      rw [iM e, b];exact h2
    · have e' : ¬ q.1 = k := λz => e (h1.trans z);have b : valueAt (q :: qs) k = valueAt qs k := by simp [valueAt, List.find?_cons, e']
      rw [iL e, b];exact ih
theorem KV.any {kvs : List (κ × V)}{vs : List (κ × Value)}(r : KV kvs vs)(k : κ):(kvs.any λkv => decide (kv.1 = k)) = vs.any λkv => decide (kv.1 = k) := by
  unfold KV at r;induction r with
  | nil => rfl
  | cons h t ih => rw [List.any_cons, List.any_cons, ih, h.1]
theorem KV.Bh {kvs : List (κ × V)}{vs : List (κ × Value)}(r : KV kvs vs)(k : κ){y : V}{u : Value}(ry : RelV y u) :
    KV (kvs.map λkv => if kv.1 = k then (kv.1, y) else kv) (vs.map λkv => if kv.1 = k then (kv.1, u) else kv) := by
  unfold KV at r ⊢;induction r with
  | nil => exact .nil
  | @cons p q ps qs h t ih =>
    rw [map_cons, map_cons];refine .cons ?_ ih;obtain ⟨h1, h2⟩ := h;by_cases e : p.1 = k
    · rw [if_pos e, if_pos (h1.symm.trans e)];exact ⟨h1, ry⟩
    · rw [if_neg e, if_neg (λz => e (h1.trans z))];exact ⟨h1, h2⟩
theorem KV.put {kvs : List (κ × V)}{vs : List (κ × Value)}(r : KV kvs vs)(k : κ){y : V}{u : Value}(ry : RelV y u):KV (putK kvs k y) (stored vs k u) := by
  unfold putK stored;rw [r.any k];by_cases e : (vs.any λkv => decide (kv.1 = k)) = true
  · rw [if_pos e, if_pos e];exact r.Bh k ry
  · rw [if_neg e, if_neg e];exact Paired.snoc r ⟨rfl, ry⟩
theorem KV.drop {kvs : List (κ × V)}{vs : List (κ × Value)}(r : KV kvs vs)(k : κ):KV (fg kvs k) (without vs k) := by
  unfold KV at r ⊢;unfold fg without;induction r with
  | nil => exact .nil
  | @cons p q ps qs h t ih =>
    obtain ⟨h1, h2⟩ := h;rw [filter_cons, filter_cons];by_cases e : p.1 = k
    · have a : ¬ decide (p.1 ≠ k) = true := by simp [e]
      have b : ¬ decide (q.1 ≠ k) = true := by simp [h1.symm.trans e]
      rw [if_neg a, if_neg b];exact ih
    · have e' : ¬ q.1 = k := λz => e (h1.trans z);have a : decide (p.1 ≠ k) = true := by simp [e]
      have b : decide (q.1 ≠ k) = true := by simp [e']
      rw [if_pos a, if_pos b];exact .cons ⟨h1, h2⟩ ih
theorem KV.length {kvs : List (κ × V)}{vs : List (κ × Value)}(r : KV kvs vs):kvs.length = vs.length := Paired.length r
theorem qF (kvs : List (κ × V))(k : κ):(fg kvs k).length <= kvs.length := List.length_filter_le _ _
end
theorem qW {P : Program}{w : World}{k : Key}{u : Value}(r : RelV (kV k) u):(bg P w).is k u = true := by
  cases k with
  | inl i => obtain ⟨t, e⟩ := (show ∃ t, u = Value.int i t from r);subst e;exact q5 P w i t
  | inr x => obtain ⟨t, e⟩ := (show ∃ t, u = Value.str x t from r);subst e;exact q8 P w x t
theorem oe {P : Program}{w : World}:∀ {ks : List Key} {us : List Value}, Vals (ks.map kV) us -> ItemsAre (bg P w) ks us
  | [], _, r => by rw [List.map_nil] at r;cases r;exact .nil
  | k :: ks, _, r => by
    rw [map_cons] at r;cases r with
    | cons h t => exact .cons (qW h) (oe t)
noncomputable abbrev KT (H : Hp):List (List Key × V) -> List (List Key × Addr × Value) -> Prop := Paired λp q => p.1 = q.1 /\ H q.2.1 = some (.tup (p.1.map kV)) /\ RelV p.2 q.2.2
theorem KT.val {H : Hp}{kvs : List (List Key × V)}{xs : List (List Key × Addr × Value)}(r : KT H kvs xs)(k : List Key):jh (gL kvs k) ((atKey xs k).map (·.2)) := by
  induction r with
  | nil => exact True.intro
  | @cons p q ps qs h t ih =>
    obtain ⟨h1, _, h2⟩ := h;by_cases e : p.1 = k
    · have e' : q.1 = k := h1.symm.trans e;have b : atKey (q :: qs) k = some q.2 := by simp [atKey, List.find?_cons, e']
      rw [iM e, b];exact h2
    · have e' : ¬ q.1 = k := λz => e (h1.trans z);have b : atKey (q :: qs) k = atKey qs k := by simp [atKey, List.find?_cons, e']
      rw [iL e, b];exact ih
theorem KT.Bh {H : Hp}{kvs : List (List Key × V)}{xs : List (List Key × Addr × Value)}(r : KT H kvs xs)(k : List Key){y : V}{u : Value}(ry : RelV y u) :
    KT H (kvs.map λkv => if kv.1 = k then (kv.1, y) else kv) (xs.map (putAt k u)) := by
  induction r with
  | nil => exact .nil
  | @cons p q ps qs h t ih =>
    rw [map_cons, map_cons];refine .cons ?_ ih;obtain ⟨h1, h2, h3⟩ := h;unfold putAt;by_cases e : p.1 = k
    · rw [if_pos e, if_pos (h1.symm.trans e)];exact ⟨h1, h2, ry⟩
    · rw [if_neg e, if_neg (λz => e (h1.trans z))];exact ⟨h1, h2, h3⟩
theorem KT.put {H : Hp}{kvs : List (List Key × V)}{xs : List (List Key × Addr × Value)}(r : KT H kvs xs)(k : List Key){b : Addr}{y : V}{u : Value}(hb : H b = some (.tup (k.map kV)))(ry : RelV y u) :
    KT H (putK kvs k y) (storedH xs k b u) := by
  have e : (kvs.any λkv => decide (kv.1 = k)) = (atKey xs k).isSome := by
    rw [mK, (r.val k).iO, Option.isSome_map]
  unfold putK storedH;rw [e];by_cases q : (atKey xs k).isSome = true
  · rw [if_pos q, if_pos q];exact r.Bh k ry
  · rw [if_neg q, if_neg q];exact Paired.snoc r ⟨rfl, hb, ry⟩
theorem KT.keeps {H H' : Hp}{kvs : List (List Key × V)}{xs : List (List Key × Addr × Value)}(r : KT H kvs xs)(ht : ∀ b ys, H b = some (.tup ys) -> H' b = some (.tup ys)):KT H' kvs xs :=
  Paired.yR r λ_ _ z => ⟨z.1, ht _ _ z.2.1, z.2.2⟩
section
variable {P : Program} {w : World} {H : Hp} {h : Heap} {a : Addr}
theorem zT {u : HO}(ok : g6 P w H h)(e : Rd H a u):bM P w H h a u := e.ok ok
theorem tV {kvs : List (Key × V)}(ok : g6 P w H h)(e : Rd H a (.dK kvs)):kvs.length <= sizeLine /\ (a == sysModules) = false /\ ∃ vs, KV kvs vs /\ h.DictOf (bg P w) a vs :=
  show bM P w H h a (.dK kvs) from zT ok e
theorem kH {kvs : List (Key × V)}(ok : g6 P w H h)(e : H a = some (.dK kvs)):kvs.length <= sizeLine /\ (a == sysModules) = false /\ ∃ vs, KV kvs vs /\ h.DictOf (bg P w) a vs := tV ok (.inl e)
theorem sx {ks : List Key}(ok : g6 P w H h)(e : H a = some (.tup (ks.map kV))):(tupleKind (bg P w)).is h ks a := by
  obtain ⟨_, its, r, o, h1, h2, n, h3⟩ := (show bM P w H h a (.tup (ks.map kV)) from ok a _ e)
  exact ⟨o, its.toArray, n, h1, h2, h3, by simpa using oe r⟩
theorem wK {kvs : List (List Key × V)}(ok : g6 P w H h)(e : Rd H a (.dT kvs)):kvs.length <= sizeLine /\ (a == sysModules) = false /\
    ∃ xs, KT H kvs xs /\ h.DictOfH (tupleKind (bg P w)) a xs := by
  obtain ⟨z, y, xs, r, o, es, ep, h1, h2, h3, h4, h5⟩ := (show bM P w H h a (.dT kvs) from zT ok e)
  refine ⟨z, y, xs, r, o, es, ep, h1, h2, h3, h4, λx hx => ?_, h5⟩;have all : ∀ {l : List (List Key × V)} {m : List (List Key × Addr × Value)}, KT H l m -> ∀ x ∈ m, (tupleKind (bg P w)).is h x.1 x.2.1 := by
    intro l m q;induction q with
    | nil => intro x hx;exact nomatch hx
    | @cons p q ps qs hq t ih =>
      intro x hx;rcases List.mem_cons.mp hx with e | hx
      · subst e;exact sx ok (by rw [<- hq.1];exact hq.2.1)
      · exact ih x hx
  exact all r x hx
theorem BZ {kvs : List (List Key × V)}(ok : g6 P w H h)(e : H a = some (.dT kvs)):kvs.length <= sizeLine /\ (a == sysModules) = false /\
    ∃ xs, KT H kvs xs /\ h.DictOfH (tupleKind (bg P w)) a xs := wK ok (.inl e)
end
noncomputable def uM (H : Hp)(a : Addr)(y : V)(r : Option V):Prop :=
  (∃ kvs k, Rd H a (.dK kvs) /\ y = kV k /\ r = gL kvs k) \/ ∃ kvs k b, Rd H a (.dT kvs) /\ y = .ref b /\ H b = some (.tup (k.map kV)) /\ r = gL kvs k
noncomputable def vO (H : Hp)(a : Addr)(y v : V)(H' : Hp):Prop :=
  (∃ kvs k, H a = some (.dK kvs) /\ y = kV k /\ kvs.length < sizeLine /\ H' = upd H a (.dK (putK kvs k v))) \/
  ∃ kvs k b, H a = some (.dT kvs) /\ y = .ref b /\ H b = some (.tup (k.map kV)) /\ kvs.length < sizeLine /\ H' = upd H a (.dT (putK kvs k v))
theorem uM.k {H : Hp}{a : Addr}{kvs : List (Key × V)}{k : Key}(e : H a = some (.dK kvs)):uM H a (kV k) (gL kvs k) := .inl ⟨kvs, k, .inl e, rfl, rfl⟩
theorem vO.k {H : Hp}{a : Addr}{kvs : List (Key × V)}{k : Key}{v : V}(e : H a = some (.dK kvs))(hl : kvs.length < sizeLine):vO H a (kV k) v (upd H a (.dK (putK kvs k v))) := .inl ⟨kvs, k, e, rfl, hl, rfl⟩
section
variable {X : Cx} {pins : List (Addr × Obj)} {σ : St} {H : Hp} {s : Shared} {a : Addr} {y v : V} {u r : Value} {o : Option V} {A : Around} {E : Value -> Shared -> Prop}
theorem Inv.big (I : Inv X pins σ H s):sysModules < s.heap.objs.size := by
  have h : mainGlobals < s.heap.objs.size := (I.mod.glob.keeps I.bk).lt;exact Nat.lt_trans (by decide) h
theorem DB {Q : Value -> Shared -> Prop}(hu : A.units + 1 < cLine)(I : Inv X pins σ H s)(g : uM H a y o)(ry : RelV y u)(h : ∀ s', Inv X pins σ H s' -> Q (.bool o.isSome) s') :
    wpAny (model X.prog X.w) A (compareOp .In u (.ref a)) Q E s := by
  rcases g with ⟨kvs, k, e, ey, l⟩ | ⟨kvs, k, b, e, ey, eb, l⟩
  · subst ey;obtain ⟨z, hd, vs, rel, dd⟩ := tV I.bc e;refine wpAny_in_of (qW ry) hd dd.mapOf ?_;rw [<- (rel.val k).iO, <- l];exact h _ (I.tok _)
  · subst ey;cases (show u = Value.ref b from ry);obtain ⟨z, hd, xs, rel, dd⟩ := wK I.bc e;refine wpAny_in_heap (tupleKind_room_in1 hu) (sx I.bc eb) hd dd ?_;have q := (rel.val k).iO;rw [Option.isSome_map] at q;rw [<- q, <- l];exact h _ (I.tok _)
theorem jF {h' : Heap}{t' : Nat}{ob : HO}(I : Inv X pins σ H s)(mu : BK (H a))(hs : Heap.SameBut a s.heap h')(he : ∃ q, h'.get? a = some q)(new : bM X.prog X.w (upd H a ob) h' a ob) :
    Inv X pins σ (upd H a ob) { s with heap := h', toks := t' } :=
  I.write (x := a) (e := a) mu (.inl rfl) (λb q hb z => (hs.2 b hb).trans z) he new
theorem sf {P : Program}{w : World}{H' : Hp}{h' : Heap}{kvs : List (Key × V)}{vs : List (Key × Value)}(z : kvs.length <= sizeLine)(hd : (a == sysModules) = false)(rel : KV kvs vs)(dd : h'.DictOf (bg P w) a vs) :
    bM P w H' h' a (.dK kvs) := ⟨z, hd, vs, rel, dd⟩
theorem uX {H' : Hp}{Q : Unit -> Shared -> Prop}(hu : A.units + 1 < cLine)(I : Inv X pins σ H s)(g : vO H a y v H')(ry : RelV y u)(rv : RelV v r)(h : ∀ s', Inv X pins σ H' s' -> Q () s') :
    wpAny (model X.prog X.w) A (setItem (.ref a) u r) Q E s := by
  rcases g with ⟨kvs, k, e, ey, l, eH⟩ | ⟨kvs, k, b, e, ey, eb, l, eH⟩
  · subst ey eH;obtain ⟨z, hd, vs, rel, dd⟩ := kH I.bc e;have hz : vs.length <= sizeLine := by rw [<- rel.length];exact z
    have hl : (putK kvs k v).length <= sizeLine := by have := kK kvs k v;lia
    refine wpAny_setItem_pairs (hsz := hz) (qW ry) dd λh' dd' hs => h _ ?_;have he : ∃ q, h'.get? a = some q := let ⟨q, _, _, hq, _⟩ := dd';⟨q, hq⟩
    exact jF I (by rw [e];exact True.intro) hs he (sf hl hd (rel.put k rv) dd')
  · subst ey eH;cases (show u = Value.ref b from ry);obtain ⟨z, hd, xs, rel, dd⟩ := BZ I.bc e;have hz : xs.length <= sizeLine := by rw [<- Paired.length rel];exact z
    have hl : (putK kvs k v).length <= sizeLine := by have := kK kvs k v;lia
    refine wpAny_setItem_heap (hsz := hz) (tupleKind_room_in1 hu) (sx I.bc eb) dd λh' dd' hs => h _ ?_;obtain ⟨q, es, ep, hq, h2, h3, h4, _, h5⟩ := dd';refine jF I (by rw [e];exact True.intro) hs ⟨q, hq⟩ ⟨hl, hd, _, (rel.put k eb rv).keeps λc ys ec => ?_, q, es, ep, hq, h2, h3, h4, h5⟩;rw [ah (iu ec e (λz => nomatch z))];exact ec
end
section
variable {X : Cx} {pins : List (Addr × Obj)} {σ : St} {H : Hp} {s : Shared} {a : Addr} {kvs : List (Key × V)} {k : Key} {u : Value} {A : Around} {E : Value -> Shared -> Prop}
theorem BA {Q : Unit -> Shared -> Prop}(I : Inv X pins σ H s)(e : H a = some (.dK kvs))(ry : RelV (kV k) u)(l : (gL kvs k).isSome = true)(h : ∀ s', Inv X pins σ (upd H a (.dK (fg kvs k))) s' -> Q () s') :
    wpAny (model X.prog X.w) A (delItem (.ref a) u) Q E s := by
  obtain ⟨z, hd, vs, rel, dd⟩ := kH I.bc e;refine wpAny_delItem_slot dd.typeIs (by decide) PySem.F.slot_dict_delitem
    (call_meetsIn PySem.F.slot_dict_delitem dd.typeIs PySem.F.entry_dict_delitem (PySem.F.args_dict_delitem_2 _ _) (meets_dict_delitem_pairs (bg X.prog X.w) a (qW ry)) ⟨vs, dd, by rw [<- rel.length];exact z, by rw [<- (rel.val k).iO];exact l, λh' dd' hs => h _ ?_⟩)
  have he : ∃ q, h'.get? a = some q := let ⟨q, _, _, hq, _⟩ := dd';⟨q, hq⟩
  exact jF I (by rw [e];exact True.intro) hs he (sf (Nat.le_trans (qF kvs k) z) hd (rel.drop k) dd')
theorem BY {v : V}{more : List Value}{Q : Value -> Shared -> Prop}(I : Inv X pins σ H s)(e : H a = some (.dK kvs))(ry : RelV (kV k) u)(l : gL kvs k = some v)(hm : more = [] \/ ∃ x, more = [x])
    (h : ∀ w' s', Inv X pins σ (upd H a (.dK (fg kvs k))) s' -> RelV v w' -> Q w' s'):wpAny (model X.prog X.w) A (call (.builtin "dict.pop") (.ref a :: u :: more)) Q E s := by
  obtain ⟨z, hd, vs, rel, dd⟩ := kH I.bc e;obtain ⟨w', hw, rw'⟩ := jh.some_of (v := v) (o := valueAt vs k) (by rw [<- l];exact rel.val k);have hp : (keyPart u).isSome = true := by
    cases k with
    | inl i => obtain ⟨t, q⟩ := (show ∃ t, u = Value.int i t from ry);subst q;rfl
    | inr x => obtain ⟨t, q⟩ := (show ∃ t, u = Value.str x t from ry);subst q;rfl
  have ha : argsOk "dict.pop" ⟨.ref a :: u :: more, []⟩ := by
    rcases hm with q | ⟨x, q⟩
    · subst q;exact PySem.F.args_dict_pop_2 _ _
    · subst q;exact PySem.F.args_dict_pop_3 _ _ _
  refine call_meetsIn PySem.F.slot_dict_pop dd.typeIs PySem.F.entry_dict_pop ha (meets_dict_pop_there (bg X.prog X.w) a (qW ry) more hm hp)
    ⟨vs, w', dd, by rw [<- rel.length];exact z, hw, λh' dd' hs => h w' _ ?_ rw'⟩
  have he : ∃ q, h'.get? a = some q := let ⟨q, _, _, hq, _⟩ := dd';⟨q, hq⟩
  exact jF I (by rw [e];exact True.intro) hs he (sf (Nat.le_trans (qF kvs k) z) hd (rel.drop k) dd')
theorem BX {Q : Value -> Shared -> Prop}(I : Inv X pins σ H s)(e : Rd H a (.dK kvs))(h : ∀ t s', Inv X pins σ H s' -> Q (.int kvs.length t) s'):wpAny (model X.prog X.w) A (call (.builtin "len") [.ref a]) Q E s := by
  obtain ⟨z, hd, vs, rel, dd⟩ := tV I.bc e;refine call_len_dict hd dd (by rw [<- rel.length];rw [sizeLine_eq] at z;lia) ?_;rw [<- rel.length];exact h _ _ (I.tok _)
end
noncomputable def Dt (i : Expr):Prop := ∀ ov iv, subscripted i false ov iv = operate [ov, iv] (getItem ov iv)
noncomputable def Ee (ty td : TE):TE := λσ H Q => ty σ H λy H1 => td σ H1 λx H2 => ∃ a o, x = .ref a /\ uM H2 a y o /\ Q (.bl o.isSome) H2
noncomputable def CI (td ty tv : TE):TS := λD σ H => tv σ H λv H1 => td σ H1 λx H2 => ty σ H2 λy H3 => ∃ a H4, x = .ref a /\ vO H3 a y v H4 /\ D.nx σ H4
section
variable {X : Cx} {o i e value : Expr} {pos pos' tpos : Pos} {td ty tv : TE}
theorem xt (hu : X.A.units + 1 < cLine)(hi : PE X i ty)(ho : PE X o td):PC X .In i o (Ee ty td) := by
  intro pins s σ H Q I h;refine cz (hi pins s σ H _ I h) λiv s1 ⟨y, H1, I1, ry, q1⟩ => cz (ho pins s1 σ H1 _ I1 q1) ?_;rintro u s2 ⟨x, H2, I2, rx, a, ov, ex, g, q2⟩;subst ex;obtain rfl : u = Value.ref a := rx;exact DB hu I2 g ry λs3 I3 => ⟨.bl ov.isSome, H2, I3, rfl, q2⟩
theorem zg (hu : X.A.units + 1 < cLine)(ho : PE X o td)(hi : PE X i ty)(hv : PE X value tv)(hs : swapsWith value (some (.Subscript o i pos')) pos.line X.env = pure false) :
    PS X (.Assign [.Subscript o i pos'] value pos) (CI td ty tv) := by
  intro pins s σ H D I h;refine wpAny_Assign_Subscript (cz (hv pins s σ H _ I h) λr s1 ⟨v, H1, I1, rv, q1⟩ => cz (ho pins s1 σ H1 _ I1 q1) λu s2 ⟨x, H2, I2, rx, q2⟩ => cz (hi pins s2 σ H2 _ I2 q2) ?_) hs;rintro iv s3 ⟨y, H3, I3, ry, a, H4, ex, g, q3⟩;subst ex;obtain rfl : u = Value.ref a := rx;exact uX hu I3 g ry rv λs4 I4 => ⟨σ, H4, I4, q3⟩
end
theorem wH {P : Program}{w : World}{H : Hp}(h : Heap)(hb : sysModules < h.objs.size):bM P w H (h.push { cls := .type "dict", data := .dict #[] }) h.objs.size (.dK []) :=
  ⟨Nat.zero_le _, beq_eq_false_iff_ne.mpr (Ne.symm (Nat.ne_of_lt hb)), [], .nil, Heap.DictOf.new h⟩
noncomputable def Bp : TE := λ_ H Q => ∀ p, H p = none -> Q (.ref p) (upd H p (.dK []))
section
variable {X : Cx} {pos : Pos}
theorem rq : PE X (.Dict [] [] pos) Bp := λpins s σ H Q I h =>
  wpAny_Dict_empty ⟨.ref s.heap.objs.size, _, I.laid (a := s.heap.objs.size) (o := .dK []) (t' := s.toks) (λ_ _ q => Heap.get?_push_of_some _ q) (Nat.le_refl _) (wH s.heap I.big), rfl, h _ (I.bc.fresh (Nat.le_refl _))⟩
end
structure M1 (X : Cx)(o : Expr)(m : Str)(apos : Pos)(e : Expr)(cpos : Pos):Prop where
  base : attributeBase o m X.env (eval o X.env) = eval o X.env
  Ez : ((backTo cpos (starEach [e] X.env)).all (λx => !x.1) && (backToKw cpos (keywordEach [] X.env)).all (λx => x.1.isSome)
    && decide (([e]:List Expr).length + ([]:List Keyword).length + (if ([]:List Keyword).isEmpty then 0 else 1) < 30)) = true
  line : (apos.endLine == cpos.line) = true
  trees : backTo cpos (starEach [e] X.env) = [(false, eval e X.env)]
structure M2 (X : Cx)(o : Expr)(m : Str)(apos : Pos)(e f : Expr)(cpos : Pos):Prop where
  base : attributeBase o m X.env (eval o X.env) = eval o X.env
  Ez : ((backTo cpos (starEach [e, f] X.env)).all (λx => !x.1) && (backToKw cpos (keywordEach [] X.env)).all (λx => x.1.isSome)
    && decide (([e, f]:List Expr).length + ([]:List Keyword).length + (if ([]:List Keyword).isEmpty then 0 else 1) < 30)) = true
  line : (apos.endLine == cpos.line) = true
  trees : backTo cpos (starEach [e, f] X.env) = [(false, eval e X.env), (false, eval f X.env)]
noncomputable def Er (H : Hp)(a : Addr):Prop := (∃ kvs, Rd H a (.dK kvs)) \/ ∃ kvs, Rd H a (.dT kvs)
theorem AD {X : Cx}{pins : List (Addr × Obj)}{σ : St}{H : Hp}{s : Shared}{a : Addr}(I : Inv X pins σ H s)(d : Er H a) :
    s.TypeIs (.ref a) "dict" /\ (∀ b, Value.ref a = .ref b -> ∃ ob, s.heap.get? b = some ob /\ ob.dict = none) /\ (a == sysModules) = false := by
  rcases d with ⟨kvs, e⟩ | ⟨kvs, e⟩
  · obtain ⟨_, hd, vs, _, dd⟩ := tV I.bc e;refine ⟨dd.typeIs, λb q => ?_, hd⟩;cases q;obtain ⟨ob, _, _, h1, h2, _⟩ := dd;exact ⟨ob, h1, h2.2.1⟩
  · obtain ⟨_, hd, xs, _, dd⟩ := wK I.bc e;refine ⟨dd.typeIs, λb q => ?_, hd⟩;cases q;obtain ⟨ob, _, _, h1, h2, _⟩ := dd;exact ⟨ob, h1, h2.2.1⟩
section
variable {X : Cx} {pins : List (Addr × Obj)} {σ : St} {H : Hp} {s : Shared} {a : Addr} {y d : V} {u r : Value} {o : Option V} {A : Around} {E : Value -> Shared -> Prop}
end
noncomputable def Bq (td ty : TE):TE := λσ H Q => td σ H λx H1 => ∃ a, x = .ref a /\ Er H1 a /\ ty σ H1 λy H2 => ∃ kvs k v, H2 a = some (.dK kvs) /\ y = kV k /\ gL kvs k = some v /\ Q v (upd H2 a (.dK (fg kvs k)))
section
variable {X : Cx} {o e f : Expr} {apos cpos : Pos} {td ty tx : TE}
theorem xw (ho : PE X o td)(he : PE X e ty)(m : M1 X o "pop" apos e cpos):PE X (.Call (.Attribute o "pop" apos) [e] [] cpos) (Bq td ty) := by
  intro pins s σ H Q I h;refine wpAny_Call_method m.base m.Ez m.line PySem.F.plainAttrs_dict PySem.F.slot_dict_pop PySem.F.type_dict_pop (cz (ho pins s σ H _ I h) ?_);rintro u s1 ⟨x, H1, I1, rx, a, ex, d, q1⟩;subst ex;obtain rfl : u = Value.ref a := rx;obtain ⟨t1, t2, _⟩ := AD I1 d;refine ⟨t1, t2, ?_⟩;rw [m.trees];refine Calls.callWith_builtin rfl (Calls.evalArgs_plain (Calls.spliced_cons (cz (he pins s1 σ H1 _ I1 q1) λiv s2 ⟨y, H2, I2, ry, kvs, k, v, ea, ey, l, q2⟩ => Calls.spliced_nil ?_)));subst ey;exact BY I2 ea ry l (.inl rfl) λw' s3 I3 rw' => ⟨v, _, I3, rw', q2⟩
end
section
variable {X : Cx} {pins : List (Addr × Obj)} {σ : St} {H : Hp} {s : Shared} {a : Addr} {kvs : List (Key × V)} {A : Around} {E : Value -> Shared -> Prop}
end
section
variable {X : Cx} {pins : List (Addr × Obj)} {σ : St} {H : Hp} {s : Shared} {a : Addr} {y : V} {u : Value} {A : Around} {E : Value -> Shared -> Prop}
end
section
variable {X : Cx}
theorem uP : fO X (.builtin "len") (λxs H Q => ∃ a kvs, xs = [V.ref a] /\ H a = some (.dK kvs) /\ Q (.int kvs.length) H) := by
  intro pins s σ H xs us Q I r h;obtain ⟨a, kvs, rfl, ha, q⟩ := h;obtain ⟨u, rfl, ru⟩ := vals1 r;cases ru;exact BX I (.inl ha) λt s' I' => ⟨.int kvs.length, H, I', ⟨t, rfl⟩, q⟩
end
section
variable {κ : Type} [DecidableEq κ]
theorem u3 {p : κ × V}{r : List (κ × V)}{k : κ}(e : p.1 = k):fg (p :: r) k = fg r k := by
  unfold fg;rw [filter_cons, if_neg (by simp [e])]
theorem uZ {p : κ × V}{r : List (κ × V)}{k : κ}(e : ¬ p.1 = k):fg (p :: r) k = p :: fg r k := by
  unfold fg;rw [filter_cons, if_pos (by simp [e])]
end
end L2
set_option maxHeartbeats 4000000
namespace L2
open PySem PySem.Spec PyProof.Rows PySem.W
noncomputable def tw (v d : Addr):HO := .ext λh => h.IsValuesView v d
theorem pN {prog : Program}{w : World}{d : Addr}(hd : (d == sysModules) = false):MeetsIn prog w (Builtin.«dict.values» ⟨[.ref d], []⟩) (λA R s => s.TypeIs (.ref d) "dict" /\
    R (.ok (.ret (.ref s.heap.objs.size))) { s with heap := s.heap.push { cls := .type "dict_values", data := .fields #[.ref d] } }) :=
  .of_wp<|by
    rintro A R s ⟨ty, h⟩;unfold Builtin.«dict.values»;show wpAny _ _ (Builtin.Dict.noArgs "values" ⟨[.ref d], []⟩ >>= λd => Builtin.Dict.showsAll d >>= λ_ => newFields "dict_values" [.ref d] >>= λr => ret r) _ _ s;refine wpAny_bind ?_;unfold Builtin.Dict.noArgs;refine wpAny_bind (wpAny_notOrdered_dict ty ?_);show wpAny _ _ (pure d) _ _ s;refine wpAny_pure ?_;unfold Builtin.Dict.showsAll;rw [hd];refine wpAny_bind (wpAny_pure ?_);refine wpAny_bind ?_;show wpAny _ _ (if (#[Value.ref d]:Array Value).size > sizeLine + 2 then ((unsupported "record:memory" : Sem PUnit) >>= λ_ => newObjAsIs (.type "dict_values") (.fields #[.ref d]) none) else newObjAsIs (.type "dict_values") (.fields #[.ref d]) none) _ _ s;rw [if_neg (by show ¬ 1 > sizeLine + 2;lia)];unfold newObjAsIs;refine wpAny_bind (wpAny_alloc ?_);exact wpAny_pure (wpAny_pure ⟨_, rfl, h⟩)
section
variable {X : Cx}
noncomputable def zo : V -> List V -> Hp -> VK -> Prop := λx vs H Q => ∃ d kvs, x = .ref d /\ vs = [] /\ H d = some (.dK kvs) /\ ∀ v, H v = none -> Q (.ref v) (upd H v (tw v d))
theorem vx : C9 X "dict.values" zo := by
  rintro pins s σ H x xs v us Q I rx r ⟨d, kvs, rfl, rfl, e, q⟩;cases r;cases (show v = Value.ref d from rx);obtain ⟨z, hd, vs, rel, dd⟩ := kH I.bc e;refine call_meetsIn PySem.F.slot_dict_values dd.typeIs PySem.F.entry_dict_values (PySem.F.args_dict_values_1 _) (pN hd) ⟨dd.typeIs, ?_⟩;have e1 : (s.heap.push { cls := .type "dict_values", data := .fields #[.ref d] }).get? s.heap.objs.size = some ({ cls := .type "dict_values", data := .fields #[.ref d] }:Obj) := Heap.get?_push_size _ rfl;refine ⟨.ref s.heap.objs.size, _, I.laid (t' := s.toks) (λb u q => Heap.get?_push_of_some _ q) (Nat.le_refl _) (o := tw s.heap.objs.size d) ⟨⟨_, e1, rfl, rfl⟩, ⟨_, e1⟩, λh1 h2 p k => ?_⟩, rfl, q _ (I.bc.fresh (Nat.le_refl _))⟩;obtain ⟨o, p1, p2, p3⟩ := p;exact ⟨o, k _ p1, p2, p3⟩
noncomputable def Be : List V -> Hp -> VK -> Prop := λxs H Q => ∃ v d kvs, xs = [V.ref v] /\ H v = some (tw v d) /\ H d = some (.dK kvs) /\ ∀ l, H l = none -> Q (.ref l) (upd H l (.lst (kvs.map (·.2))))
theorem rY (hc : X.calm = true):fO X (.type "list") Be := by
  intro pins s σ H xs us Q I r h;obtain ⟨v, d, kvs, rfl, ev, ed, q⟩ := h;obtain ⟨u, rfl, ru⟩ := vals1 r;cases ru;obtain ⟨z, hd, vs, rel, dd⟩ := kH I.bc ed;have vw : s.heap.IsValuesView v d := ((I.bc v _ ev : bM _ _ _ _ _ (tw v d))).1;obtain ⟨o, es, ep, dA⟩ := id dd;have hl : kvs.length = vs.length := rel.length;refine kdl_call (kdl_values (knd := bg X.prog X.w) (ep := ep)) (I.ok.hd hc) ⟨vw, o, es, dA⟩ (by rw [<- hl];exact z) λh' tk acc' c' k' hD hacc => ?_;have ea : acc'.toList = vs.map (·.2) := by
    refine List.ext_getElem? λj => ?_;rw [getElem?_map, Array.getElem?_toList];by_cases hj : j < vs.length
    · have h1 : acc'[j]? = some (acc'[j]'(by rw [hacc.1];exact hj)) := Array.getElem?_eq_getElem _;obtain ⟨k, e1⟩ := hacc.2 j _ h1;rw [h1, e1];rfl
    · rw [Array.getElem?_eq_none (by rw [hacc.1];lia), List.getElem?_eq_none (by lia)];rfl
  have rv : Vals (kvs.map (·.2)) (vs.map (·.2)) := by
    clear ea hacc hD dA dd q z hl ed;induction rel with
    | nil => exact .nil
    | cons f _ ih => exact .cons f.2 ih
  refine ⟨.ref _, _, I.laid (t' := tk) k' (Nat.le_refl _) (o := .lst (kvs.map (·.2))) ⟨by rw [length_map];exact z, vs.map (·.2), c', rv, ?_⟩, rfl, q _ (I.bc.fresh (Nat.le_refl _))⟩;rw [<- ea, Array.toArray_toList];exact hD
end
end L2
namespace DL
open PySem L2
noncomputable def d3 (p : Int × Int × Int):D := .tup [.int p.1, .int p.2.1, .int p.2.2]
theorem yB {K : Frag}{G : Hp}{es : List (Key × V)}{kvs : List (Int × Int × Int × Int)}(h : Paired (E3 G) es kvs):bx K G (es.map (·.2)) (kvs.map λp => d3 p.2) := by
  induction h with
  | nil => exact .nil
  | cons f _ ih =>
    obtain ⟨_, t, e, g⟩ := f;refine .cons ?_ ih;show Rep K G _ (d3 _);dsimp only;rw [e];exact Rep.kC g (.cons (.int _) (.cons (.int _) (.cons (.int _) .nil)))
theorem Rep.tW {K : Frag}{G : Hp}{v : V}{kvs : List (Int × Int × Int × Int)}(h : Rep K G v (.ext (.dki kvs))):∃ a es, v = .ref a /\ G a = some (.dK es) /\ Paired (E3 G) es kvs := by
  cases h with
  | ext h => obtain ⟨es, h1, h2⟩ := h;exact ⟨_, es, rfl, h1, h2⟩
section
variable {X : Cx} {o : Expr} {te : DT}
noncomputable def ui (d : D)(Q : B -> Prop):Prop := match d with
  | .ext (.dki kvs) => Q (.o (.lst (kvs.map λp => d3 p.2)))
  | _ => False
noncomputable def rZ (te : DT):DT := λρ Q => te ρ λb => ui b.val Q
set_option tactic.hygienic true in
theorem qD {apos cpos pl pos : Pos}(hc : X.calm = true)(hgl : Gl X "list")(hml : X.mg "list" = none)(ho : DE X o te)(hbase :autoParam (attributeBase o "values" X.env (eval o X.env) = eval o X.env) aZa._auto_1)(hline :autoParam ((apos.endLine == cpos.line) = true) aZa._auto_1)
    (he :autoParam (starEach [.Call (.Attribute o "values" apos) [] [] cpos] X.env = (false, eval (.Call (.Attribute o "values" apos) [] [] cpos) X.env) :: starEach [] X.env) aZa._auto_1):DE X (.Call (.Name "list" pl) [.Call (.Attribute o "values" apos) [] [] cpos] [] pos) (rZ te) := by
  have hp := au (xu PySem.F.plainAttrs_dict PySem.F.slot_dict_values PySem.F.type_dict_values vx ho.pe hbase hline) aY he;refine DE.of (oq (rY hc) hgl hml boot_list hp (he := he) (hpl := rfl)) ?_;rintro σ H Q ⟨G, ρ, P, s, re, h, k⟩;refine ⟨G, ρ, _, s, re, h, λb v H1 G1 p1 w1 r1 => ?_⟩;obtain ⟨G2, w2, r2⟩ := r1.give w1;unfold ui at p1;split at p1
  · rename_i kvs e;rw [e] at r2;obtain ⟨a, es, rfl, g1, pr⟩ := r2.tW;have h1 := w2.gh _ _ g1;refine ⟨.inr (.inr (.inl ⟨rfl, .inl ⟨_, h1⟩⟩)), a, es, rfl, rfl, h1, λy hy => ?_⟩;have na : a ≠ y := aI h1 hy;refine ⟨y, a, es, rfl, aq, by rw [ah na];exact h1, λl hl => ?_⟩;have ly : l ≠ y := λz => by rw [z, aq] at hl;cases hl
    rw [ah ly] at hl;have g2l : G2 l = none := w2.gh.free hl;have g2y : G2 y = none := w2.gh.free hy;refine k _ _ _ G2 p1 ((w2.own (w2.hh.free hy) g2y).own (w2.hh.free hl) g2l) ⟨l, rfl, w2.hh.free hl, g2l, _, aq, yB pr⟩
  · exact p1.elim
end
end DL
set_option maxHeartbeats 4000000
namespace DL
open PySem L2
theorem Rep.iR {K : Frag}{G : Hp}{v : V}{C : Addr}{g n : Int}{hs cs : List (Int × Int × Int × Int)}(h : Rep K G v (.ext (.obj C g hs cs n))):∃ a dx b c, v = .ref a /\ G a = some (.ins C dx (eI g b c n)) /\ bL G G b hs /\ bL G G c cs := by
  cases h with
  | ext h => obtain ⟨dx, b, c, h1, h2, h3⟩ := h;exact ⟨_, dx, b, c, rfl, h1, h2, h3⟩
theorem Bi {α : Type}{a : α}{p : Prop}:(a = a /\ p) = p := by simp
theorem BP (d : D):(B.p d).val = d := rfl
theorem BO (d : D):(B.o d).val = d := rfl
theorem v9 (ds : List D):(B.n .tup ds).val = .tup ds := rfl
theorem v5 (ds : List D):(B.n .lst ds).val = .lst ds := rfl
theorem zE (g : Int)(x y : D):(B.n (.wk g) [x, y]).val = .tup [.int g, x, y] := rfl
theorem v7 (C : Addr)(g n : Int)(hs cs : List (Int × Int × Int × Int)):(B.n (.obj C g n) [.ext (.dki hs), .ext (.dki cs)]).val = .ext (.obj C g hs cs n) := rfl
noncomputable def mY (C : Addr)(f : Int -> List (Int × Int × Int × Int) -> List (Int × Int × Int × Int) -> Int -> Prop):D -> Prop
  | .ext (.obj C' g hs cs n) => C' = C /\ f g hs cs n
  | _ => False
theorem lF {C : Addr}{f : Int -> List (Int × Int × Int × Int) -> List (Int × Int × Int × Int) -> Int -> Prop}{d : D}(h : mY C f d):∃ g hs cs n, d = .ext (.obj C g hs cs n) /\ f g hs cs n := by
  unfold mY at h;split at h
  · obtain ⟨rfl, h⟩ := h;exact ⟨_, _, _, _, rfl, h⟩
  · exact h.elim
noncomputable abbrev Sel := Int -> List (Int × Int × Int × Int) -> List (Int × Int × Int × Int) -> Int -> D
noncomputable def Bk : Sel := λg _ _ _ => .int g
noncomputable def xS : Sel := λ_ hs _ _ => .ext (.dki hs)
noncomputable def sV : Sel := λ_ _ cs _ => .ext (.dki cs)
noncomputable def Am (C : Addr)(sel : Sel)(te : DT):DT := λρ Q => te ρ λb => mY C (λg hs cs n => Q (.p (sel g hs cs n))) b.val
noncomputable def tq (f : Str)(sel : Sel):Prop := ∀ (K : Frag) (G : Hp) g hs cs n b c, bL G G b hs -> bL G G c cs -> ∃ v, (eI g b c n).lookup f = some v /\ Rep K G v (sel g hs cs n)
theorem uD : tq "gap" Bk := λK G g hs cs n b c h1 h2 => ⟨.int g, rfl, .int g⟩
theorem xT : tq "hots" xS := λK G g hs cs n b c h1 h2 => ⟨.ref b, rfl, .ext h1⟩
theorem vE : tq "colds" sV := λK G g hs cs n b c h1 h2 => ⟨.ref c, rfl, .ext h2⟩
section
variable {X : Cx} {C : Addr} {o e : Expr} {es : List Expr} {te : DT} {ta : eF} {m f x : Str} {k : Nat} {ps : List Str} {pos apos epos : Pos} {R : DR}
theorem oN {sel : Sel}(cl : hJ X.K C)(na : ee X.K C f)(so : tq f sel)(ho : DE X o te)(hb :autoParam (attributeBase o f X.env (eval o X.env) = eval o X.env) aZa._auto_1):DE X (.Attribute o f pos) (Am C sel te) :=
  DE.of (gj ho.pe hb)<|by
    rintro σ H Q ⟨G, ρ, P, s, re, h, k⟩;refine ⟨G, ρ, _, s, re, h, λb v H1 G1 p1 w1 r1 => ?_⟩;obtain ⟨G2, w2, r2⟩ := r1.give w1;obtain ⟨g, hs, cs, n, e, p1⟩ := lF p1;rw [e] at r2;obtain ⟨a, dx, y, z, rfl, h1, h2, h3⟩ := r2.iR;obtain ⟨v, l, rv⟩ := so X.K G2 g hs cs n y z h2 h3;exact ⟨a, C, dx, _, v, rfl, w2.gh _ _ h1, cl, na, l, k _ _ H1 G2 p1 w2 rv⟩
structure tj (P : Program)(w : World)(K : Frag)(mg : Str -> Option Value)(base : Heap)(C : Addr)(m : Str)(k : Nat)(ps : List Str)(R : DR):Prop where
  ex : ∃ f fd, aM P w K mg base gM k f fd ps (fN K R) /\ Meth K C m f /\ Binds K fd ps []
structure yi (P : Program)(w : World)(K : Frag)(mg : Str -> Option Value)(base : Heap)(C : Addr)(m : Str)(k : Nat)(ps : List Str)(R : rT):Prop where
  ex : ∃ f fd, aM P w K mg base (g9 P w) k f fd ps (vL K R) /\ Meth K C m f /\ Binds K fd ps []
noncomputable def tm (m : Str):Prop := ∀ g b c n, (eI g b c n).lookup m = none
theorem jc {P : Program}{w : World}{K : Frag}{mg : Str -> Option Value}{base : Heap}{f : Addr}{fd : FuncData}(ok : aM P w K mg base gM k f fd ps (fN K R))(hm : Meth K C m f)(hb : Binds K fd ps []):tj P w K mg base C m k ps R := ⟨f, fd, ok, hm, hb⟩
theorem ml {P : Program}{w : World}{K : Frag}{mg : Str -> Option Value}{base : Heap}{f : Addr}{fd : FuncData}{R : rT}(ok : aM P w K mg base (g9 P w) k f fd ps (vL K R))(hm : Meth K C m f)(hb : Binds K fd ps []):yi P w K mg base C m k ps R := ⟨f, fd, ok, hm, hb⟩
theorem yi.drop {P : Program}{w : World}{K : Frag}{mg : Str -> Option Value}{base : Heap}{R : rT}(F : yi P w K mg base C m k ps R):tj P w K mg base C m k ps (λds Q => R ds Q λ_ => False) := by
  obtain ⟨f, fd, G, h1, h2⟩ := F.ex;exact ⟨f, fd, aM.drop (G.imp (sp' := fN K λds Q => R ds Q λ_ => False) (by rintro vs H Q E ⟨ds, g, P, a, b, c, d⟩;exact ⟨ds, g, P, _, a, b, c, d, λ_ _ z => z.elim⟩)) (λvs H Q E z => z), h1, h2⟩
noncomputable def Ap (C : Addr)(R : DR)(te : DT)(ta : eF):DT := λρ Q => te ρ λb => mY C (λg hs cs n => ta ρ λds => R (.ext (.obj C g hs cs n) :: ds) Q) b.val
theorem uj {K : Frag}{C : Addr}{m : Str}{sp : Sp}{E : XK}{te : DT}{ta : eF}{len : Nat}{σ : St}{H G : Hp}{ρ : aH}{Q : VK}(nf : tm m)(s : av G H)(re : cy K G σ ρ){W : Int -> List (Int × Int × Int × Int) -> List (Int × Int × Int × Int) -> Int -> List D -> Prop}
    (h : te ρ λb => mY C (λg hs cs n => ta ρ (W g hs cs n)) b.val)
    (k : ∀ g hs cs n ds v vs H2 G2, W g hs cs n ds -> Wd H G H2 G2 -> Rep K G2 v (.ext (.obj C g hs cs n)) -> bx K G2 vs ds -> sp (v :: vs) H2 Q E):xX C m sp [] E (cE K te) (cA K len ta) σ H Q := by
  refine ⟨G, ρ, _, s, re, h, λb v H1 G1 p1 w1 r1 => ?_⟩;obtain ⟨G2, w2, r2⟩ := r1.give w1;obtain ⟨g, hs, cs, n, e, p1⟩ := lF p1;rw [e] at r2;obtain ⟨a, dx, y, z, rfl, h1, h2, h3⟩ := id r2.iR;refine ⟨a, dx, _, rfl, w2.gh _ _ h1, nf g y z n, G2, ρ, _, w2.gh, re.mono w2.gg, p1, λds vs H3 G3 p3 l3 w3 r3 => ?_⟩;show sp (V.ref a :: (vs ++ [])) H3 Q E;rw [append_nil];exact k g hs cs n ds _ vs H3 G3 p3 (w2.trans w3) (r2.mono w3.gg) r3
theorem jk {pl : Sem Bool}(F : tj X.prog X.w X.K X.mg X.base C m k ps R)(cl : hJ X.K C)(nf : tm m)(hr : cZ k X.A)(ho : DE X o te)(ha : DA X (e :: es) ta)
    (hst :autoParam (starEach (e :: es) X.env = (false, eval e X.env) :: starEach es X.env) aZa._auto_1) (hpl :autoParam ((backTo pos (starEach es X.env)).any (·.1) = false) aZa._auto_1)
    (ht :autoParam (eval (.Call (.Attribute o m apos) (e :: es) [] pos) X.env = (do
      let ov <- eval o X.env
      standAt apos.atName
      let (f, first) <- holding [ov] (getMethod ov m pl)
      callWith pos f first (backTo pos (starEach (e :: es) X.env)) (backToKw pos (keywordEach [] X.env)))) aZa._auto_1):DE X (.Call (.Attribute o m apos) (e :: es) [] pos) (Ap C R te ta) := by
  obtain ⟨f, fd, F, hm, hb⟩ := F.ex;exact DE.of (eA (pl := pl) ho.pe cl hm F hr hb .nil rm ha.pa hst hpl ht) λσ H Q ⟨G, ρ, P, s, re, h, k⟩ =>
    uj nf s re h λg hs cs n ds v vs H2 G2 p2 w2 r2 rr => ⟨_, G2, P, w2.gh, .cons r2 rr, p2, n4 k w2⟩
noncomputable def wm (C : Addr)(R : DR)(te : DT):DT := λρ Q => te ρ λb => mY C (λg hs cs n => R [.ext (.obj C g hs cs n)] Q) b.val
theorem cR {pl : Sem Bool}(F : tj X.prog X.w X.K X.mg X.base C m k ps R)(cl : hJ X.K C)(nf : tm m)(hr : cZ k X.A)(ho : DE X o te)
    (ht :autoParam (eval (.Call (.Attribute o m apos) [] [] pos) X.env = (do
      let ov <- eval o X.env
      standAt apos.atName
      let (f, first) <- holding [ov] (getMethod ov m pl)
      callWith pos f first (backTo pos (starEach [] X.env)) (backToKw pos (keywordEach [] X.env)))) aZa._auto_1):DE X (.Call (.Attribute o m apos) [] [] pos) (wm C R te) := by
  obtain ⟨f, fd, F, hm, hb⟩ := F.ex;refine DE.of (xy (pl := pl) ho.pe cl hm F hr hb .nil rm ht) ?_;rintro σ H Q ⟨G, ρ, P, s, re, h, k⟩;refine ⟨G, ρ, _, s, re, h, λb v H1 G1 p1 w1 r1 => ?_⟩;obtain ⟨G2, w2, r2⟩ := r1.give w1;obtain ⟨g, hs, cs, n, e, p1⟩ := lF p1;rw [e] at r2;obtain ⟨a, dx, y, z, rfl, h1, h2, h3⟩ := id r2.iR;exact ⟨a, dx, _, rfl, w2.gh _ _ h1, nf g y z n, [_], G2, P, w2.gh, .cons r2 .nil, p1, n4 k w2⟩
end
section
variable {X : Cx} {H0 : Hp} {E : XK} {Z : Value -> Prop} {o e : Expr} {es : List Expr} {te : DT} {pos apos epos : Pos} {m : Str} {k : Nat} {ps : List Str} {R : rT} {tA : eF} {C : Addr} {pl : Sem Bool}
variable (bd : Body X E) (hZ : ∀ cls H', Z cls -> av H0 H' -> E cls none H') (F : yi X.prog X.w X.K X.mg X.base C m k ps R) (cl : hJ X.K C) (nf : tm m) (hr : cZ k X.A) (ho : DE X o te) (ha : DA X (e :: es) tA)
noncomputable def wq (C : Addr)(R : rT)(Z : Value -> Prop)(te : DT)(ta : eF):DT := λρ Q => te ρ λb => mY C (λg hs cs n => ta ρ λds => R (.ext (.obj C g hs cs n) :: ds) Q Z) b.val
include bd hZ F cl nf hr ho ha
theorem qJ (hst :autoParam (starEach (e :: es) X.env = (false, eval e X.env) :: starEach es X.env) aZa._auto_1)(hpl :autoParam ((backTo pos (starEach es X.env)).any (·.1) = false) aZa._auto_1)
    (ht :autoParam (eval (.Call (.Attribute o m apos) (e :: es) [] pos) X.env = (do
      let ov <- eval o X.env
      standAt apos.atName
      let (f, first) <- holding [ov] (getMethod ov m pl)
      callWith pos f first (backTo pos (starEach (e :: es) X.env)) (backToKw pos (keywordEach [] X.env)))) aZa._auto_1)
    (hs :autoParam (swapsWith (.Call (.Attribute o m apos) (e :: es) [] pos) none epos.line X.env = pure false) aZa._auto_1):DX X H0 (.Expr (.Call (.Attribute o m apos) (e :: es) [] pos) epos) (λE ρ => wq C R Z te tA (cq ρ) λ_ => E.nx ρ) := by
  obtain ⟨f, fd, F, hm, hb⟩ := F.ex;refine DX.mk λG0 => PS.imp (dY (eA (pl := pl) ho.pe cl hm F hr hb .nil (bd.passes λ_ _ _ h => h) ha.pa hst hpl ht) hs) ?_;rintro Dn σ H ⟨Ed, G, ρ, eo, w, en, h⟩;obtain ⟨G1, w1, sg, e1⟩ := en.freeze w;exact uj nf w1.gh e1.p h λg hs cs n ds v vs H2 G2 p2 w2 r2 rr => ⟨_, G2, _, Z, w2.gh, .cons r2 rr, p2, λb v H3 G3 p3 w3 r3 => eo.nx σ H3 G ρ (w.back (w2.trans w3)) (en.back (w2.trans w3).hh) p3, λcls H3 z s3 => hZ cls H3 z ((w.hh.trans w2.hh).trans s3)⟩
end
section
variable {X : Cx} {e : Expr} {te : DT} {pos p : Pos}
noncomputable def dE (kvs : List (Int × Int × Int × Int))(n : Int):Bool := decide (n ∈ kvs.map (·.1))
theorem mL {G : Hp}{es : List (Key × V)}{kvs : List (Int × Int × Int × Int)}(n : Int)(h : Paired (E3 G) es kvs):(gL es (Sum.inl n)).isSome = dE kvs n := by
  unfold dE;induction h with
  | nil => rfl
  | @cons a b l r f _ ih =>
    by_cases c : b.1 = n
    · rw [iM (by rw [f.1, c]), decide_eq_true (by rw [map_cons, c];exact mem_cons_self)];rfl
    · rw [iL (by rw [f.1];intro z;exact c (Sum.inl.inj z)), ih, decide_eq_decide, map_cons, List.mem_cons];exact ⟨.inr, λz => z.resolve_left λy => c y.symm⟩
noncomputable def BV : D2 := λx y Q => match x, y with
  | .int n, .ext (.dki kvs) => Q (.p (.bl (dE kvs n)))
  | _, _ => False
noncomputable def tP : DR := λds Q => match ds with
  | [.ext (.dki kvs)] => Q (.p (.int kvs.length))
  | _ => False
theorem yt : CallD X (.builtin "len") tP := by
  refine ⟨_, uP, λH G vs ds P Q s r h k => ?_⟩;unfold tP at h;split at h
  · obtain ⟨v, rfl, rv⟩ := gI r;obtain ⟨a, es, rfl, g, pr⟩ := rv.tW;refine ⟨a, es, rfl, s _ _ g, ?_⟩;rw [Paired.length pr];exact k _ _ H G h (Wd.refl s) (.int _)
  · exact h.elim
end
end DL
set_option maxHeartbeats 4000000
namespace DL
open PySem L2
noncomputable def zx (b0 b1 b2 : B)(Q : B -> Prop):Prop := match b0.val, b1, b2 with
  | .int g, .o d1, .o d2 => Q (.n (.wk g) [d1, d2])
  | _, _, _ => False
noncomputable def wx (t0 t1 t2 : DT):DT := λρ Q => t0 ρ λb0 => t1 ρ λb1 => t2 ρ λb2 => zx b0 b1 b2 Q
section
variable {X : Cx} {e0 e1 e2 : Expr} {t0 t1 t2 : DT} {pos : Pos}
set_option tactic.hygienic true in
theorem yx {kx}(h0 : DE X e0 t0)(h1 : DE X e1 t1)(h2 : DE X e2 t2)(hs0 :autoParam (starEach (e0 :: [e1, e2]) X.env = (false, eval e0 X.env) :: starEach [e1, e2] X.env) aZa._auto_1)(hs1 :autoParam (starEach (e1 :: [e2]) X.env = (false, eval e1 X.env) :: starEach [e2] X.env) aZa._auto_1)(hs2 :autoParam (starEach (e2 :: []) X.env = (false, eval e2 X.env) :: starEach [] X.env) aZa._auto_1):DE X (.Tuple [e0, e1, e2] kx pos) (wx t0 t1 t2) := by
  refine DE.of (jt (au h0.pe (au h1.pe (au h2.pe aY hs2) hs1) hs0)) ?_;rintro σ H Q ⟨G, ρ, P, s, re, h, k⟩;refine ⟨G, ρ, _, s, re, h, λb0 v0 H1 G1 p1 w1 r1 => ?_⟩;obtain ⟨G1', w1', r1'⟩ := r1.give w1;refine ⟨G1', ρ, _, w1'.gh, re.mono w1'.gg, p1, λb1 v1 H2 G2 p2 w2 r2 => ?_⟩;refine ⟨G2, ρ, _, w2.gh, (re.mono w1'.gg).mono w2.gg, p2, λb2 v2 H3 G3 p3 w3 r3 => ?_⟩;unfold zx at p3;split at p3
  · rename_i g d1 d2 e;rw [e] at r1';cases r1';obtain ⟨l1, rfl, n1, o1⟩ := r2;obtain ⟨l2, rfl, n2, o2⟩ := r3;have o1' : dN X.K G3 H3 l1 d1 := o1.fq w3.gg (by rw [w3.old l1 o1.chg];exact o1.1) λo q => w3.hh _ _ q;have l12 : l1 ≠ l2 := λz => o1.there (z ▸ n2);have w := (w1'.trans w2).trans w3;refine ⟨(show 3 <= sizeLine by decide), λp hp => ?_⟩;have st : ∀ (a : Addr) (d : D), dN X.K G3 H3 a d -> dN X.K (upd G3 p (.tup [.int g, .ref l1, .ref l2])) (upd H3 p (.tup [.int g, .ref l1, .ref l2])) a d := λa d o => by
      have ne : a ≠ p := λz => o.there (z ▸ hp);exact o.fq ((av.refl _).upd (w.gh.free hp)) (by rw [ah ne];exact o.1) λob q => by rw [ah ne];exact q
    refine k _ _ _ _ p3 (w.new hp) ⟨p, [l1, l2], rfl, by simp [l12], .cons ⟨w1'.hh.free n1, st _ _ o1'⟩ (.cons ⟨(w1'.trans w2).hh.free n2, st _ _ o2⟩ .nil), ?_⟩;exact ⟨l1, l2, rfl, aq⟩
  · exact p3.elim
end
theorem cM.wY {K : Frag}{H0 G H : Hp}{σ : St}{ρ : aH}{i j : Nat}{t : Ct}{dss ds : List D}(e : cM K H0 G H σ ρ)(h1 : bf ρ i = some (.n t dss))(hj : dss[j]? = some (.lst ds)) :
    ∃ a as x vs, σ[i]? = some (some (.ref a)) /\ t.On True G H a as /\ as[j]? = some x /\ H x = some (.lst vs) /\ bx K G vs ds /\ H0 x = none /\ G x = none /\ ∀ vs' ds', bx K G vs' ds' -> cM K H0 G (upd H x (.lst vs')) σ (dput ρ i (.n t (dss.set j (.lst ds')))) := by
  obtain ⟨o, e⟩ := e;obtain ⟨a, k1, as, nd, pr, q⟩ := e.n i t dss h1;obtain ⟨x, hx, x0, xo, gx, vs, ex, rx⟩ := cP pr hj;have mx : x ∈ as := mem_of_getElem? hx;refine ⟨a, as, x, vs, k1, q.imp (av.refl _) λf g _ => ⟨trivial, g, λ_ z => z⟩, hx, ex, rx, x0, gx, λvs' ds' r => ?_⟩;refine ⟨o, by rw [ip];exact e.len, λj' d q => ?_, λj' d q => ?_, λj' t' dss' q' => ?_⟩
  · rcases cD q with ⟨rfl, _, q⟩ | ⟨hne, q⟩
    · cases q
    · exact e.p j' d q
  · rcases cD q with ⟨rfl, _, q⟩ | ⟨hne, q⟩
    · cases q
    · obtain ⟨b, k1, k2, k2', k3⟩ := e.o j' d q;refine ⟨b, k1, k2, k2', k3.fq (av.refl _) k3.1 λo z => ?_⟩;have : b ≠ x := by
        rintro rfl;exact hne (xo.symm.trans k2')
      rw [ah this];exact z
  · rcases cD q' with ⟨rfl, _, q'⟩ | ⟨hne, q'⟩
    · cases q';refine ⟨a, k1, as, nd, aB (by rw [length_set];exact Paired.length pr) λk y d h3 h4 => ?_, ?_⟩
      · by_cases c : j = k
        · subst c;rw [hx] at h3;cases h3;have hl : j < dss.length := (List.getElem?_eq_some_iff.mp hj).1;rw [List.getElem?_set_self hl] at h4;cases h4;exact ⟨x0, xo, gx, vs', aq, r⟩
        · rw [List.getElem?_set_ne c] at h4;obtain ⟨z0, z1, z2⟩ := eO pr k y d h3 h4;have ny : y ≠ x := by
            rintro rfl;obtain ⟨l1, e1⟩ := List.getElem?_eq_some_iff.mp hx;obtain ⟨l2, e2⟩ := List.getElem?_eq_some_iff.mp h3;exact c ((List.getElem_inj nd).mp (e1.trans e2.symm))
          exact ⟨z0, z1, z2.fq (av.refl _) z2.1 λob z => by rw [ah ny];exact z⟩
      · unfold Ct.On at q ⊢;cases to : t.own with
        | true =>
          rw [to] at q;have na : a ≠ x := λz => q.2.2.1 (z ▸ mx);exact ⟨q.1, q.2.1, q.2.2.1, Ct.lL to (λob z => by rw [ah na];exact z) q.2.2.2⟩
        | false =>
          rw [to] at q;exact q
    · obtain ⟨b, k1, k2⟩ := e.n j' t' dss' q';refine ⟨b, k1, k2.fq (av.refl _) λy z1 z2 z3 z4 => ⟨z3, z2, λo z => ?_⟩⟩;have : y ≠ x := by
        rintro rfl;exact hne (xo.symm.trans z2)
      rw [ah this];exact z
noncomputable def oM (i j : Nat)(te : DT):gN := λE ρ => match bf ρ i with
  | some (.n (.wk g) dss) => ∃ ds, dss[j]? = some (.lst ds) /\ ds.length < sizeLine /\ te ρ λb => E.nx (dput ρ i (.n (.wk g) (dss.set j (.lst (ds ++ [b.val])))))
  | _ => False
section
variable {X : Cx} {e : Expr} {te : DT} {i j : Nat} {x : Str} {px ipos xpos apos cpos spos : Pos} {n : Int} {jj : Nat}
set_option tactic.hygienic true in
theorem qI (hn : n = ((j + 1 : Nat):Int))(hj : j < 2)(hN : X.N[i]? = some x)(hv : Bz X.env.scope x)(he : DE X e te)(hns : Dt (.Constant (.int n) jj ipos))(hd :autoParam ((x == ("__debug__" : Str)) = false) aZb._auto_1)(hcd :autoParam ((x == ("__classdict__" : Str)) = false) aZb._auto_1)
    (hbase :autoParam (attributeBase (.Subscript (.Name x px) (.Constant (.int n) jj ipos) xpos) "append" X.env (eval (.Subscript (.Name x px) (.Constant (.int n) jj ipos) xpos) X.env) = eval (.Subscript (.Name x px) (.Constant (.int n) jj ipos) xpos) X.env) aZa._auto_1)
    (hfew :autoParam (((backTo cpos (starEach (e :: []) X.env)).all (λx => !x.1) && (backToKw cpos (keywordEach [] X.env)).all (λx => x.1.isSome)
      && decide ((e :: []).length + ([]:List Keyword).length + (if ([]:List Keyword).isEmpty then 0 else 1) < 30)) = true) aZa._auto_1)
    (hline :autoParam ((apos.endLine == cpos.line) = true) aZa._auto_1) (hs :autoParam (starEach (e :: []) X.env = (false, eval e X.env) :: starEach [] X.env) aZa._auto_1) (hplain :autoParam ((backTo cpos (starEach [] X.env)).any (·.1) = false) aZa._auto_1)
    (hsw :autoParam (swapsWith (.Call (.Attribute (.Subscript (.Name x px) (.Constant (.int n) jj ipos) xpos) "append" apos) [e] [] cpos) none spos.line X.env = pure false) aZa._auto_1) :
    DS X (.Expr (.Call (.Attribute (.Subscript (.Name x px) (.Constant (.int n) jj ipos) xpos) "append" apos) [e] [] cpos) spos) (oM i j te) := DS.mk λH0 G0 =>
  PS.imp (dY (oo PySem.F.plainAttrs_list PySem.F.slot_list_append PySem.F.type_list_append gC (kP wZ (pA hN hv hd hcd) eh hns) (au he.pe aY hs) hbase hfew hline hs hplain) hsw)<|by
    rintro Dn σ H ⟨E, G, ρ, eo, w, en, h⟩;unfold oM at h;split at h
    · rename_i g dss q;obtain ⟨ds, hdj, hz, h⟩ := h;obtain ⟨a, as, u, vs, k1, on1, hu, eu, ru, _, _, _⟩ := en.wY q hdj;obtain ⟨y, z, rfl, ga⟩ : ∃ y z, as = [y, z] /\ G a = some (.tup [.int g, .ref y, .ref z]) := on1;have Ew : iW [V.int g, .ref y, .ref z] n = some (.ref u) := by
        rw [hn];refine gP ?_;rw [List.getElem?_cons_succ, show [V.ref y, V.ref z] = [y, z].map V.ref from rfl, getElem?_map, hu];rfl
      refine ⟨_, k1, a, _, n, _, rfl, rfl, lJ.of (w.gh _ _ ga), Ew, .inl ⟨rfl, _, d0.of eu⟩, G, ρ, _, w.gh, en.p, h, λb v H' G' p' w' r' => ?_⟩;obtain ⟨G2, w2, r2⟩ := r'.give w';obtain ⟨a', as', u', vs', k1', on', hu', eu', ru', h0', gu', nx⟩ := (en.on w2).wY q hdj;rw [k1] at k1';cases k1';obtain ⟨y', z', rfl, ga'⟩ : ∃ y z, as' = [y, z] /\ G2 a = some (.tup [.int g, .ref y, .ref z]) := on';rw [w2.gg _ _ ga] at ga';cases ga';rw [hu] at hu';cases hu';exact ⟨u, vs', v, rfl, rfl, eu', by rw [Paired.length ru'];exact hz, eo.nx σ _ G2 _ ((w.trans w2).own h0' gu') (nx _ _ (eN ru' (.cons r2 .nil))) p'⟩
    · exact h.elim
end
end DL
set_option maxHeartbeats 4000000
namespace DL
open PySem L2
open Classical in
section
variable {K : Frag} {H H1 H' G G' : Hp} {y : Addr} {o : HO}
end
end DL
set_option maxHeartbeats 4000000
namespace L2
open PySem PySem.Spec PyProof.Rows PySem.W
section
variable {X : Cx} {pins : List (Addr × Obj)} {σ : St} {H : Hp} {s : Shared} {a : Addr}
theorem Ca {P : Program}{w : World}{k : Key}{u : Value}(h : (bg P w).is k u = true):RelV (kV k) u := by
  rcases bO (show mf k u = true from h) with ⟨i, t, rfl, rfl⟩ | ⟨x, t, rfl, rfl⟩
  · exact ⟨t, rfl⟩
  · exact ⟨t, rfl⟩
theorem Inv.B6 {kvs : List (Key × V)}{o : Obj}(I : Inv X pins σ H s)(e : H a = some (.dK kvs))(ho : s.heap.get? a = some o):Inv X pins σ (upd H a (.cq o (.dK kvs))) s := by
  obtain ⟨z, hd, vs, rel, dd⟩ := kH I.bc e;have := jF (t' := s.toks) (ob := .cq o (.dK kvs)) I (by rw [e];exact True.intro) (Heap.SameBut.refl a s.heap) ⟨o, ho⟩ ⟨ho, z, hd, vs, rel, dd⟩;exact this
theorem Inv.AK {kvs : List (Key × V)}{o : Obj}(I : Inv X pins σ H s)(n : ∀ o u, X.H₀ a ≠ some (.cq o u))(e : H a = some (.cq o (.dK kvs))):Inv X pins σ (upd H a (.dK kvs)) s := by
  have ne : ∀ b, H b = none -> b ≠ a := λb z y => by subst y;rw [e] at z;cases z
  have nt : ∀ b xs, H b = some (.tup xs) -> b ≠ a := λb xs z y => by subst y;rw [e] at z;cases z
  have no : ∀ b y, H b = some (.own y) -> b ≠ a := λb y z q => by subst q;rw [e] at z;cases z
  refine ⟨I.ok, I.os, I.bare, ⟨I.base.keep, I.base.slot, λb o h1 h2 h3 => ?_, I.base.there, λb xs h1 => ?_, λb o u h1 => ?_, λb ps h1 => ?_⟩, I.loc, I.cell, ?_, λx c h => ?_, λp hp => ?_, λb u q => ?_, I.len⟩
  · have := I.base.free b o h1 h2 h3;rw [ah (ne _ this)];exact this
  · have := I.base.iJ b xs h1;rw [ah (nt _ _ this)];exact this
  · have := I.base.gR b o u h1;have nb : b ≠ a := λy => by subst y;exact n o u h1
    rw [ah nb];exact this
  · obtain ⟨m, h2⟩ := I.base.iI b ps h1;have nb : b ≠ a := λy => by subst y;rw [e] at h2;cases h2
    exact ⟨m, by rw [ah nb];exact h2⟩
  · rw [ah (ne _ I.free)];exact I.free
  · rw [ah (ne _ (I.g4 x c h))];exact I.g4 x c h
  · obtain ⟨h1, h2, h3⟩ := I.pin p hp;exact ⟨h1, by rw [ah (ne _ h2)];exact h2, h3⟩
  · have st : ∀ {b u}, bM X.prog X.w H s.heap b u -> bM X.prog X.w (upd H a (.dK kvs)) s.heap b u := λ{b u} z => z.fq (λ_ _ _ q => q) (λc q => by rw [ah (no _ _ q)];exact q) λc xs q => by rw [ah (nt _ _ q)];exact q
    by_cases hb : b = a
    · subst hb;rw [aq] at q;cases q;exact st (I.bc b _ e).2
    · rw [ah hb] at q;exact st (I.bc b u q)
theorem xF {st : Stmt}{t : TS}(h : PS X st t):PS X st (λD σ H => ∃ d, (∃ kvs, H d = some (.dK kvs)) /\ t { nx := λσ' H' => ∃ o kvs, H' d = some (.cq o (.dK kvs)) /\ D.nx σ' (upd H' d (.dK kvs)), rt := λ_ _ => False, bk := λ_ _ => False, ct := λ_ _ => False } σ H) := by
  intro pins s σ H D I ⟨d, ⟨kvs, hd⟩, q⟩;have n0 : ∀ o u, X.H₀ d ≠ some (.cq o u) := λo u z => by
    have := I.base.gR _ _ _ z;rw [hd] at this;cases this
  refine wpAny_mono (h pins s σ H _ I q) (λf s' z => ?_) λ_ _ z => z;cases f with
  | next => obtain ⟨σ', H', J, o, kvs', e, z⟩ := z;exact ⟨σ', _, J.AK n0 e, z⟩
  | brk => obtain ⟨_, _, _, z⟩ := z;exact z.elim
  | cont => obtain ⟨_, _, _, z⟩ := z;exact z.elim
  | ret u => obtain ⟨_, _, _, _, _, z⟩ := z;exact z.elim
noncomputable def hR (v d : Addr):HO := .ext λh => h.IsItemsView v d
noncomputable def xK : V -> List V -> Hp -> VK -> Prop := λx vs H Q => ∃ d kvs, x = .ref d /\ vs = [] /\ H d = some (.dK kvs) /\ ∀ v, H v = none -> Q (.ref v) (upd H v (hR v d))
theorem xi : C9 X "dict.items" xK := by
  rintro pins s σ H x xs v us Q I rx r ⟨d, kvs, rfl, rfl, e, q⟩;cases r;cases (show v = Value.ref d from rx);obtain ⟨z, hd, vs, rel, dd⟩ := kH I.bc e;refine call_meetsIn PySem.F.slot_dict_items dd.typeIs PySem.F.entry_dict_items (PySem.F.args_dict_items_1 _) (meets_dict_items (bg X.prog X.w) d hd) ⟨⟨_, dd⟩, ?_⟩;have e1 : (s.heap.push { cls := .type "dict_items", data := .fields #[.ref d] }).get? s.heap.objs.size = some ({ cls := .type "dict_items", data := .fields #[.ref d] }:Obj) := Heap.get?_push_size _ rfl;refine ⟨.ref s.heap.objs.size, _, I.laid (t' := s.toks) (λb u q => Heap.get?_push_of_some _ q) (Nat.le_refl _) (o := hR s.heap.objs.size d) ⟨⟨_, e1, rfl, rfl⟩, ⟨_, e1⟩, λh1 h2 p k => ?_⟩, rfl, q _ (I.bc.fresh (Nat.le_refl _))⟩;obtain ⟨o, p1, p2, p3⟩ := p;exact ⟨o, k _ p1, p2, p3⟩
noncomputable def Dq (d : Addr)(o : Obj)(kvs : List (Key × V)):It :=
  ⟨λi H => H d = some (.cq o (.dK kvs)) /\ i < kvs.length, λi H x H' => ∃ k v p, kvs[i]? = some (k, v) /\ H p = none /\ x = .ref p /\ H' = upd H p (.tup [kV k, v]), λi H => H d = some (.cq o (.dK kvs)) /\ i = kvs.length⟩
theorem zL {o : Obj}{kvs : List (Key × V)}{es : Array DictEntry}{ep : Nat}(I : Inv X pins σ H s)(e : H a = some (.cq o (.dK kvs)))(hd : o.data = .dict es ep):∃ vs, KV kvs vs /\ s.heap.DictAt (bg X.prog X.w) a vs ep := by
  obtain ⟨ho, z, _, vs, rel, o', es', ep', h1, h2, h3, h4⟩ := I.bc a _ e;rw [ho] at h1;cases h1;rw [hd] at h3;cases h3;exact ⟨vs, rel, o, es, ho, h2, hd, h4⟩
theorem sZ {P : Program}{w : World}{K : Frag}{elts : List Expr}{kx : Nat}{pos : Pos}(d it : Addr)(o : Obj)(kvs : List (Key × V))(es : Array DictEntry)(ep : Nat)(hd : o.data = .dict es ep) :
    Turn P w K (.Tuple elts kx pos) (Dq d o kvs) [it] it (λi h => ∃ ok ov, IsItemIter h it d i kvs.length ep ok ov) where
  mem := by simp
  obj := by
    rintro i h ⟨_, _, st⟩ b hb;have e : b = it := by simpa using hb
    subst e;exact ⟨_, st, λv z => by cases z⟩
  keep := by rintro i h h' ⟨ok, ov, st⟩ k;exact ⟨ok, ov, k it (by simp) _ st⟩
  self := by rintro A i s Q E ⟨ok, ov, st⟩ q;exact kcp_self st q
  item := by
    intro X hP hw hK hc i pins s σ H E I hf ⟨ok, ov, st⟩ hg;subst hP hw hK;obtain ⟨e, hi⟩ := hg;obtain ⟨vs, rel, da⟩ := zL I e hd;obtain ⟨f0, f1, f2, f3, f4, f5⟩ := hf it (by simp);have hl := rel.length;have ek := getElem?_eq_getElem hi;have hx := getElem?_eq_getElem (l := vs) (i := i) (by lia);obtain ⟨q1, q2⟩ := DL.eO rel i _ _ ek hx;have nd : d ≠ it := λz => by rw [<- z, e] at f0;cases f0
    rw [hl] at st;refine wpAny_pyNext_items_item (knd := bg X.prog X.w) (k := vs[i].1) (v := vs[i].2) st da hx λkey h' hkey ho hT hsz hk => ?_;refine ⟨_, rfl, ?_⟩;refine wpAny_letOwnedTupleGo_items (s := { s with heap := h' }) ho λh2 he hs => ?_;have nT : s.heap.objs.size ≠ it := Nat.ne_of_gt (Heap.lt_size st);have kk : ∀ b o, b ∉ [it] -> s.heap.get? b = some o -> h2.get? b = some o := λb o hb q => hs.extBut b o (by simpa using hb) (hk b o (by simpa using hb) q);have hT2 : h2.IsTuple s.heap.objs.size #[key, vs[i].2] := ⟨_, hs.extBut _ _ nT hT, rfl, _, rfl⟩
    have I2 : Inv X pins σ (upd H s.heap.objs.size (.tup [kV kvs[i].1, kvs[i].2])) { s with heap := h2 } := I.zW (t' := s.toks) (us := [key, vs[i].2]) (λb hb => hf b hb) kk (Nat.le_refl _) hT2 (.cons (by rw [q1];exact Ca hkey) (.cons q2 .nil)) (fA (Nat.le_of_ble_eq_true rfl));refine ⟨.ref s.heap.objs.size, _, I2, rfl, ⟨kvs[i].1, kvs[i].2, _, ek, I.bc.fresh (Nat.le_refl _), rfl, rfl⟩, ⟨_, _, by rw [hl];exact he⟩, λb hb => ?_⟩;have e : b = it := by simpa using hb
    subst e;rw [ah (Ne.symm nT)];exact f0
  done := by
    intro X hP hw hK hc i pins s σ H E I hf ⟨ok, ov, st⟩ hg;subst hP hw hK;obtain ⟨e, hi⟩ := hg;obtain ⟨vs, rel, da⟩ := zL I e hd;obtain ⟨f0, f1, f2, f3, f4, f5⟩ := hf it (by simp);have hl := rel.length;rw [hl] at st hi;subst hi;exact wpAny_pyNext_items_end (knd := bg X.prog X.w) (I.ok.hd hc) st da (by simp) λh' hx => ⟨rfl, I.turned (t' := s.toks) (λb o hb e => hx b o hb e) f0 f1 f3 f4 f5⟩
noncomputable def sr (K : Frag)(to : TE):TI := λσ H R => CP K "dict" xK to σ H (λv H2 => ∃ d kvs vw, v = .ref vw /\ H2 vw = some (hR vw d) /\ H2 d = some (.dK kvs) /\ ∀ o, R (Dq d o kvs) (upd H2 d (.cq o (.dK kvs))))
theorem xB {elts : List Expr}{kx : Nat}{tpos apos cpos : Pos}{o : Expr}{to : TE}(ho : PE X o to)(hbase :autoParam (attributeBase o "items" X.env (eval o X.env) = eval o X.env) aZa._auto_1)(hline :autoParam ((apos.endLine == cpos.line) = true) aZa._auto_1) :
    PI X (.Tuple elts kx tpos) (.Call (.Attribute o "items" apos) [] [] cpos) (sr X.K to) := by
  intro pins s σ H R I h;have pe := xu (apos := apos) (cpos := cpos) PySem.F.plainAttrs_dict PySem.F.slot_dict_items PySem.F.type_dict_items xi ho hbase hline;have hq := h;unfold sr at hq;refine cz (pe pins s σ H _ I hq) ?_;rintro v s1 ⟨y, H2, I2, rv, d, kvs, vw, e, ev, ed, q⟩;subst e;cases rv;have hv : s1.heap.IsItemsView vw d := ((I2.bc vw _ ev : bM _ _ _ _ _ (hR vw d))).1;obtain ⟨z, hdd, vs, rel, dd⟩ := kH I2.bc ed;obtain ⟨o, es, ep, h1, h2, h3, h4⟩ := id dd;refine wpAny_pyIter_items (knd := bg X.prog X.w) (kvs := vs) (ep := ep) hv ⟨o, es, h1, h2, h3, h4⟩ ?_;have I3 := (I2.kept (t' := s1.toks) (h' := s1.heap.push { cls := .type "dict_itemiterator", data := .fields #[.none, .bool false, .ref d, .int 0 0, .int vs.length 0, .int ep 0, .none, .none] }) λb o e => Heap.get?_push_of_some _ e).B6 ed (Heap.get?_push_of_some _ h1);refine ⟨s1.heap.objs.size, [s1.heap.objs.size], _, _, _, rfl, I3, sZ d _ o kvs es ep h3, ⟨.none, .none, by rw [rel.length];exact Heap.get?_push_size _ rfl⟩, λb hb => ?_, q o⟩;have e : b = s1.heap.objs.size := by simpa using hb
  subst e;exact I2.wN (Nat.le_refl _) (by rw [ah (Nat.ne_of_gt (Heap.lt_size h1))];exact I2.bc.fresh (Nat.le_refl _))
end
end L2
namespace DL
open PySem L2
noncomputable def iB : aH -> aH
  | [] => []
  | some (.p (.int n)) :: r => some (.p (.int n)) :: iB r
  | some (.p (.str x)) :: r => some (.p (.str x)) :: iB r
  | _ :: r => none :: iB r
set_option tactic.hygienic true in
theorem oj : ∀ {ρ : aH} {i : Nat} {b : B}, bf (iB ρ) i = some b -> ∃ d, b = .p d /\ d.sc = true /\ bf ρ i = some (.p d)
  | [], _, _, h => by cases h
  | o :: r, 0, b, h => by
    unfold iB at h;split at h
    · rename_i e;cases e
    · rename_i e;cases e;cases h;exact ⟨_, rfl, rfl, rfl⟩
    · rename_i e;cases e;cases h;exact ⟨_, rfl, rfl, rfl⟩
    · cases h
  | o :: r, i + 1, b, h => by
    have : bf (iB r) i = some b := by
      unfold iB at h;split at h
      · rename_i e;cases e
      · rename_i e;cases e;exact h
      · rename_i e;cases e;exact h
      · rename_i e;cases e;exact h
    exact oj (ρ := r) this
noncomputable def yu (p : Int × Int × Int × Int):D := .tup [.int p.1, d3 p.2]
theorem Rep.CL {K : Frag}{G G' : Hp}{a : Addr}{o : Obj}{es : List (Key × V)}{v : V}{d : D}(h : Rep K G v d)(ha : G a = some (.cq o (.dK es)))(ne : ∀ b, b ≠ a -> G' b = G b):Rep K G' v d := by
  have nl : ∀ b u, G b = some u -> (∀ o k, u ≠ .cq o (.dK k)) -> G' b = some u := λb u z n => by
    rw [ne b, z];rintro rfl;rw [ha] at z;cases z;exact n _ _ rfl
  have dk : ∀ b kvs, bL G G b kvs -> bL G' G' b kvs := by rintro b kvs ⟨es, e, p⟩;exact ⟨es, nl _ _ e (λ_ _ z => (nomatch z)), Paired.imp' (by rintro _ _ ⟨h1, t, h2, h3⟩;exact ⟨h1, t, h2, nl _ _ h3 (λ_ _ z => (nomatch z))⟩) p⟩
  have rdT : ∀ b kvs, Rd G b (.dT kvs) -> Rd G' b (.dT kvs) := λb kvs z => by
    rcases z with z | ⟨o', z⟩
    · exact .inl (nl _ _ z λ_ _ y => nomatch y)
    · exact .inr ⟨o', nl _ _ z λ_ _ y => nomatch y⟩
  induction h with
  | non => exact .non
  | bl b => exact .bl b
  | int i => exact .int i
  | str x => exact .str x
  | tup h l r ih => exact .tup (nl _ _ h λ_ _ z => nomatch z) l ih
  | lst h l r ih => exact .lst (nl _ _ h λ_ _ z => nomatch z) l ih
  | scr h =>
    rcases h with (h | ⟨o, h⟩) | h
    · exact .scr (.inl (.inl (nl _ _ h λ_ _ z => nomatch z)))
    · exact .scr (.inl (.inr ⟨o, nl _ _ h λ_ _ z => nomatch z⟩))
    · exact .scr (.inr h)
  | dct h => exact .dct (rdT _ _ h)
  | sen h => exact .sen (rdT _ _ h)
  | @ext a x h =>
    refine .ext ?_;cases x with
    | any => trivial
    | dki kvs => exact dk _ _ h
    | dks kvs => exact nl _ _ h λ_ _ z => nomatch z
    | rws n hs cs =>
      obtain ⟨lh, lk, h1, ⟨vs, e1, p1⟩, ⟨us, e2, p2⟩⟩ := h;have kt := λt xs (e : G t = some (.tup xs)) => nl t _ e λ_ _ z => nomatch z;exact ⟨lh, lk, nl _ _ h1 (λ_ _ z => (nomatch z)), ⟨vs, nl _ _ e1 (λ_ _ z => (nomatch z)), p1.on kt⟩, ⟨us, nl _ _ e2 (λ_ _ z => (nomatch z)), p2.on kt⟩⟩
    | obj C g hs cs n =>
      obtain ⟨dx, b, c, h1, h2, h3⟩ := h;exact ⟨dx, b, c, nl _ _ h1 (λ_ _ z => (nomatch z)), dk _ _ h2, dk _ _ h3⟩
theorem vk {K : Frag}{G : Hp}{d : Addr}{o : Obj}{es : List (Key × V)}{kvs : List (Int × Int × Int × Int)}(ha : G d = some (.cq o (.dK es)))(pr : Paired (E3 G) es kvs):zA K G (Dq d o es) (kvs.map yu) where
  go := λi x H G' e s1 s2 => ⟨(s1.trans s2) _ _ ha, by
    have := (List.getElem?_eq_some_iff.mp e).1;rw [length_map] at this;rw [Paired.length pr];exact this⟩
  vM := by
    rintro i x H G' y H' e s1 s2 ⟨k, v, p, h1, h2, h3, h4⟩;subst h3 h4;rw [getElem?_map] at e;obtain ⟨q, e1, rfl⟩ := Option.map_eq_some_iff.mp e;obtain ⟨f1, t, f2, f3⟩ := eO pr i _ _ h1 e1;have f1' : k = Sum.inl q.1 := f1;have f2' : v = .ref t := f2;subst f1' f2';refine ⟨_, (Wd.refl s2).new h2, Rep.kC aq (.cons (.int _) (.cons ?_ .nil))⟩;have nt : t ≠ p := aI (s2 _ _ (s1 _ _ f3)) h2;exact Rep.kC (by rw [ah nt];exact s1 _ _ f3) (.cons (.int _) (.cons (.int _) (.cons (.int _) .nil)))
  stop := λi H G' hi s1 s2 => ⟨(s1.trans s2) _ _ ha, by rw [hi, length_map, Paired.length pr]⟩
section
variable {X : Cx} {elt : Expr} {elts : List Expr} {kx : Nat} {tpos px ap apos cpos : Pos} {ifs : List Expr} {scope : Scope} {pos : Pos} {g : Tg} {tc : gO} {te : DT} {i : Nat} {x f : Str} {C : Addr}
noncomputable def wj (i : Nat)(C : Addr)(pk : Bool)(fr : List (Option Nat))(g : Tg)(tc : gO)(te : DT):DT := λρ Q => match bf ρ i with
  | some (.p d) => mY C (λ_ hs ks _ => yO ((bif pk then hs else ks).map yu) g tc te (bD (iq fr (iB ρ))) Q) d
  | _ => False
set_option tactic.hygienic true in
theorem yP (pk : Bool){fr : List (Option Nat)}(cl : hJ X.K C)(na : ee X.K C f)(hf : ∀ g b c n, (eI g b c n).lookup f = some (V.ref (bif pk then b else c)))(htg : vH fr g = true)(σ : St)(H : Hp)(Q : VK):cE X.K (wj i C pk fr g tc te) σ H Q ->
    ∃ d, (∃ kvs, H d = some (.dK kvs)) /\ Dl (sr X.K (CU X.K (Bt i) f)) fr (g.v X.K) (cT X.K tc) (cE X.K te) σ H λv H' => ∃ o kvs, H' d = some (.cq o (.dK kvs)) /\ Q v (upd H' d (.dK kvs)) := by
  rintro ⟨G, ρ, P, sg, re, h, k⟩;unfold wj at h;split at h
  · rename_i dd q;obtain ⟨v, hv1, rp⟩ := re i _ q;obtain ⟨g0, h0, k0, n0, ed, hq⟩ := lF h;clear h;subst ed;obtain ⟨a, dx, b, c, rfl, ha, hb, hcc⟩ := rp.iR;have hl := hf g0 b c n0;obtain ⟨es, eg, pr⟩ : bL G G (bif pk then b else c) (bif pk then h0 else k0) := by cases pk with | true => exact hb | false => exact hcc
    generalize (bif pk then b else c) = d at hl eg;generalize (bif pk then h0 else k0) = kvs at hq pr;have eH := sg _ _ eg;refine ⟨d, ⟨es, eH⟩, ?_⟩;refine ⟨_, hv1, a, C, dx, _, _, rfl, sg _ _ ha, cl, na, hl, .inr (.inr (.inl ⟨rfl, .inl ⟨_, eH⟩⟩)), d, es, rfl, rfl, eH, λvw hvw => ?_⟩;have nv : d ≠ vw := aI eH hvw;refine ⟨d, es, vw, rfl, aq, by rw [ah nv];exact eH, λo => ?_⟩;have hfd : (upd (upd H vw (hR vw d)) d (.cq o (.dK es))) d = some (.cq o (.dK es)) := aq;have hfo : ∀ y u, y ≠ d -> H y = some u -> (upd (upd H vw (hR vw d)) d (.cq o (.dK es))) y = some u := λy u n e => by rw [ah n, ah (aI e hvw)];exact e
    have hfn : ∀ y, (upd (upd H vw (hR vw d)) d (.cq o (.dK es))) y = none -> H y = none /\ y ≠ d := λy e => by
      have n : y ≠ d := λz => by rw [z, aq] at e;cases e
      rw [ah n] at e;have n2 : y ≠ vw := λz => by rw [z, aq] at e;cases e
      rw [ah n2] at e;exact ⟨e, n⟩
    generalize upd (upd H vw (hR vw d)) d (.cq o (.dK es)) = Hf at hfd hfo hfn;let G1 : Hp := upd G d (.cq o (.dK es))
    have g1d : G1 d = some (.cq o (.dK es)) := aq;have g1n : ∀ y, y ≠ d -> G1 y = G y := λy n => ah n;have s1 : av G1 Hf := λy u e => by
      by_cases n : y = d
      · subst n;rw [g1d] at e;rw [hfd];exact e
      · rw [g1n y n] at e;exact hfo y u n (sg _ _ e)
    have re1 : cy X.K G1 σ (iB ρ) := λj d' e => by
      obtain ⟨d2, e1, e2, e3⟩ := oj e;cases e1;obtain ⟨u, h1, h2⟩ := re j d' e3;exact ⟨u, h1, h2.sc e2⟩
    have pr1 : Paired (E3 G1) es kvs := Paired.imp' (by rintro _ _ ⟨h1, t, h2, h3⟩;exact ⟨h1, t, h2, by rw [g1n t (iu h3 eg (by intro z;cases z))];exact h3⟩) pr;refine λD hD => uf (K := X.K) (fr := fr) (g := g) (tc := tc) (te := te) (Q := λv H' => ∃ o kvs, H' d = some (.cq o (.dK kvs)) /\ Q v (upd H' d (.dK kvs))) htg re1 (P := P) (λb v H2 G2 p2 w2 r2 => ?_) hq (Wd.refl s1) (vk g1d pr1) D hD;have hG2 : G2 d = some (.cq o (.dK es)) := w2.gg _ _ g1d;let G3 : Hp := λy => if y = d then some (.dK es) else G2 y
    have g3d : G3 d = some (.dK es) := if_pos rfl;have g3n : ∀ y, y ≠ d -> G3 y = G2 y := λy n => if_neg n;have sw : ∀ {v d'}, Rep X.K G2 v d' -> Rep X.K G3 v d' := λ{v d'} z => z.CL hG2 g3n;have w3 : Wd H G (upd H2 d (.dK es)) G3 := by
      refine ⟨λy u e => ?_, λy u e => ?_, λy u e => ?_, λy z => ?_⟩
      · by_cases n : y = d
        · subst n;rw [eH] at e;rw [aq];exact e
        · rw [ah n];exact w2.hh _ _ (hfo y u n e)
      · by_cases n : y = d
        · subst n;rw [eg] at e;rw [g3d];exact e
        · rw [g3n y n];exact w2.gg _ _ (by rw [g1n y n];exact e)
      · by_cases n : y = d
        · subst n;rw [g3d] at e;rw [aq];exact e
        · rw [g3n y n] at e;rw [ah n];exact w2.gh _ _ e
      · by_cases n : y = d
        · subst n;rw [g3d, eg]
        · rw [g3n y n, <- g1n y n];obtain ⟨u, h1, h2⟩ := z;exact w2.old y ⟨u, hfo y u n h1, h2⟩
    refine ⟨o, es, w2.hh _ _ hfd, k b v _ G3 p2 w3 ?_⟩;have own : ∀ {x d'}, Hf x = none -> dN X.K G2 H2 x d' -> H x = none /\ dN X.K G3 (upd H2 d (.dK es)) x d' := λ{x d'} n w => by
      obtain ⟨n1, n2⟩ := hfn x n;refine ⟨n1, by rw [g3n x n2];exact w.1, ?_⟩;have w' := w.2;cases d' with
      | lst ds =>
        obtain ⟨vs, h1, h2⟩ := w';exact ⟨vs, by rw [ah n2];exact h1, Paired.imp' (λ_ _ z => sw z) h2⟩
      | dct _ => exact (ah n2).trans w'
      | sen _ => exact (ah n2).trans w'
      | ext x =>
        cases x with
        | dki kvs =>
          obtain ⟨es', e1, p1⟩ := w';exact ⟨es', by rw [ah n2];exact e1, Paired.imp' (λ_ _ ⟨h1, t, h2, h3⟩ => ⟨h1, t, h2, by rw [g3n t λz => by rw [z, hG2] at h3;cases h3];exact h3⟩) p1⟩
        | dks kvs => exact (ah n2).trans w'
        | any => exact w'.elim
        | obj _ _ _ _ _ => exact w'.elim
        | rws _ _ _ => exact w'.elim
      | _ => exact w'.elim
    cases b with
    | p d' => exact sw r2
    | o d' =>
      obtain ⟨y, e, n, w⟩ := r2;obtain ⟨n', w'⟩ := own n w;exact ⟨y, e, n', w'⟩
    | n t ds =>
      obtain ⟨y, as, e, nd, pr2, on⟩ := r2;refine ⟨y, as, e, nd, Paired.imp' (λ_ _ z => own z.1 z.2) pr2, ?_⟩;have tu : ∀ z xs, G2 z = some (.tup xs) -> G3 z = some (.tup xs) := λz xs ez => by rw [g3n z λw => by rw [w, hG2] at ez;cases ez];exact ez
      unfold Ct.On at on ⊢;cases eo : t.own with
      | true =>
        rw [eo] at on;obtain ⟨o1, o2, o3, o4⟩ := on;obtain ⟨n1, n2⟩ := hfn y o1;exact ⟨n1, by rw [g3n y n2];exact o2, o3, Ct.lL eo (λo e => by rw [ah n2];exact e) o4⟩
      | false =>
        rw [eo] at on;cases t with
        | tup => exact tu _ _ on
        | lst => cases eo
        | obj _ _ _ => cases eo
        | wk g => obtain ⟨b, c, e, h⟩ := on;exact ⟨b, c, e, tu _ _ h⟩
        | fnd x p => obtain ⟨b, c, e, t, h1, h2, h3⟩ := on;exact ⟨b, c, e, t, h1, tu _ _ h2, tu _ _ h3⟩
  · exact h.elim
theorem nX {m : Nat}{y : Str}{py spos : Pos}(pk : Bool)(hNd : X.N.Nodup)(hy : X.N[m]? = some y)(hly : Loc X.env.scope y)(N' : List Str)(fr : List (Option Nat))(hc : X.calm = true)(hNx : X.N[i]? = some x)(hv : Bz X.env.scope x)(cl : hJ X.K C)(na : ee X.K C f)(hf : ∀ g b c n, (eI g b c n).lookup f = some (V.ref (bif pk then b else c)))
    (hg : ∀ cl fp C s H, PG (mT X scope N' cl fp C s H) (.Tuple elts kx tpos) (g.v X.K)) (ht : ∀ cl fp C s H, vN (mT X scope N' cl fp C s H) ifs tc) (he : ∀ cl fp C s H, DE (mT X scope N' cl fp C s H) elt te)
    {sc0 : Scope} {N0 : List Str} (htg :autoParam (vH fr g = true) aZb._auto_1) (hsw :autoParam (swapsWith (.ListComp elt [⟨.Tuple elts kx tpos, .Call (.Attribute (.Attribute (.Name x px) f ap) "items" apos) [] [] cpos, ifs, 0⟩] scope pos) (some (.Name y py)) spos.line X.env = pure true) aZa._auto_1) (hsc :autoParam (X.env.scope = sc0) aZa._auto_1) (hN :autoParam (X.N = N0) aZa._auto_1) (bc :autoParam (gQ sc0 N0 scope N' fr = true) aZe._auto_1)
    (hs :autoParam (∀ y, foldedSetIterable (.Call (.Attribute (.Attribute (.Name x px) f ap) "items" apos) [] [] cpos) X.env y = pure y) aZc._auto_1) (hfn :autoParam (X.fn y = true \/ X.env.scope.names.lookup y = some .local) aZf._auto_1) (hd :autoParam ((x == ("__debug__" : Str)) = false) aZb._auto_1) (hcd :autoParam ((x == ("__classdict__" : Str)) = false) aZb._auto_1)
    (hb1 :autoParam (attributeBase (.Name x px) f X.env (eval (.Name x px) X.env) = eval (.Name x px) X.env) aZa._auto_1) (hbase :autoParam (attributeBase (.Attribute (.Name x px) f ap) "items" X.env (eval (.Attribute (.Name x px) f ap) X.env) = eval (.Attribute (.Name x px) f ap) X.env) aZa._auto_1) (hline :autoParam ((apos.endLine == cpos.line) = true) aZa._auto_1) :
    DS X (.Assign [.Name y py] (.ListComp elt [⟨.Tuple elts kx tpos, .Call (.Attribute (.Attribute (.Name x px) f ap) "items" apos) [] [] cpos, ifs, 0⟩] scope pos) spos) (dP m (wj i C pk fr g tc te)) := DS.mk λH0 G0 =>
  PS.imp (xF (rE (tc := cT X.K tc) (te := cE X.K te) hNd hy hly N' fr hc (xB (elts := elts) (kx := kx) (tpos := tpos) (apos := apos) (cpos := cpos) (gj (pos := ap) (pA (pos := px) hNx hv hd hcd) hb1) hbase hline) hg (λcl fp C s H => (ht cl fp C s H).pf) (λcl fp C s H => (he cl fp C s H).pe) hsw hsc hN bc hs hfn)) λDn σ H h => yP pk cl na hf htg σ H _ (nY Dn σ H h)
end
end DL
namespace L2
open PySem PySem.Spec PyProof.Rows PyProof
section
variable {X : Cx}
end
end L2
set_option maxHeartbeats 4000000
namespace DL
open PySem L2
section
variable {X : Cx} {e : Expr} {te : DT} {i j : Nat} {x : Str} {px ipos xpos apos cpos spos zpos : Pos} {n : Int} {jj j0 : Nat}
end
end DL
set_option maxHeartbeats 4000000
namespace L2
open PySem PySem.Spec PyProof.Rows PySem.SeqAt PySem.MeetsSeq
open AutoSeq1 (wpAny_loadPart')
theorem nj (l : Addr)(items : Array Value)(n : Nat)(x : Value)(e : Nat -> Bool)(j : Nat)(hj : j < items.size)(hit : e j = true)(k : Nat)(hs1 : items.size <= sizeLine) :
    ∀ i : Nat, j - i = k -> i <= j -> (∀ m, i <= m -> m < j -> e m = false) -> Meets (Builtin.«list.remove.loop» ⟨[.ref l, x, rawInt i], []⟩)
      (λA R s => s.heap.get? l = some { cls := .type "list", dict := none, data := .seq items n, slots := #[] } /\ (∀ m (hm : m < items.size), EqAt A.in1 s items[m] x (e m)) /\ R (.ok (.ret .none)) { s with heap := s.heap.update l (Obj.mapSeq λxs => xs.eraseIdxIfInBounds j) }) := by
  induction k with
  | zero =>
    intro i hk hij hno prog w A R s h;obtain ⟨hp, g, d, tk, os⟩ := s;obtain ⟨hl, he, h⟩ := h;have hij' : i = j := by lia
    subst hij'
    wp_walk using wpAny_loadPart' hl
    have hi : items[((i : Nat):Int).toNat]? = some items[i] := by simp [hj]
    rw [hi];refine wpAny_bind (he i hj prog w _ _ ?_);rw [hit];have hz' : (items.eraseIdxIfInBounds i).size <= sizeLine + 1 := Nat.le_trans (size_erased items _) (Nat.le_succ_of_le hs1)
    wp_walk using (wpAny_updateSeq hl rfl (hz := hs1) (_hz' := hz')), wpAny_loadPart' hl
    simpa using h
  | succ k ih =>
    intro i hk hij hno prog w A R s h;obtain ⟨hp, g, d, tk, os⟩ := s;obtain ⟨hl, he, h⟩ := h;have hlt : i < items.size := by lia
    wp_walk using wpAny_loadPart' hl
    have hi : items[((i : Nat):Int).toNat]? = some items[i] := by simp [hlt]
    have hc : ((i : Int) + 1) = ((i + 1 : Nat):Int) := by push_cast;rfl
    rw [hi];refine wpAny_bind (he i hlt prog w _ _ ?_);rw [hno i (Nat.le_refl _) (by lia)]
    wp_walk
    rw [hc];exact ⟨plainId_quiet plain_remove_loop _, codeAny_builtin entry_remove_loop (by
      rw [Around.under_plainId plain_remove_loop _];exact ih (i + 1) (by lia) (by lia) (λm h1 h2 => hno m (by lia) h2) prog w A R _ ⟨hl, he, h⟩)⟩
theorem mX (l : Addr)(items : Array Value)(n : Nat)(x : Value)(e : Nat -> Bool)(j : Nat)(hj : j < items.size)(hit : e j = true)(hno : ∀ m, m < j -> e m = false)(hs1 : items.size <= sizeLine) :
    Meets (Builtin.«list.remove» ⟨[.ref l, x], []⟩)
      (λA R s => s.heap.get? l = some { cls := .type "list", dict := none, data := .seq items n, slots := #[] } /\ (∀ m (hm : m < items.size), EqAt A.in1 s items[m] x (e m)) /\ R (.ok (.ret .none)) { s with heap := s.heap.update l (Obj.mapSeq λxs => xs.eraseIdxIfInBounds j) }) := by
  intro prog w A R s h;obtain ⟨hp, g, d, tk, os⟩ := s;obtain ⟨hl, he, h⟩ := h
  wp_walk using wpAny_loadPart' hl
  exact ⟨plainId_quiet plain_remove_loop _, codeAny_builtin entry_remove_loop (by
    rw [Around.under_plainId plain_remove_loop _];exact nj l items n x e j hj hit _ hs1 0 rfl (Nat.zero_le _) (λm _ h2 => hno m h2) prog w A R _ ⟨hl, he, h⟩)⟩
theorem Vals.erase : ∀ {xs : List V} {us : List Value} (j : Nat), Vals xs us -> Vals (xs.eraseIdx j) (us.eraseIdx j)
  | _, _, _, .nil => by simp only [List.eraseIdx_nil];exact .nil
  | _, _, 0, .cons _ t => t
  | _, _, j + 1, .cons r t => .cons r (Vals.erase j t)
end L2
namespace DL
open PySem L2 PySem.SeqAt
noncomputable def zm (K : Frag)(u : Nat):V -> List V -> Hp -> VK -> Prop := λx vs H Q => ∃ (l : Addr) (xs : List V) (y : V) (j : Nat) (G : Hp) (ds : List D) (d : D), x = .ref l /\ vs = [y] /\ H l = some (.lst xs) /\ av G H /\ bx K G xs ds /\ Rep K G y d /\ (∀ z ∈ ds, aX z = true /\ dep z <= 60) /\ aX d = true /\ u + 62 < cLine /\ j < ds.length /\ (∀ z, ds[j]? = some z -> bP z d = true) /\ (∀ m z, m < j -> ds[m]? = some z -> bP z d = false) /\ Q .non (upd H l (.lst (xs.eraseIdx j)))
theorem vv {X : Cx}:C8 X "list.remove" (zm X.K X.A.units) := by
  intro pins s σ H x vs v us Q I rx rv h;obtain ⟨l, xs, y, j, G, ds, d, rfl, rfl, hH, sG, rr, rd, hn, nd, hu, hj, hit, hno, q⟩ := h;cases rx;obtain ⟨u, rfl, ru⟩ := rv.one;obtain ⟨z, its, n, r, hl, e⟩ := I.q0 hH;have len := Paired.length rr;have szj : j < its.toArray.size := by rw [size_toArray];lia
  refine call_meets F.slot_list_remove ⟨_, e, rfl⟩ F.entry_list_remove (F.args_list_remove_2 _ _) (mX l its.toArray n u (λm => match ds[m]? with | some z => bP z d | none => false) j szj ?_ ?_ (by rw [size_toArray];lia)) ⟨e, λm hm => ?_, ?_⟩
  · rw [getElem?_eq_getElem hj];exact hit _ (getElem?_eq_getElem hj)
  · intro m hm;rw [getElem?_eq_getElem (by lia)];exact hno m _ hm (getElem?_eq_getElem (by lia))
  · have hm1 : m < ds.length := by rw [size_toArray] at hm;lia
    have hm2 : m < xs.length := by lia
    show EqAt _ _ _ _ (match ds[m]? with | some z => bP z d | none => false);rw [getElem?_eq_getElem hm1];have rep := eO rr m _ _ (getElem?_eq_getElem hm2) (getElem?_eq_getElem hm1);obtain ⟨w, ew, rw'⟩ := r.get (getElem?_eq_getElem hm2);have ew' : its.toArray[m] = w := by
      have : its[m]? = some its.toArray[m] := by simp
      rw [ew] at this;exact (Option.some.inj this).symm
    rw [ew'];obtain ⟨k1, k2⟩ := hn _ (List.getElem_mem hm1);exact sj I sG 60 _ _ k2 k1 nd rep rd rw' ru (by show X.A.units + 1 + 60 < cLine;lia)
  · refine ⟨.non, _, I.yQ (its' := its.eraseIdx j) hH e ?_ (r.erase j) ?_, rfl, q⟩
    · simp
    · exact Nat.le_trans (by rw [List.length_eraseIdx];split <;> lia) z
end DL
set_option maxHeartbeats 4000000
namespace DL
open PySem L2
section
variable {X : Cx} {i : Nat} {x : Str} {px pos : Pos} {te : DT}
variable {tg iter elt : Expr} {ifs : List Expr} {scope : Scope} {spos : Pos} {ti : eF} {g : Tg} {tc : gO}
theorem xJ (hNd : X.N.Nodup)(hy : X.N[i]? = some x)(hly : Loc X.env.scope x)(N' : List Str)(fr : List (Option Nat))(hc : X.calm = true)(hi : DI X tg iter ti)
    (hg : ∀ cl fp C s H, PG (mT X scope N' cl fp C s H) tg (g.v X.K)) (ht : ∀ cl fp C s H, vN (mT X scope N' cl fp C s H) ifs tc) (he : ∀ cl fp C s H, DE (mT X scope N' cl fp C s H) elt te)
    {sc0 : Scope} {N0 : List Str} (htg :autoParam (vH fr g = true) aZb._auto_1) (hsw :autoParam (swapsWith (.ListComp elt [⟨tg, iter, ifs, 0⟩] scope pos) (some (.Name x px)) spos.line X.env = pure true) aZa._auto_1)
    (hsc :autoParam (X.env.scope = sc0) aZa._auto_1) (hN :autoParam (X.N = N0) aZa._auto_1) (bc :autoParam (gQ sc0 N0 scope N' fr = true) aZe._auto_1) (hs :autoParam (∀ x, foldedSetIterable iter X.env x = pure x) aZc._auto_1)
    (hf :autoParam (X.fn x = true \/ X.env.scope.names.lookup x = some .local) aZf._auto_1) :
    PS X (.Assign [.Name x px] (.ListComp elt [⟨tg, iter, ifs, 0⟩] scope pos) spos) (xY i (cE X.K (mQ ti fr g tc te))) :=
  PS.imp (rE (tc := cT X.K tc) (te := cE X.K te) hNd hy hly N' fr hc hi.pi hg (λcl fp C s H => (ht cl fp C s H).pf) (λcl fp C s H => (he cl fp C s H).pe) hsw hsc hN bc hs hf) λDn σ H h => ug htg σ H _ h
end
theorem dh {K : Frag}{t : DT}{σ : St}{H : Hp}{Q : VK}(ρ : aH)(P : B -> Prop)(re : cy K H σ ρ)(h : t ρ P)(k : ∀ b v H', P b -> av H H' -> Rep K H' v b.val -> Q v H'):cE K t σ H Q :=
  ⟨H, ρ, P, av.refl _, re, h, λb v H' G' p w r => by
    obtain ⟨G2, w2, r2⟩ := r.give w;exact k b v H' p w.hh (r2.mono w2.gh)⟩
theorem wa {K : Frag}{t : DT}{σ : St}{H : Hp}{Q : VK}(ρ : aH)(ds : List D)(re : cy K H σ ρ)(h : t ρ λb => b = .o (.lst ds))(k : ∀ a vs H', av H H' -> H a = none -> H' a = some (.lst vs) -> bx K H' vs ds -> Q (.ref a) H'):cE K t σ H Q :=
  ⟨H, ρ, _, av.refl _, re, h, λb v H' G' e w r => by
    subst e;obtain ⟨a, rfl, n, g, vs, e1, e2⟩ := r;exact k a vs H' w.hh n e1 (bx.mono w.gh e2)⟩
theorem yE {K : Frag}{Gs : Hp}{J : It}{xs : List D}{g : TG}{tb : TS}{En : Ends}{σ : St}{H : Hp}(it : zA K Gs J xs)(Pv : Nat -> St -> Hp -> Prop)(h0 : Pv 0 σ H)(hg : ∀ i σ H, Pv i σ H -> av Gs H)
    (hs : ∀ i d x σ H H', xs[i]? = some d -> Pv i σ H -> av H H' -> Rep K H' x d -> g x σ H' λσ2 H2 => tb { En with nx := Pv (i + 1), ct := Pv (i + 1), bk := En.nx } σ2 H2) (hd : ∀ σ H, Pv xs.length σ H -> En.nx σ H) :
    ∃ W : Nat -> Nat -> St -> Hp -> Prop, (∃ m, W 0 m σ H) /\ ∀ i m σ H, W i m σ H ->
      (J.stop i H /\ En.nx σ H) \/ (J.go i H /\ ∃ N : St -> Hp -> Prop, (∀ σ' H', N σ' H' -> ∃ m', m' < m /\ W (i + 1) m' σ' H') /\ ∀ x H', J.vM i H x H' -> g x σ H' λσ2 H2 => tb { En with nx := N, ct := N, bk := En.nx } σ2 H2) := by
  refine ⟨λi m σ H => m = xs.length - i /\ i <= xs.length /\ Pv i σ H, ⟨xs.length, by simp, Nat.zero_le _, h0⟩, ?_⟩;rintro i m σ H ⟨rfl, hi, p⟩;have sg := hg i σ H p;by_cases hlt : i < xs.length
  · have hx := getElem?_eq_getElem hlt;refine .inr ⟨it.go i _ H Gs hx (av.refl _) sg, Pv (i + 1), λσ' H' n => ⟨xs.length - (i + 1), by lia, rfl, hlt, n⟩, λx H' y => ?_⟩;obtain ⟨G2, w2, r2⟩ := it.vM i _ H Gs x H' hx (av.refl _) sg y;exact hs i _ x σ H H' hx p w2.hh (r2.mono w2.gh)
  · have e : i = xs.length := by lia
    subst e;exact .inl ⟨it.stop _ H Gs rfl (av.refl _) sg, hd σ H p⟩
end DL
namespace L2
open PySem PySem.Spec PyProof.Rows
theorem Bw {q : Program}{loose : List Str}{XP : (Str -> Option Value) -> Heap -> Prop}{α : Type}{Yf : Shared -> α}{Ya : World -> α}{r : PySem.W.RowW}{d : DefRec}{kwd : List (Str × Expr)}{run : Value -> List Value -> Sem Value}{YP : World -> Heap -> Prop}
    (W : PySem.W.WalkO q loose XP YP r d kwd run) (hY : ∀ w s, Yf s = Ya w -> YP w s.heap) (hYk : ∀ w h h', YP w h -> (∀ b o, h.get? b = some o -> h'.get? b = some o) -> YP w h'):PySem.W.WalkX q loose XP Yf Ya r d kwd run :=
  λw s₀ s₁ mg mb G y a o pm cd doc dV kV h1 h2 h3 h4 h5 h6 args vals as L p1 p2 p3 p4 p5 => W w s₀ s₁ mg mb G (hYk _ _ _ (hY w s₀ y) L.keeps) a o pm cd doc dV kV h1 h2 h3 h4 h5 h6 args vals as p1 p2 p3 p4 p5
end L2
set_option maxHeartbeats 4000000
namespace WS
open PySem L2 DL
local macro_rules | `(tactic| walk_at "rs1") => do let ns := ("gb dU gu fY gc dP bw dC hG dI lp d6 d4 eG gr fX mV cQ fk bN fL gp dS ll lP fZ d7 gn de bf dput cq gA aZ Tg.d putN cF aw bK aC bD iq mQ List.map List.length tM tO tN qk ql qm qo qx qp qq tL qy qz tQ qt qw qu nU ud ue wu uE uF uG tR rL rM nM nO nN nR nQ qr wD wF wG An qv r9 Am mY Bk xS sV Ap wm wq BV tP yI BP BO v9 v5 zE v7 rZ ui wx zx oM wj iB cond_true cond_false".splitOn " ").toArray.map λs => Lean.mkIdent s.toName;`(tactic| dsimp only [$[$ns:ident],*])
local macro_rules | `(tactic| walk_at "rsx") => `(tactic| set_option simprocs false in simp only [DH, DK, DM, DN, DP, B2, Bi, true_and])
local macro_rules | `(tactic| walk_at "rs") => `(tactic| repeat (first | walk_at "rs1" | walk_at "rsx"))
local macro_rules | `(tactic| walk_at "v") => `(tactic| first | exact Or.inl rfl | exact Or.inr (Or.inl rfl) | exact Or.inr (Or.inr rfl))
local macro_rules | `(tactic| walk_at "rs2") => do let ns := ("dU gu fY gc dP bw dC hG dI lp d6 d4 eG gr fX mV cQ fk bN fL gp dS ll lP fZ d7 gn de bf dput cq gA aZ Tg.d putN cF aw bK aC bD iq mQ List.map List.length tM tO tN qk ql qm qo qx qp qq tL qy qz tQ qt qw qu nU ud ue wu uE uF uG tR rL rM nM nO nN nR nQ qr wD wF wG An qv r9 Am mY Bk xS sV Ap wm wq BV tP yI BP BO v9 v5 zE v7 rZ ui wx zx oM wj iB cond_true cond_false".splitOn " ").toArray.map λs => Lean.mkIdent s.toName;`(tactic| dsimp only [$[$ns:ident],*])
noncomputable def top (i : Nat):Stmt := PySem.Challenge.pw_warmshare_k32_changes_told.main.body.getD i (.Pass ⟨0, 0, 0, 0⟩)
structure iV (mg : Str -> Option Value):Prop where
  nF : mg "len" = none
  zD : mg "min" = none
  vW : mg "list" = none
  BN : mg "sum" = none
  tE : mg "max" = none
  yo : mg "range" = none
  qg : mg "enumerate" = none
  jD : mg "isinstance" = none
  vV : mg "int" = none
  Ag : mg "bool" = none
  wQ : ∃ t, mg "LEVELS" = some (.int 250 t)
  jb : ∃ t, mg "MOST_DEGREE" = some (.int 200 t)
  oY : ∃ t, mg "LEAST_RATE" = some (.int 1 t)
  qO : ∃ t, mg "MOST_RATE" = some (.int 1000000000 t)
  gB : ∃ t, mg "MOST_OF_A_KIND" = some (.int 12 t)
noncomputable abbrev dg : Stmt := top 27
theorem mD : aF ["script", "k"] ["script", "k"] (ag dg) := ⟨rfl, rfl, rfl, by decide +kernel, rfl, by decide +kernel, by decide +kernel⟩
noncomputable abbrev bz : Stmt := inClass (top 25) 0
theorem i8 : aF ["self", "gap"] ["self", "gap"] (ag bz) := ⟨rfl, rfl, rfl, by decide +kernel, rfl, by decide +kernel, by decide +kernel⟩
noncomputable abbrev eP : Stmt := top 29
theorem iG : aF ["cell", "k", "number"] ["cell", "k"] (ag eP) := ⟨rfl, rfl, rfl, by decide +kernel, rfl, by decide +kernel, by decide +kernel⟩
noncomputable abbrev dH : Stmt := top 30
theorem cx : aF ["cell", "base", "low", "high", "far", "rate"] ["cell", "base"] (ag dH) := ⟨rfl, rfl, rfl, by decide +kernel, rfl, by decide +kernel, by decide +kernel⟩
noncomputable abbrev bF : Stmt := inClass (top 25) 11
theorem jw : aF ["self", "number"] ["self", "number"] (ag bF) := ⟨rfl, rfl, rfl, by decide +kernel, rfl, by decide +kernel, by decide +kernel⟩
noncomputable abbrev bB : Stmt := inClass (top 25) 3
theorem ft : aF ["self", "number", "streams"] ["self", "number"] (ag bB) := ⟨rfl, rfl, rfl, by decide +kernel, rfl, by decide +kernel, by decide +kernel⟩
noncomputable abbrev cc : Stmt := inClass (top 25) 4
theorem kA : aF ["self"] ["self"] (ag cc) := ⟨rfl, rfl, rfl, by decide +kernel, rfl, by decide +kernel, by decide +kernel⟩
noncomputable abbrev cL : Stmt := top 23
theorem kY : aF ["number", "least", "most"] ["number", "least", "most"] (ag cL) := ⟨rfl, rfl, rfl, by decide +kernel, rfl, by decide +kernel, by decide +kernel⟩
noncomputable abbrev cK : Stmt := top 22
theorem fo : aF ["kind", "stream", "start", "goal"] ["kind", "stream"] (ag cK) := ⟨rfl, rfl, rfl, by decide +kernel, rfl, by decide +kernel, by decide +kernel⟩
noncomputable abbrev bQ : Stmt := inClass (top 25) 10
theorem j2 : aF ["self", "kind"] ["self", "kind"] (ag bQ) := ⟨rfl, rfl, rfl, by decide +kernel, rfl, by decide +kernel, by decide +kernel⟩
noncomputable abbrev bo : Stmt := inClass (top 25) 9
theorem iF : aF ["self", "kind", "stream"] ["self", "kind", "stream"] (ag bo) := ⟨rfl, rfl, rfl, by decide +kernel, rfl, by decide +kernel, by decide +kernel⟩
noncomputable abbrev cX : Stmt := top 12
theorem nq : aF ["bands", "level"] ["bands", "level"] (ag cX) := ⟨rfl, rfl, rfl, by decide +kernel, rfl, by decide +kernel, by decide +kernel⟩
noncomputable abbrev cW : Stmt := top 11
theorem jf : aF ["works", "gap"] ["works"] (ag cW) := ⟨rfl, rfl, rfl, by decide +kernel, rfl, by decide +kernel, by decide +kernel⟩
noncomputable abbrev dz : Stmt := top 10
theorem pF : aF ["works"] ["works"] (ag dz) := ⟨rfl, rfl, rfl, by decide +kernel, rfl, by decide +kernel, by decide +kernel⟩
noncomputable abbrev dF : Stmt := top 8
theorem nr : aF ["works", "level"] ["works", "level"] (ag dF) := ⟨rfl, rfl, rfl, by decide +kernel, rfl, by decide +kernel, by decide +kernel⟩
noncomputable abbrev cw : Stmt := top 9
theorem mC : aF ["works"] ["works"] (ag cw) := ⟨rfl, rfl, rfl, by decide +kernel, rfl, by decide +kernel, by decide +kernel⟩
noncomputable abbrev dM : Stmt := top 14
theorem nA : aF ["works"] ["works"] (ag dM) := ⟨rfl, rfl, rfl, by decide +kernel, rfl, by decide +kernel, by decide +kernel⟩
noncomputable abbrev bj : Stmt := inClass (top 25) 12
theorem iE : aF ["self", "works"] ["self", "works"] (ag bj) := ⟨rfl, rfl, rfl, by decide +kernel, rfl, by decide +kernel, by decide +kernel⟩
noncomputable abbrev aU : Stmt := inClass (top 25) 6
theorem cY : aF ["self", "kind", "start", "goal", "rate", "stream", "works"] ["self", "kind", "start", "goal", "rate"] (ag aU) := ⟨rfl, rfl, rfl, by decide +kernel, rfl, by decide +kernel, by decide +kernel⟩
noncomputable abbrev dG : Stmt := top 32
theorem nu : aF ["streams", "kind", "one"] ["streams", "kind", "one"] (ag dG) := ⟨rfl, rfl, rfl, by decide +kernel, rfl, by decide +kernel, by decide +kernel⟩
noncomputable abbrev dJ : Stmt := top 15
theorem nz : aF ["works"] ["works"] (ag dJ) := ⟨rfl, rfl, rfl, by decide +kernel, rfl, by decide +kernel, by decide +kernel⟩
noncomputable abbrev gY : Stmt := top 16
theorem rJ : aF ["works", "heat"] ["works"] (ag gY) := ⟨rfl, rfl, rfl, by decide +kernel, rfl, by decide +kernel, by decide +kernel⟩
noncomputable abbrev bZ : Stmt := inClass (top 25) 5
theorem gJ : aF ["self", "works"] ["self"] (ag bZ) := ⟨rfl, rfl, rfl, by decide +kernel, rfl, by decide +kernel, by decide +kernel⟩
noncomputable abbrev bR : Stmt := inClass (top 25) 8
theorem fS : aF ["self", "kind", "stream", "streams"] ["self", "kind", "stream"] (ag bR) := ⟨rfl, rfl, rfl, by decide +kernel, rfl, by decide +kernel, by decide +kernel⟩
noncomputable abbrev bA : Stmt := inClass (top 25) 2
theorem i9 : aF ["self", "start", "goal", "rate"] ["self", "start", "goal", "rate"] (ag bA) := ⟨rfl, rfl, rfl, by decide +kernel, rfl, by decide +kernel, by decide +kernel⟩
noncomputable abbrev bG : Stmt := inClass (top 25) 1
theorem jx : aF ["self", "start", "goal", "rate"] ["self", "start", "goal", "rate"] (ag bG) := ⟨rfl, rfl, rfl, by decide +kernel, rfl, by decide +kernel, by decide +kernel⟩
noncomputable abbrev fz : Stmt := top 31
theorem sX : aF ["streams", "kind", "one"] ["streams", "kind", "one"] (ag fz) := ⟨rfl, rfl, rfl, by decide +kernel, rfl, by decide +kernel, by decide +kernel⟩
noncomputable abbrev d8 : Stmt := top 28
theorem pG : aF ["found"] ["found"] (ag d8) := ⟨rfl, rfl, rfl, by decide +kernel, rfl, by decide +kernel, by decide +kernel⟩
noncomputable abbrev bS : Stmt := top 33
theorem aT : aF ["streams", "rows", "kind", "one", "last", "early", "works", "ahead", "other", "told", "behind", "number"] ["streams", "rows", "kind", "one", "last", "early"] (ag bS) := ⟨rfl, rfl, rfl, by decide +kernel, rfl, by decide +kernel, by decide +kernel⟩
noncomputable abbrev aE : Stmt := inClass (top 25) 7
theorem bX : aF ["self", "number", "hots", "colds"] ["self", "number"] (ag aE) := ⟨rfl, rfl, rfl, by decide +kernel, rfl, by decide +kernel, by decide +kernel⟩
noncomputable abbrev bp : Stmt := top 34
theorem ay : aF ["streams", "rows", "spots", "last", "early", "number", "kind", "works", "with_it", "told", "one", "back", "again"] ["streams", "rows", "spots", "last", "early"] (ag bp) := ⟨rfl, rfl, rfl, by decide +kernel, rfl, by decide +kernel, by decide +kernel⟩
noncomputable abbrev je : Stmt := top 35
theorem eD : aF ["script", "first", "streams", "base", "most", "rows", "last", "cell", "kind", "one", "same", "spots"] ["script"] (ag je) := ⟨rfl, rfl, rfl, by decide +kernel, rfl, by decide +kernel, by decide +kernel⟩
structure hJ where
  dD : Addr
  aA : Addr
  aK : Addr
  Full : Addr
  aQ : Addr
structure dR (K : Frag)(mg : Str -> Option Value)(cs : hJ):Prop where
  zX : qc K mg "HeatError" cs.dD
  kR : qc K mg "NoMeasure" cs.aA
  gZ : qc K mg "WrongWay" cs.aK
  x9 : qc K mg "Full" cs.Full
  mP : qc K mg "NoStream" cs.aQ
  o6 : kitOne K (.ref cs.aA) (.ref cs.dD) = some true
  oU : PySem.W.exmOne K (.ref cs.aA) (.ref cs.dD) = some true
  o7 : kitOne K (.ref cs.aA) (.ref cs.aA) = some true
  oV : PySem.W.exmOne K (.ref cs.aA) (.ref cs.aA) = some true
  pY : kitOne K (.ref cs.aA) (.ref cs.aK) = some false
  pS : PySem.W.exmOne K (.ref cs.aA) (.ref cs.aK) = some false
  uc : kitOne K (.ref cs.aA) (.ref cs.Full) = some false
  t5 : PySem.W.exmOne K (.ref cs.aA) (.ref cs.Full) = some false
  pX : kitOne K (.ref cs.aA) (.ref cs.aQ) = some false
  pR : PySem.W.exmOne K (.ref cs.aA) (.ref cs.aQ) = some false
  yL : kitOne K (.ref cs.aA) (.type "ValueError") = some true
  p7 : kitOne K (.ref cs.aK) (.ref cs.dD) = some true
  pV : PySem.W.exmOne K (.ref cs.aK) (.ref cs.dD) = some true
  p8 : kitOne K (.ref cs.aK) (.ref cs.aA) = some false
  pW : PySem.W.exmOne K (.ref cs.aK) (.ref cs.aA) = some false
  qT : kitOne K (.ref cs.aK) (.ref cs.aK) = some true
  qN : PySem.W.exmOne K (.ref cs.aK) (.ref cs.aK) = some true
  vj : kitOne K (.ref cs.aK) (.ref cs.Full) = some false
  u9 : PySem.W.exmOne K (.ref cs.aK) (.ref cs.Full) = some false
  qS : kitOne K (.ref cs.aK) (.ref cs.aQ) = some false
  qM : PySem.W.exmOne K (.ref cs.aK) (.ref cs.aQ) = some false
  zN : kitOne K (.ref cs.aK) (.type "ValueError") = some true
  t9 : kitOne K (.ref cs.Full) (.ref cs.dD) = some true
  tZ : PySem.W.exmOne K (.ref cs.Full) (.ref cs.dD) = some true
  ua : kitOne K (.ref cs.Full) (.ref cs.aA) = some false
  t4 : PySem.W.exmOne K (.ref cs.Full) (.ref cs.aA) = some false
  vh : kitOne K (.ref cs.Full) (.ref cs.aK) = some false
  u6 : PySem.W.exmOne K (.ref cs.Full) (.ref cs.aK) = some false
  yH : kitOne K (.ref cs.Full) (.ref cs.Full) = some true
  yD : PySem.W.exmOne K (.ref cs.Full) (.ref cs.Full) = some true
  vg : kitOne K (.ref cs.Full) (.ref cs.aQ) = some false
  u5 : PySem.W.exmOne K (.ref cs.Full) (.ref cs.aQ) = some false
  Df : kitOne K (.ref cs.Full) (.type "ValueError") = some true
  pZ : kitOne K (.ref cs.aQ) (.ref cs.dD) = some true
  pT : PySem.W.exmOne K (.ref cs.aQ) (.ref cs.dD) = some true
  p6 : kitOne K (.ref cs.aQ) (.ref cs.aA) = some false
  pU : PySem.W.exmOne K (.ref cs.aQ) (.ref cs.aA) = some false
  qR : kitOne K (.ref cs.aQ) (.ref cs.aK) = some false
  qL : PySem.W.exmOne K (.ref cs.aQ) (.ref cs.aK) = some false
  vi : kitOne K (.ref cs.aQ) (.ref cs.Full) = some false
  u7 : PySem.W.exmOne K (.ref cs.aQ) (.ref cs.Full) = some false
  qQ : kitOne K (.ref cs.aQ) (.ref cs.aQ) = some true
  qK : PySem.W.exmOne K (.ref cs.aQ) (.ref cs.aQ) = some true
  zM : kitOne K (.ref cs.aQ) (.type "ValueError") = some true
structure dQ (K : Frag)(mg : Str -> Option Value)(CS : Addr):Prop where
  cl : L2.hJ K CS
  xk : ee K CS "gap"
  kh : ee K CS "hots"
  iQ : ee K CS "colds"
  lC : ee K CS "spent"
  at_ : mg "Streams" = some (.ref CS)
section
variable {cs : hJ} {CS : Addr}
variable {Pt : Addr} {P : Program} {w : World} {K : Frag} {mg : Str -> Option Value} {base : Heap} {f : Addr} {fd : FuncData}
noncomputable def dW (g : Int)(hs cs : List S3):D := .tup [.int g, .lst (hs.map d3), .lst (cs.map d3)]
theorem uo : ∀ l : List S3, iZ (l.map d3) = true
  | [] => ix
  | x :: l => by rw [map_cons, gE, uo l, show aX (d3 x) = true by unfold d3;simp only [lE, gE, ix, lD, Bool.and_true]];rfl
theorem oO : ∀ l : List S3, g8 (l.map d3) <= 1
  | [] => by rw [List.map_nil, il];exact Nat.zero_le _
  | x :: l => by
    have h := oO l;have e : dep (d3 x) = 1 := by unfold d3;simp only [lu, gw, il, lq];rfl
    rw [map_cons, gw, e];lia
theorem ki (g : Int)(hs cs : List S3):aX (dW g hs cs) = true := by
  unfold dW;simp only [lE, gE, ix, lD, yS, uo, Bool.and_true]
theorem wB (g : Int)(hs cs : List S3):dep (dW g hs cs) <= 3 := by
  have h1 := oO hs;have h2 := oO cs;unfold dW;simp only [lu, gw, il, lq, yy];lia
theorem Ey {g : Int}{hs cs : List S3}{P : B -> Prop}(h : P (.p (.bl true))):Dy (dW g hs cs) (dW g hs cs) P := by
  refine ⟨⟨ki _ _ _, ki _ _ _, by have := wB g hs cs;lia⟩, ?_⟩;rw [gH _ (ki _ _ _)];exact h
structure dO (g : Int)(hs cs : List S3):Prop where
  g0 : 0 <= g
  g1 : g <= 50
  nh : hs.length <= 12
  nc : cs.length <= 12
  BB : ∀ x ∈ hs, vS x
  uV : ∀ x ∈ cs, rS x
theorem lt1000 {n : Nat}(h : n <= 1000):n < sizeLine := iT h
noncomputable def Sm (n : Int):Prop := n.natAbs < 10 ^ 40
theorem Dg : Str.empty.length = 0 := rfl
theorem uk {m : Nat}(h : m < 10 ^ 40):(toString m).length <= 40 := (Nat.length_repr_le_iff (by decide)).mpr h
theorem oi {n : Int}(h : Sm n):(Str.ofString (toString n)).length <= 41 := by
  rw [PySem.ofString_length];cases n with
  | ofNat m => exact Nat.le_trans (uk (m := m) h) (by decide)
  | negSucc m =>
    have e : toString (Int.negSucc m) = "-" ++ toString (m + 1) := rfl;have := uk (m := m + 1) h;rw [e, String.length_append];have c : "-".length = 1 := rfl;lia
theorem oh {n : Int}(h : Sm n):n.natAbs.log2 < 1920 := by
  by_cases hz : n.natAbs = 0
  · rw [hz];decide
  · exact Nat.lt_trans ((Nat.log2_lt hz).mpr (Nat.lt_trans h (show 10 ^ 40 < 2 ^ 200 by decide))) (by decide)
theorem pI (n : Nat)(h : n < 10 ^ 40):Sm (n : Int) := h
theorem kE : ¬ bC = Str.ofString "hot" := by decide +kernel
theorem oa : ¬ aO = Str.ofString "cold" := by decide +kernel
noncomputable def fm (cs : hJ):rT := λds Q Z => ∃ n a b : Int, ds = [.int n, .int a, .int b] /\ Sm n /\ Sm a /\ Sm b /\ if n < a \/ b < n then Z (.ref cs.aA) else Q (.p .non)
theorem kX (T : iV mg)(TX : dR K mg cs)(TC : dQ K mg CS)(F : fU K "check_within" "check_within" cL f fd):aM P w K mg base (g9 P w) 1 f fd ["number", "least", "most"] (vL K (fm cs)) := by
  refine xq F kY (λds Q Z h => by obtain ⟨n, a, b, rfl, hn, ha, hb, q⟩ := h;rfl) λcdv A outer s H E Z hr hZ => ⟨_, (fu (tY (DW.dt (nZ (bU zS (dv 0) (dv 1) (aR _)) (oT (bU Ci (dv 0) (dv 2) (aR _))))) (fu (jL bJ hZ rfl TX.kR.er (by rfl) TX.kR.at_ (ae (lR (gf (dv 0) (fE (gf (dv 1) (fE (gf (dv 2) lV)))))) ao))) lz)), λds Q h => ?_⟩
  obtain ⟨n, a, b, rfl, hn, ha, hb, q⟩ := h;walk_at "rs";have l1 := oi hn;have l2 := oi ha;have l3 := oi hb;have c1 : (Str.ofString " is not from ").length = 13 := by decide +kernel
  have c2 : (Str.ofString " to ").length = 4 := by decide +kernel
  have sz : sizeLine = 16777216 := sizeLine_eq;have g1 := oh hn;have g2 := oh ha;have g3 := oh hb;simp only [len_app, Dg, c1, c2];refine ⟨λz => ⟨λ_ => ⟨g1, by lia, by lia, g2, by lia, by lia, g3, by lia, by lia, ?_⟩, λz => (by cases z)⟩, λz => ⟨λy => ⟨g1, by lia, by lia, g2, by lia, by lia, g3, by lia, by lia, ?_⟩, λy => ?_⟩⟩
  · rw [if_pos (.inl (of_decide_eq_true z))] at q;exact q
  · rw [if_pos (.inr (of_decide_eq_true y))] at q;exact q
  · rw [if_neg (λw => w.elim (of_decide_eq_false z) (of_decide_eq_false y))] at q;exact q
noncomputable def fi (k : Str)(x : S3):Nat := if x.1 < 0 \/ 200 < x.1 \/ x.2.1 < 0 \/ 200 < x.2.1 \/ x.2.2 < 1 \/ 1000000000 < x.2.2 then 1 else if (k = aO /\ x.1 <= x.2.1) \/ (k = bC /\ x.2.1 <= x.1) then 2 else 0
noncomputable def g5 (cs : hJ):rT := λds Q Z => ∃ (k : Str) (x : S3), ds = [.str k, d3 x] /\ (k = aO \/ k = bC) /\ Sm x.1 /\ Sm x.2.1 /\ Sm x.2.2 /\
  if fi k x = 1 then Z (.ref cs.aA) else if fi k x = 2 then Z (.ref cs.aK) else Q (.p .non)
theorem kW (T : iV mg)(TX : dR K mg cs)(TC : dQ K mg CS)(FX_check_within : BH P w K mg base "check_within" 1 ["number", "least", "most"] (vL K (fm cs)))(F : fU K "check_stream" "check_stream" cK f fd):aM P w K mg base (g9 P w) 2 f fd ["kind", "stream"] (vL K (g5 cs)) := by
  refine xq F fo (λds Q Z h => by obtain ⟨k, x, rfl, hk, h1, h2, h3, q⟩ := h;rfl) λcdv A outer s H E Z hr hZ => ⟨_, (cn (dx (dm (i := 2) fo.nd rfl (Or.inl rfl) (bT (dv 1) ak)))
      (cn (dx (dm (i := 3) fo.nd rfl (Or.inl rfl) (bT (dv 1) ak)))
      (cn (jK bJ hZ FX_check_within (hr.mono (by decide)) (by rfl) (ae (dv 2) (ae ak (ae (lS (by rfl) T.jb) ao))))
      (cn (jK bJ hZ FX_check_within (hr.mono (by decide)) (by rfl) (ae (dv 3) (ae ak (ae (lS (by rfl) T.jb) ao))))
      (cn (jK bJ hZ FX_check_within (hr.mono (by decide)) (by rfl) (ae (bT (dv 1) ak) (ae (lS (by rfl) T.oY) (ae (lS (by rfl) T.qO) ao))))
      (cn (tY (DW.dt (oS (bU fH (dv 0) lT (aR _)) (lx (bU zR (dv 3) (dv 2) (aR _))))) (fu (jL bJ hZ rfl TX.gZ.er (by rfl) TX.gZ.at_ (ae (lR (fE (gf (dv 2) (fE (gf (dv 3) lV))))) ao))) lz)
      (fu (tY (DW.dt (oS (bU fH (dv 0) lT (aR _)) (lx (bU Cj (dv 3) (dv 2) (aR _))))) (fu (jL bJ hZ rfl TX.gZ.er (by rfl) TX.gZ.at_ (ae (lR (fE (gf (dv 2) (fE (gf (dv 3) lV))))) ao))) lz)))))))), λds Q h => ?_⟩
  obtain ⟨k, x, rfl, hk, h1, h2, h3, q⟩ := h;repeat (first | dsimp only [fm, d3] | walk_at "rs1" | walk_at "rsx")
  have s0 : Sm 0 := pI 0 (by decide);have s2 : Sm 200 := pI 200 (by decide);have l1 := oi h1;have l2 := oi h2;have c0 : (Str.ofString "a hot stream is cooled, not brought from ").length = 41 := by decide +kernel
  have c1 : (Str.ofString "a cold stream is warmed, not brought from ").length = 42 := by decide +kernel
  have c2 : (Str.ofString " to ").length = 4 := by decide +kernel
  have sz : sizeLine = 16777216 := sizeLine_eq;have g1 := oh h1;have g2 := oh h2;unfold fi at q;refine ⟨x.1, 0, 200, rfl, h1, s0, s2, qV (λz => ?_) λz => ⟨x.2.1, 0, 200, rfl, h2, s0, s2, qV (λz2 => ?_) λz2 => ⟨x.2.2, 1, 1000000000, rfl, h3, pI 1 (by decide), pI 1000000000 (by decide), qV (λz3 => ?_) λz3 => ?_⟩⟩⟩
  · rw [if_pos (if_pos (by lia))] at q;exact q
  · rw [if_pos (if_pos (by lia))] at q;exact q
  · rw [if_pos (if_pos (by lia))] at q;exact q
  have nb : ¬ (x.1 < 0 \/ 200 < x.1 \/ x.2.1 < 0 \/ 200 < x.2.1 \/ x.2.2 < 1 \/ 1000000000 < x.2.2) := by lia
  simp only [if_neg nb] at q;simp only [len_app, Dg, c0, c1, c2];rcases hk with rfl | rfl
  · refine ⟨λ_ => ⟨λy => ⟨by lia, g1, by lia, by lia, g2, by lia, by lia, ?_⟩, λy => ⟨λw => absurd (of_decide_eq_true w) oa, λ_ => ⟨λw => (by cases w), λ_ => ?_⟩⟩⟩, λw => absurd rfl (of_decide_eq_false w)⟩
    · rw [if_pos (show (aO = aO /\ x.1 <= x.2.1) \/ (aO = bC /\ x.2.1 <= x.1) from .inl ⟨rfl, of_decide_eq_true y⟩), if_neg (by decide), if_pos rfl] at q;exact q
    · rw [if_neg (show ¬ ((aO = aO /\ x.1 <= x.2.1) \/ (aO = bC /\ x.2.1 <= x.1)) from λw => w.elim (λw => of_decide_eq_false y w.2) λw => oa w.1), if_neg (by decide), if_neg (by decide)] at q;exact q
  · refine ⟨λw => absurd (of_decide_eq_true w) kE, λ_ => ⟨λw => (by cases w), λ_ => ⟨λ_ => ⟨λy => ⟨by lia, g1, by lia, by lia, g2, by lia, by lia, ?_⟩, λy => ?_⟩, λw => absurd rfl (of_decide_eq_false w)⟩⟩⟩
    · rw [if_pos (show (bC = aO /\ x.1 <= x.2.1) \/ (bC = bC /\ x.2.1 <= x.1) from .inr ⟨rfl, of_decide_eq_true y⟩), if_neg (by decide), if_pos rfl] at q;exact q
    · rw [if_neg (show ¬ ((bC = aO /\ x.1 <= x.2.1) \/ (bC = bC /\ x.2.1 <= x.1)) from λw => w.elim (λw => kE w.1) λw => of_decide_eq_false y w.2), if_neg (by decide), if_neg (by decide)] at q;exact q
theorem mulR {i j : Int}(h : -(2 ^ 64) < j /\ j < 2 ^ 64):p9 i j := .inr h
theorem mulL {i j : Int}(h : -(2 ^ 64) < i /\ i < 2 ^ 64):p9 i j := .inl h
local macro_rules | `(tactic| walk_at "side") => `(tactic| first | decide | lia | exact mulR (by decide) | exact mulL (by decide) | exact ⟨by decide, by decide, by decide⟩ | exact ⟨by lia, by decide⟩ | exact mulL ⟨by lia, by lia⟩ | exact mulR ⟨by lia, by lia⟩ | exact ⟨by lia, by lia⟩)
local macro_rules | `(tactic| walk_at "go") => `(tactic| repeat (refine ⟨by walk_at "side", ?_⟩))
noncomputable def eL (c k : Int):Int := ((c + 977 * k + 1) * 48271 % 2147483647) * ((c + 977 * k + 1) * 48271 % 2147483647) % 2147483629 * 69621 % 2147483587 / 8
theorem Bo (c k : Int):0 <= eL c k := Int.ediv_nonneg (Int.emod_nonneg _ (by decide)) (by decide)
noncomputable def aL : DR := λds P => match ds with
  | [.int c, .int k] => P (.p (.int (eL c k)))
  | _ => False
set_option tactic.hygienic true in
theorem rh (T : iV mg)(TX : dR K mg cs)(TC : dQ K mg CS)(F : fU K "_law_stir" "_law_stir" eP f fd):aM P w K mg base gM 1 f fd ["cell", "k"] (fN K aL) := by
  refine rQ F iG (λds Q h => by unfold aL at h;split at h <;> first | rfl | exact h.elim) λcdv A outer s H E hr => ⟨_, (cm (dm (i := 2) iG.nd rfl (Or.inl rfl) (aD bI (aD gF (aD bE (aD bE (dv 0) (aD gF ak (dv 1))) ak) ak) ak))
      (cm (dm (i := 2) iG.nd rfl (Or.inl rfl) (aD bI (aD gF (dv 2) (dv 2)) ak))
      (bt (cv (aD uq (aD bI (aD gF (dv 2) ak) ak) ak))))), λds Q h => ?_⟩
  unfold aL at h;split at h;rotate_left
  · exact h.elim
  rename_i c k;try dsimp only [gb, dU, gu, eZ, e7, fY, gc, dP, fc, fb, dq, h8, h7, hX, eU, dr, cg, dn, eV, h9, eW, eX, bw, dC, hG, dI, lp, fK, fj, ic, eY, qA, ie, d6, d4, ig, eG, gr, fX, mV, ib, cQ, fk, bN, fL, gp, dS, ll, fD, lP, hV, fZ, d5, lQ, cf, d7, oK, g7, fC, gq, gn, de, bf, dput, cq, gA, B.val, aZ, Tg.d, putN, cU, fe, cF, du, cj, aw, bK, aC, bD, iq, mQ, List.map, List.length]
  have h0 : 0 <= ((c + 977 * k + 1) * 48271 % 2147483647 : Int) := Int.emod_nonneg _ (by decide);have h1 : ((c + 977 * k + 1) * 48271 % 2147483647 : Int) < 2147483647 := Int.emod_lt_of_pos _ (by decide);walk_at "go";exact h
theorem Cd {α β : Type}{f g : α -> β}{l : List α}(h : ∀ x ∈ l, f x = g x):l.map f = l.map g := map_congr_left h
noncomputable def kQ : DR := λds P => ∃ g hs cs, ds = [dW g hs cs] /\ hs.length <= 12 /\ P (.o (.lst ((qP hs).map d3)))
theorem pq (T : iV mg)(TX : dR K mg cs)(TC : dQ K mg CS)(F : fU K "hot_bands" "hot_bands" dz f fd):aM P w K mg base gM 1 f fd ["works"] (fN K kQ) := by
  refine rQ F pF (λds Q h => by obtain ⟨g, hs, cs, rfl, hl, q⟩ := h;rfl) λcdv A outer s H E hr => ⟨_, (bt (cv (qB (g := (.t [0, 1, 2])) (tc := de) (te := (fL (bN (bw 1) (bN (bw 0) (bN (bw 2) fk))))) (sc0 := ag dz) (N0 := ["works"]) ["start", "goal", "rate"] [none, none, none] rfl (jG (bT (dv 0) ak)) (λ_ _ _ _ _ => (iC rfl (bh (bu (i := 0) (show (["start", "goal", "rate"]:List Str).Nodup by decide +kernel) rfl (Or.inl rfl)) (bh (bu (i := 1) (show (["start", "goal", "rate"]:List Str).Nodup by decide +kernel) rfl (Or.inl rfl)) (bh (bu (i := 2) (show (["start", "goal", "rate"]:List Str).Nodup by decide +kernel) rfl (Or.inl rfl)) fR))))) (λ_ _ _ _ _ => jH) (λ_ _ _ _ _ => (gd (ae (dv 1) (ae (dv 0) (ae (dv 2) ao)))))))), λds Q h => ?_⟩
  obtain ⟨g, hs, cs, rfl, hl, q⟩ := h;try dsimp only [gb, dU, gu, eZ, e7, fY, gc, dP, fc, fb, dq, h8, h7, hX, eU, dr, cg, dn, eV, h9, eW, eX, bw, dC, hG, dI, lp, fK, fj, ic, eY, qA, ie, d6, d4, ig, eG, gr, fX, mV, ib, cQ, fk, bN, fL, gp, dS, ll, fD, lP, hV, fZ, d5, lQ, cf, d7, oK, g7, fC, gq, gn, de, bf, dput, cq, gA, B.val, aZ, Tg.d, putN, cU, fe, cF, du, cj, aw, bK, aC, bD, iq, mQ, List.map, List.length, dW]
  refine ⟨_, rfl, ?_⟩;refine o9 (λx => match x with | .tup [a, b, c] => .tup [b, a, c] | d => d) (by rw [length_map];lia) (λx hx => ?_) ?_
  · obtain ⟨y, hy, rfl⟩ := mem_map.mp hx;rfl
  · rw [map_map];unfold qP at q;rw [map_map] at q;exact q
noncomputable def jX : DR := λds P => ∃ g hs cs, ds = [dW g hs cs] /\ cs.length <= 12 /\ P (.o (.lst ((kF g cs).map d3)))
theorem mZ (T : iV mg)(TX : dR K mg cs)(TC : dQ K mg CS)(F : fU K "cold_bands" "cold_bands" cW f fd):aM P w K mg base gM 1 f fd ["works"] (fN K jX) := by
  refine rQ F jf (λds Q h => by obtain ⟨g, hs, cs, rfl, hl, q⟩ := h;rfl) λcdv A outer s H E hr => ⟨_, (cm (dm (i := 1) jf.nd rfl (Or.inr rfl) (bT (dv 0) ak))
      (bt (cv (qB (g := (.t [0, 1, 2])) (tc := de) (te := (fL (bN (hG _ (bw 0) (bw 3)) (bN (hG _ (bw 1) (bw 3)) (bN (bw 2) fk))))) (sc0 := ag cW) (N0 := ["works", "gap"]) ["start", "goal", "rate", "gap"] [none, none, none, some 1] rfl (jG (bT (dv 0) ak)) (λ_ _ _ _ _ => (iC rfl (bh (bu (i := 0) (show (["start", "goal", "rate", "gap"]:List Str).Nodup by decide +kernel) rfl (Or.inl rfl)) (bh (bu (i := 1) (show (["start", "goal", "rate", "gap"]:List Str).Nodup by decide +kernel) rfl (Or.inl rfl)) (bh (bu (i := 2) (show (["start", "goal", "rate", "gap"]:List Str).Nodup by decide +kernel) rfl (Or.inl rfl)) fR))))) (λ_ _ _ _ _ => jH) (λ_ _ _ _ _ => (gd (ae (aD bE (dv 0) (dv 3)) (ae (aD bE (dv 1) (dv 3)) (ae (dv 2) ao))))))))), λds Q h => ?_⟩
  obtain ⟨g, hs, cs, rfl, hl, q⟩ := h;try dsimp only [gb, dU, gu, eZ, e7, fY, gc, dP, fc, fb, dq, h8, h7, hX, eU, dr, cg, dn, eV, h9, eW, eX, bw, dC, hG, dI, lp, fK, fj, ic, eY, qA, ie, d6, d4, ig, eG, gr, fX, mV, ib, cQ, fk, bN, fL, gp, dS, ll, fD, lP, hV, fZ, d5, lQ, cf, d7, oK, g7, fC, gq, gn, de, bf, dput, cq, gA, B.val, aZ, Tg.d, putN, cU, fe, cF, du, cj, aw, bK, aC, bD, iq, mQ, List.map, List.length, dW]
  refine ⟨_, rfl, _, rfl, ?_⟩;refine o9 (λx => match x with | .tup [.int a, .int b, c] => .tup [.int (a + g), .int (b + g), c] | d => d) (by rw [length_map];lia) (λx hx => ?_) ?_
  · obtain ⟨y, hy, rfl⟩ := mem_map.mp hx;rfl
  · rw [map_map];unfold kF at q;rw [map_map] at q;exact q
noncomputable def jY : DR := λds P => ∃ (bs : List S3) (L : Int), ds = [.lst (bs.map d3), .int L] /\ bs.length <= 12 /\ (∀ b ∈ bs, 0 <= b.2.2 /\ b.2.2 <= 1000000000) /\ P (.p (.int (above bs L)))
theorem m5 (T : iV mg)(TX : dR K mg cs)(TC : dQ K mg CS)(F : fU K "heat_above" "heat_above" cX f fd):aM P w K mg base gM 1 f fd ["bands", "level"] (fN K jY) := by
  refine rQ F nq (λds Q h => by obtain ⟨bs, L, rfl, hl, hb, q⟩ := h;rfl) λcdv A outer s H E hr => ⟨_, (bt (cv (cC (Ak rfl) (by rfl) T.BN boot_sum (ae (qB (g := (.t [0, 1, 2])) (tc := de) (te := (hG _ (bw 2) (ll _ (bN (dC _) (bN (hG _ (bw 1) (ll _ (bN (bw 0) (bN (bw 3) fk)))) fk))))) (sc0 := ag cX) (N0 := ["bands", "level"]) ["low", "high", "rate", "level"] [none, none, none, some 1] rfl (jG (dv 0)) (λ_ _ _ _ _ => (iC rfl (bh (bu (i := 0) (show (["low", "high", "rate", "level"]:List Str).Nodup by decide +kernel) rfl (Or.inl rfl)) (bh (bu (i := 1) (show (["low", "high", "rate", "level"]:List Str).Nodup by decide +kernel) rfl (Or.inl rfl)) (bh (bu (i := 2) (show (["low", "high", "rate", "level"]:List Str).Nodup by decide +kernel) rfl (Or.inl rfl)) fR))))) (λ_ _ _ _ _ => jH) (λ_ _ _ _ _ => (aD gF (dv 2) (cC (tH rfl) (by rfl) T.tE boot_max (ae ak (ae (aD gT (dv 1) (cC (tH rfl) (by rfl) T.tE boot_max (ae (dv 0) (ae (dv 3) ao)))) ao)))))) ao)))), λds Q h => ?_⟩
  obtain ⟨bs, L, rfl, hl, hb, q⟩ := h;try dsimp only [gb, dU, gu, eZ, e7, fY, gc, dP, fc, fb, dq, h8, h7, hX, eU, dr, cg, dn, eV, h9, eW, eX, bw, dC, hG, dI, lp, fK, fj, ic, eY, qA, ie, d6, d4, ig, eG, gr, fX, mV, ib, cQ, fk, bN, fL, gp, dS, ll, fD, lP, hV, fZ, d5, lQ, cf, d7, oK, g7, fC, gq, gn, de, bf, dput, cq, gA, B.val, aZ, Tg.d, putN, cU, fe, cF, du, cj, aw, bK, aC, bD, iq, mQ, List.map, List.length]
  refine o9 (λx => match x with | .tup [.int a, .int b, .int c] => .int (j7 (a, b, c) L) | d => d) (by rw [length_map];lia) (λx hx => ?_) ?_
  · obtain ⟨y, hy, rfl⟩ := mem_map.mp hx;have := hb y hy;try dsimp only [gb, dU, gu, eZ, e7, fY, gc, dP, fc, fb, dq, h8, h7, hX, eU, dr, cg, dn, eV, h9, eW, eX, bw, dC, hG, dI, lp, fK, fj, ic, eY, qA, ie, d6, d4, ig, eG, gr, fX, mV, ib, cQ, fk, bN, fL, gp, dS, ll, fD, lP, hV, fZ, d5, lQ, cf, d7, oK, g7, fC, gq, gn, de, bf, dput, cq, gA, B.val, aZ, Tg.d, putN, cU, fe, cF, du, cj, aw, bK, aC, bD, iq, mQ, List.map, List.length, d3]
    exact ⟨mulL ⟨by lia, by lia⟩, rfl⟩
  · rw [map_map];have e : List.map ((λx => match x with | .tup [.int a, .int b, .int c] => .int (j7 (a, b, c) L) | d => d) ∘ d3) bs = (bs.map λb => j7 b L).map D.int := by
      rw [map_map];exact Cd λy _ => rfl
    rw [e];exact yv q
theorem dO.DF {g : Int}{hs cs : List S3}(o : dO g hs cs):∀ b ∈ qP hs, 0 <= b.2.2 /\ b.2.2 <= 1000000000 := λb hb => by
  obtain ⟨x, hx, rfl⟩ := mem_map.mp hb;have h := o.BB x hx;exact ⟨by have := h.r0;show 0 <= x.2.2;lia, h.r1⟩
theorem dO.BU {g : Int}{hs cs : List S3}(o : dO g hs cs):∀ b ∈ kF g cs, 0 <= b.2.2 /\ b.2.2 <= 1000000000 := λb hb => by
  obtain ⟨x, hx, rfl⟩ := mem_map.mp hb;have h := o.uV x hx;exact ⟨by have := h.r0;show 0 <= x.2.2;lia, h.r1⟩
theorem wW (hs : List S3):(qP hs).length = hs.length := by unfold qP;simp
theorem uW (g : Int)(cs : List S3):(kF g cs).length = cs.length := by unfold kF;simp
noncomputable def gW : DR := λds P => ∃ g hs cs L, ds = [dW g hs cs, .int L] /\ dO g hs cs /\ P (.p (.int (cu g hs cs L)))
theorem m6 (T : iV mg)(TX : dR K mg cs)(TC : dQ K mg CS)(F_heat_above : Fn P w K mg base "heat_above" 1 ["bands", "level"] (fN K jY))(F_cold_bands : Fn P w K mg base "cold_bands" 1 ["works"] (fN K jX))(F_hot_bands : Fn P w K mg base "hot_bands" 1 ["works"] (fN K kQ))(F : fU K "lack_above" "lack_above" dF f fd):aM P w K mg base gM 2 f fd ["works", "level"] (fN K gW) := by
  refine rQ F nr (λds Q h => by obtain ⟨g, hs, cs, L, rfl, ok, q⟩ := h;rfl) λcdv A outer s H E hr => ⟨_, (bt (cv (aD gT (aW F_heat_above (hr.mono (by decide)) (by rfl) (ae (aW F_cold_bands (hr.mono (by decide)) (by rfl) (ae (dv 0) ao)) (ae (dv 1) ao))) (aW F_heat_above (hr.mono (by decide)) (by rfl) (ae (aW F_hot_bands (hr.mono (by decide)) (by rfl) (ae (dv 0) ao)) (ae (dv 1) ao)))))), λds Q h => ?_⟩
  obtain ⟨g, hs, cs, L, rfl, ok, q⟩ := h;try dsimp only [gb, dU, gu, eZ, e7, fY, gc, dP, fc, fb, dq, h8, h7, hX, eU, dr, cg, dn, eV, h9, eW, eX, bw, dC, hG, dI, lp, fK, fj, ic, eY, qA, ie, d6, d4, ig, eG, gr, fX, mV, ib, cQ, fk, bN, fL, gp, dS, ll, fD, lP, hV, fZ, d5, lQ, cf, d7, oK, g7, fC, gq, gn, de, bf, dput, cq, gA, B.val, aZ, Tg.d, putN, cU, fe, cF, du, cj, aw, bK, aC, bD, iq, mQ, List.map, List.length]
  refine ⟨g, hs, cs, rfl, ok.nc, ?_⟩;try dsimp only [gb, dU, gu, eZ, e7, fY, gc, dP, fc, fb, dq, h8, h7, hX, eU, dr, cg, dn, eV, h9, eW, eX, bw, dC, hG, dI, lp, fK, fj, ic, eY, qA, ie, d6, d4, ig, eG, gr, fX, mV, ib, cQ, fk, bN, fL, gp, dS, ll, fD, lP, hV, fZ, d5, lQ, cf, d7, oK, g7, fC, gq, gn, de, bf, dput, cq, gA, B.val, aZ, Tg.d, putN, cU, fe, cF, du, cj, aw, bK, aC, bD, iq, mQ, List.map, List.length]
  refine ⟨_, L, rfl, by rw [uW];exact ok.nc, ok.BU, g, hs, cs, rfl, ok.nh, ?_⟩;try dsimp only [gb, dU, gu, eZ, e7, fY, gc, dP, fc, fb, dq, h8, h7, hX, eU, dr, cg, dn, eV, h9, eW, eX, bw, dC, hG, dI, lp, fK, fj, ic, eY, qA, ie, d6, d4, ig, eG, gr, fX, mV, ib, cQ, fk, bN, fL, gp, dS, ll, fD, lP, hV, fZ, d5, lQ, cf, d7, oK, g7, fC, gq, gn, de, bf, dput, cq, gA, B.val, aZ, Tg.d, putN, cU, fe, cF, du, cj, aw, bK, aC, bD, iq, mQ, List.map, List.length]
  exact ⟨_, L, rfl, by rw [wW];exact ok.nh, ok.DF, q⟩
noncomputable def ef (g : Int)(hs cs : List S3):List Int := (List.range 251).map λi => cu g hs cs (i : Nat)
noncomputable def gm : DR := λds P => ∃ g hs cs, ds = [dW g hs cs] /\ dO g hs cs /\ P (.o (.lst ((ef g hs cs).map D.int)))
theorem mn (T : iV mg)(TX : dR K mg cs)(TC : dQ K mg CS)(F_lack_above : Fn P w K mg base "lack_above" 2 ["works", "level"] (fN K gW))(F : fU K "lacks_above" "lacks_above" cw f fd):aM P w K mg base gM 3 f fd ["works"] (fN K gm) := by
  refine rQ F mC (λds Q h => by obtain ⟨g, hs, cs, rfl, ok, q⟩ := h;rfl) λcdv A outer s H E hr => ⟨_, (bt (cv (qB (g := (.n 0)) (tc := de) (te := (dS _ (bN (bw 1) (bN (bw 0) fk)))) (sc0 := ag cw) (N0 := ["works"]) ["level", "works"] [none, some 0] rfl (wC (by rfl) T.yo (ae (aD bE (lS (by rfl) T.wQ) ak) ao)).di (λ_ _ _ _ _ => (bu (i := 0) (show (["level", "works"]:List Str).Nodup by decide +kernel) rfl (Or.inl rfl))) (λ_ _ _ _ _ => jH) (λ_ _ _ _ _ => (aW F_lack_above (hr.mono (by decide)) (by rfl) (ae (dv 1) (ae (dv 0) ao))))))), λds Q h => ?_⟩
  obtain ⟨g, hs, cs, rfl, ok, q⟩ := h;try dsimp only [gb, dU, gu, eZ, e7, fY, gc, dP, fc, fb, dq, h8, h7, hX, eU, dr, cg, dn, eV, h9, eW, eX, bw, dC, hG, dI, lp, fK, fj, ic, eY, qA, ie, d6, d4, ig, eG, gr, fX, mV, ib, cQ, fk, bN, fL, gp, dS, ll, fD, lP, hV, fZ, d5, lQ, cf, d7, oK, g7, fC, gq, gn, de, bf, dput, cq, gA, B.val, aZ, Tg.d, putN, cU, fe, cF, du, cj, aw, bK, aC, bD, iq, mQ, List.map, List.length]
  refine ⟨by decide, ?_⟩;refine o9 (λx => match x with | .int L => .int (cu g hs cs L) | d => d) (by rw [mJ];decide) (λx hx => ?_) ?_
  · obtain ⟨i, hi, rfl⟩ := sF hx;exact ⟨g, hs, cs, _, rfl, ok, rfl⟩
  · have e : List.map (λx => match x with | D.int L => D.int (cu g hs cs L) | d => d) (fJ 0 (Int.toNat (250 + 1))) = (ef g hs cs).map D.int := by
      unfold fJ ef;rw [map_map, map_map];refine Cd λi _ => ?_;show D.int (cu g hs cs (0 + (i : Nat))) = D.int (cu g hs cs (i : Nat));rw [Int.zero_add]
    rw [e];exact q
theorem vq {g : Int}{hs cs : List S3}{n : Int}(h : n ∈ ef g hs cs):∃ i : Nat, i < 251 /\ n = cu g hs cs (i : Nat) := by
  unfold ef at h;obtain ⟨i, hi, e⟩ := mem_map.mp h;exact ⟨i, mem_range.mp hi, e.symm⟩
theorem w9 {g : Int}{hs cs : List S3}{i : Nat}(h : i < 251):cu g hs cs (i : Nat) ∈ ef g hs cs := mem_map.mpr ⟨i, mem_range.mpr h, rfl⟩
structure aP (g : Int)(hs cs : List S3)(m : Int):Prop where
  z : 0 <= m
  ub : ∀ i : Nat, i < 251 -> cu g hs cs (i : Nat) <= m
  at' : m = 0 \/ ∃ i : Nat, i < 251 /\ m = cu g hs cs (i : Nat)
theorem aP.uniq {g : Int}{hs cs : List S3}{m m' : Int}(h : aP g hs cs m)(h' : aP g hs cs m'):m = m' := by
  have key : ∀ {a b : Int}, aP g hs cs a -> aP g hs cs b -> a <= b := λ{a b} x y => by
    rcases x.at' with e | ⟨i, hi, e⟩
    · rw [e];exact y.z
    · rw [e];exact y.ub i hi
  exact Int.le_antisymm (key h h') (key h' h)
noncomputable def eB : DR := λds P => ∃ g hs cs, ds = [dW g hs cs] /\ dO g hs cs /\ ∀ m, aP g hs cs m -> P (.p (.int m))
theorem ni (T : iV mg)(TX : dR K mg cs)(TC : dQ K mg CS)(F_lacks_above : Fn P w K mg base "lacks_above" 3 ["works"] (fN K gm))(F : fU K "least_heat" "least_heat" dM f fd):aM P w K mg base gM 4 f fd ["works"] (fN K eB) := by
  refine rQ F nA (λds Q h => by obtain ⟨g, hs, cs, rfl, ok, q⟩ := h;rfl) λcdv A outer s H E hr => ⟨_, (bt (cv (cC (tI rfl) (by rfl) T.tE boot_max (ae (aD bE (j8 (ae ak ao)) (aW F_lacks_above (hr.mono (by decide)) (by rfl) (ae (dv 0) ao))) ao)))), λds Q h => ?_⟩
  obtain ⟨g, hs, cs, rfl, ok, q⟩ := h;try dsimp only [gb, dU, gu, eZ, e7, fY, gc, dP, fc, fb, dq, h8, h7, hX, eU, dr, cg, dn, eV, h9, eW, eX, bw, dC, hG, dI, lp, fK, fj, ic, eY, qA, ie, d6, d4, ig, eG, gr, fX, mV, ib, cQ, fk, bN, fL, gp, dS, ll, fD, lP, hV, fZ, d5, lQ, cf, d7, oK, g7, fC, gq, gn, de, bf, dput, cq, gA, B.val, aZ, Tg.d, putN, cU, fe, cF, du, cj, aw, bK, aC, bD, iq, mQ, List.map, List.length]
  refine ⟨g, hs, cs, rfl, ok, ?_⟩;try dsimp only [gb, dU, gu, eZ, e7, fY, gc, dP, fc, fb, dq, h8, h7, hX, eU, dr, cg, dn, eV, h9, eW, eX, bw, dC, hG, dI, lp, fK, fj, ic, eY, qA, ie, d6, d4, ig, eG, gr, fX, mV, ib, cQ, fk, bN, fL, gp, dS, ll, fD, lP, hV, fZ, d5, lQ, cf, d7, oK, g7, fC, gq, gn, de, bf, dput, cq, gA, B.val, aZ, Tg.d, putN, cU, fe, cF, du, cj, aw, bK, aC, bD, iq, mQ, List.map, List.length]
  refine ⟨by rw [length_map];unfold ef;rw [length_map, length_range];exact fA (by decide), 0 :: ef g hs cs, rfl, List.cons_ne_nil _ _, λm h1 h2 => q m ⟨h2 0 mem_cons_self, λi hi => h2 _ (mem_cons_of_mem _ (w9 hi)), ?_⟩⟩;rcases List.mem_cons.mp h1 with e | e
  · exact .inl e
  · obtain ⟨i, hi, e⟩ := vq e;exact .inr ⟨i, hi, e⟩
noncomputable def j1 : DR := λds P => ∃ g hs cs, ds = [dW g hs cs] /\ dO g hs cs /\ ∀ m, aP g hs cs m -> P (.p (.int (m - cu g hs cs 0)))
theorem m9 (T : iV mg)(TX : dR K mg cs)(TC : dQ K mg CS)(F_least_heat : Fn P w K mg base "least_heat" 4 ["works"] (fN K eB))(F_lack_above : Fn P w K mg base "lack_above" 2 ["works", "level"] (fN K gW))(F : fU K "least_cold" "least_cold" dJ f fd):aM P w K mg base gM 5 f fd ["works"] (fN K j1) := by
  refine rQ F nz (λds Q h => by obtain ⟨g, hs, cs, rfl, ok, q⟩ := h;rfl) λcdv A outer s H E hr => ⟨_, (bt (cv (aD gT (aW F_least_heat (hr.mono (by decide)) (by rfl) (ae (dv 0) ao)) (aW F_lack_above (hr.mono (by decide)) (by rfl) (ae (dv 0) (ae ak ao)))))), λds Q h => ?_⟩
  obtain ⟨g, hs, cs, rfl, ok, q⟩ := h;try dsimp only [gb, dU, gu, eZ, e7, fY, gc, dP, fc, fb, dq, h8, h7, hX, eU, dr, cg, dn, eV, h9, eW, eX, bw, dC, hG, dI, lp, fK, fj, ic, eY, qA, ie, d6, d4, ig, eG, gr, fX, mV, ib, cQ, fk, bN, fL, gp, dS, ll, fD, lP, hV, fZ, d5, lQ, cf, d7, oK, g7, fC, gq, gn, de, bf, dput, cq, gA, B.val, aZ, Tg.d, putN, cU, fe, cF, du, cj, aw, bK, aC, bD, iq, mQ, List.map, List.length]
  refine ⟨g, hs, cs, rfl, ok, λm hm => ?_⟩;try dsimp only [gb, dU, gu, eZ, e7, fY, gc, dP, fc, fb, dq, h8, h7, hX, eU, dr, cg, dn, eV, h9, eW, eX, bw, dC, hG, dI, lp, fK, fj, ic, eY, qA, ie, d6, d4, ig, eG, gr, fX, mV, ib, cQ, fk, bN, fL, gp, dS, ll, fD, lP, hV, fZ, d5, lQ, cf, d7, oK, g7, fC, gq, gn, de, bf, dput, cq, gA, B.val, aZ, Tg.d, putN, cU, fe, cF, du, cj, aw, bK, aC, bD, iq, mQ, List.map, List.length]
  exact ⟨g, hs, cs, 0, rfl, ok, q m hm⟩
noncomputable def jB (g : Int)(hs cs : List S3)(m : Int)(d : D):Prop := (m = 0 /\ d = .non) \/ (m ≠ 0 /\ ∃ L : Nat, L < 251 /\ d = .int (L : Nat) /\ cu g hs cs (L : Nat) = m /\ ∀ i : Nat, i < 251 -> cu g hs cs (i : Nat) = m -> i <= L)
noncomputable def uB : DR := λds P => ∃ g hs cs, ds = [dW g hs cs] /\ dO g hs cs /\ ∀ m d, aP g hs cs m -> jB g hs cs m d -> P (.p d)
theorem si {g : Int}{hs cs : List S3}{x : D}(h : x ∈ bV 0 ((ef g hs cs).map D.int)):∃ i : Nat, i < 251 /\ x = .tup [.int (i : Nat), .int (cu g hs cs (i : Nat))] := by
  obtain ⟨i, hi⟩ := List.getElem?_of_mem h;obtain ⟨y, h1, h2⟩ := fv hi;rw [getElem?_map] at h1;unfold ef at h1;rw [getElem?_map] at h1;have hlt : i < 251 := by
    rcases Nat.lt_or_ge i 251 with z | z
    · exact z
    · rw [List.getElem?_eq_none (by rw [length_range];exact z)] at h1;cases h1
  rw [List.getElem?_range hlt] at h1;cases h1;rw [Nat.zero_add] at h2;exact ⟨i, hlt, h2⟩
theorem xr (T : iV mg)(TX : dR K mg cs)(TC : dQ K mg CS)(F_least_heat : Fn P w K mg base "least_heat" 4 ["works"] (fN K eB))(F_lacks_above : Fn P w K mg base "lacks_above" 3 ["works"] (fN K gm))(F : fU K "pinch" "pinch" gY f fd):aM P w K mg base gM 5 f fd ["works"] (fN K uB) := by
  refine rQ F rJ (λds Q h => by obtain ⟨g, hs, cs, rfl, ok, q⟩ := h;rfl) λcdv A outer s H E hr => ⟨_, (cm (dm (i := 1) rJ.nd rfl (Or.inr rfl) (aW F_least_heat (hr.mono (by decide)) (by rfl) (ae (dv 0) ao)))
      (cm (qH (bU fH (dv 1) ak (aR _)) (bt (cv As)) jJ)
      (bt (cv (cC (tI rfl) (by rfl) T.tE boot_max (ae (qB (g := (.t [0, 1])) (tc := (eG (hG _ (bw 1) (bw 2)))) (te := (bw 0)) (sc0 := ag gY) (N0 := ["works", "heat"]) ["level", "lack", "heat"] [none, none, some 1] rfl (oQ (by rfl) T.qg (ae (aW F_lacks_above (hr.mono (by decide)) (by rfl) (ae (dv 0) ao)) ao)) (λ_ _ _ _ _ => (iC rfl (bh (bu (i := 0) (show (["level", "lack", "heat"]:List Str).Nodup by decide +kernel) rfl (Or.inl rfl)) (bh (bu (i := 1) (show (["level", "lack", "heat"]:List Str).Nodup by decide +kernel) rfl (Or.inl rfl)) fR)))) (λ_ _ _ _ _ => (jI (bU fH (dv 1) (dv 2) (aR _)))) (λ_ _ _ _ _ => (dv 0))) ao)))))), λds Q h => ?_⟩
  obtain ⟨g, hs, cs, rfl, ok, q⟩ := h;try dsimp only [gb, dU, gu, eZ, e7, fY, gc, dP, fc, fb, dq, h8, h7, hX, eU, dr, cg, dn, eV, h9, eW, eX, bw, dC, hG, dI, lp, fK, fj, ic, eY, qA, ie, d6, d4, ig, eG, gr, fX, mV, ib, cQ, fk, bN, fL, gp, dS, ll, fD, lP, hV, fZ, d5, lQ, cf, d7, oK, g7, fC, gq, gn, de, bf, dput, cq, gA, B.val, aZ, Tg.d, putN, cU, fe, cF, du, cj, aw, bK, aC, bD, iq, mQ, List.map, List.length]
  refine ⟨g, hs, cs, rfl, ok, λm hm => ?_⟩;try dsimp only [gb, dU, gu, eZ, e7, fY, gc, dP, fc, fb, dq, h8, h7, hX, eU, dr, cg, dn, eV, h9, eW, eX, bw, dC, hG, dI, lp, fK, fj, ic, eY, qA, ie, d6, d4, ig, eG, gr, fX, mV, ib, cQ, fk, bN, fL, gp, dS, ll, fD, lP, hV, fZ, d5, lQ, cf, d7, oK, g7, fC, gq, gn, de, bf, dput, cq, gA, B.val, aZ, Tg.d, putN, cU, fe, cF, du, cj, aw, bK, aC, bD, iq, mQ, List.map, List.length]
  refine ⟨λh0 => q m .non hm (.inl ⟨of_decide_eq_true h0, rfl⟩), λh0 => ?_⟩;have h0' : m ≠ 0 := of_decide_eq_false h0;refine ⟨g, hs, cs, rfl, ok, ?_⟩;try dsimp only [gb, dU, gu, eZ, e7, fY, gc, dP, fc, fb, dq, h8, h7, hX, eU, dr, cg, dn, eV, h9, eW, eX, bw, dC, hG, dI, lp, fK, fj, ic, eY, qA, ie, d6, d4, ig, eG, gr, fX, mV, ib, cQ, fk, bN, fL, gp, dS, ll, fD, lP, hV, fZ, d5, lQ, cf, d7, oK, g7, fC, gq, gn, de, bf, dput, cq, gA, B.val, aZ, Tg.d, putN, cU, fe, cF, du, cj, aw, bK, aC, bD, iq, mQ, List.map, List.length]
  refine sy (λx => match x with | .tup [a, .int b] => if b = m then some a else none | _ => none) (by rw [fw, length_map];unfold ef;simp) (λx hx => ?_) ?_
  · obtain ⟨i, hi, rfl⟩ := si hx;try dsimp only [gb, dU, gu, eZ, e7, fY, gc, dP, fc, fb, dq, h8, h7, hX, eU, dr, cg, dn, eV, h9, eW, eX, bw, dC, hG, dI, lp, fK, fj, ic, eY, qA, ie, d6, d4, ig, eG, gr, fX, mV, ib, cQ, fk, bN, fL, gp, dS, ll, fD, lP, hV, fZ, d5, lQ, cf, d7, oK, g7, fC, gq, gn, de, bf, dput, cq, gA, B.val, aZ, Tg.d, putN, cU, fe, cF, du, cj, aw, bK, aC, bD, iq, mQ, List.map, List.length]
    refine ⟨λc => ?_, λc => ?_⟩
    · rw [if_pos (of_decide_eq_true c)]
    · rw [if_neg (of_decide_eq_false c)]
  · have hfm : ∃ ns : List Int, (bV 0 ((ef g hs cs).map D.int)).filterMap (λx => match x with | .tup [a, .int b] => if b = m then some a else none | _ => none) = ns.map D.int /\ ∀ n, n ∈ ns ↔ ∃ i : Nat, i < 251 /\ n = (i : Nat) /\ cu g hs cs (i : Nat) = m := by
      have e : (ef g hs cs).map D.int = (List.range 251).map λi => D.int (cu g hs cs (i : Nat)) := by unfold ef;rw [map_map];rfl
      refine ⟨((List.range 251).filter λi => decide (cu g hs cs (i : Nat) = m)).map λi => ((i : Nat):Int), ?_, λn => ⟨λh => ?_, λ⟨i, hi, e1, e2⟩ => ?_⟩⟩
      · rw [e, lW, List.filterMap_map, map_map];exact eQ (λi : Nat => cu g hs cs (i : Nat) = m) (λi => D.int (i : Nat)) (List.range 251)
      · obtain ⟨i, hi, e⟩ := mem_map.mp h;obtain ⟨h1, h2⟩ := List.mem_filter.mp hi;exact ⟨i, mem_range.mp h1, e.symm, of_decide_eq_true h2⟩
      · exact mem_map.mpr ⟨i, List.mem_filter.mpr ⟨mem_range.mpr hi, decide_eq_true e2⟩, e1.symm⟩
    obtain ⟨ns, e1, e2⟩ := hfm;rw [e1];refine ⟨ns, rfl, ?_, λL h1 h2 => ?_⟩
    · rcases hm.at' with e | ⟨i, hi, e⟩
      · exact absurd e h0'
      · exact List.ne_nil_of_mem ((e2 _).mpr ⟨i, hi, rfl, e.symm⟩)
    · obtain ⟨i, hi, rfl, e⟩ := (e2 _).mp h1;refine q m _ hm (.inr ⟨h0', i, hi, rfl, e, λj hj ej => ?_⟩);have := h2 _ ((e2 _).mpr ⟨j, hj, rfl, ej⟩);lia
noncomputable abbrev fx := List (Int × S3)
noncomputable abbrev oD (CS : Addr)(g : Int)(hs ks : fx)(n : Int):D := .ext (.obj CS g hs ks n)
noncomputable def vals (l : fx):List S3 := l.map (·.2)
noncomputable def allOf (k : Str)(hs ks : fx):fx := if k = aO then hs else ks
noncomputable def ku (CS : Addr):DR := λds Q => ∃ (g : Int) (hs ks : fx) (n : Int) (k : Str), ds = [oD CS g hs ks n, .str k] /\ Q (.p (.ext (.dki (allOf k hs ks))))
noncomputable def uI (CS : Addr):Sp := λvs H Q _ => ∃ (a dx b c : Addr) (g n : Int) (k : Str), vs = [.ref a, .str k] /\ H a = some (.ins CS dx (eI g b c n)) /\ Q (.ref (if k = aO then b else c)) H
theorem oW (g : Int)(b c : Addr)(n : Int):(eI g b c n).lookup ("hots" : Str) = some (V.ref b) := rfl
theorem lX (g : Int)(b c : Addr)(n : Int):(eI g b c n).lookup ("colds" : Str) = some (V.ref c) := rfl
theorem lY (g : Int)(b c : Addr)(n : Int):(eI g b c n).lookup ("spent" : Str) = some (V.int n) := rfl
theorem jR (T : iV mg)(TX : dR K mg cs)(TC : dQ K mg CS)(F : fU K "all_of" "Streams.all_of" bQ f fd):aM P w K mg base gM 1 f fd ["self", "kind"] (uI CS) := by
  refine F.ok j2 (λvs H Q E h => ?_) λcdv A outer s H vs Q E hr h => ?_
  · obtain ⟨a, dx, b, c, g, n, k, rfl, _⟩ := h;rfl
  · obtain ⟨a, dx, b, c, g, n, k, rfl, h1, q⟩ := h;refine ⟨_, ar (fh (iS om (pv 1) kn (aR _)) (aN (cH (gj (pv 0) rfl))) cV) (aN (cH (gj (pv 0) rfl))), ?_⟩;refine ⟨_, rfl, rfl, _, rfl, ?_⟩;refine qV (λz => ?_) λz => ?_
    · rw [if_pos (show k = aO by have := of_decide_eq_true z;exact V.str.inj this)] at q;exact ⟨_, rfl, a, CS, dx, _, _, rfl, h1, TC.cl, TC.kh, oW g b c n, q⟩
    · rw [if_neg (show ¬ k = aO from λe => z (decide_eq_true (congrArg V.str e)))] at q;exact ⟨_, rfl, a, CS, dx, _, _, rfl, h1, TC.cl, TC.iQ, lX g b c n, q⟩
theorem vU {fa : Addr}{fda : FuncData}(F : aM P w K mg base gM 1 fa fda ["self", "kind"] (uI CS))(m : Meth K CS "all_of" fa)(b : Binds K fda ["self", "kind"] []):tj P w K mg base CS "all_of" 1 ["self", "kind"] (ku CS) := by
  refine jc (F.imp ?_) m b;rintro vs H Q E ⟨ds, G, P, s, r, ⟨g, hs, ks, n, k, e, q⟩, kk⟩;subst e;cases r with
  | cons r1 r => cases r with
    | cons r2 r =>
      cases r;cases r2;obtain ⟨a, dx, b, c, rfl, h1, h2, h3⟩ := Rep.iR r1;refine ⟨a, dx, b, c, g, n, k, rfl, s _ _ h1, kk _ _ H G q (Wd.refl s) ?_⟩;show Rep K G _ _;unfold allOf;split
      · exact .ext h2
      · exact .ext h3
noncomputable def bY (CS : Addr):DR := λds Q => ∃ (g : Int) (hs ks : fx) (n : Int), ds = [oD CS g hs ks n] /\ Q (.n (.wk g) [.lst ((vals hs).map d3), .lst ((vals ks).map d3)])
theorem kl (T : iV mg)(TX : dR K mg cs)(TC : dQ K mg CS)(F : fU K "works" "Streams.works" cc f fd):aM P w K mg base gM 1 f fd ["self"] (fN K (bY CS)) := by
  refine rQ F kA (λds Q h => by obtain ⟨g, hs, ks, n, rfl, q⟩ := h;rfl) λcdv A outer s H E hr => ⟨_, (bt (cv (yx (oN TC.cl TC.xk uD (dv 0)) (qD rfl (by rfl) T.vW (oN TC.cl TC.kh xT (dv 0))) (qD rfl (by rfl) T.vW (oN TC.cl TC.iQ vE (dv 0)))))), λds Q h => ?_⟩
  obtain ⟨g, hs, ks, n, rfl, q⟩ := h;walk_at "rs";unfold vals at q;rw [map_map, map_map] at q;exact q
noncomputable def dZ (CS : Addr):DR := λds Q => ∃ (g : Int) (hs ks : fx) (n : Int), ds = [oD CS g hs ks n] /\ dO g (vals hs) (vals ks) /\ ∀ m d, aP g (vals hs) (vals ks) m -> jB g (vals hs) (vals ks) m d -> Q (.p (.tup [.int m, .int (m - cu g (vals hs) (vals ks) 0), d]))
theorem kj (T : iV mg)(TX : dR K mg cs)(TC : dQ K mg CS)(FM_Streams_works : tj P w K mg base CS "works" 1 ["self"] (bY CS))(F_least_heat : Fn P w K mg base "least_heat" 4 ["works"] (fN K eB))(F_least_cold : Fn P w K mg base "least_cold" 5 ["works"] (fN K j1))(F_pinch : Fn P w K mg base "pinch" 5 ["works"] (fN K uB))(F : fU K "least" "Streams.least" bZ f fd):aM P w K mg base gM 6 f fd ["self"] (fN K (dZ CS)) := by
  refine rQ F gJ (λds Q h => by obtain ⟨g, hs, ks, n, rfl, ok, q⟩ := h;rfl) λcdv A outer s H E hr => ⟨_, (cm (dm (i := 1) gJ.nd rfl (Or.inl rfl) (cR FM_Streams_works TC.cl (λ_ _ _ _ => rfl) (hr.mono (by decide)) (dv 0)))
      (bt (cv (gd (ae (aW F_least_heat (hr.mono (by decide)) (by rfl) (ae (dv 1) ao)) (ae (aW F_least_cold (hr.mono (by decide)) (by rfl) (ae (dv 1) ao)) (ae (aW F_pinch (hr.mono (by decide)) (by rfl) (ae (dv 1) ao)) ao))))))), λds Q h => ?_⟩
  obtain ⟨g, hs, ks, n, rfl, ok, q⟩ := h;walk_at "rs";refine ⟨g, hs, ks, n, rfl, ?_⟩;walk_at "rs";refine ⟨g, vals hs, vals ks, rfl, ok, λm hm => ?_⟩;walk_at "rs";refine ⟨g, vals hs, vals ks, rfl, ok, λm2 hm2 => ?_⟩;obtain rfl := hm2.uniq hm;walk_at "rs";refine ⟨g, vals hs, vals ks, rfl, ok, λm3 d hm3 hd => ?_⟩;obtain rfl := hm3.uniq hm;walk_at "rs";exact q _ _ hm hd
noncomputable def jv (cs : hJ)(CS : Addr):rT := λds Q Z => ∃ (g : Int) (hs ks : fx) (n i : Int), ds = [oD CS g hs ks n, .int i] /\ Sm i /\
  if dE hs i = true then Q (.p (.ext (.dki hs))) else if dE ks i = true then Q (.p (.ext (.dki ks))) else Z (.ref cs.aQ)
noncomputable def pJ (cs : hJ)(CS : Addr):Sp := λvs H Q E => ∃ (a dx b c : Addr) (g n i : Int) (hs ks : fx), vs = [.ref a, .int i] /\ H a = some (.ins CS dx (eI g b c n)) /\ bL H H b hs /\ bL H H c ks /\ Sm i /\
  if dE hs i = true then Q (.ref b) H else if dE ks i = true then Q (.ref c) H else ∀ H', av H H' -> E (.ref cs.aQ) none H'
theorem jq (T : iV mg)(TX : dR K mg cs)(TC : dQ K mg CS)(F : fU K "home_of" "Streams.home_of" bF f fd):aM P w K mg base (g9 P w) 1 f fd ["self", "number"] (pJ cs CS) := by
  refine F.yf jw (λvs H Q E h => ?_) λcdv A outer s H vs Q E hr h => ?_
  · obtain ⟨a, dx, b, c, g, n, i, hs, ks, rfl, _⟩ := h;rfl
  · obtain ⟨a, dx, b, c, g, n, i, hs, ks, rfl, ha, ⟨es, hb, pb⟩, ⟨et, hc, pc⟩, hi, q⟩ := h;refine ⟨_, ar (fh (xG (xt (wX hr) (pv 1) (gj (pv 0) rfl))) (aN (cH (gj (pv 0) rfl))) cV) (ar (fh (xG (xt (wX hr) (pv 1) (gj (pv 0) rfl))) (aN (cH (gj (pv 0) rfl))) cV)
      (aN (rD bJ rfl TX.mP.er (by rfl) TX.mP.at_ (ae (lR (fE (gf (dv 1) (fE lV)))) ao).pa))), ?_⟩
    refine ⟨_, rfl, _, rfl, a, CS, dx, _, _, rfl, ha, TC.cl, TC.kh, oW g b c n, b, _, rfl, uM.k (k := Sum.inl i) hb, _, rfl, ?_⟩;rw [mL i pb];by_cases f1 : dE hs i = true
    · rw [if_pos f1] at q;rw [f1];exact mW ⟨_, rfl, a, CS, dx, _, _, rfl, ha, TC.cl, TC.kh, oW g b c n, q⟩
    rw [if_neg f1] at q;rw [Bool.not_eq_true _ |>.mp f1];refine iY ?_;refine ⟨_, rfl, _, rfl, a, CS, dx, _, _, rfl, ha, TC.cl, TC.iQ, lX g b c n, c, _, rfl, uM.k (k := Sum.inl i) hc, _, rfl, ?_⟩;rw [mL i pc];by_cases f2 : dE ks i = true
    · rw [if_pos f2] at q;rw [f2];exact mW ⟨_, rfl, a, CS, dx, _, _, rfl, ha, TC.cl, TC.iQ, lX g b c n, q⟩
    rw [if_neg f2] at q;rw [Bool.not_eq_true _ |>.mp f2];refine iY ?_;have l1 := oi hi;have c1 : (Str.ofString "no stream of the number ").length = 24 := by decide +kernel
    have c2 : (Str.ofString " is in").length = 6 := by decide +kernel
    have sz : sizeLine = 16777216 := sizeLine_eq;refine ⟨H, [none, some (.p (.int i))], λ_ => True, av.refl _, λj d e => ?_, ?_, λds vs H' G' _ l w' r' => ⟨by rw [Paired.length r', l];exact Nat.le_of_lt (iT (by decide)), q H' w'.hh⟩⟩
    · match j, e with
      | 1, e => cases e;exact ⟨_, rfl, .int i⟩
    · walk_at "rs";simp only [len_app, Dg, c1, c2];exact ⟨by lia, oh hi, by lia, by lia, by lia, trivial⟩
theorem ve {fa : Addr}{fda : FuncData}(F : aM P w K mg base (g9 P w) 1 fa fda ["self", "number"] (pJ cs CS))(m : Meth K CS "home_of" fa)(b : Binds K fda ["self", "number"] []):yi P w K mg base CS "home_of" 1 ["self", "number"] (jv cs CS) := by
  refine ml (F.imp ?_) m b;rintro vs H Q E ⟨ds, G, P, Z, s, r, ⟨g, hs, ks, n, i, e, hi, q⟩, kk, kz⟩;subst e;cases r with
  | cons r1 r => cases r with
    | cons r2 r =>
      cases r;cases r2;obtain ⟨a, dx, b, c, rfl, h1, h2, h3⟩ := Rep.iR r1;refine ⟨a, dx, b, c, g, n, i, hs, ks, rfl, s _ _ h1, h2.mono s (s b), h3.mono s (s c), hi, ?_⟩;by_cases f1 : dE hs i = true
      · rw [if_pos f1] at q ⊢;exact kk _ _ H G q (Wd.refl s) (.ext h2)
      rw [if_neg f1] at q ⊢;by_cases f2 : dE ks i = true
      · rw [if_pos f2] at q ⊢;exact kk _ _ H G q (Wd.refl s) (.ext h3)
      rw [if_neg f2] at q ⊢;exact λH' s' => kz _ _ q s'
noncomputable def dw (cs : hJ)(CS : Addr):rT := λds Q Z => ∃ (g : Int) (hs ks : fx) (n : Int) (k : Str) (x : S3), ds = [oD CS g hs ks n, .str k, d3 x] /\ (k = aO \/ k = bC) /\ Sm x.1 /\ Sm x.2.1 /\ Sm x.2.2 /\
  if 12 <= (allOf k hs ks).length then Z (.ref cs.Full) else if fi k x = 1 then Z (.ref cs.aA) else if fi k x = 2 then Z (.ref cs.aK) else Q (.p .non)
theorem iz (T : iV mg)(TX : dR K mg cs)(TC : dQ K mg CS)(FX_check_stream : BH P w K mg base "check_stream" 2 ["kind", "stream"] (vL K (g5 cs))){a_Streams_all_of : Addr}{fd_Streams_all_of : FuncData}(FV_Streams_all_of : aM P w K mg base gM 1 a_Streams_all_of fd_Streams_all_of ["self", "kind"] (uI CS))(MV_Streams_all_of : Meth K CS "all_of" a_Streams_all_of)(BV_Streams_all_of : Binds K fd_Streams_all_of ["self", "kind"] [])(F : fU K "check_new" "Streams.check_new" bo f fd):aM P w K mg base (g9 P w) 3 f fd ["self", "kind", "stream"] (vL K (dw cs CS)) := by
  have FM_Streams_all_of := vU FV_Streams_all_of MV_Streams_all_of BV_Streams_all_of;refine xq F iF (λds Q Z h => by obtain ⟨g, hs, ks, n, k, x, rfl, hk, h1, h2, h3, q⟩ := h;rfl) λcdv A outer s H E Z hr hZ => ⟨_, (cn (tY (bU zR (cC yt (by rfl) T.nF PySem.boot_len (ae (jk FM_Streams_all_of TC.cl (λ_ _ _ _ => rfl) (hr.mono (by decide)) (dv 0) (ae (dv 1) ao)) ao)) (lS (by rfl) T.gB) (aR _)) (fu (jL bJ hZ rfl TX.x9.er (by rfl) TX.x9.at_ (ae (lR (fE (gf (lS (by rfl) T.gB) (fE (gf (dv 1) (fE lV)))))) ao))) lz)
      (fu (jK bJ hZ FX_check_stream (hr.mono (by decide)) (by rfl) (ae (dv 1) (ae (dv 2) ao))))), λds Q h => ?_⟩
  obtain ⟨g, hs, ks, n, k, x, rfl, hk, h1, h2, h3, q⟩ := h;walk_at "rs";refine ⟨g, hs, ks, n, k, rfl, ?_⟩;walk_at "rs";have c0 : (Str.ofString "there are ").length = 10 := by decide +kernel
  have c1 : (Str.ofString (toString (12 : Int))).length = 2 := by decide +kernel
  have c2 : (Str.ofString " ").length = 1 := by decide +kernel
  have c3 : (Str.ofString " streams in").length = 11 := by decide +kernel
  have sz : sizeLine = 16777216 := sizeLine_eq;have lk : k.length <= 4 := by rcases hk with rfl | rfl <;> decide +kernel
  simp only [len_app, Dg, c0, c1, c2, c3];refine ⟨λz => ⟨by lia, by decide, by lia, by lia, by lia, by lia, by lia, by lia, ?_⟩, λz => ⟨k, x, rfl, hk, h1, h2, h3, ?_⟩⟩
  · have := of_decide_eq_true z;rw [if_pos (by lia)] at q;exact q
  · have := of_decide_eq_false z;rw [if_neg (by lia)] at q;exact q
noncomputable def cB (CS : Addr):DR := λds Q => ∃ (g : Int) (hs ks : fx) (n : Int) (as bs : List S3), ds = [oD CS g hs ks n, dW g as bs] /\ dO g (vals hs) (vals ks) /\ dO g as bs /\
  ∀ m m', aP g as bs m -> aP g (vals hs) (vals ks) m' -> Q (.p (.int (m - m')))
theorem iy (T : iV mg)(TX : dR K mg cs)(TC : dQ K mg CS)(F_least_heat : Fn P w K mg base "least_heat" 4 ["works"] (fN K eB))(FM_Streams_works : tj P w K mg base CS "works" 1 ["self"] (bY CS))(F : fU K "change_to" "Streams.change_to" bj f fd):aM P w K mg base gM 5 f fd ["self", "works"] (fN K (cB CS)) := by
  refine rQ F iE (λds Q h => by obtain ⟨g, hs, ks, n, as, bs, rfl, ok, ok', q⟩ := h;rfl) λcdv A outer s H E hr => ⟨_, (bt (cv (aD gT (aW F_least_heat (hr.mono (by decide)) (by rfl) (ae (dv 1) ao)) (aW F_least_heat (hr.mono (by decide)) (by rfl) (ae (cR FM_Streams_works TC.cl (λ_ _ _ _ => rfl) (hr.mono (by decide)) (dv 0)) ao))))), λds Q h => ?_⟩
  obtain ⟨g, hs, ks, n, as, bs, rfl, ok, ok', q⟩ := h;walk_at "rs";refine ⟨g, as, bs, rfl, ok', λm hm => ?_⟩;walk_at "rs";refine ⟨g, hs, ks, n, rfl, ?_⟩;walk_at "rs";refine ⟨g, vals hs, vals ks, rfl, ok, λm' hm' => ?_⟩;walk_at "rs";exact q m m' hm hm'
noncomputable def lH (cs : hJ)(CS : Addr):Sp := λvs H Q E => ∃ (a dx b c t : Addr) (g n : Int) (hs ks : fx) (k : Str) (x : S3) (es : List (Key × V)), vs = [.ref a, .str k, .ref t] /\ H a = some (.ins CS dx (eI g b c n)) /\ bL H H b hs /\ bL H H c ks /\
  H (if k = aO then b else c) = some (.dK es) /\ es.length < sizeLine /\ H t = some (.tup [.int x.1, .int x.2.1, .int x.2.2]) /\ (k = aO \/ k = bC) /\ Sm x.1 /\ Sm x.2.1 /\ Sm x.2.2 /\
  if 12 <= (allOf k hs ks).length then ∀ H', av H H' -> E (.ref cs.Full) none H' else if fi k x = 1 then ∀ H', av H H' -> E (.ref cs.aA) none H' else if fi k x = 2 then ∀ H', av H H' -> E (.ref cs.aK) none H' else
    ∀ H1, av H H1 -> Q (.int (n + 1)) (upd (upd H1 a (.ins CS dx (eI g b c (n + 1)))) (if k = aO then b else c) (.dK (putK es (Sum.inl (n + 1)) (.ref t))))
theorem jS (T : iV mg)(TX : dR K mg cs)(TC : dQ K mg CS)(FMX_Streams_check_new : yi P w K mg base CS "check_new" 3 ["self", "kind", "stream"] (dw cs CS)){a_Streams_all_of : Addr}{fd_Streams_all_of : FuncData}(FV_Streams_all_of : aM P w K mg base gM 1 a_Streams_all_of fd_Streams_all_of ["self", "kind"] (uI CS))(MV_Streams_all_of : Meth K CS "all_of" a_Streams_all_of)(BV_Streams_all_of : Binds K fd_Streams_all_of ["self", "kind"] [])(F : fU K "put_in" "Streams.put_in" bR f fd):aM P w K mg base (g9 P w) 4 f fd ["self", "kind", "stream"] (lH cs CS) := by
  refine F.yf fS (λvs H Q E h => ?_) λcdv A outer s H vs Q E hr h => ?_
  · obtain ⟨a, dx, b, c, t, g, n, hs, ks, k, x, es, rfl, _⟩ := h;rfl
  · obtain ⟨a, dx, b, c, t, g, n, hs, ks, k, x, es, rfl, ha, hb, hc, hd, hl, ht, hk, s1, s2, s3, q⟩ := h;obtain ⟨f1, fd1, F1, m1, b1⟩ := FMX_Streams_check_new.ex;refine ⟨_, ar (dY (eA (pv 0) TC.cl m1 F1 (hr.mono (by decide)) b1 .nil (bJ.passes λ_ _ _ h => h) (au (pv 1) (au (pv 2) aY))))
      (ar (br (i := 3) fS.nd rfl (Or.inl rfl) (eA (pv 0) TC.cl MV_Streams_all_of FV_Streams_all_of (hr.mono (by decide)) BV_Streams_all_of .nil rm (au (pv 1) aY)))
      (ar (vB (pv 0) eh AA)
      (ar (zg (wX hr) (pv 3) (gj (pv 0) rfl) (pv 2) rfl)
      (aN (cH (gj (pv 0) rfl)))))), ?_⟩
    have rep : bx K H [.ref a, .str k, .ref t] [oD CS g hs ks n, .str k, d3 x] := .cons (.ext ⟨dx, b, c, ha, hb, hc⟩) (.cons (.str k) (.cons (Rep.kC ht (.cons (.int _) (.cons (.int _) (.cons (.int _) .nil)))) .nil));refine ⟨_, rfl, a, dx, _, rfl, ha, rfl, _, rfl, _, rfl, ?_⟩;by_cases f1 : 12 <= (allOf k hs ks).length
    · rw [if_pos f1] at q;exact ⟨_, H, λ_ => False, λcls => cls = .ref cs.Full, av.refl _, rep, ⟨g, hs, ks, n, k, x, rfl, hk, s1, s2, s3, by rw [if_pos f1]⟩, λ_ _ _ _ z => z.elim, λcls H' e s' => e ▸ q H' s'⟩
    rw [if_neg f1] at q;by_cases f2 : fi k x = 1
    · rw [if_pos f2] at q;exact ⟨_, H, λ_ => False, λcls => cls = .ref cs.aA, av.refl _, rep, ⟨g, hs, ks, n, k, x, rfl, hk, s1, s2, s3, by rw [if_neg f1, if_pos f2]⟩, λ_ _ _ _ z => z.elim, λcls H' e s' => e ▸ q H' s'⟩
    rw [if_neg f2] at q;by_cases f3 : fi k x = 2
    · rw [if_pos f3] at q;exact ⟨_, H, λ_ => False, λcls => cls = .ref cs.aK, av.refl _, rep, ⟨g, hs, ks, n, k, x, rfl, hk, s1, s2, s3, by rw [if_neg f1, if_neg f2, if_pos f3]⟩, λ_ _ _ _ z => z.elim, λcls H' e s' => e ▸ q H' s'⟩
    rw [if_neg f3] at q;refine ⟨_, H, λ_ => True, λ_ => False, av.refl _, rep, ⟨g, hs, ks, n, k, x, rfl, hk, s1, s2, s3, by rw [if_neg f1, if_neg f2, if_neg f3];trivial⟩, λb0 v0 H1 G1 _ w1 _ => ?_, λ_ _ z => z.elim⟩;have ha1 := w1.hh _ _ ha;have hd1 := w1.hh _ _ hd;have q1 := q H1 w1.hh;generalize hy : (if k = aO then b else c) = y at hd1 q1;have nay : a ≠ y := iu ha1 hd1 (by intro z;cases z);have pf : gk "spent" (V.int (n + 1)) (eI g b c n) = eI g b c (n + 1) := rfl;refine ⟨_, rfl, a, dx, _, rfl, ha1, rfl, _, rfl, a, dx, b, c, g, n, k, rfl, ha1, ?_⟩;rw [hy];refine ⟨_, rfl, a, CS, dx, _, _, rfl, ha1, TC.cl, TC.lC, lY g b c n, n, 1, rfl, rfl, dx, _, ha1, (show 4 < 1000 by decide), ?_⟩;rw [pf];refine ⟨_, rfl, _, rfl, _, rfl, a, CS, dx, _, _, rfl, aq, TC.cl, TC.lC, lY g b c (n + 1), y, _, rfl, vO.k (k := Sum.inl (n + 1)) (by rw [ah nay.symm];exact hd1) hl, ?_⟩;exact ⟨_, rfl, a, CS, dx, _, _, rfl, (by rw [ah nay];exact aq), TC.cl, TC.lC, lY g b c (n + 1), q1⟩
noncomputable def rN (k : Str)(cs : hJ)(CS : Addr):Sp := λvs H Q E => ∃ (a dx b c : Addr) (g n : Int) (hs ks : fx) (x : S3) (es : List (Key × V)), vs = [.ref a, .int x.1, .int x.2.1, .int x.2.2] /\ H a = some (.ins CS dx (eI g b c n)) /\ bL H H b hs /\ bL H H c ks /\
  H (if k = aO then b else c) = some (.dK es) /\ es.length < sizeLine /\ Sm x.1 /\ Sm x.2.1 /\ Sm x.2.2 /\
  if 12 <= (allOf k hs ks).length then ∀ H', av H H' -> E (.ref cs.Full) none H' else if fi k x = 1 then ∀ H', av H H' -> E (.ref cs.aA) none H' else if fi k x = 2 then ∀ H', av H H' -> E (.ref cs.aK) none H' else
    ∀ H1 t, av H H1 -> H t = none -> H1 t = some (.tup [.int x.1, .int x.2.1, .int x.2.2]) -> Q (.int (n + 1)) (upd (upd H1 a (.ins CS dx (eI g b c (n + 1)))) (if k = aO then b else c) (.dK (putK es (Sum.inl (n + 1)) (.ref t))))
theorem xI {k : Str}{H H1 : Hp}{Q : VK}{E : XK}{a dx b c t : Addr}{g n : Int}{hs ks : fx}{x : S3}{es : List (Key × V)}(hk : k = aO \/ k = bC)(s : av H H1)(nt : H t = none)(et : H1 t = some (.tup [.int x.1, .int x.2.1, .int x.2.2]))(ha : H a = some (.ins CS dx (eI g b c n)))(hb : bL H H b hs)(hc : bL H H c ks)
    (hd : H (if k = aO then b else c) = some (.dK es)) (hl : es.length < sizeLine) (s1 : Sm x.1) (s2 : Sm x.2.1) (s3 : Sm x.2.2)
    (q : if 12 <= (allOf k hs ks).length then ∀ H', av H H' -> E (.ref cs.Full) none H' else if fi k x = 1 then ∀ H', av H H' -> E (.ref cs.aA) none H' else if fi k x = 2 then ∀ H', av H H' -> E (.ref cs.aK) none H' else
      ∀ H1 t, av H H1 -> H t = none -> H1 t = some (.tup [.int x.1, .int x.2.1, .int x.2.2]) -> Q (.int (n + 1)) (upd (upd H1 a (.ins CS dx (eI g b c (n + 1)))) (if k = aO then b else c) (.dK (putK es (Sum.inl (n + 1)) (.ref t))))):lH cs CS [.ref a, .str k, .ref t] H1 Q E := by
  refine ⟨a, dx, b, c, t, g, n, hs, ks, k, x, es, rfl, s _ _ ha, hb.mono s (s b), hc.mono s (s c), s _ _ hd, hl, et, hk, s1, s2, s3, ?_⟩;by_cases f1 : 12 <= (allOf k hs ks).length
  · rw [if_pos f1] at q ⊢;exact λH' s' => q H' (s.trans s')
  rw [if_neg f1] at q ⊢;by_cases f2 : fi k x = 1
  · rw [if_pos f2] at q ⊢;exact λH' s' => q H' (s.trans s')
  rw [if_neg f2] at q ⊢;by_cases f3 : fi k x = 2
  · rw [if_pos f3] at q ⊢;exact λH' s' => q H' (s.trans s')
  rw [if_neg f3] at q ⊢;exact λH' s' => q H' t (s.trans s') nt (s' _ _ et)
theorem jr (T : iV mg)(TX : dR K mg cs)(TC : dQ K mg CS){a_Streams_put_in : Addr}{fd_Streams_put_in : FuncData}(FV_Streams_put_in : aM P w K mg base (g9 P w) 4 a_Streams_put_in fd_Streams_put_in ["self", "kind", "stream"] (lH cs CS))(MV_Streams_put_in : Meth K CS "put_in" a_Streams_put_in)(BV_Streams_put_in : Binds K fd_Streams_put_in ["self", "kind", "stream"] [])(F : fU K "put_hot" "Streams.put_hot" bG f fd):aM P w K mg base (g9 P w) 5 f fd ["self", "start", "goal", "rate"] (rN aO cs CS) := by
  refine F.yf jx (λvs H Q E h => ?_) λcdv A outer s H vs Q E hr h => ?_
  · obtain ⟨a, dx, b, c, g, n, hs, ks, x, es, rfl, _⟩ := h;rfl
  · obtain ⟨a, dx, b, c, g, n, hs, ks, x, es, rfl, ha, hb, hc, hd, hl, s1, s2, s3, q⟩ := h;refine ⟨_, aN (cH (eA (pv 0) TC.cl MV_Streams_put_in FV_Streams_put_in (hr.mono (by decide)) BV_Streams_put_in .nil (bJ.passes λ_ _ _ h => h) (au kn (au (jt (au (pv 1) (au (pv 2) (au (pv 3) aY)))) aY)))), ?_⟩;refine ⟨_, rfl, a, dx, _, rfl, ha, rfl, _, rfl, _, rfl, _, rfl, (show 3 <= sizeLine by decide), λt ht => ?_⟩;exact xI (.inl rfl) (dB ht) ht aq ha hb hc hd hl s1 s2 s3 q
theorem i3 (T : iV mg)(TX : dR K mg cs)(TC : dQ K mg CS){a_Streams_put_in : Addr}{fd_Streams_put_in : FuncData}(FV_Streams_put_in : aM P w K mg base (g9 P w) 4 a_Streams_put_in fd_Streams_put_in ["self", "kind", "stream"] (lH cs CS))(MV_Streams_put_in : Meth K CS "put_in" a_Streams_put_in)(BV_Streams_put_in : Binds K fd_Streams_put_in ["self", "kind", "stream"] [])(F : fU K "put_cold" "Streams.put_cold" bA f fd):aM P w K mg base (g9 P w) 5 f fd ["self", "start", "goal", "rate"] (rN bC cs CS) := by
  refine F.yf i9 (λvs H Q E h => ?_) λcdv A outer s H vs Q E hr h => ?_
  · obtain ⟨a, dx, b, c, g, n, hs, ks, x, es, rfl, _⟩ := h;rfl
  · obtain ⟨a, dx, b, c, g, n, hs, ks, x, es, rfl, ha, hb, hc, hd, hl, s1, s2, s3, q⟩ := h;refine ⟨_, aN (cH (eA (pv 0) TC.cl MV_Streams_put_in FV_Streams_put_in (hr.mono (by decide)) BV_Streams_put_in .nil (bJ.passes λ_ _ _ h => h) (au kn (au (jt (au (pv 1) (au (pv 2) (au (pv 3) aY)))) aY)))), ?_⟩;refine ⟨_, rfl, a, dx, _, rfl, ha, rfl, _, rfl, _, rfl, _, rfl, (show 3 <= sizeLine by decide), λt ht => ?_⟩;exact xI (.inr rfl) (dB ht) ht aq ha hb hc hd hl s1 s2 s3 q
noncomputable def xU (CS : Addr):Sp := λvs H Q _ => ∃ (a dx : Addr) (g : Int), vs = [.ref a, .int g] /\ H a = some (.ins CS dx []) /\ ∀ b c, H b = none -> H c = none -> b ≠ c -> Q .non (upd (upd (upd H b (.dK [])) c (.dK [])) a (.ins CS dx (eI g b c 0)))
theorem i0 (T : iV mg)(TX : dR K mg cs)(TC : dQ K mg CS)(F : fU K "__init__" "Streams.__init__" bz f fd):aM P w K mg base gM 1 f fd ["self", "gap"] (xU CS) := by
  refine F.ok i8 (λvs H Q E h => ?_) λcdv A outer s H vs Q E hr h => ?_
  · obtain ⟨a, dx, g, rfl, _⟩ := h;rfl
  · obtain ⟨a, dx, g, rfl, ha, q⟩ := h;refine ⟨_, ar (pB (pv 0) (pv 1) rfl) (ar (pB (pv 0) rq rfl) (ar (pB (pv 0) rq rfl) (aN (pB (pv 0) eh rfl)))), ?_⟩;refine ⟨_, rfl, _, rfl, a, CS, dx, [], rfl, ha, TC.cl, TC.xk, (show 0 < 1000 by decide), λb hb => ?_⟩;have nab : a ≠ b := λz => by rw [<- z, aq] at hb;cases hb
    rw [ah nab.symm] at hb;refine ⟨_, rfl, a, CS, dx, gk "gap" (V.int g) [], rfl, (by rw [ah nab];exact aq), TC.cl, TC.kh, (show 1 < 1000 by decide), λc hc => ?_⟩;have nac : a ≠ c := λz => by rw [<- z, aq] at hc;cases hc
    rw [ah nac.symm] at hc;have nbc : b ≠ c := λz => by rw [<- z, aq] at hc;cases hc
    rw [ah nbc.symm, ah nac.symm] at hc;refine ⟨_, rfl, a, CS, dx, gk "hots" (V.ref b) (gk "gap" (V.int g) []), rfl, (by rw [ah nac];exact aq), TC.cl, TC.iQ, (show 2 < 1000 by decide), ?_⟩;refine ⟨_, rfl, a, CS, dx, _, rfl, aq, TC.cl, TC.lC, (show 3 < 1000 by decide), ?_⟩;have e : ∀ f1 f2 f3 f4 : HO, upd (upd (upd (upd (upd (upd H a f1) b (.dK [])) a f2) c (.dK [])) a f3) a f4 = upd (upd (upd H b (.dK [])) c (.dK [])) a f4 := by
      intro f1 f2 f3 f4;funext y
      by_cases ya : y = a
      · subst ya;rw [aq, aq]
      · rw [ah ya, ah ya, ah ya];by_cases yc : y = c
        · subst yc;rw [aq, aq]
        · rw [ah yc, ah yc, ah ya];by_cases yb : y = b
          · subst yb;rw [aq, aq]
          · rw [ah yb, ah ya, ah yb]
    show Q V.non _;rw [e];exact q b c hb hc nbc
noncomputable def uK (cs : hJ)(CS : Addr):Sp := λvs H Q E => ∃ (a dx b c : Addr) (g n i : Int) (hs ks : fx), vs = [.ref a, .int i] /\ H a = some (.ins CS dx (eI g b c n)) /\ bL H H b hs /\ bL H H c ks /\ Sm i /\
  if dE hs i = true then ∃ es v, H b = some (.dK es) /\ gL es (Sum.inl i) = some v /\ Q v (upd H b (.dK (fg es (Sum.inl i)))) else if dE ks i = true then ∃ es v, H c = some (.dK es) /\ gL es (Sum.inl i) = some v /\ Q v (upd H c (.dK (fg es (Sum.inl i)))) else ∀ H', av H H' -> E (.ref cs.aQ) none H'
theorem i4 (T : iV mg)(TX : dR K mg cs)(TC : dQ K mg CS){a_Streams_home_of : Addr}{fd_Streams_home_of : FuncData}(FV_Streams_home_of : aM P w K mg base (g9 P w) 1 a_Streams_home_of fd_Streams_home_of ["self", "number"] (pJ cs CS))(MV_Streams_home_of : Meth K CS "home_of" a_Streams_home_of)(BV_Streams_home_of : Binds K fd_Streams_home_of ["self", "number"] [])(F : fU K "take_out" "Streams.take_out" bB f fd):aM P w K mg base (g9 P w) 2 f fd ["self", "number"] (uK cs CS) := by
  refine F.yf ft (λvs H Q E h => ?_) λcdv A outer s H vs Q E hr h => ?_
  · obtain ⟨a, dx, b, c, g, n, i, hs, ks, rfl, _⟩ := h;rfl
  · obtain ⟨a, dx, b, c, g, n, i, hs, ks, rfl, ha, hb, hc, hi, q⟩ := h;refine ⟨_, ar (br (i := 2) ft.nd rfl (Or.inl rfl) (eA (pv 0) TC.cl MV_Streams_home_of FV_Streams_home_of (hr.mono (by decide)) BV_Streams_home_of .nil (bJ.passes λ_ _ _ h => h) (au (pv 1) aY))) (aN (cH (xw (pv 2) (pv 1) ⟨rfl, rfl, rfl, rfl⟩))), ?_⟩;refine ⟨_, rfl, a, dx, _, rfl, ha, rfl, _, rfl, a, dx, b, c, g, n, i, hs, ks, rfl, ha, hb, hc, hi, ?_⟩;by_cases f1 : dE hs i = true
    · rw [if_pos f1] at q ⊢;obtain ⟨es, v, e1, e2, q⟩ := q;exact ⟨_, rfl, b, rfl, .inl ⟨_, .inl e1⟩, _, rfl, es, Sum.inl i, v, e1, rfl, e2, q⟩
    rw [if_neg f1] at q ⊢;by_cases f2 : dE ks i = true
    · rw [if_pos f2] at q ⊢;obtain ⟨es, v, e1, e2, q⟩ := q;exact ⟨_, rfl, c, rfl, .inl ⟨_, .inl e1⟩, _, rfl, es, Sum.inl i, v, e1, rfl, e2, q⟩
    rw [if_neg f2] at q ⊢;exact q
noncomputable def mO (k : Str)(x : S3)(hs ks : fx):List S3 := if k = aO then vals hs ++ [x] else vals hs
noncomputable def mM (k : Str)(x : S3)(hs ks : fx):List S3 := if k = aO then vals ks else vals ks ++ [x]
noncomputable def eC (cs : hJ)(CS : Addr):rT := λds Q Z => ∃ (g : Int) (hs ks : fx) (n : Int) (k : Str) (x : S3), ds = [oD CS g hs ks n, .str k, .int x.1, .int x.2.1, .int x.2.2] /\ (k = aO \/ k = bC) /\ Sm x.1 /\ Sm x.2.1 /\ Sm x.2.2 /\ dO g (vals hs) (vals ks) /\
  if 12 <= (allOf k hs ks).length then Z (.ref cs.Full) else if fi k x = 1 then Z (.ref cs.aA) else if fi k x = 2 then Z (.ref cs.aK) else
    ∀ m m', aP g (mO k x hs ks) (mM k x hs ks) m -> aP g (vals hs) (vals ks) m' -> Q (.p (.int (m - m')))
theorem yX {g : Int}{hs ks : fx}{k : Str}{x : S3}(ok : dO g (vals hs) (vals ks))(hk : k = aO \/ k = bC)(f1 : ¬ 12 <= (allOf k hs ks).length)(f2 : ¬ fi k x = 1)(f3 : ¬ fi k x = 2):dO g (mO k x hs ks) (mM k x hs ks) := by
  unfold allOf at f1;unfold fi at f2 f3;have nb : ¬ (x.1 < 0 \/ 200 < x.1 \/ x.2.1 < 0 \/ 200 < x.2.1 \/ x.2.2 < 1 \/ 1000000000 < x.2.2) := λz => f2 (if_pos z);rw [if_neg nb] at f3;have nw : ¬ ((k = aO /\ x.1 <= x.2.1) \/ (k = bC /\ x.2.1 <= x.1)) := λz => f3 (if_pos z);unfold mO mM;rcases hk with rfl | rfl
  · rw [if_pos rfl] at f1;rw [if_pos rfl, if_pos rfl];have nw' : ¬ x.1 <= x.2.1 := λz => nw (.inl ⟨rfl, z⟩);refine ⟨ok.g0, ok.g1, ?_, ok.nc, λy hy => ?_, ok.uV⟩
    · unfold vals;rw [length_append, length_map];show _ + 1 <= 12;lia
    · rcases mem_append.mp hy with h | h
      · exact ok.BB y h
      · rw [mem_singleton.mp h];exact ⟨by lia, by lia, by lia, by lia, by lia⟩
  · have ch : ¬ bC = aO := kE;rw [if_neg ch] at f1;rw [if_neg ch, if_neg ch];have nw' : ¬ x.2.1 <= x.1 := λz => nw (.inr ⟨rfl, z⟩);refine ⟨ok.g0, ok.g1, ok.nh, ?_, ok.BB, λy hy => ?_⟩
    · unfold vals;rw [length_append, length_map];show _ + 1 <= 12;lia
    · rcases mem_append.mp hy with h | h
      · exact ok.uV y h
      · rw [mem_singleton.mp h];exact ⟨by lia, by lia, by lia, by lia, by lia⟩
theorem gU (T : iV mg)(TX : dR K mg cs)(TC : dQ K mg CS)(FMX_Streams_check_new : yi P w K mg base CS "check_new" 3 ["self", "kind", "stream"] (dw cs CS))(FM_Streams_works : tj P w K mg base CS "works" 1 ["self"] (bY CS))(FM_Streams_change_to : tj P w K mg base CS "change_to" 5 ["self", "works"] (cB CS))(F : fU K "change_with" "Streams.change_with" aU f fd):aM P w K mg base (g9 P w) 6 f fd ["self", "kind", "start", "goal", "rate"] (vL K (eC cs CS)) := by
  refine xq F cY (λds Q Z h => by obtain ⟨g, hs, ks, n, k, x, rfl, hk, h1, h2, h3, ok, q⟩ := h;rfl) λcdv A outer s H E Z hr hZ => ⟨_, (cn (dx (dm (i := 5) cY.nd rfl (Or.inl rfl) (gd (ae (dv 2) (ae (dv 3) (ae (dv 4) ao))))))
      (cn (qJ bJ hZ FMX_Streams_check_new TC.cl (λ_ _ _ _ => rfl) (hr.mono (by decide)) (dv 0) (ae (dv 1) (ae (dv 5) ao)))
      (cn (dx (Aw (i := 6) cY.nd rfl (Or.inl rfl) (cR FM_Streams_works TC.cl (λ_ _ _ _ => rfl) (hr.mono (by decide)) (dv 0))))
      (cn (dx (qH (bU fH (dv 1) lT (aR _)) (bt (qI (i := 6) (j := 0) rfl (by decide) rfl (by walk_at "v") (dv 5) (λ_ _ => rfl))) (bt (qI (i := 6) (j := 1) rfl (by decide) rfl (by walk_at "v") (dv 5) (λ_ _ => rfl)))))
      (fu (dx (cv (jk FM_Streams_change_to TC.cl (λ_ _ _ _ => rfl) (hr.mono (by decide)) (dv 0) (ae (dv 6) ao))))))))), λds Q h => ?_⟩
  obtain ⟨g, hs, ks, n, k, x, rfl, hk, h1, h2, h3, ok, q⟩ := h;walk_at "rs";refine ⟨g, hs, ks, n, k, x, rfl, hk, h1, h2, h3, ?_⟩;by_cases f1 : 12 <= (allOf k hs ks).length
  · rw [if_pos f1] at q ⊢;exact q
  rw [if_neg f1] at q ⊢;by_cases f2 : fi k x = 1
  · rw [if_pos f2] at q ⊢;exact q
  rw [if_neg f2] at q ⊢;by_cases f3 : fi k x = 2
  · rw [if_pos f3] at q ⊢;exact q
  rw [if_neg f3] at q ⊢;refine ⟨g, hs, ks, n, rfl, ?_⟩;walk_at "rs";have ok2 := yX ok hk f1 f2 f3;have lh : ((vals hs).map d3).length < sizeLine := by rw [length_map];exact lt1000 (Nat.le_trans ok.nh (by decide))
  have lc : ((vals ks).map d3).length < sizeLine := by rw [length_map];exact lt1000 (Nat.le_trans ok.nc (by decide))
  refine ⟨λz => ?_, λz => ?_⟩
  · have e : k = aO := of_decide_eq_true z;unfold mO mM at ok2 q;rw [if_pos e, if_pos e] at ok2 q;refine ⟨_, rfl, lh, g, hs, ks, n, vals hs ++ [x], vals ks, ?_, ok, ok2, q⟩;unfold dW;rw [map_append];rfl
  · have e : ¬ k = aO := of_decide_eq_false z;unfold mO mM at ok2 q;rw [if_neg e, if_neg e] at ok2 q;refine ⟨_, rfl, lc, g, hs, ks, n, vals hs, vals ks ++ [x], ?_, ok, ok2, q⟩;unfold dW;rw [map_append];rfl
noncomputable def ck (l : fx)(i : Int):fx := l.filter λp => decide (p.1 ≠ i)
theorem qX {l : fx}{n : Int}(hl : l.length <= 12){ρ : aH}{tc : gO}{te : DT}{Q : B -> Prop}(h : ∀ p ∈ l, (Tg.t [0, 1]).d (yu p) ρ λρ' => tc ρ' λc => (c = true -> te ρ' λb => some b.val = if decide (p.1 ≠ n) = true then some (d3 p.2) else none) /\ (c = false -> none = if decide (p.1 ≠ n) = true then some (d3 p.2) else none))(q : Q (.o (.lst ((vals (ck l n)).map d3)))):yO (l.map yu) (Tg.t [0, 1]) tc te ρ Q := by
  refine uh (xs := l) (e := yu) (λd => match d with | .tup [.int k, d] => if decide (k ≠ n) = true then some d else none | _ => none) (λp => if decide (p.1 ≠ n) = true then some (d3 p.2) else none) (λp _ => rfl) (by lia) h ?_;have e : l.filterMap (λp => if decide (p.1 ≠ n) = true then some (d3 p.2) else none) = (vals (ck l n)).map d3 := by
    unfold vals ck;rw [map_map, <- eQ];congr 1;funext p
    by_cases z : p.1 ≠ n
    · rw [if_pos (decide_eq_true z), if_pos z];rfl
    · rw [if_neg (by simpa using z), if_neg z]
  rw [e];exact q
noncomputable def bW (cs : hJ)(CS : Addr):rT := λds Q Z => ∃ (g : Int) (hs ks : fx) (n i : Int), ds = [oD CS g hs ks n, .int i] /\ Sm i /\ dO g (vals hs) (vals ks) /\
  if dE hs i = true \/ dE ks i = true then ∀ m m', aP g (vals (ck hs i)) (vals (ck ks i)) m -> aP g (vals hs) (vals ks) m' -> Q (.p (.int (m - m'))) else Z (.ref cs.aQ)
theorem uv {g i : Int}{hs ks : fx}(ok : dO g (vals hs) (vals ks)):dO g (vals (ck hs i)) (vals (ck ks i)) := by
  have l1 : ∀ l : fx, (vals (ck l i)).length <= (vals l).length := λl => by unfold vals ck;rw [length_map, length_map];exact List.length_filter_le _ _
  have l2 : ∀ (l : fx) (x : S3), x ∈ vals (ck l i) -> x ∈ vals l := λl x hx => by
    unfold vals ck at *;obtain ⟨p, hp, rfl⟩ := mem_map.mp hx;exact mem_map.mpr ⟨p, (List.mem_filter.mp hp).1, rfl⟩
  exact ⟨ok.g0, ok.g1, Nat.le_trans (l1 hs) ok.nh, Nat.le_trans (l1 ks) ok.nc, λx hx => ok.BB x (l2 hs x hx), λx hx => ok.uV x (l2 ks x hx)⟩
theorem fM (T : iV mg)(TX : dR K mg cs)(TC : dQ K mg CS){a_Streams_home_of : Addr}{fd_Streams_home_of : FuncData}(FV_Streams_home_of : aM P w K mg base (g9 P w) 1 a_Streams_home_of fd_Streams_home_of ["self", "number"] (pJ cs CS))(MV_Streams_home_of : Meth K CS "home_of" a_Streams_home_of)(BV_Streams_home_of : Binds K fd_Streams_home_of ["self", "number"] [])(FM_Streams_change_to : tj P w K mg base CS "change_to" 5 ["self", "works"] (cB CS))(F : fU K "change_without" "Streams.change_without" aE f fd):aM P w K mg base (g9 P w) 6 f fd ["self", "number"] (vL K (bW cs CS)) := by
  have FMX_Streams_home_of := ve FV_Streams_home_of MV_Streams_home_of BV_Streams_home_of;refine xq F bX (λds Q Z h => by obtain ⟨g, hs, ks, n, i, rfl, hi, ok, q⟩ := h;rfl) λcdv A outer s H E Z hr hZ => ⟨_, (cn (qJ bJ hZ FMX_Streams_home_of TC.cl (λ_ _ _ _ => rfl) (hr.mono (by decide)) (dv 0) (ae (dv 1) ao))
      (cn (dx (nX true (m := 2) bX.nd rfl (Or.inl rfl) (g := (.t [0, 1])) (tc := (eG (hG _ (bw 0) (bw 2)))) (te := (bw 1)) (sc0 := ag aE) (N0 := ["self", "number", "hots", "colds"]) ["own", "stream", "number"] [none, none, some 1] rfl (i := 0) rfl (by walk_at "v") TC.cl TC.kh (λ_ _ _ _ => rfl) (λ_ _ _ _ _ => (iC rfl (bh (bu (i := 0) (show (["own", "stream", "number"]:List Str).Nodup by decide +kernel) rfl (Or.inl rfl)) (bh (bu (i := 1) (show (["own", "stream", "number"]:List Str).Nodup by decide +kernel) rfl (Or.inl rfl)) fR)))) (λ_ _ _ _ _ => (jI (bU rg (dv 0) (dv 2) (aR _)))) (λ_ _ _ _ _ => (dv 1))))
      (cn (dx (nX false (m := 3) bX.nd rfl (Or.inl rfl) (g := (.t [0, 1])) (tc := (eG (hG _ (bw 0) (bw 2)))) (te := (bw 1)) (sc0 := ag aE) (N0 := ["self", "number", "hots", "colds"]) ["own", "stream", "number"] [none, none, some 1] rfl (i := 0) rfl (by walk_at "v") TC.cl TC.iQ (λ_ _ _ _ => rfl) (λ_ _ _ _ _ => (iC rfl (bh (bu (i := 0) (show (["own", "stream", "number"]:List Str).Nodup by decide +kernel) rfl (Or.inl rfl)) (bh (bu (i := 1) (show (["own", "stream", "number"]:List Str).Nodup by decide +kernel) rfl (Or.inl rfl)) fR)))) (λ_ _ _ _ _ => (jI (bU rg (dv 0) (dv 2) (aR _)))) (λ_ _ _ _ _ => (dv 1))))
      (fu (dx (cv (jk FM_Streams_change_to TC.cl (λ_ _ _ _ => rfl) (hr.mono (by decide)) (dv 0) (ae (gd (ae (oN TC.cl TC.xk uD (dv 0)) (ae (dv 2) (ae (dv 3) ao)))) ao)))))))), λds Q h => ?_⟩
  obtain ⟨g, hs, ks, n, i, rfl, hi, ok, q⟩ := h;walk_at "rs";refine ⟨g, hs, ks, n, i, rfl, hi, ?_⟩;have lh : hs.length <= 12 := by have := ok.nh;unfold vals at this;rw [length_map] at this;exact this
  have lk : ks.length <= 12 := by have := ok.nc;unfold vals at this;rw [length_map] at this;exact this
  by_cases hin : dE hs i = true \/ dE ks i = true
  · rw [if_pos hin] at q;have turn : ∀ p : Int × S3, (Tg.t [0, 1]).d (yu p) [none, none, some (B.p (D.int i))] λρ' => eG (hG fj (bw 0) (bw 2)) ρ' λc => (c = true -> bw 1 ρ' λb => some b.val = if decide (p.1 ≠ i) = true then some (d3 p.2) else none) /\ (c = false -> none = if decide (p.1 ≠ i) = true then some (d3 p.2) else none) := λp => by
      unfold yu;walk_at "rs";refine ⟨λz => ?_, λz => ?_⟩
      · rw [if_pos (by rw [decide_not];exact z)]
      · rw [if_neg (by rw [decide_not, z];decide)]
    have body : yO (List.map yu hs) (Tg.t [0, 1]) (eG (hG fj (bw 0) (bw 2))) (bw 1) [none, none, some (B.p (D.int i))] λb => yO (List.map yu ks) (Tg.t [0, 1]) (eG (hG fj (bw 0) (bw 2))) (bw 1) [none, none, some (B.p (D.int i))] λb_1 => cB CS [D.ext (Ext.obj CS g hs ks n), D.tup [D.int g, b.val, b_1.val]] Q :=
      qX lh (λp _ => turn p) (qX lk (λp _ => turn p) ⟨g, hs, ks, n, vals (ck hs i), vals (ck ks i), rfl, ok, uv ok, λm m' h1 h2 => q m m' h1 h2⟩)
    by_cases h1 : dE hs i = true
    · rw [if_pos h1];exact body
    · rw [if_neg h1, if_pos (hin.resolve_left h1)];exact body
  · rw [if_neg hin] at q;rw [if_neg λz => hin (.inl z), if_neg λz => hin (.inr z)];exact q
noncomputable def wd (ns : List Int)(k : Int):Int := if k < ns.length then ns.getD k.toNat 0 else 0
noncomputable def jd : DR := λds P => ∃ (ns : List Int) (k : Int), ds = [.scr ns, .int k] /\ 0 <= k /\ P (.p (.int (wd ns k)))
theorem mq (T : iV mg)(TX : dR K mg cs)(TC : dQ K mg CS)(F : fU K "_law_cell_at" "_law_cell_at" dg f fd):aM P w K mg base gM 1 f fd ["script", "k"] (fN K jd) := by
  refine rQ F mD (λds Q h => by obtain ⟨ns, k, rfl, k0, q⟩ := h;rfl) λcdv A outer s H E hr => ⟨_, (cm (qH (bU zS (dv 1) (cC lM (by rfl) T.nF PySem.boot_len (ae (dv 0) ao)) (aR _)) (bt (cv (bT (dv 0) (dv 1)))) jJ)
      (bt (cv ak))), λds Q h => ?_⟩
  obtain ⟨ns, k, rfl, k0, q⟩ := h;obtain ⟨n, rfl⟩ : ∃ n : Nat, k = (n : Nat) := ⟨k.toNat, by lia⟩
  walk_at "rs";unfold wd at q;refine ⟨λz => ?_, λz => ?_⟩
  · have hz := of_decide_eq_true z;rw [if_pos hz] at q;have e := getElem?_eq_getElem (l := ns) (i := n) (by lia);refine ⟨ns.getD n 0, ?_, q⟩;rw [getD_eq_getElem?_getD, e];exact gP e
  · rw [if_neg (of_decide_eq_false z)] at q;exact q
theorem we {t1 u : gN}{E : nE}{ρ : aH}(C : aH -> Prop)(tail : ∀ ρ, C ρ -> u E ρ)(head : ∀ N : aH -> Prop, (∀ ρ, C ρ -> N ρ) -> t1 { E with nx := N } ρ):gb t1 u E ρ := head _ tail
noncomputable abbrev R4 := Int × Str × S3
noncomputable def fP (k : Str)(x : S3):Prop := (k = aO /\ vS x) \/ (k = bC /\ rS x)
noncomputable def fV (rows : List R4):Prop := ∀ r ∈ rows, fP r.2.1 r.2.2
noncomputable def aj (rows : List R4):fx := (rows.filter λr => decide (r.2.1 = aO)).map λr => (r.1, r.2.2)
noncomputable def af (rows : List R4):fx := (rows.filter λr => !decide (r.2.1 = aO)).map λr => (r.1, r.2.2)
theorem sk {rows : List R4}{x : S3}(h : x ∈ vals (aj rows)):∃ r ∈ rows, r.2.1 = aO /\ r.2.2 = x := by
  obtain ⟨p, hp, rfl⟩ := mem_map.mp h;obtain ⟨r, hr, rfl⟩ := mem_map.mp hp;exact ⟨r, (List.mem_filter.mp hr).1, of_decide_eq_true (List.mem_filter.mp hr).2, rfl⟩
theorem qi {rows : List R4}{x : S3}(h : x ∈ vals (af rows)):∃ r ∈ rows, ¬ r.2.1 = aO /\ r.2.2 = x := by
  obtain ⟨p, hp, rfl⟩ := mem_map.mp h;obtain ⟨r, hr, rfl⟩ := mem_map.mp hp;exact ⟨r, (List.mem_filter.mp hr).1, of_decide_eq_false (by simpa using (List.mem_filter.mp hr).2), rfl⟩
theorem fV.BB {rows : List R4}(o : fV rows):∀ x ∈ vals (aj rows), vS x := λx hx => by
  obtain ⟨r, hr, k, rfl⟩ := sk hx;rcases o r hr with ⟨_, h⟩ | ⟨k', _⟩
  · exact h
  · rw [k] at k';exact absurd k' oa
theorem fV.uV {rows : List R4}(o : fV rows):∀ x ∈ vals (af rows), rS x := λx hx => by
  obtain ⟨r, hr, k, rfl⟩ := qi hx;rcases o r hr with ⟨k', _⟩ | ⟨_, h⟩
  · exact absurd k' k
  · exact h
noncomputable def con (g L : Int)(r : R4):Int := if r.2.1 = bC then j7 (r.2.2.1 + g, r.2.2.2.1 + g, r.2.2.2.2) L else -j7 (r.2.2.2.1, r.2.2.1, r.2.2.2.2) L
theorem fG {r : R4}{rs : List R4}(k : r.2.1 = aO):aj (r :: rs) = (r.1, r.2.2) :: aj rs := by
  unfold aj;rw [List.filter_cons_of_pos (by rw [decide_eq_true k])];rfl
theorem fF {r : R4}{rs : List R4}(k : ¬ r.2.1 = aO):aj (r :: rs) = aj rs := by
  unfold aj;rw [List.filter_cons_of_neg (by rw [decide_eq_false k];decide)]
theorem eS {r : R4}{rs : List R4}(k : r.2.1 = aO):af (r :: rs) = af rs := by
  unfold af;rw [List.filter_cons_of_neg (by rw [decide_eq_true k];decide)]
theorem eT {r : R4}{rs : List R4}(k : ¬ r.2.1 = aO):af (r :: rs) = (r.1, r.2.2) :: af rs := by
  unfold af;rw [List.filter_cons_of_pos (by rw [decide_eq_false k];rfl)];rfl
theorem oJ {g L : Int}:∀ {rows : List R4}, fV rows -> (rows.map (con g L)).sum = cu g (vals (aj rows)) (vals (af rows)) L
  | [], _ => rfl
  | r :: rs, o => by
    have ih := oJ (g := g) (L := L) (rows := rs) λx hx => o x (mem_cons_of_mem _ hx);rw [map_cons, sum_cons, ih];unfold con;rcases o r mem_cons_self with ⟨k, _⟩ | ⟨k, _⟩
    · have nk : ¬ r.2.1 = bC := by rw [k];exact oa
      rw [if_neg nk, fG k, eS k];unfold cu above qP kF vals;simp only [map_cons, sum_cons];lia
    · have nk : ¬ r.2.1 = aO := by rw [k];exact kE
      rw [if_pos k, fF nk, eT nk];unfold cu above qP kF vals;simp only [map_cons, sum_cons];lia
theorem Ce {i j : Int}(h : -(2 ^ 64) < j /\ j < 2 ^ 64):p9 i j := .inr h
theorem kI (rows : List R4)(r : R4):aj (rows ++ [r]) = if r.2.1 = aO then aj rows ++ [(r.1, r.2.2)] else aj rows := by
  unfold aj;rw [filter_append, map_append];by_cases k : r.2.1 = aO
  · rw [if_pos k, List.filter_cons_of_pos (by rw [decide_eq_true k])];rfl
  · rw [if_neg k, List.filter_cons_of_neg (by rw [decide_eq_false k];decide)];simp
theorem jE (rows : List R4)(r : R4):af (rows ++ [r]) = if r.2.1 = aO then af rows else af rows ++ [(r.1, r.2.2)] := by
  unfold af;rw [filter_append, map_append];by_cases k : r.2.1 = aO
  · rw [if_pos k, List.filter_cons_of_neg (by rw [decide_eq_true k];decide)];simp
  · rw [if_neg k, List.filter_cons_of_pos (by rw [decide_eq_false k];rfl)];rfl
theorem pO (rows : List R4)(i : Int)(k : Str)(x : S3):mO k x (aj rows) (af rows) = vals (aj (rows ++ [(i, k, x)])) /\ mM k x (aj rows) (af rows) = vals (af (rows ++ [(i, k, x)])) := by
  unfold mO mM;rw [kI, jE];by_cases h : k = aO
  · rw [if_pos h, if_pos h, if_pos (show (i, k, x).2.1 = aO from h), if_pos (show (i, k, x).2.1 = aO from h)];refine ⟨?_, rfl⟩;unfold vals;rw [map_append];rfl
  · rw [if_neg h, if_neg h, if_neg (show ¬ (i, k, x).2.1 = aO from h), if_neg (show ¬ (i, k, x).2.1 = aO from h)];refine ⟨rfl, ?_⟩;unfold vals;rw [map_append];rfl
theorem fP.bad {k : Str}{x : S3}(o : fP k x):fi k x = 0 := by
  unfold fi;rcases o with ⟨rfl, h⟩ | ⟨rfl, h⟩
  · have := h.lo;have := h.lt;have := h.hi;have := h.r0;have := h.r1;rw [if_neg (by lia), if_neg];rintro (⟨_, z⟩ | ⟨z, _⟩)
    · lia
    · exact oa z
  · have := h.lo;have := h.lt;have := h.hi;have := h.r0;have := h.r1;rw [if_neg (by lia), if_neg];rintro (⟨z, _⟩ | ⟨_, z⟩)
    · exact kE z
    · lia
theorem BF {i : Int}(h0 : -10000000000 <= i)(h1 : i <= 10000000000):Sm i := by
  unfold Sm;lia
theorem fP.sm {k : Str}{x : S3}(o : fP k x):Sm x.1 /\ Sm x.2.1 /\ Sm x.2.2 := by
  rcases o with ⟨_, h⟩ | ⟨_, h⟩ <;> (have := h.lo;have := h.lt;have := h.hi;have := h.r0;have := h.r1;exact ⟨BF (by lia) (by lia), BF (by lia) (by lia), BF (by lia) (by lia)⟩)
theorem xf (rows : List R4):rows.length = (aj rows).length + (af rows).length := by
  induction rows with
  | nil => rfl
  | cons r rs ih =>
    by_cases k : r.2.1 = aO
    · rw [fG k, eS k, length_cons, length_cons];lia
    · rw [fF k, eT k, length_cons, length_cons];lia
noncomputable def aS (rows : List R4)(i : Int):List R4 := rows.filter λr => decide (r.1 ≠ i)
theorem fy (rows : List R4)(i : Int):aj (aS rows i) = ck (aj rows) i := by
  induction rows with
  | nil => rfl
  | cons r rs ih =>
    unfold aS ck at *;by_cases k : r.2.1 = aO <;> by_cases e : r.1 = i
    · rw [fG k, List.filter_cons_of_neg (by simp [e]), List.filter_cons_of_neg (by simp [e]), ih]
    · rw [fG k, List.filter_cons_of_pos (by simp [e]), List.filter_cons_of_pos (by simp [e]), fG k, ih]
    · rw [fF k, List.filter_cons_of_neg (by simp [e]), ih]
    · rw [fF k, List.filter_cons_of_pos (by simp [e]), fF k, ih]
theorem eM (rows : List R4)(i : Int):af (aS rows i) = ck (af rows) i := by
  induction rows with
  | nil => rfl
  | cons r rs ih =>
    unfold aS ck at *;by_cases k : r.2.1 = aO <;> by_cases e : r.1 = i
    · rw [eS k, List.filter_cons_of_neg (by simp [e]), ih]
    · rw [eS k, List.filter_cons_of_pos (by simp [e]), eS k, ih]
    · rw [eT k, List.filter_cons_of_neg (by simp [e]), List.filter_cons_of_neg (by simp [e]), ih]
    · rw [eT k, List.filter_cons_of_pos (by simp [e]), List.filter_cons_of_pos (by simp [e]), eT k, ih]
theorem qY {g L : Int}{r : R4}:∀ {rows : List R4}, (rows.map (·.1)).Nodup -> r ∈ rows -> (rows.map (con g L)).sum = ((aS rows r.1).map (con g L)).sum + con g L r
  | [], _, h => by cases h
  | x :: xs, nd, h => by
    rw [map_cons, nodup_cons] at nd;unfold aS;by_cases e : x = r
    · subst e;have fs : xs.filter (λr => decide (r.1 ≠ x.1)) = xs := List.filter_eq_self.mpr λy hy => decide_eq_true λz => nd.1 (mem_map.mpr ⟨y, hy, z⟩);rw [List.filter_cons_of_neg (by simp), fs, map_cons, sum_cons];lia
    · have hr : r ∈ xs := (List.mem_cons.mp h).resolve_left λz => e z.symm;have ne : x.1 ≠ r.1 := λz => nd.1 (mem_map.mpr ⟨r, hr, z.symm⟩);have ih := qY (g := g) (L := L) nd.2 hr;unfold aS at ih;rw [List.filter_cons_of_pos (by simp [ne]), map_cons, sum_cons, map_cons, sum_cons, ih];lia
theorem oZ {rows : List R4}{r : R4}(h : r ∈ rows):dE (aj rows) r.1 = true \/ dE (af rows) r.1 = true := by
  by_cases k : r.2.1 = aO
  · exact .inl (decide_eq_true (mem_map.mpr ⟨(r.1, r.2.2), mem_map.mpr ⟨r, List.mem_filter.mpr ⟨h, decide_eq_true k⟩, rfl⟩, rfl⟩))
  · exact .inr (decide_eq_true (mem_map.mpr ⟨(r.1, r.2.2), mem_map.mpr ⟨r, List.mem_filter.mpr ⟨h, by rw [decide_eq_false k];rfl⟩, rfl⟩, rfl⟩))
noncomputable def iD : DR := λds P => ∃ i : Int, ds = [.int i] /\ P (.p (.bl true))
theorem pz (T : iV mg)(TX : dR K mg cs)(TC : dQ K mg CS)(F : fU K "_law_whole" "_law_whole" d8 f fd):aM P w K mg base gM 1 f fd ["found"] (fN K iD) := by
  refine rQ F pG (λds Q h => by obtain ⟨i, rfl, q⟩ := h;rfl) λcdv A outer s H E hr => ⟨_, (bt (cv (sd (wy (T := "int") (by simp) (by rfl) T.jD (dv 0) (ux (v := .ty "int") (by rfl) T.vV boot_int rfl)) (se (Au (wy (T := "bool") (by simp) (by rfl) T.jD (dv 0) (ux (v := .ty "bool") (by rfl) T.Ag boot_bool rfl))))))), λds Q h => ?_⟩
  obtain ⟨i, rfl, q⟩ := h;walk_at "rs";have b1 : AB "int" (D.int i) = true := rfl;have b2 : AB "bool" (D.int i) = false := rfl;rw [b1, b2];exact ⟨λ_ => q, λz => (nomatch z)⟩
noncomputable def jZ : DR := λds Q => ∃ (c b : Int), ds = [.int c, .int b] /\ 0 <= b /\ b < 200 /\ ∀ k x, fP k x -> Q (.p (.tup [.str k, d3 x]))
theorem df (c k m : Int)(hm : 0 < m):0 <= eL c k % m /\ eL c k % m < m := ⟨Int.emod_nonneg _ (by lia), Int.emod_lt_of_pos _ hm⟩
theorem Cc {a b c d i lo hi : Int}(h0 : 0 <= i)(h1 : i < 4)(ha : lo <= a /\ a <= hi)(hb : lo <= b /\ b <= hi)(hc : lo <= c /\ c <= hi)(hd : lo <= d /\ d <= hi):∃ v : Int, iW [D.int a, .int b, .int c, .int d] i = some (.int v) /\ (lo <= v /\ v <= hi) := by
  obtain rfl | rfl | rfl | rfl : i = 0 \/ i = 1 \/ i = 2 \/ i = 3 := by lia
  · exact ⟨a, rfl, ha⟩
  · exact ⟨b, rfl, hb⟩
  · exact ⟨c, rfl, hc⟩
  · exact ⟨d, rfl, hd⟩
theorem m8 (T : iV mg)(TX : dR K mg cs)(TC : dQ K mg CS)(F_law_stir : Fn P w K mg base "_law_stir" 1 ["cell", "k"] (fN K aL))(F : fU K "_law_stream" "_law_stream" dH f fd):aM P w K mg base gM 2 f fd ["cell", "base"] (fN K jZ) := by
  refine rQ F cx (λds Q h => by obtain ⟨c, b, rfl, b0, b1, q⟩ := h;rfl) λcdv A outer s H E hr => ⟨_, (cm (dm (i := 2) cx.nd rfl (Or.inl rfl) (cC (tJ rfl) (by rfl) T.zD boot_min (ae (aD bE (dv 1) (aD bI (aW F_law_stir (hr.mono (by decide)) (by rfl) (ae (dv 0) (ae ak ao))) ak)) (ae ak ao))))
      (cm (dm (i := 3) cx.nd rfl (Or.inl rfl) (cC (tJ rfl) (by rfl) T.zD boot_min (ae (aD bE (aD bE (dv 2) ak) (aD bI (aW F_law_stir (hr.mono (by decide)) (by rfl) (ae (dv 0) (ae ak ao))) ak)) (ae ak ao))))
      (cm (qH (bU fH (aD bI (aW F_law_stir (hr.mono (by decide)) (by rfl) (ae (dv 0) (ae ak ao))) ak) ak (aR _)) (cm (dm (i := 2) cx.nd rfl (Or.inl rfl) (aD bI (aW F_law_stir (hr.mono (by decide)) (by rfl) (ae (dv 0) (ae ak ao))) ak))
      (bt (dm (i := 3) cx.nd rfl (Or.inl rfl) (aD bE (aD bE (dv 2) ak) (aD bI (aW F_law_stir (hr.mono (by decide)) (by rfl) (ae (dv 0) (ae ak ao))) (aD gT ak (dv 2))))))) jJ)
      (cm (dm (i := 4) cx.nd rfl (Or.inl rfl) (aD bE (aD gF (aW F_law_stir (hr.mono (by decide)) (by rfl) (ae (dv 0) (ae ak ao))) ak) (aD bI (aW F_law_stir (hr.mono (by decide)) (by rfl) (ae (dv 0) (ae ak ao))) ak)))
      (cm (dm (i := 5) cx.nd rfl (Or.inl rfl) (bT (j8 (ae (aD bE ak (aD bI (dv 4) ak)) (ae (aD bE ak (aD bI (dv 4) (aD sJ ak ak))) (ae (aD sJ ak ak) (ae (aD bE ak (aD bI (dv 4) (aD sJ ak ak))) ao))))) (aD bI (aW F_law_stir (hr.mono (by decide)) (by rfl) (ae (dv 0) (ae ak ao))) ak)))
      (cm (qH (bU fH (aD bI (aW F_law_stir (hr.mono (by decide)) (by rfl) (ae (dv 0) (ae ak ao))) ak) ak (aR _)) (bt (cv (gd (ae lT (ae (gd (ae (dv 3) (ae (dv 2) (ae (dv 5) ao)))) ao))))) jJ)
      (bt (cv (gd (ae lT (ae (gd (ae (dv 2) (ae (dv 3) (ae (dv 5) ao)))) ao))))))))))), λds Q h => ?_⟩
  obtain ⟨c, b, rfl, b0, b1, q⟩ := h;refine we (λρ => ∃ low : Int, 0 <= low /\ low <= 199 /\ ρ = [some (.p (.int c)), some (.p (.int b)), some (.p (.int low)), none, none, none]) ?_ λN hN => ?_;rotate_left
  · repeat (first | dsimp only [aL] | walk_at "rs1" | walk_at "rsx")
    have m := df c 2 12 (by decide);exact ⟨by decide, hN _ ⟨_, by split <;> lia, by split <;> lia, rfl⟩⟩
  rintro ρ ⟨low, l0, l1, rfl⟩;refine we (λρ => ∃ high : Int, low < high /\ high <= 200 /\ ρ = [some (.p (.int c)), some (.p (.int b)), some (.p (.int low)), some (.p (.int high)), none, none]) ?_ λN hN => ?_;rotate_left
  · repeat (first | dsimp only [aL] | walk_at "rs1" | walk_at "rsx")
    have m := df c 3 12 (by decide);exact ⟨by decide, hN _ ⟨_, by split <;> lia, by split <;> lia, rfl⟩⟩
  rintro ρ ⟨high, g0, g1, rfl⟩;refine we (λρ => ∃ low high : Int, 0 <= low /\ low < high /\ high <= 200 /\ ρ = [some (.p (.int c)), some (.p (.int b)), some (.p (.int low)), some (.p (.int high)), none, none]) ?_ λN hN => ?_;rotate_left
  · repeat (first | dsimp only [aL] | walk_at "rs1" | walk_at "rsx")
    have m := df c 2 200 (by decide);have m' := df c 3 (200 - eL c 2 % 200) (by lia);exact ⟨by decide, λ_ => ⟨by decide, by lia, hN _ ⟨_, _, m.1, by lia, by lia, rfl⟩⟩, λ_ => hN _ ⟨low, high, l0, g0, g1, rfl⟩⟩
  clear l0 l1 g0 g1 low high;rintro ρ ⟨low, high, l0, g0, g1, rfl⟩;refine we (λρ => ∃ far : Int, 0 <= far /\ ρ = [some (.p (.int c)), some (.p (.int b)), some (.p (.int low)), some (.p (.int high)), some (.p (.int far)), none]) ?_ λN hN => ?_;rotate_left
  · repeat (first | dsimp only [aL] | walk_at "rs1" | walk_at "rsx")
    have m := df c 10 8 (by decide);have s := Bo c 7;exact ⟨Ce (by decide), by decide, hN _ ⟨_, by lia, rfl⟩⟩
  rintro ρ ⟨far, f0, rfl⟩;refine we (λρ => ∃ rate : Int, 1 <= rate /\ rate <= 1000000000 /\ ρ = [some (.p (.int c)), some (.p (.int b)), some (.p (.int low)), some (.p (.int high)), some (.p (.int far)), some (.p (.int rate))]) ?_ λN hN => ?_;rotate_left
  · repeat (first | dsimp only [aL] | walk_at "rs1" | walk_at "rsx")
    have e9 : (10 : Int) ^ Int.toNat 9 = 1000000000 := by decide
    rw [e9];have m := df c 8 4 (by decide);have a1 := Int.emod_nonneg far (b := 9) (by decide);have a2 := Int.emod_lt_of_pos far (b := 9) (by decide);have a3 := Int.emod_nonneg far (b := 1000000000) (by decide);have a4 := Int.emod_lt_of_pos far (b := 1000000000) (by decide);obtain ⟨v, hv, v0, v1⟩ := Cc (a := 1 + far % 9) (b := 1 + far % 1000000000) (c := 1000000000) (d := 1 + far % 1000000000) (lo := 1) (hi := 1000000000) m.1 m.2 (by lia) (by lia) (by lia) (by lia);have cp : zY 10 9 := ⟨by decide, by decide, by decide⟩
    exact ⟨by decide, cp, by decide, cp, cp, by decide, by decide, _, hv, hN _ ⟨v, v0, v1, rfl⟩⟩
  rintro ρ ⟨rate, r0, r1, rfl⟩;repeat (first | dsimp only [aL] | walk_at "rs1" | walk_at "rsx")
  exact ⟨by decide, λ_ => q aO (high, low, rate) (.inl ⟨rfl, l0, g0, g1, r0, r1⟩), λ_ => q bC (low, high, rate) (.inr ⟨rfl, l0, g0, g1, r0, r1⟩)⟩
noncomputable def Nums (hs : fx)(n : Int):Prop := (hs.map (·.1)).Nodup /\ ∀ p ∈ hs, 1 <= p.1 /\ p.1 <= n
structure Ob (CS : Addr)(H : Hp)(a dx b c : Addr)(g n : Int)(hs ks : fx):Prop where
  ne : b ≠ c
  ia : H a = some (.ins CS dx (eI g b c n))
  hb : bL H H b hs
  hc : bL H H c ks
  n0 : 0 <= n
  nh : Nums hs n
  nk : Nums ks n
  dj : ∀ p ∈ hs, ∀ r ∈ ks, p.1 ≠ r.1
noncomputable def Kept (ex : List Addr)(H H' : Hp):Prop := ∀ y o, H y = some o -> y ∉ ex -> H' y = some o
section
variable {H H1 H2 : Hp} {a dx b c : Addr} {g n : Int} {hs ks : fx}
theorem Ob.mono (O : Ob CS H a dx b c g n hs ks)(s : av H H1):Ob CS H1 a dx b c g n hs ks :=
  ⟨O.ne, s _ _ O.ia, O.hb.mono s (s b), O.hc.mono s (s c), O.n0, O.nh, O.nk, O.dj⟩
theorem Ob.rep (O : Ob CS H a dx b c g n hs ks):Rep K H (.ref a) (oD CS g hs ks n) := .ext ⟨dx, b, c, O.ia, O.hb, O.hc⟩
theorem Ob.Eu (O : Ob CS H a dx b c g n hs ks):a ≠ b /\ a ≠ c := by
  obtain ⟨eb, xb, pb⟩ := O.hb;obtain ⟨ec, xc, pc⟩ := O.hc;exact ⟨iu O.ia xb (by intro z;cases z), iu O.ia xc (by intro z;cases z)⟩
theorem Ob.lst (O : Ob CS H a dx b c g n hs ks){y : Addr}{xs : List V}(e : H y = some (.lst xs)):y ∉ [a, b, c] := by
  obtain ⟨eb, xb, pb⟩ := O.hb;obtain ⟨ec, xc, pc⟩ := O.hc;intro m;rcases List.mem_cons.mp m with rfl | m
  · rw [O.ia] at e;cases e
  rcases List.mem_cons.mp m with rfl | m
  · rw [xb] at e;cases e
  rcases List.mem_cons.mp m with rfl | m
  · rw [xc] at e;cases e
  · cases m
theorem Ob.tup (O : Ob CS H a dx b c g n hs ks){y : Addr}{xs : List V}(e : H y = some (.tup xs)):y ∉ [a, b, c] := by
  obtain ⟨eb, xb, pb⟩ := O.hb;obtain ⟨ec, xc, pc⟩ := O.hc;intro m;rcases List.mem_cons.mp m with rfl | m
  · rw [O.ia] at e;cases e
  rcases List.mem_cons.mp m with rfl | m
  · rw [xb] at e;cases e
  rcases List.mem_cons.mp m with rfl | m
  · rw [xc] at e;cases e
  · cases m
theorem j9 {y : Addr}{l : fx}(h : bL H H y l)(kb : ∀ o, H y = some o -> H2 y = some o)(kt : ∀ t xs, H t = some (.tup xs) -> H2 t = some (.tup xs)):bL H2 H2 y l := by
  obtain ⟨es, e, p⟩ := h;exact ⟨es, kb _ e, Paired.imp' (by rintro _ _ ⟨h1, t, h2, h3⟩;exact ⟨h1, t, h2, kt _ _ h3⟩) p⟩
noncomputable def kq (k : Str)(hs : fx)(n : Int)(x : S3):fx := if k = aO then hs ++ [(n, x)] else hs
noncomputable def ko (k : Str)(ks : fx)(n : Int)(x : S3):fx := if k = aO then ks else ks ++ [(n, x)]
theorem Nums.more {l : fx}(h : Nums l n):Nums l (n + 1) := ⟨h.1, λp hp => ⟨(h.2 p hp).1, by have := (h.2 p hp).2;lia⟩⟩
theorem Nums.snoc {l : fx}{x : S3}(h : Nums l n)(n0 : 0 <= n):Nums (l ++ [(n + 1, x)]) (n + 1) := by
  refine ⟨?_, λp hp => ?_⟩
  · rw [map_append, nodup_append];refine ⟨h.1, by simp, λp hp r hr z => ?_⟩;obtain ⟨q, hq, rfl⟩ := mem_map.mp hp;have := (h.2 q hq).2;simp at hr;lia
  · rcases mem_append.mp hp with hp | hp
    · exact h.more.2 p hp
    · rw [mem_singleton.mp hp];exact ⟨by show 1 <= n + 1;lia, Int.le_refl _⟩
theorem Nums.no {l : fx}(h : Nums l n):dE l (n + 1) = false := by
  unfold dE;refine decide_eq_false λm => ?_;obtain ⟨p, hp, e⟩ := mem_map.mp m;have := (h.2 p hp).2;lia
theorem uH {y t : Addr}{l : fx}{x : S3}{es : List (Key × V)}(p : Paired (E3 H) es l)(kt : ∀ t xs, H t = some (.tup xs) -> H2 t = some (.tup xs))(no : dE l (n + 1) = false)(et : H2 t = some (.tup [.int x.1, .int x.2.1, .int x.2.2]))(e : H2 y = some (.dK (putK es (Sum.inl (n + 1)) (.ref t)))):bL H2 H2 y (l ++ [(n + 1, x)]) := by
  have nv : gL es (Sum.inl (n + 1)) = none := by
    have := mL (n + 1) p;rw [no] at this;exact Option.not_isSome_iff_eq_none.mp (by rw [this];decide)
  rw [xH _ nv] at e;exact ⟨_, e, Paired.snoc (Paired.imp' (by rintro _ _ ⟨h1, t, h2, h3⟩;exact ⟨h1, t, h2, kt _ _ h3⟩) p) ⟨rfl, t, rfl, et⟩⟩
theorem uA {k : Str}{x : S3}{E : XK}{Q : VK}(O : Ob CS H a dx b c g n hs ks)(hk : k = aO \/ k = bC)(nh : hs.length <= 12)(nk : ks.length <= 12)(f1 : (allOf k hs ks).length < 12)(f2 : fi k x = 0)(h1 : Sm x.1)(h2 : Sm x.2.1)(h3 : Sm x.2.2)
    (q : ∀ H2, Ob CS H2 a dx b c g (n + 1) (kq k hs (n + 1) x) (ko k ks (n + 1) x) -> Kept [a, b, c] H H2 -> Q (.int (n + 1)) H2):rN k cs CS [.ref a, .int x.1, .int x.2.1, .int x.2.2] H Q E := by
  obtain ⟨nab, nac⟩ := O.Eu;obtain ⟨eb, xb, pb⟩ := id O.hb;obtain ⟨ec, xc, pc⟩ := id O.hc;have lb : eb.length <= 12 := by rw [Paired.length pb];exact nh
  have lc : ec.length <= 12 := by rw [Paired.length pc];exact nk
  rcases hk with rfl | rfl
  · refine ⟨a, dx, b, c, g, n, hs, ks, x, eb, rfl, O.ia, O.hb, O.hc, by rw [if_pos rfl];exact xb, lt1000 (Nat.le_trans lb (by decide)), h1, h2, h3, ?_⟩;rw [if_neg (by lia), if_neg (by rw [f2];decide), if_neg (by rw [f2];decide)];intro H1 t s nt et;rw [if_pos rfl];have kt : ∀ (y : Addr) (o : HO), H1 y = some o -> y ≠ a -> y ≠ b -> (upd (upd H1 a (.ins CS dx (eI g b c (n + 1)))) b (.dK (putK eb (Sum.inl (n + 1)) (.ref t)))) y = some o := λy o e z1 z2 => by
      rw [ah z2, ah z1];exact e
    have tb : ∀ y xs, H1 y = some (.tup xs) -> (upd (upd H1 a (.ins CS dx (eI g b c (n + 1)))) b (.dK (putK eb (Sum.inl (n + 1)) (.ref t)))) y = some (.tup xs) := λy xs e =>
      kt y _ e (iu e (s _ _ O.ia) (by intro z;cases z)) (iu e (s _ _ xb) (by intro z;cases z))
    refine q _ ⟨O.ne, by rw [ah nab];exact aq, ?_, ?_, by have := O.n0;lia, ?_, ?_, ?_⟩ λy o e m => kt y o (s _ _ e) (λz => m (by simp [z])) λz => m (by simp [z])
    · unfold kq;rw [if_pos rfl];exact uH pb (λy xs e => tb y xs (s _ _ e)) O.nh.no (tb _ _ et) aq
    · unfold ko;rw [if_pos rfl];exact j9 (O.hc.mono s (s c)) (λo e => kt c o e (Ne.symm nac) (Ne.symm O.ne)) tb
    · unfold kq;rw [if_pos rfl];exact O.nh.snoc O.n0
    · unfold ko;rw [if_pos rfl];exact O.nk.more
    · unfold kq ko;rw [if_pos rfl, if_pos rfl];intro p hp r hr;rcases mem_append.mp hp with hp | hp
      · exact O.dj p hp r hr
      · rw [mem_singleton.mp hp];have := (O.nk.2 r hr).2;show n + 1 ≠ r.1;lia
  · have ch : ¬ bC = aO := kE;refine ⟨a, dx, b, c, g, n, hs, ks, x, ec, rfl, O.ia, O.hb, O.hc, by rw [if_neg ch];exact xc, lt1000 (Nat.le_trans lc (by decide)), h1, h2, h3, ?_⟩;rw [if_neg (by lia), if_neg (by rw [f2];decide), if_neg (by rw [f2];decide)];intro H1 t s nt et;rw [if_neg ch];have kt : ∀ (y : Addr) (o : HO), H1 y = some o -> y ≠ a -> y ≠ c -> (upd (upd H1 a (.ins CS dx (eI g b c (n + 1)))) c (.dK (putK ec (Sum.inl (n + 1)) (.ref t)))) y = some o := λy o e z1 z2 => by
      rw [ah z2, ah z1];exact e
    have tb : ∀ y xs, H1 y = some (.tup xs) -> (upd (upd H1 a (.ins CS dx (eI g b c (n + 1)))) c (.dK (putK ec (Sum.inl (n + 1)) (.ref t)))) y = some (.tup xs) := λy xs e =>
      kt y _ e (iu e (s _ _ O.ia) (by intro z;cases z)) (iu e (s _ _ xc) (by intro z;cases z))
    refine q _ ⟨O.ne, by rw [ah nac];exact aq, ?_, ?_, by have := O.n0;lia, ?_, ?_, ?_⟩ λy o e m => kt y o (s _ _ e) (λz => m (by simp [z])) λz => m (by simp [z])
    · unfold kq;rw [if_neg ch];exact j9 (O.hb.mono s (s b)) (λo e => kt b o e (Ne.symm nab) O.ne) tb
    · unfold ko;rw [if_neg ch];exact uH pc (λy xs e => tb y xs (s _ _ e)) O.nk.no (tb _ _ et) aq
    · unfold kq;rw [if_neg ch];exact O.nh.more
    · unfold ko;rw [if_neg ch];exact O.nk.snoc O.n0
    · unfold kq ko;rw [if_neg ch, if_neg ch];intro p hp r hr;rcases mem_append.mp hr with hr | hr
      · exact O.dj p hp r hr
      · rw [mem_singleton.mp hr];have := (O.nh.2 p hp).2;show p.1 ≠ n + 1;lia
theorem qG {l : fx}{i : Int}(h : dE l i = false):ck l i = l := by
  unfold ck;refine List.filter_eq_self.mpr λp hp => decide_eq_true λz => ?_;exact of_decide_eq_false h (mem_map.mpr ⟨p, hp, z⟩)
theorem Nums.drop {l : fx}(h : Nums l n)(i : Int):Nums (ck l i) n := ⟨List.Nodup.sublist (List.Sublist.map _ filter_sublist) h.1, λp hp => h.2 p (List.mem_filter.mp hp).1⟩
theorem nW {G : Hp}{l : fx}{es : List (Key × V)}(i : Int)(p : Paired (E3 G) es l):Paired (E3 G) (fg es (Sum.inl i)) (ck l i) := by
  induction p with
  | nil => exact .nil
  | @cons x y r r' f _ ih =>
    by_cases e : y.1 = i
    · rw [u3 (by rw [f.1, e])];unfold ck;rw [List.filter_cons_of_neg (by simp [e])];exact ih
    · rw [uZ (by rw [f.1];intro z;exact e (Sum.inl.inj z))];unfold ck;rw [List.filter_cons_of_pos (by simp [e])];exact .cons f ih
theorem n3 {G : Hp}{l : fx}{es : List (Key × V)}{i : Int}(p : Paired (E3 G) es l)(h : dE l i = true):∃ t x, gL es (Sum.inl i) = some (.ref t) /\ (i, x) ∈ l /\ G t = some (.tup [.int x.1, .int x.2.1, .int x.2.2]) := by
  induction p with
  | nil => cases h
  | @cons x y r r' f _ ih =>
    by_cases e : y.1 = i
    · obtain ⟨f1, t, f2, f3⟩ := f;exact ⟨t, y.2, by rw [iM (by rw [f1, e]), f2], by rw [<- e];exact mem_cons_self, f3⟩
    · have h' : dE r' i = true := by
        unfold dE at h ⊢;refine decide_eq_true ?_;have := of_decide_eq_true h;rw [map_cons, List.mem_cons] at this;exact this.resolve_left λz => e z.symm
      obtain ⟨t, z, h1, h2, h3⟩ := ih h';exact ⟨t, z, by rw [iL (by rw [f.1];intro w;exact e (Sum.inl.inj w))];exact h1, mem_cons_of_mem _ h2, h3⟩
theorem uw {i : Int}{E : XK}{Q : VK}(O : Ob CS H a dx b c g n hs ks)(hi : Sm i)(h : dE hs i = true \/ dE ks i = true)
    (q : ∀ t x H2, ((i, x) ∈ hs \/ (i, x) ∈ ks) -> H2 t = some (.tup [.int x.1, .int x.2.1, .int x.2.2]) -> Ob CS H2 a dx b c g n (ck hs i) (ck ks i) -> Kept [a, b, c] H H2 -> Q (.ref t) H2):uK cs CS [.ref a, .int i] H Q E := by
  obtain ⟨nab, nac⟩ := O.Eu;obtain ⟨eb, xb, pb⟩ := id O.hb;obtain ⟨ec, xc, pc⟩ := id O.hc;refine ⟨a, dx, b, c, g, n, i, hs, ks, rfl, O.ia, O.hb, O.hc, hi, ?_⟩;have dj' : ∀ p ∈ ck hs i, ∀ r ∈ ck ks i, p.1 ≠ r.1 := λp hp r hr => O.dj p (List.mem_filter.mp hp).1 r (List.mem_filter.mp hr).1;by_cases f1 : dE hs i = true
  · rw [if_pos f1];obtain ⟨t, x, v1, v2, v3⟩ := n3 pb f1;have f2 : dE ks i = false := by
      unfold dE at f1 ⊢;refine decide_eq_false λm => ?_;obtain ⟨p, hp, e⟩ := mem_map.mp (of_decide_eq_true f1);obtain ⟨r, hr, e'⟩ := mem_map.mp m;exact O.dj p hp r hr (by rw [e, e'])
    have tb : ∀ y xs, H y = some (.tup xs) -> (upd H b (.dK (fg eb (Sum.inl i)))) y = some (.tup xs) := λy xs e => by rw [ah (iu e xb (by intro z;cases z))];exact e
    refine ⟨eb, _, xb, v1, q t x _ (.inl v2) (tb _ _ v3) ⟨O.ne, by rw [ah nab];exact O.ia, ⟨_, aq, Paired.imp' (by rintro _ _ ⟨h1, t, h2, h3⟩;exact ⟨h1, t, h2, tb _ _ h3⟩) (nW i pb)⟩, ?_, O.n0, O.nh.drop i, O.nk.drop i, dj'⟩ λy o e m => by rw [ah λz => m (by simp [z])];exact e⟩;rw [qG f2];exact j9 O.hc (λo e => by rw [ah (Ne.symm O.ne)];exact e) tb
  · have f2 := h.resolve_left f1;rw [if_neg f1, if_pos f2];obtain ⟨t, x, v1, v2, v3⟩ := n3 pc f2;have tb : ∀ y xs, H y = some (.tup xs) -> (upd H c (.dK (fg ec (Sum.inl i)))) y = some (.tup xs) := λy xs e => by rw [ah (iu e xc (by intro z;cases z))];exact e
    refine ⟨ec, _, xc, v1, q t x _ (.inr v2) (tb _ _ v3) ⟨O.ne, by rw [ah nac];exact O.ia, ?_, ⟨_, aq, Paired.imp' (by rintro _ _ ⟨h1, t, h2, h3⟩;exact ⟨h1, t, h2, tb _ _ h3⟩) (nW i pc)⟩, O.n0, O.nh.drop i, O.nk.drop i, dj'⟩ λy o e m => by rw [ah λz => m (by simp [z])];exact e⟩;rw [qG (Bool.not_eq_true _ |>.mp f1)];exact j9 O.hb (λo e => by rw [ah O.ne];exact e) tb
end
theorem oG {t : DT}{σ : St}{H : Hp}{Q : VK}(ρ : aH)(d : D)(re : cy K H σ ρ)(h : t ρ λb => b = .p d)(k : ∀ v H', av H H' -> Rep K H' v d -> Q v H'):cE K t σ H Q :=
  ⟨H, ρ, _, av.refl _, re, h, λb v H' G' e w r => by subst e;exact k v H' w.hh (Rep.mono w.gh r)⟩
theorem fW {t : DT}{σ : St}{H : Hp}{Q : VK}(ρ : aH)(i : Int)(re : cy K H σ ρ)(h : t ρ λb => b = .p (.int i))(k : ∀ H', av H H' -> Q (.int i) H'):cE K t σ H Q :=
  oG ρ _ re h λv H' s r => by cases r;exact k H' s
theorem ax {G : Hp}{σ : St}:cy K G σ [] := λi d e => by cases e
theorem ai {G : Hp}{σ : St}{ρ : aH}{v : V}{d : D}(r : Rep K G v d)(h : cy K G σ ρ):cy K G (some v :: σ) (some (.p d) :: ρ) := λi d' e => by
  cases i with
  | zero => cases e;exact ⟨v, rfl, r⟩
  | succ i =>
    obtain ⟨u, h1, h2⟩ := h i d' e;exact ⟨u, by simpa using h1, h2⟩
theorem aa {G : Hp}{σ : St}{ρ : aH}{o : Option V}(h : cy K G σ ρ):cy K G (o :: σ) (none :: ρ) := λi d' e => by
  cases i with
  | zero => cases e
  | succ i =>
    obtain ⟨u, h1, h2⟩ := h i d' e;exact ⟨u, by simpa using h1, h2⟩
structure Run (CS : Addr)(H0 H : Hp)(a dx b c : Addr)(g n : Int)(hs ks : fx):Prop where
  ob : Ob CS H a dx b c g n hs ks
  sm : av H0 H
  na : H0 a = none
  nb : H0 b = none
  nc : H0 c = none
section
variable {H0 H H2 : Hp} {a dx b c : Addr} {g n n' : Int} {hs ks hs' ks' : fx}
theorem Run.mono (R : Run CS H0 H a dx b c g n hs ks)(s : av H H2):Run CS H0 H2 a dx b c g n hs ks := ⟨R.ob.mono s, R.sm.trans s, R.na, R.nb, R.nc⟩
end
theorem zr {H H1 : Hp}{x dx b c : Addr}{g : Int}{o1 o2 : HO}(s : av H H1)(hx : H1 x = none)(hd : H1 dx = none)(hb : (upd (upd H1 dx o1) x o2) b = none)(hc : (upd (upd H1 dx o1) x o2) c = none)(ne : b ≠ c) :
    Run CS H (upd (upd (upd (upd (upd H1 dx o1) x o2) b (.dK [])) c (.dK [])) x (.ins CS dx (eI g b c 0))) x dx b c g 0 [] [] := by
  have xb : b ≠ x := λz => by rw [z, aq] at hb;cases hb
  have xc : c ≠ x := λz => by rw [z, aq] at hc;cases hc
  rw [ah xb] at hb;rw [ah xc] at hc;have db : b ≠ dx := λz => by rw [z, aq] at hb;cases hb
  have dc : c ≠ dx := λz => by rw [z, aq] at hc;cases hc
  rw [ah db] at hb;rw [ah dc] at hc;refine ⟨⟨ne, aq, ⟨[], by rw [ah xb, ah ne];exact aq, .nil⟩, ⟨[], by rw [ah xc];exact aq, .nil⟩, Int.le_refl _, ⟨.nil, λ_ h => (nomatch h)⟩, ⟨.nil, λ_ h => (nomatch h)⟩, λ_ h => (nomatch h)⟩, λy o e => ?_, s.free hx, s.free hb, s.free hc⟩;have e1 := s _ _ e;rw [ah (aI e1 hx), ah (aI e1 hc), ah (aI e1 hb), ah (aI e1 hx), ah (aI e1 hd)];exact e1
theorem bH {t u : TS}{D : Ends}{σ : St}{H : Hp}(C : St -> Hp -> Prop)(tail : ∀ σ H, C σ H -> u D σ H)(head : ∀ N : St -> Hp -> Prop, (∀ σ H, C σ H -> N σ H) -> t { D with nx := N } σ H):Bs t u D σ H := head _ tail
noncomputable def iX (r : R4):D := .tup [.int r.1, .str r.2.1]
noncomputable def yk (H : Hp)(v : V)(r : R4):Prop := ∃ p, v = .ref p /\ H p = some (.tup [.int r.1, .str r.2.1])
noncomputable abbrev eJ (H : Hp):List V -> List R4 -> Prop := Paired (yk H)
theorem rep3 {G : Hp}{v : V}{x : S3}(r : Rep K G v (d3 x)):∃ t, v = .ref t /\ G t = some (.tup [.int x.1, .int x.2.1, .int x.2.2]) := by
  obtain ⟨t, vs, rfl, e, rr⟩ := Rep.mH r;cases rr with | cons a rr => cases rr with | cons b rr => cases rr with | cons c rr =>
    cases rr;cases a;cases b;cases c;exact ⟨t, rfl, e⟩
theorem xP {G : Hp}{t : Addr}{x : S3}(e : G t = some (.tup [.int x.1, .int x.2.1, .int x.2.2])):Rep K G (.ref t) (d3 x) := Rep.kC e (.cons (.int _) (.cons (.int _) (.cons (.int _) .nil)))
theorem yk.rep {H : Hp}{v : V}{r : R4}(h : yk H v r):Rep K H v (iX r) := by
  obtain ⟨p, rfl, h1⟩ := h;exact Rep.kC h1 (.cons (.int _) (.cons (.str _) .nil))
theorem eJ.on {H H2 : Hp}{vs : List V}{rs : List R4}(h : eJ H vs rs)(kt : ∀ t xs, H t = some (.tup xs) -> H2 t = some (.tup xs)):eJ H2 vs rs := Paired.imp' (by rintro _ _ ⟨p, e, h1⟩;exact ⟨p, e, kt _ _ h1⟩) h
theorem eJ.zq {H : Hp}{vs : List V}{rs : List R4}(h : eJ H vs rs):bx K H vs (rs.map iX) := by
  induction h with
  | nil => exact .nil
  | cons f _ ih => exact .cons f.rep ih
theorem jV {α β : Type}{F : α -> β -> Prop}:∀ {l : List α} {r : List β} (j : Nat), Paired F l r -> Paired F (l.eraseIdx j) (r.eraseIdx j)
  | _, _, _, .nil => by simp only [List.eraseIdx_nil];exact .nil
  | _, _, 0, .cons _ t => t
  | _, _, j + 1, .cons f t => .cons f (jV j t)
theorem mj {r : R4}:∀ {rows : List R4} {j : Nat}, (rows.map (·.1)).Nodup -> rows[j]? = some r -> rows.eraseIdx j = aS rows r.1
  | [], _, _, h => by cases h
  | x :: xs, 0, nd, h => by
    obtain rfl : x = r := Option.some.inj h;rw [map_cons, nodup_cons] at nd;have fs : xs.filter (λr => decide (r.1 ≠ x.1)) = xs := List.filter_eq_self.mpr λy hy => decide_eq_true λz => nd.1 (mem_map.mpr ⟨y, hy, z⟩);unfold aS;rw [List.filter_cons_of_neg (by simp), fs];rfl
  | x :: xs, j + 1, nd, h => by
    rw [map_cons, nodup_cons] at nd;have h' : xs[j]? = some r := h;have ne : x.1 ≠ r.1 := λz => nd.1 (mem_map.mpr ⟨r, mem_of_getElem? h', z.symm⟩);have ih := mj nd.2 h';unfold aS at ih ⊢;rw [List.filter_cons_of_pos (by simp [ne]), <- ih];rfl
theorem Ob.upd {H : Hp}{a dx b c : Addr}{g n : Int}{hs ks : fx}(O : Ob CS H a dx b c g n hs ks){y : Addr}{o : HO}(m : y ∉ [a, b, c])(nt : ∀ xs, H y ≠ some (.tup xs)):Ob CS (L2.upd H y o) a dx b c g n hs ks := by
  have ka : a ≠ y := λz => m (by simp [z]);have kb : b ≠ y := λz => m (by simp [z]);have kc : c ≠ y := λz => m (by simp [z]);have kt : ∀ t xs, H t = some (.tup xs) -> L2.upd H y o t = some (.tup xs) := λt xs e => by
    rw [ah λz => nt xs (by rw [<- z];exact e)];exact e
  exact ⟨O.ne, by rw [ah ka];exact O.ia, j9 O.hb (λo e => by rw [ah kb];exact e) kt, j9 O.hc (λo e => by rw [ah kc];exact e) kt, O.n0, O.nh, O.nk, O.dj⟩
structure j4 (CS : Addr)(H : Hp)(a dx b c l : Addr)(g n : Int)(most : Nat)(rows : List R4):Prop where
  ob : Ob CS H a dx b c g n (aj rows) (af rows)
  el : ∃ vs, H l = some (.lst vs) /\ eJ H vs rows
  o : fV rows
  lh : (aj rows).length <= most
  lk : (af rows).length <= most
  nd : (rows.map (·.1)).Nodup
  up : ∀ r ∈ rows, 1 <= r.1 /\ r.1 <= n
section
variable {H H2 : Hp} {a dx b c l : Addr} {g n : Int} {most : Nat} {rows : List R4}
theorem j4.mono (S : j4 CS H a dx b c l g n most rows)(s : av H H2):j4 CS H2 a dx b c l g n most rows := by
  obtain ⟨vs, e, r⟩ := S.el;exact ⟨S.ob.mono s, ⟨vs, s _ _ e, r.on λt xs e => s _ _ e⟩, S.o, S.lh, S.lk, S.nd, S.up⟩
theorem j4.Dm (S : j4 CS H a dx b c l g n most rows)(g0 : 0 <= g)(g1 : g <= 50)(m12 : most <= 12):dO g (vals (aj rows)) (vals (af rows)) := by
  have := S.lh;have := S.lk;exact ⟨g0, g1, by unfold vals;rw [length_map];lia, by unfold vals;rw [length_map];lia, S.o.BB, S.o.uV⟩
theorem j4.rep (S : j4 CS H a dx b c l g n most rows):Rep K H (.ref l) (.lst (rows.map iX)) := by
  obtain ⟨vs, e, r⟩ := S.el;exact Rep.qZ e r.zq
theorem j4.len (S : j4 CS H a dx b c l g n most rows)(m12 : most <= 12):rows.length <= 24 := by
  have := xf rows;have := S.lh;have := S.lk;lia
theorem j4.less {r : R4}{j : Nat}{vs : List V}(S : j4 CS H a dx b c l g n most rows)(ej : rows[j]? = some r)(el : H l = some (.lst vs))(ra : eJ H vs rows)(O2 : Ob CS H2 a dx b c g n (ck (aj rows) r.1) (ck (af rows) r.1))(k2 : Kept [a, b, c] H H2) :
    j4 CS (upd H2 l (.lst (vs.eraseIdx j))) a dx b c l g n most (aS rows r.1) /\ Kept [l, a, b, c] H (upd H2 l (.lst (vs.eraseIdx j))) := by
  have el2 := k2 _ _ el (S.ob.lst el);have nt : ∀ xs, H2 l ≠ some (.tup xs) := λxs e => by rw [el2] at e;cases e
  have kt : ∀ y xs, H y = some (.tup xs) -> (upd H2 l (.lst (vs.eraseIdx j))) y = some (.tup xs) := λy xs e => by
    have e1 := k2 _ _ e (S.ob.tup e);rw [ah λw => nt xs (by rw [<- w];exact e1)];exact e1
  refine ⟨⟨by rw [fy, eM];exact O2.upd (O2.lst el2) nt, ⟨_, aq, by rw [<- mj S.nd ej];exact eJ.on (jV j ra) kt⟩, λx hx => S.o x (List.mem_filter.mp hx).1, ?_, ?_, List.Nodup.sublist (List.Sublist.map _ filter_sublist) S.nd, λx hx => S.up x (List.mem_filter.mp hx).1⟩, λy o e m => ?_⟩
  · rw [fy];exact Nat.le_trans (List.length_filter_le _ _) S.lh
  · rw [eM];exact Nat.le_trans (List.length_filter_le _ _) S.lk
  · rw [ah λw => m (by rw [w];exact mem_cons_self)];exact k2 y o e λw => m (mem_cons_of_mem _ w)
theorem j4.add {p : Addr}{k : Str}{x : S3}{ws : List V}(S : j4 CS H a dx b c l g n most rows)(ox : fP k x)(lt : (allOf k (aj rows) (af rows)).length < most)(O2 : Ob CS H2 a dx b c g (n + 1) (kq k (aj rows) (n + 1) x) (ko k (af rows) (n + 1) x))(k2 : Kept [a, b, c] H H2)(hp : H2 p = none)(el : H l = some (.lst ws))(ra : eJ H ws rows) :
    j4 CS (upd (upd H2 p (.tup [.int (n + 1), .str k])) l (.lst (ws ++ [.ref p]))) a dx b c l g (n + 1) most (rows ++ [(n + 1, k, x)]) /\ Kept [l, a, b, c] H (upd (upd H2 p (.tup [.int (n + 1), .str k])) l (.lst (ws ++ [.ref p]))) := by
  have sp := dB (o := .tup [.int (n + 1), .str k]) hp;have el2 := k2 _ _ el (S.ob.lst el);have O3 := O2.mono sp;have el3 := sp _ _ el2;have nt : ∀ xs, (upd H2 p (.tup [.int (n + 1), .str k])) l ≠ some (.tup xs) := λxs e => by rw [el3] at e;cases e
  have O4 := O3.upd (o := .lst (ws ++ [.ref p])) (O3.lst el3) nt;have kt : ∀ y xs, H y = some (.tup xs) -> (upd (upd H2 p (.tup [.int (n + 1), .str k])) l (.lst (ws ++ [.ref p]))) y = some (.tup xs) := λy xs e => by
    have e1 := sp _ _ (k2 _ _ e (S.ob.tup e));rw [ah λw => nt xs (by rw [<- w];exact e1)];exact e1
  have ep : (upd (upd H2 p (.tup [.int (n + 1), .str k])) l (.lst (ws ++ [.ref p]))) p = some (.tup [.int (n + 1), .str k]) := by
    rw [ah (Ne.symm (aI el2 hp))];exact aq
  have hh : aj (rows ++ [(n + 1, k, x)]) = kq k (aj rows) (n + 1) x := kI rows (n + 1, k, x);have hc : af (rows ++ [(n + 1, k, x)]) = ko k (af rows) (n + 1) x := jE rows (n + 1, k, x);have lh := S.lh;have lk := S.lk;refine ⟨⟨by rw [hh, hc];exact O4, ⟨_, aq, Paired.snoc (eJ.on ra kt) ⟨p, rfl, ep⟩⟩, λr hr => ?_, ?_, ?_, ?_, λr hr => ?_⟩, λy o e m => ?_⟩
  · rcases mem_append.mp hr with h | h
    · exact S.o r h
    · rw [mem_singleton.mp h];exact ox
  · rw [hh];unfold kq;unfold allOf at lt;by_cases e : k = aO
    · rw [if_pos e] at lt ⊢;rw [length_append];exact lt
    · rw [if_neg e];exact lh
  · rw [hc];unfold ko;unfold allOf at lt;by_cases e : k = aO
    · rw [if_pos e];exact lk
    · rw [if_neg e] at lt ⊢;rw [length_append];exact lt
  · rw [map_append, nodup_append];refine ⟨S.nd, by simp, λy hy z hz w => ?_⟩;obtain ⟨q, hq, rfl⟩ := mem_map.mp hy;have := (S.up q hq).2;simp at hz;lia
  · rcases mem_append.mp hr with h | h
    · have := S.up r h;lia
    · rw [mem_singleton.mp h];have := S.ob.n0;exact ⟨by show 1 <= n + 1;lia, Int.le_refl _⟩
  · rw [ah λw => m (by rw [w];exact mem_cons_self)];exact sp _ _ (k2 y o e λw => m (mem_cons_of_mem _ w))
end
noncomputable def lI (g : Int)(rows : List R4)(m : Int)(T : D):Prop := ∃ d, aP g (vals (aj rows)) (vals (af rows)) m /\ jB g (vals (aj rows)) (vals (af rows)) m d /\ T = .tup [.int m, .int (m - cu g (vals (aj rows)) (vals (af rows)) 0), d]
theorem sQ {g : Int}{hs cs : List S3}{m : Int}{d d' : D}(h : jB g hs cs m d)(h' : jB g hs cs m d'):d = d' := by
  rcases h with ⟨e, rfl⟩ | ⟨e, L, hL, rfl, h1, h2⟩ <;> rcases h' with ⟨e', rfl⟩ | ⟨e', L', hL', rfl, h1', h2'⟩
  · rfl
  · exact absurd e e'
  · exact absurd e' e
  · have := h2 L' hL' h1';have := h2' L hL h1;rw [show L = L' by lia]
theorem lI.uniq {g : Int}{rows : List R4}{m m' : Int}{T T' : D}(h : lI g rows m T)(h' : lI g rows m' T'):m = m' /\ T = T' := by
  obtain ⟨d, h1, h2, rfl⟩ := h;obtain ⟨d', h1', h2', rfl⟩ := h';obtain rfl := h1.uniq h1';rw [sQ h2 h2'];exact ⟨rfl, rfl⟩
theorem lI.same {g : Int}{rows rows' : List R4}{m : Int}{T : D}(e : ∀ L, cu g (vals (aj rows')) (vals (af rows')) L = cu g (vals (aj rows)) (vals (af rows)) L)(h : lI g rows m T):lI g rows' m T := by
  obtain ⟨d, h1, h2, rfl⟩ := h;refine ⟨d, ⟨h1.z, λi hi => by rw [e];exact h1.ub i hi, ?_⟩, ?_, by rw [e]⟩
  · rcases h1.at' with z | ⟨i, hi, z⟩
    · exact .inl z
    · exact .inr ⟨i, hi, by rw [e];exact z⟩
  · rcases h2 with z | ⟨z, L, hL, rfl, z1, z2⟩
    · exact .inl z
    · exact .inr ⟨z, L, hL, rfl, by rw [e];exact z1, λi hi w => z2 i hi (by rw [<- e];exact w)⟩
theorem lI.aX {g : Int}{rows : List R4}{m : Int}{T : D}(h : lI g rows m T):aX T = true /\ dep T <= 60 := by
  obtain ⟨d, _, hd, rfl⟩ := h;have hd : d = .non \/ ∃ L : Int, d = .int L := by
    rcases hd with ⟨_, rfl⟩ | ⟨_, L, _, rfl, _⟩
    · exact .inl rfl
    · exact .inr ⟨_, rfl⟩
  rcases hd with rfl | ⟨L, rfl⟩ <;> (simp only [lE, gE, ix, lD, yT, lu, gw, il, lq, yz];decide)
theorem lI.Dd {g : Int}{rows : List R4}{m : Int}{T : D}(h : lI g rows m T):∃ d1 d2, T = .tup [.int m, d1, d2] := by
  obtain ⟨d, _, _, rfl⟩ := h;exact ⟨_, _, rfl⟩
theorem lI.keep {G G2 : Hp}{v : V}{g : Int}{rows : List R4}{m : Int}{T : D}(h : lI g rows m T)(r : Rep K G v T)(kt : ∀ t xs, G t = some (.tup xs) -> G2 t = some (.tup xs)):Rep K G2 v T := by
  obtain ⟨d, _, hd, rfl⟩ := h;have hd : d = .non \/ ∃ L : Int, d = .int L := by
    rcases hd with ⟨_, rfl⟩ | ⟨_, L, _, rfl, _⟩
    · exact .inl rfl
    · exact .inr ⟨_, rfl⟩
  obtain ⟨t, vs, rfl, e, rr⟩ := Rep.mH r;cases rr with | cons a rr => cases rr with | cons b rr => cases rr with | cons c rr =>
    cases rr;cases a;cases b;refine Rep.kC (kt _ _ e) (.cons (.int _) (.cons (.int _) (.cons ?_ .nil)));rcases hd with rfl | ⟨L, rfl⟩
    · cases c;exact .non
    · cases c;exact .int _
theorem lK {g : Int}{rows : List R4}{r : R4}{i : Int}(o : fV rows)(nd : (rows.map (·.1)).Nodup)(hr : r ∈ rows)(L : Int):cu g (vals (aj (aS rows r.1 ++ [(i, r.2)]))) (vals (af (aS rows r.1 ++ [(i, r.2)]))) L = cu g (vals (aj rows)) (vals (af rows)) L := by
  have o' : fV (aS rows r.1 ++ [(i, r.2)]) := λx hx => by
    rcases mem_append.mp hx with h | h
    · exact o x (List.mem_filter.mp h).1
    · rw [mem_singleton.mp h];exact o r hr
  rw [<- oJ o', <- oJ o, qY nd hr, map_append, sum_append];simp [con]
theorem ir {g n : Int}{rows : List R4}{P : B -> Prop}(ok : dO g (vals (aj rows)) (vals (af rows)))(q : ∀ m T, lI g rows m T -> P (.p T)):dZ CS [oD CS g (aj rows) (af rows) n] P :=
  ⟨g, aj rows, af rows, n, rfl, ok, λm d h1 h2 => q m _ ⟨d, h1, h2, rfl⟩⟩
theorem um {T : D}{P : B -> Prop}(h : aX T = true /\ dep T <= 60)(q : P (.p (.bl false))):Dz T T P := by
  refine ⟨⟨h.1, h.1, by have := h.2;lia⟩, ?_⟩;rw [gH _ h.1];exact q
theorem yC {T : D}{P : B -> Prop}(h : aX T = true /\ dep T <= 60)(q : P (.p (.bl true))):Dy T T P := by
  refine ⟨⟨h.1, h.1, by have := h.2;lia⟩, ?_⟩;rw [gH _ h.1];exact q
theorem xl {g : Int}{hs cs : List S3}{P : B -> Prop}(h : P (.p (.bl false))):Dz (dW g hs cs) (dW g hs cs) P := by
  refine ⟨⟨ki _ _ _, ki _ _ _, by have := wB g hs cs;lia⟩, ?_⟩;rw [gH _ (ki _ _ _)];exact h
theorem tG {t : gO}{σ : St}{H : Hp}{Q : Bool -> Hp -> Prop}(ρ : aH)(b : Bool)(re : cy K H σ ρ)(h : t ρ λc => c = b)(k : ∀ H', av H H' -> Q b H'):cT K t σ H Q :=
  ⟨H, ρ, _, av.refl _, re, h, λc H' G' e w => by subst e;exact k H' w.hh⟩
theorem iw {rows : List R4}{r r' : R4}{j m : Nat}(nd : (rows.map (·.1)).Nodup)(h : rows[j]? = some r)(h' : rows[m]? = some r')(ne : m ≠ j):r'.1 ≠ r.1 := λz => by
  have e1 : (rows.map (·.1))[j]? = some r.1 := by rw [getElem?_map, h];rfl
  have e2 : (rows.map (·.1))[m]? = some r.1 := by rw [getElem?_map, h', <- z];rfl
  obtain ⟨l1, f1⟩ := List.getElem?_eq_some_iff.mp e1;obtain ⟨l2, f2⟩ := List.getElem?_eq_some_iff.mp e2;exact ne ((List.getElem_inj nd).mp (f2.trans f1.symm))
theorem zP {rows : List R4}{r r' : R4}(nd : (rows.map (·.1)).Nodup)(h : r ∈ rows)(h' : r' ∈ rows)(e : r'.1 = r.1):r' = r := by
  obtain ⟨j, hj⟩ := List.getElem?_of_mem h;obtain ⟨m, hm⟩ := List.getElem?_of_mem h';by_cases z : m = j
  · rw [z, hj] at hm;exact (Option.some.inj hm).symm
  · exact absurd e (iw nd hj hm z)
theorem Bj {rows : List R4}{r : R4}{x : S3}(nd : (rows.map (·.1)).Nodup)(hr : r ∈ rows)(h : (r.1, x) ∈ aj rows \/ (r.1, x) ∈ af rows):x = r.2.2 := by
  rcases h with h | h
  · obtain ⟨r', hr', e⟩ := mem_map.mp h;obtain ⟨e1, e2⟩ := Prod.mk.inj e;rw [<- e2, zP nd hr (List.mem_filter.mp hr').1 e1]
  · obtain ⟨r', hr', e⟩ := mem_map.mp h;obtain ⟨e1, e2⟩ := Prod.mk.inj e;rw [<- e2, zP nd hr (List.mem_filter.mp hr').1 e1]
noncomputable def eK (rows : List R4)(k : Str):List R4 := rows.filter λr => decide (r.2.1 = k)
theorem w6 (rows : List R4)(k : Str):(rows.filterMap λr => if decide (r.2.1 = k) = true then some (iX r) else none) = (eK rows k).map iX := by
  unfold eK;rw [<- eQ];congr 1;funext p
  by_cases z : p.2.1 = k
  · rw [if_pos (decide_eq_true z), if_pos z]
  · rw [if_neg (by simpa using z), if_neg z]
theorem fQ {k : Str}{rows : List R4}(o : fV rows)(hk : k = aO \/ k = bC):(eK rows k).length = (allOf k (aj rows) (af rows)).length := by
  unfold allOf eK;rcases hk with rfl | rfl
  · rw [if_pos rfl];unfold aj;rw [length_map]
  · rw [if_neg (show ¬ bC = aO from kE)];unfold af;rw [length_map];congr 1;refine List.filter_congr λr hr => ?_;rcases o r hr with ⟨e, _⟩ | ⟨e, _⟩
    · rw [e, decide_eq_true rfl, decide_eq_false (show ¬ aO = bC from oa)];rfl
    · rw [e, decide_eq_true rfl, decide_eq_false (show ¬ bC = aO from kE)];rfl
theorem vp {rows : List R4}{k : Str}{r : R4}(h : r ∈ eK rows k):r ∈ rows /\ r.2.1 = k := ⟨(List.mem_filter.mp h).1, of_decide_eq_true (List.mem_filter.mp h).2⟩
theorem mi {k : Str}{rows : List R4}{r : R4}(nd : (rows.map (·.1)).Nodup)(h : r ∈ eK rows k):(eK (aS rows r.1) k).length + 1 = (eK rows k).length := by
  unfold eK aS at *;have e : (rows.filter λx => decide (x.1 ≠ r.1)).filter (λx => decide (x.2.1 = k)) = (rows.filter λx => decide (x.2.1 = k)).filter λx => decide (x.1 ≠ r.1) := by
    rw [List.filter_filter, List.filter_filter];congr 1;funext x
    rw [Bool.and_comm]
  rw [e];have nd' : ((rows.filter λx => decide (x.2.1 = k)).map (·.1)).Nodup := List.Nodup.sublist (List.Sublist.map _ filter_sublist) nd;generalize (rows.filter λx => decide (x.2.1 = k)) = l at *;clear e nd;induction l with
  | nil => cases h
  | cons y ys ih =>
    rw [map_cons, nodup_cons] at nd';by_cases z : y.1 = r.1
    · have fs : ys.filter (λx => decide (x.1 ≠ r.1)) = ys := List.filter_eq_self.mpr λx hx => decide_eq_true λw => nd'.1 (mem_map.mpr ⟨x, hx, by rw [w, z]⟩);rw [List.filter_cons_of_neg (by simp [z]), fs];rfl
    · have hr : r ∈ ys := (List.mem_cons.mp h).resolve_left λw => z (by rw [w]);rw [List.filter_cons_of_pos (by simp [z]), length_cons, length_cons, ih hr nd'.2]
theorem CK {xs : List V}{j : Nat}{v : V}(e : xs[j]? = some v)(c : xs.length <= 1000):-(2 ^ 63) <= ((j : Nat):Int) /\ ((j : Nat):Int) < 2 ^ 63 /\ seqIndex? ((j : Nat):Int) xs.length = some j := by
  have hj := (List.getElem?_eq_some_iff.mp e).1;refine ⟨by lia, by lia, ?_⟩;have : sv xs.length ((j : Nat):Int) = some j := by
    unfold sv;rw [if_pos (by lia), if_pos (by lia)];simp
  exact (o8 this).1
noncomputable def pK (cs : hJ)(CS : Addr):Sp := λvs H Q _ => ∃ (a dx b c t : Addr) (g n : Int) (hs ks : fx) (k : Str) (x : S3), vs = [.ref a, .str k, .ref t] /\ H t = some (.tup [.int x.1, .int x.2.1, .int x.2.2]) /\ Ob CS H a dx b c g n hs ks /\ fP k x /\ hs.length <= 12 /\ ks.length <= 12 /\ (allOf k hs ks).length < 12 /\
  ∀ H', Ob CS H' a dx b c g (n + 1) (kq k hs (n + 1) x) (ko k ks (n + 1) x) -> Kept [a, b, c] H H' -> Q (.int (n + 1)) H'
theorem sL (T : iV mg)(TX : dR K mg cs)(TC : dQ K mg CS){a_Streams_put_cold : Addr}{fd_Streams_put_cold : FuncData}(FV_Streams_put_cold : aM P w K mg base (g9 P w) 5 a_Streams_put_cold fd_Streams_put_cold ["self", "start", "goal", "rate"] (rN bC cs CS))(MV_Streams_put_cold : Meth K CS "put_cold" a_Streams_put_cold)(BV_Streams_put_cold : Binds K fd_Streams_put_cold ["self", "start", "goal", "rate"] []){a_Streams_put_hot : Addr}{fd_Streams_put_hot : FuncData}(FV_Streams_put_hot : aM P w K mg base (g9 P w) 5 a_Streams_put_hot fd_Streams_put_hot ["self", "start", "goal", "rate"] (rN aO cs CS))(MV_Streams_put_hot : Meth K CS "put_hot" a_Streams_put_hot)(BV_Streams_put_hot : Binds K fd_Streams_put_hot ["self", "start", "goal", "rate"] [])(F : fU K "_law_put" "_law_put" fz f fd):aM P w K mg base gM 6 f fd ["streams", "kind", "one"] (pK cs CS) := by
  refine aM.drop (F.yf sX (λvs H Q E h => ?_) λcdv A outer s H vs Q E hr h => ?_) λ_ _ _ _ h => h
  · obtain ⟨a, dx, b, c, t, g, n, hs, ks, k, x, rfl, _⟩ := h;rfl
  · obtain ⟨a, dx, b, c, t, g, n, hs, ks, k, x, rfl, et, O, ox, lh, lk, lt, q⟩ := h;refine ⟨_, ar (fh (iS om (pv 1) kn (aR _)) (aN (cH (eA (pv 0) TC.cl MV_Streams_put_hot FV_Streams_put_hot (hr.mono (by decide)) BV_Streams_put_hot .nil (bJ.passes λ_ _ _ h => h) (au (kP jo (pv 2) eh (λ_ _ => rfl)) (au (kP jo (pv 2) eh (λ_ _ => rfl)) (au (kP jo (pv 2) eh (λ_ _ => rfl)) aY)))))) cV)
      (aN (cH (eA (pv 0) TC.cl MV_Streams_put_cold FV_Streams_put_cold (hr.mono (by decide)) BV_Streams_put_cold .nil (bJ.passes λ_ _ _ h => h) (au (kP jo (pv 2) eh (λ_ _ => rfl)) (au (kP jo (pv 2) eh (λ_ _ => rfl)) (au (kP jo (pv 2) eh (λ_ _ => rfl)) aY)))))), ?_⟩
    have hk : k = aO \/ k = bC := ox.elim (λz => .inl z.1) λz => .inr z.1;have sq := lJ.of (K := K) et;obtain ⟨sm1, sm2, sm3⟩ := ox.sm;refine ⟨_, rfl, rfl, _, rfl, qV (λz => ?_) λz => ?_⟩
    · obtain rfl : k = aO := V.str.inj (of_decide_eq_true z);refine ⟨_, rfl, a, dx, _, rfl, O.ia, rfl, _, rfl, .inr (.inl ⟨t, _, 0, _, rfl, rfl, sq, rfl, _, rfl, .inr (.inl ⟨t, _, 1, _, rfl, rfl, sq, rfl, _, rfl, .inr (.inl ⟨t, _, 2, _, rfl, rfl, sq, rfl, ?_⟩)⟩)⟩)⟩;dsimp only [vG];exact uA (x := x) O (.inl rfl) lh lk lt ox.bad sm1 sm2 sm3 q
    · obtain rfl : k = bC := hk.resolve_left λe => z (decide_eq_true (congrArg V.str e));refine ⟨_, rfl, a, dx, _, rfl, O.ia, rfl, _, rfl, .inr (.inl ⟨t, _, 0, _, rfl, rfl, sq, rfl, _, rfl, .inr (.inl ⟨t, _, 1, _, rfl, rfl, sq, rfl, _, rfl, .inr (.inl ⟨t, _, 2, _, rfl, rfl, sq, rfl, ?_⟩)⟩)⟩)⟩;dsimp only [vG];exact uA (x := x) O (.inr rfl) lh lk lt ox.bad sm1 sm2 sm3 q
noncomputable def gX (CS : Addr):DR := λds Q => ∃ (g n : Int) (rows : List R4) (k : Str) (x : S3), ds = [oD CS g (aj rows) (af rows) n, .str k, d3 x] /\ fP k x /\ dO g (vals (aj rows)) (vals (af rows)) /\ (allOf k (aj rows) (af rows)).length < 12 /\
  ∀ m m', aP g (vals (aj (rows ++ [(0, k, x)]))) (vals (af (rows ++ [(0, k, x)]))) m -> aP g (vals (aj rows)) (vals (af rows)) m' -> Q (.p (.int (m - m')))
theorem m7 (T : iV mg)(TX : dR K mg cs)(TC : dQ K mg CS)(FMX_Streams_change_with : yi P w K mg base CS "change_with" 6 ["self", "kind", "start", "goal", "rate"] (eC cs CS))(F : fU K "_law_change" "_law_change" dG f fd):aM P w K mg base gM 7 f fd ["streams", "kind", "one"] (fN K (gX CS)) := by
  refine rQ F nu (λds Q h => by obtain ⟨g, n, rows, k, x, rfl, ox, ok, lt, q⟩ := h;rfl) λcdv A outer s H E hr => ⟨_, (bt (cv (jk FMX_Streams_change_with.drop TC.cl (λ_ _ _ _ => rfl) (hr.mono (by decide)) (dv 0) (ae (dv 1) (ae (bT (dv 2) ak) (ae (bT (dv 2) ak) (ae (bT (dv 2) ak) ao))))))), λds Q h => ?_⟩
  obtain ⟨g, n, rows, k, x, rfl, ox, ok, lt, q⟩ := h;have hk : k = aO \/ k = bC := ox.elim (λz => .inl z.1) λz => .inr z.1;obtain ⟨s1, s2, s3⟩ := ox.sm;obtain ⟨w1, w2⟩ := pO rows 0 k x;unfold d3;walk_at "rs";refine ⟨g, aj rows, af rows, n, k, x, rfl, hk, s1, s2, s3, ok, ?_⟩;rw [if_neg (by lia), if_neg (by rw [ox.bad];decide), if_neg (by rw [ox.bad];decide), w1, w2];exact q
theorem lI.least {g : Int}{rows : List R4}{m : Int}{T : D}(h : lI g rows m T):aP g (vals (aj rows)) (vals (af rows)) m := h.elim λ_ z => z.1
theorem vF (rows : List R4)(i j : Int)(k : Str)(x : S3):vals (aj (rows ++ [(i, k, x)])) = vals (aj (rows ++ [(j, k, x)])) /\ vals (af (rows ++ [(i, k, x)])) = vals (af (rows ++ [(j, k, x)])) := by
  obtain ⟨w1, w2⟩ := pO rows i k x;obtain ⟨v1, v2⟩ := pO rows j k x;exact ⟨w1.symm.trans v1, w2.symm.trans v2⟩
noncomputable def uJ (cs : hJ)(CS : Addr):Sp := λvs H Q _ => ∃ (a dx b c l t : Addr) (g n : Int) (most : Nat) (rows : List R4) (k : Str) (x : S3) (e : Bool), vs = [.ref a, .ref l, .str k, .ref t, .int n, .bl e] /\ H t = some (.tup [.int x.1, .int x.2.1, .int x.2.2]) /\ j4 CS H a dx b c l g n most rows /\ fP k x /\ 0 <= g /\ g <= 50 /\ most <= 12 /\ (allOf k (aj rows) (af rows)).length < most /\
  ∀ H', j4 CS H' a dx b c l g (n + 1) most (rows ++ [(n + 1, k, x)]) -> Kept [l, a, b, c] H H' -> Q (.bl true) H'
noncomputable abbrev sW (a l : Addr)(k : Str)(t : Addr)(n : Int)(e : Bool)(w : V)(y7 y8 y9 y10 y11 : Option V):St := [some (.ref a), some (.ref l), some (.str k), some (.ref t), some (.int n), some (.bl e), some w, y7, y8, y9, y10, y11]
theorem yG {k : Str}{x : S3}(o : fP k x):fP k (x.1, x.2.1, 1 + x.2.2 / 2) := by
  rcases o with ⟨e, h⟩ | ⟨e, h⟩
  · have := h.r0;have := h.r1;exact .inl ⟨e, h.lo, h.lt, h.hi, by show 1 <= 1 + x.2.2 / 2;lia, by show 1 + x.2.2 / 2 <= 1000000000;lia⟩
  · have := h.r0;have := h.r1;exact .inr ⟨e, h.lo, h.lt, h.hi, by show 1 <= 1 + x.2.2 / 2;lia, by show 1 + x.2.2 / 2 <= 1000000000;lia⟩
theorem jT (T : iV mg)(TX : dR K mg cs)(TC : dQ K mg CS)(FM_Streams_works : tj P w K mg base CS "works" 1 ["self"] (bY CS))(F_law_change : Fn P w K mg base "_law_change" 7 ["streams", "kind", "one"] (fN K (gX CS)))(FM_Streams_least : tj P w K mg base CS "least" 6 ["self"] (dZ CS))(F_law_put : Fn P w K mg base "_law_put" 6 ["streams", "kind", "one"] (pK cs CS))(F_law_whole : Fn P w K mg base "_law_whole" 1 ["found"] (fN K iD))(F : fU K "_law_with_right" "_law_with_right" bS f fd):aM P w K mg base gM 8 f fd ["streams", "rows", "kind", "one", "last", "early"] (uJ cs CS) := by
  refine aM.drop (F.yf aT (λvs H Q E h => ?_) λcdv A outer s H vs Q E hr h => ?_) λ_ _ _ _ h => h
  · obtain ⟨a, dx, b, c, l, t, g, n, most, rows, k, x, e, rfl, _⟩ := h;rfl
  · obtain ⟨a, dx, b, c, l, t, g, n, most, rows, k, x, e, rfl, et, S, ox, g0, g1, m12, lt, q⟩ := h;refine ⟨_, ar (br (i := 6) aT.nd rfl (Or.inl rfl) ((cR FM_Streams_works TC.cl (λ_ _ _ _ => rfl) (hr.mono (by decide)) (dv 0))).pe)
      (ar (br (i := 7) aT.nd rfl (Or.inl rfl) sP)
      (ar (fh (mz (pv 5)) (aN (br (i := 7) aT.nd rfl (Or.inl rfl) ((cR FM_Streams_least TC.cl (λ_ _ _ _ => rfl) (hr.mono (by decide)) (dv 0))).pe)) cV)
      (ar (br (i := 8) aT.nd rfl (Or.inl rfl) ((gd (ae (bT (dv 3) ak) (ae (bT (dv 3) ak) (ae (aD bE ak (aD uq (bT (dv 3) ak) ak)) ao))))).pe)
      (ar (dY ((aW F_law_change (hr.mono (by decide)) (by rfl) (ae (dv 0) (ae (dv 2) (ae (dv 8) ao))))).pe)
      (ar (br (i := 9) aT.nd rfl (Or.inl rfl) ((aW F_law_change (hr.mono (by decide)) (by rfl) (ae (dv 0) (ae (dv 2) (ae (dv 3) ao))))).pe)
      (ar (br (i := 10) aT.nd rfl (Or.inl rfl) ((cR FM_Streams_least TC.cl (λ_ _ _ _ => rfl) (hr.mono (by decide)) (dv 0))).pe)
      (ar (fh ((DW.dt (nZ (DW.dt (oS (oR (dv 5)) (lx (bU (ph hr) (dv 10) (dv 7) (aR _))))) (nZ (bU (ph hr) (cR FM_Streams_works TC.cl (λ_ _ _ _ => rfl) (hr.mono (by decide)) (dv 0)) (dv 6) (aR _)) (oT (wJ (oR (aW F_law_whole (hr.mono (by decide)) (by rfl) (ae (dv 9) ao))))))))).pt (aN (cH mw)) cV)
      (ar (br (i := 11) aT.nd rfl (Or.inl rfl) (ot F_law_put (hr.mono (by decide)) (by rfl) (au (pv 0) (au (pv 2) (au (pv 3) aY)))))
      (ar (dY (oo PySem.F.plainAttrs_list PySem.F.slot_list_append PySem.F.type_list_append gC (pv 1) (au (jt (au (pv 11) (au (pv 2) aY))) aY)))
      (aN (cH ((sd (ij fH (dv 11) (aD bE (dv 4) ak) (aR _)) (se (ij fH (aD gT (bT (cR FM_Streams_least TC.cl (λ_ _ _ _ => rfl) (hr.mono (by decide)) (dv 0)) ak) (bT (dv 10) ak)) (dv 9) (aR _))))).pe))))))))))), ?_⟩
    have wk := S.Dm g0 g1 m12;have lt12 : (allOf k (aj rows) (af rows)).length < 12 := Nat.lt_of_lt_of_le lt m12;have hk : k = aO \/ k = bC := ox.elim (λz => .inl z.1) λz => .inr z.1;refine bH (λσ H1 => ∃ w, σ = sW a l k t n e w none none none none none /\ Rep K H1 w (dW g (vals (aj rows)) (vals (af rows))) /\ av H H1) ?_ λN hN => ?_;rotate_left
    · refine dh [some (.p (oD CS g (aj rows) (af rows) n))] (λb => b.val = dW g (vals (aj rows)) (vals (af rows))) (ai S.ob.rep ax) ?_ λb v H1 e1 s1 r1 => hN _ _ ⟨v, rfl, by rw [<- e1];exact r1, s1⟩;walk_at "rs";exact ⟨g, aj rows, af rows, n, rfl, rfl⟩
    rintro σ H1 ⟨w, rfl, rw, s1⟩;refine bH (λσ H2 => σ = sW a l k t n e w (some .non) none none none none /\ av H H2 /\ Rep K H2 w (dW g (vals (aj rows)) (vals (af rows)))) ?_ λN hN => hN _ _ ⟨rfl, s1, rw⟩;clear s1 rw H1;rintro σ H1 ⟨rfl, s1, rw⟩;refine bH (λσ H2 => ∃ va dA, σ = sW a l k t n e w (some va) none none none none /\ av H H2 /\ Rep K H2 w (dW g (vals (aj rows)) (vals (af rows))) /\ Rep K H2 va dA /\ (e = true -> ∃ m, lI g rows m dA)) ?_ λN hN => ?_;rotate_left
    · refine ⟨_, rfl, e, rfl, ?_⟩;cases e with
      | false => exact iY (hN _ _ ⟨_, .non, rfl, s1, rw, .non, λz => nomatch z⟩)
      | true =>
        refine mW ?_;refine dh [some (.p (oD CS g (aj rows) (af rows) n))] (λb => ∃ m u, lI g rows m u /\ b = .p u) (ai (S.mono s1).ob.rep ax) ?_ λb v H2 ⟨m, u, hu, e2⟩ s2 r2 => ?_
        · walk_at "rs";exact ir wk λm u hu => ⟨m, u, hu, rfl⟩
        · subst e2;exact hN _ _ ⟨v, u, rfl, s1.trans s2, rw.mono s2, r2, λ_ => ⟨m, hu⟩⟩
    clear s1 rw H1;rintro σ H1 ⟨va, dA, rfl, s1, rw, ra, ha⟩;refine bH (λσ H2 => ∃ vo, σ = sW a l k t n e w (some va) (some vo) none none none /\ av H H2 /\ Rep K H2 w (dW g (vals (aj rows)) (vals (af rows))) /\ Rep K H2 va dA /\ Rep K H2 vo (d3 (x.1, x.2.1, 1 + x.2.2 / 2))) ?_ λN hN => ?_;rotate_left
    · refine dh [none, none, none, some (.p (d3 x))] (λb => b.val = d3 (x.1, x.2.1, 1 + x.2.2 / 2)) (aa (aa (aa (ai (xP (s1 _ _ et)) ax)))) ?_ λb v H2 e2 s2 r2 => hN _ _ ⟨v, rfl, s1.trans s2, rw.mono s2, ra.mono s2, by rw [<- e2];exact r2⟩;unfold d3;walk_at "rs";exact ⟨⟨by decide, by decide⟩, trivial⟩
    clear s1 rw ra H1;rintro σ H1 ⟨vo, rfl, s1, rw, ra, ro⟩;refine bH (λσ H2 => σ = sW a l k t n e w (some va) (some vo) none none none /\ av H H2 /\ Rep K H2 w (dW g (vals (aj rows)) (vals (af rows))) /\ Rep K H2 va dA) ?_ λN hN => ?_;rotate_left
    · refine dh [some (.p (oD CS g (aj rows) (af rows) n)), none, some (.p (.str k)), none, none, none, none, none, some (.p (d3 (x.1, x.2.1, 1 + x.2.2 / 2)))] (λ_ => True) (ai (S.mono s1).ob.rep (aa (ai (.str k) (aa (aa (aa (aa (aa (ai ro ax))))))))) ?_ λb v H2 _ s2 _ => hN _ _ ⟨rfl, s1.trans s2, rw.mono s2, ra.mono s2⟩;walk_at "rs";exact ⟨g, n, rows, k, _, rfl, yG ox, wk, lt12, λ_ _ _ _ => trivial⟩
    clear s1 rw ra ro H1;rintro σ H1 ⟨rfl, s1, rw, ra⟩;refine bH (λσ H2 => ∃ m m', aP g (vals (aj (rows ++ [(0, k, x)]))) (vals (af (rows ++ [(0, k, x)]))) m /\ aP g (vals (aj rows)) (vals (af rows)) m' /\ σ = sW a l k t n e w (some va) (some vo) (some (.int (m - m'))) none none /\ av H H2 /\ Rep K H2 w (dW g (vals (aj rows)) (vals (af rows))) /\ Rep K H2 va dA) ?_ λN hN => ?_;rotate_left
    · refine dh [some (.p (oD CS g (aj rows) (af rows) n)), none, some (.p (.str k)), some (.p (d3 x))] (λb => ∃ m m', aP g (vals (aj (rows ++ [(0, k, x)]))) (vals (af (rows ++ [(0, k, x)]))) m /\ aP g (vals (aj rows)) (vals (af rows)) m' /\ b = .p (.int (m - m'))) (ai (S.mono s1).ob.rep (aa (ai (.str k) (ai (xP (s1 _ _ et)) ax)))) ?_ λb v H2 ⟨m, m', hm, hm', e2⟩ s2 r2 => ?_
      · walk_at "rs";exact ⟨g, n, rows, k, x, rfl, ox, wk, lt12, λm m' hm hm' => ⟨m, m', hm, hm', rfl⟩⟩
      · subst e2;cases r2;exact hN _ _ ⟨m, m', hm, hm', rfl, s1.trans s2, rw.mono s2, ra.mono s2⟩
    clear s1 rw ra H1;rintro σ H1 ⟨m, m', hm, hm', rfl, s1, rw, ra⟩;refine bH (λσ H2 => ∃ vb u, lI g rows m' u /\ σ = sW a l k t n e w (some va) (some vo) (some (.int (m - m'))) (some vb) none /\ av H H2 /\ Rep K H2 w (dW g (vals (aj rows)) (vals (af rows))) /\ Rep K H2 va dA /\ Rep K H2 vb u) ?_ λN hN => ?_;rotate_left
    · refine dh [some (.p (oD CS g (aj rows) (af rows) n))] (λb => ∃ u, lI g rows m' u /\ b = .p u) (ai (S.mono s1).ob.rep ax) ?_ λb v H2 ⟨u, hu, e2⟩ s2 r2 => ?_
      · walk_at "rs";exact ir wk λm2 u hu => ⟨u, by rw [<- hu.least.uniq hm'];exact hu, rfl⟩
      · subst e2;exact hN _ _ ⟨v, u, hu, rfl, s1.trans s2, rw.mono s2, ra.mono s2, r2⟩
    clear s1 rw ra H1;rintro σ H1 ⟨vb, u, hu, rfl, s1, rw, ra, rb⟩;refine bH (λσ H2 => σ = sW a l k t n e w (some va) (some vo) (some (.int (m - m'))) (some vb) none /\ av H H2 /\ Rep K H2 vb u) ?_ λN hN => ?_;rotate_left
    · refine tG [some (.p (oD CS g (aj rows) (af rows) n)), none, none, none, none, some (.p (.bl e)), some (.p (dW g (vals (aj rows)) (vals (af rows)))), some (.p dA), none, some (.p (.int (m - m'))), some (.p u)] false (ai (S.mono s1).ob.rep (aa (aa (aa (aa (ai (.bl e) (ai rw (ai ra (aa (ai (.int _) (ai rb ax))))))))))) ?_ λH2 s2 => iY (hN _ _ ⟨rfl, s1.trans s2, rb.mono s2⟩);walk_at "rs";refine ⟨λhe => ?_, λ_ => ⟨λz => (nomatch z), λ_ => ⟨g, aj rows, af rows, n, rfl, xl ⟨λz => (nomatch z), λ_ => ⟨_, rfl, rfl⟩⟩⟩⟩⟩;obtain ⟨m0, h0⟩ := ha he;obtain ⟨_, rfl⟩ := h0.uniq hu;exact um hu.aX ⟨λz => (nomatch z), λ_ => ⟨g, aj rows, af rows, n, rfl, xl ⟨λz => (nomatch z), λ_ => ⟨_, rfl, rfl⟩⟩⟩⟩
    clear s1 rw ra rb H1;rintro σ H1 ⟨rfl, s1, rb⟩;replace S := S.mono s1;replace et := s1 _ _ et;have lh := S.lh;have lk := S.lk;refine bH (λσ H2 => σ = sW a l k t n e w (some va) (some vo) (some (.int (m - m'))) (some vb) (some (.int (n + 1))) /\ Ob CS H2 a dx b c g (n + 1) (kq k (aj rows) (n + 1) x) (ko k (af rows) (n + 1) x) /\ Kept [a, b, c] H1 H2 /\ Rep K H2 vb u) ?_ λN hN => ?_;rotate_left
    · exact ⟨_, rfl, _, rfl, _, rfl, a, dx, b, c, t, g, n, aj rows, af rows, k, x, rfl, et, S.ob, ox, by lia, by lia, lt12, λH2 O2 k2 => hN _ _ ⟨rfl, O2, k2, hu.keep rb λt xs e => k2 _ _ e (S.ob.tup e)⟩⟩
    rintro σ H2 ⟨rfl, O2, k2, rb2⟩;obtain ⟨ws, el, rws⟩ := S.el;have lr : ws.length <= 24 := by rw [Paired.length rws];exact S.len m12
    refine bH (λσ H3 => σ = sW a l k t n e w (some va) (some vo) (some (.int (m - m'))) (some vb) (some (.int (n + 1))) /\ j4 CS H3 a dx b c l g (n + 1) most (rows ++ [(n + 1, k, x)]) /\ Kept [l, a, b, c] H1 H3 /\ Rep K H3 vb u) ?_ λN hN => ?_;rotate_left
    · have el2 := k2 _ _ el (S.ob.lst el);refine ⟨_, rfl, .inl ⟨rfl, _, d0.of el2⟩, _, rfl, _, rfl, (show 2 <= sizeLine by decide), λp hp => ?_⟩;obtain ⟨S3, k3⟩ := S.add ox lt O2 k2 hp el rws;have el3 := dB (o := .tup [.int (n + 1), .str k]) hp _ _ el2;refine ⟨l, ws, .ref p, rfl, rfl, el3, lt1000 (by lia), hN _ _ ⟨rfl, S3, k3, hu.keep rb2 λt xs e => ?_⟩⟩;have e1 := dB (o := .tup [.int (n + 1), .str k]) hp _ _ e;rw [ah λz => by rw [z, el3] at e1;cases e1];exact e1
    rintro σ H3 ⟨rfl, S3, k3, rb3⟩;refine oG [some (.p (oD CS g (aj (rows ++ [(n + 1, k, x)])) (af (rows ++ [(n + 1, k, x)])) (n + 1))), none, none, none, some (.p (.int n)), none, none, none, none, some (.p (.int (m - m'))), some (.p u), some (.p (.int (n + 1)))] (.bl true) (ai S3.ob.rep (aa (aa (aa (ai (.int _) (aa (aa (aa (aa (ai (.int _) (ai rb3 (ai (.int _) ax)))))))))))) ?_ λv H4 s4 r4 => ?_
    · walk_at "rs";obtain ⟨a1, a2, rfl⟩ := hu.Dd;refine ⟨λ_ => ir (S3.Dm g0 g1 m12) λm2 u2 h2 => ?_, λz => (nomatch z)⟩;obtain ⟨b1, b2, rfl⟩ := h2.Dd;walk_at "rs";obtain ⟨w1, w2⟩ := vF rows (n + 1) 0 k x;have l2 := h2.least;rw [w1, w2] at l2;rw [l2.uniq hm, decide_eq_true rfl]
    · cases r4;exact q H4 (S3.mono s4) λy o e z => s4 _ _ (k3 y o (s1 _ _ e) z)
noncomputable def zU (cs : hJ)(CS : Addr):Sp := λvs H Q _ => ∃ (a dx b c l sp : Addr) (g n : Int) (most i j : Nat) (rows : List R4) (e : Bool), vs = [.ref a, .ref l, .ref sp, .int n, .bl e] /\ H sp = some (.lst [.int ((i : Nat):Int), .int ((j : Nat):Int)]) /\ i < rows.length /\ j < rows.length /\ j4 CS H a dx b c l g n most rows /\ 0 <= g /\ g <= 50 /\ most <= 12 /\ n <= 1000 /\
  ∀ H' rows', j4 CS H' a dx b c l g (n + 1) most rows' -> Kept [l, a, b, c] H H' -> rows' ≠ [] -> Q (.bl true) H'
noncomputable abbrev sO (a l sp : Addr)(n : Int)(e : Bool)(i : Int)(k : Str)(w : V)(y8 y9 y10 y11 y12 : Option V):St := [some (.ref a), some (.ref l), some (.ref sp), some (.int n), some (.bl e), some (.int i), some (.str k), some w, y8, y9, y10, y11, y12]
noncomputable abbrev rO (CS : Addr)(g n : Int)(rows : List R4)(i j : Nat)(e : Bool)(r : R4)(ρ : aH):aH := some (.p (oD CS g (aj rows) (af rows) n)) :: some (.p (.lst (rows.map iX))) :: some (.p (.lst [.int ((i : Nat):Int), .int ((j : Nat):Int)])) :: some (.p (.int n)) :: some (.p (.bl e)) :: some (.p (.int r.1)) :: some (.p (.str r.2.1)) :: some (.p (dW g (vals (aj rows)) (vals (af rows)))) :: ρ
theorem zp {H : Hp}{a dx b c l sp : Addr}{g n : Int}{most i j : Nat}{rows : List R4}{e : Bool}{r : R4}{w : V}{y8 y9 y10 y11 y12 : Option V}{ρ : aH}(S : j4 CS H a dx b c l g n most rows)(es : H sp = some (.lst [.int ((i : Nat):Int), .int ((j : Nat):Int)]))(rw : Rep K H w (dW g (vals (aj rows)) (vals (af rows))))(h : cy K H [y8, y9, y10, y11, y12] ρ):cy K H (sO a l sp n e r.1 r.2.1 w y8 y9 y10 y11 y12) (rO CS g n rows i j e r ρ) :=
  ai S.ob.rep (ai S.rep (ai (Rep.qZ es (.cons (.int _) (.cons (.int _) .nil))) (ai (.int _) (ai (.bl _) (ai (.int _) (ai (.str _) (ai rw h)))))))
theorem zC {rows : List R4}{i : Nat}{r : R4}(h : rows[i]? = some r):iW (rows.map iX) ((i : Nat):Int) = some (iX r) := gP (by rw [getElem?_map, h];rfl)
theorem iA (T : iV mg)(TX : dR K mg cs)(TC : dQ K mg CS)(FM_Streams_works : tj P w K mg base CS "works" 1 ["self"] (bY CS))(FMX_Streams_change_without : yi P w K mg base CS "change_without" 6 ["self", "number"] (bW cs CS))(FM_Streams_least : tj P w K mg base CS "least" 6 ["self"] (dZ CS)){a_Streams_take_out : Addr}{fd_Streams_take_out : FuncData}(FV_Streams_take_out : aM P w K mg base (g9 P w) 2 a_Streams_take_out fd_Streams_take_out ["self", "number"] (uK cs CS))(MV_Streams_take_out : Meth K CS "take_out" a_Streams_take_out)(BV_Streams_take_out : Binds K fd_Streams_take_out ["self", "number"] [])(F_law_change : Fn P w K mg base "_law_change" 7 ["streams", "kind", "one"] (fN K (gX CS)))(F_law_put : Fn P w K mg base "_law_put" 6 ["streams", "kind", "one"] (pK cs CS))(F_law_whole : Fn P w K mg base "_law_whole" 1 ["found"] (fN K iD))(F : fU K "_law_without_right" "_law_without_right" bp f fd):aM P w K mg base gM 8 f fd ["streams", "rows", "spots", "last", "early"] (zU cs CS) := by
  refine aM.drop (F.yf ay (λvs H Q E h => ?_) λcdv A outer s H vs Q E hr h => ?_) λ_ _ _ _ h => h
  · obtain ⟨a, dx, b, c, l, sp, g, n, most, i, j, rows, e, rfl, _⟩ := h;rfl
  · obtain ⟨a, dx, b, c, l, sp, g, n, most, i, j, rows, e, rfl, es, hi, hj, S, g0, g1, m12, nn, q⟩ := h;refine ⟨_, ar (sS ((bT (dv 1) (bT (dv 2) ak))).pe (iC rfl (bh (bu (i := 5) ay.nd rfl (Or.inl rfl)) (bh (bu (i := 6) ay.nd rfl (Or.inl rfl)) fR))))
      (ar (br (i := 7) ay.nd rfl (Or.inl rfl) ((cR FM_Streams_works TC.cl (λ_ _ _ _ => rfl) (hr.mono (by decide)) (dv 0))).pe)
      (ar (br (i := 8) ay.nd rfl (Or.inl rfl) sP)
      (ar (fh (mz (pv 4)) (aN (br (i := 8) ay.nd rfl (Or.inl rfl) ((cR FM_Streams_least TC.cl (λ_ _ _ _ => rfl) (hr.mono (by decide)) (dv 0))).pe)) cV)
      (ar (br (i := 9) ay.nd rfl (Or.inl rfl) ((jk FMX_Streams_change_without.drop TC.cl (λ_ _ _ _ => rfl) (hr.mono (by decide)) (dv 0) (ae (dv 5) ao))).pe)
      (ar (dY ((jk FMX_Streams_change_without.drop TC.cl (λ_ _ _ _ => rfl) (hr.mono (by decide)) (dv 0) (ae (bT (bT (dv 1) (bT (dv 2) ak)) ak) ao))).pe)
      (ar (fh ((DW.dt (nZ (bU rg (jk FMX_Streams_change_without.drop TC.cl (λ_ _ _ _ => rfl) (hr.mono (by decide)) (dv 0) (ae (dv 5) ao)) (dv 9) (aR _)) (nZ (bU (ph hr) (cR FM_Streams_works TC.cl (λ_ _ _ _ => rfl) (hr.mono (by decide)) (dv 0)) (dv 7) (aR _)) (oT (wJ (oR (aW F_law_whole (hr.mono (by decide)) (by rfl) (ae (dv 9) ao))))))))).pt (aN (cH mw)) cV)
      (ar (fh ((DW.dt (oS (oR (dv 4)) (lx (bU (ph hr) (cR FM_Streams_least TC.cl (λ_ _ _ _ => rfl) (hr.mono (by decide)) (dv 0)) (dv 8) (aR _)))))).pt (aN (cH mw)) cV)
      (ar (br (i := 8) ay.nd rfl (Or.inl rfl) ((cR FM_Streams_least TC.cl (λ_ _ _ _ => rfl) (hr.mono (by decide)) (dv 0))).pe)
      (ar (br (i := 10) ay.nd rfl (Or.inl rfl) (eA (pv 0) TC.cl MV_Streams_take_out FV_Streams_take_out (hr.mono (by decide)) BV_Streams_take_out .nil (bJ.passes λ_ _ _ h => h) (au (pv 5) aY)))
      (ar (br (i := 11) ay.nd rfl (Or.inl rfl) ((aW F_law_change (hr.mono (by decide)) (by rfl) (ae (dv 0) (ae (dv 6) (ae (dv 10) ao))))).pe)
      (ar (fh ((DW.dt (nZ (bU rg (aD gT (bT (cR FM_Streams_least TC.cl (λ_ _ _ _ => rfl) (hr.mono (by decide)) (dv 0)) ak) (bT (dv 8) ak)) (dv 9) (aR _)) (oT (bU rg (dv 11) (aD gT ak (dv 9)) (aR _)))))).pt (aN (cH mw)) cV)
      (ar (dY (oo PySem.F.plainAttrs_list PySem.F.slot_list_pop PySem.F.type_list_pop xj (pv 1) (au ((bT (dv 2) ak)).pe aY)))
      (ar (br (i := 12) ay.nd rfl (Or.inl rfl) (ot F_law_put (hr.mono (by decide)) (by rfl) (au (pv 0) (au (pv 6) (au (pv 10) aY)))))
      (ar (dY (oo PySem.F.plainAttrs_list PySem.F.slot_list_append PySem.F.type_list_append gC (pv 1) (au (jt (au (pv 12) (au (pv 6) aY))) aY)))
      (aN (cH ((sd (ij fH (dv 12) (aD bE (dv 3) ak) (aR _)) (se (ij (AO hr) (cR FM_Streams_least TC.cl (λ_ _ _ _ => rfl) (hr.mono (by decide)) (dv 0)) (dv 8) (aR _))))).pe)))))))))))))))), ?_⟩
    have wk := S.Dm g0 g1 m12;obtain ⟨r, er⟩ : ∃ r, rows[i]? = some r := ⟨_, getElem?_eq_getElem hi⟩
    obtain ⟨r', er'⟩ : ∃ r', rows[j]? = some r' := ⟨_, getElem?_eq_getElem hj⟩
    have mr := mem_of_getElem? er;have mr' := mem_of_getElem? er';have hat := zC er;have hat' := zC er';have ub := S.up r mr;have ub' := S.up r' mr';have ox := S.o r mr;have hk : r.2.1 = aO \/ r.2.1 = bC := ox.elim (λz => .inl z.1) λz => .inr z.1;refine bH (λσ H1 => σ = [some (.ref a), some (.ref l), some (.ref sp), some (.int n), some (.bl e), some (.int r.1), some (.str r.2.1), none, none, none, none, none, none] /\ av H H1) ?_ λN hN => ?_;rotate_left
    · refine dh [none, some (.p (.lst (rows.map iX))), some (.p (.lst [.int ((i : Nat):Int), .int ((j : Nat):Int)]))] (λb => b = .p (iX r)) (aa (ai S.rep (ai (Rep.qZ es (.cons (.int _) (.cons (.int _) .nil))) ax))) ?_ λb0 v H1 e1 s1 r1 => ?_
      · repeat (first | walk_at "rs1" | walk_at "rsx" | set_option simprocs false in simp only [hat])
      · subst e1;obtain ⟨p, vs, rfl, ep, rr⟩ := Rep.mH r1;cases rr with | cons r1 rr => cases rr with | cons r2 rr =>
          cases rr;cases r1;cases r2;exact ⟨p, _, rfl, .inl (lJ.of ep), rfl, _, _, rfl, _, _, rfl, rfl, hN _ _ ⟨rfl, s1⟩⟩
    rintro σ H1 ⟨rfl, s1⟩;refine bH (λσ H1 => ∃ w, σ = sO a l sp n e r.1 r.2.1 w none none none none none /\ Rep K H1 w (dW g (vals (aj rows)) (vals (af rows))) /\ av H H1) ?_ λN hN => ?_;rotate_left
    · refine dh [some (.p (oD CS g (aj rows) (af rows) n))] (λb => b.val = dW g (vals (aj rows)) (vals (af rows))) (ai (S.mono s1).ob.rep ax) ?_ λb v H2 e2 s2 r2 => hN _ _ ⟨v, rfl, by rw [<- e2];exact r2, s1.trans s2⟩;walk_at "rs";exact ⟨g, aj rows, af rows, n, rfl, rfl⟩
    clear s1 H1;rintro σ H1 ⟨w, rfl, rw, s1⟩;refine bH (λσ H2 => σ = sO a l sp n e r.1 r.2.1 w (some .non) none none none none /\ av H H2 /\ Rep K H2 w (dW g (vals (aj rows)) (vals (af rows)))) ?_ λN hN => hN _ _ ⟨rfl, s1, rw⟩;clear s1 rw H1;rintro σ H1 ⟨rfl, s1, rw⟩;refine bH (λσ H2 => ∃ va dA, σ = sO a l sp n e r.1 r.2.1 w (some va) none none none none /\ av H H2 /\ Rep K H2 w (dW g (vals (aj rows)) (vals (af rows))) /\ Rep K H2 va dA /\ (e = true -> ∃ m, lI g rows m dA)) ?_ λN hN => ?_;rotate_left
    · refine ⟨_, rfl, e, rfl, ?_⟩;cases e with
      | false => exact iY (hN _ _ ⟨_, .non, rfl, s1, rw, .non, λz => nomatch z⟩)
      | true =>
        refine mW ?_;refine dh [some (.p (oD CS g (aj rows) (af rows) n))] (λb => ∃ m u, lI g rows m u /\ b = .p u) (ai (S.mono s1).ob.rep ax) ?_ λb v H2 ⟨m, u, hu, e2⟩ s2 r2 => ?_
        · walk_at "rs";exact ir wk λm u hu => ⟨m, u, hu, rfl⟩
        · subst e2;exact hN _ _ ⟨v, u, rfl, s1.trans s2, rw.mono s2, r2, λ_ => ⟨m, hu⟩⟩
    clear s1 rw H1;rintro σ H1 ⟨va, dA, rfl, s1, rw, ra, ha⟩;have wo : ∀ {y : R4} {P : B -> Prop} {Z : Value -> Prop}, y ∈ rows -> (∀ m m', aP g (vals (aj (aS rows y.1))) (vals (af (aS rows y.1))) m -> aP g (vals (aj rows)) (vals (af rows)) m' -> P (.p (.int (m - m')))) -> bW cs CS [oD CS g (aj rows) (af rows) n, .int y.1] P Z := λ{y P Z} hy k => by
      have u := S.up y hy;refine ⟨g, aj rows, af rows, n, y.1, rfl, BF (by lia) (by lia), wk, ?_⟩;rw [if_pos (oZ hy), <- fy, <- eM];exact k
    refine bH (λσ H2 => ∃ m m', aP g (vals (aj (aS rows r.1))) (vals (af (aS rows r.1))) m /\ aP g (vals (aj rows)) (vals (af rows)) m' /\ σ = sO a l sp n e r.1 r.2.1 w (some va) (some (.int (m - m'))) none none none /\ av H H2 /\ Rep K H2 w (dW g (vals (aj rows)) (vals (af rows))) /\ Rep K H2 va dA) ?_ λN hN => ?_;rotate_left
    · refine dh _ (λb => ∃ m m', aP g (vals (aj (aS rows r.1))) (vals (af (aS rows r.1))) m /\ aP g (vals (aj rows)) (vals (af rows)) m' /\ b = .p (.int (m - m'))) (zp (S.mono s1) (s1 _ _ es) rw ax) ?_ λb v H2 ⟨m, m', hm, hm', e2⟩ s2 r2 => ?_
      · walk_at "rs";exact wo mr λm m' hm hm' => ⟨m, m', hm, hm', rfl⟩
      · subst e2;cases r2;exact hN _ _ ⟨m, m', hm, hm', rfl, s1.trans s2, rw.mono s2, ra.mono s2⟩
    clear s1 rw ra H1;rintro σ H1 ⟨m, m', hm, hm', rfl, s1, rw, ra⟩;refine bH (λσ H2 => σ = sO a l sp n e r.1 r.2.1 w (some va) (some (.int (m - m'))) none none none /\ av H H2 /\ Rep K H2 w (dW g (vals (aj rows)) (vals (af rows))) /\ Rep K H2 va dA) ?_ λN hN => ?_;rotate_left
    · refine dh _ (λ_ => True) (zp (S.mono s1) (s1 _ _ es) rw ax) ?_ λb v H2 _ s2 r2 => hN _ _ ⟨rfl, s1.trans s2, rw.mono s2, ra.mono s2⟩;repeat (first | walk_at "rs1" | walk_at "rsx" | set_option simprocs false in simp only [hat'])
      unfold iX;walk_at "rs";exact wo mr' λ_ _ _ _ => trivial
    clear s1 rw ra H1;rintro σ H1 ⟨rfl, s1, rw, ra⟩;refine bH (λσ H2 => σ = sO a l sp n e r.1 r.2.1 w (some va) (some (.int (m - m'))) none none none /\ av H H2 /\ Rep K H2 w (dW g (vals (aj rows)) (vals (af rows))) /\ Rep K H2 va dA) ?_ λN hN => ?_;rotate_left
    · refine tG _ false (zp (S.mono s1) (s1 _ _ es) rw (aa (ai (.int _) ax))) ?_ λH2 s2 => iY (hN _ _ ⟨rfl, s1.trans s2, rw.mono s2, ra.mono s2⟩);walk_at "rs";refine wo mr λm2 m2' h2 h2' => ?_;obtain rfl := h2.uniq hm;obtain rfl := h2'.uniq hm';walk_at "rs";exact ⟨λz => (nomatch z), λ_ => ⟨g, aj rows, af rows, n, rfl, xl ⟨λz => (nomatch z), λ_ => ⟨_, rfl, rfl⟩⟩⟩⟩
    clear s1 rw ra H1;rintro σ H1 ⟨rfl, s1, rw, ra⟩;refine bH (λσ H2 => σ = sO a l sp n e r.1 r.2.1 w (some va) (some (.int (m - m'))) none none none /\ av H H2 /\ Rep K H2 w (dW g (vals (aj rows)) (vals (af rows)))) ?_ λN hN => ?_;rotate_left
    · refine tG _ false (zp (S.mono s1) (s1 _ _ es) rw (ai ra ax)) ?_ λH2 s2 => iY (hN _ _ ⟨rfl, s1.trans s2, rw.mono s2⟩);walk_at "rs";refine ⟨λhe => ir wk λm2 u2 h2 => ?_, λ_ => trivial⟩;obtain ⟨m0, h0⟩ := ha he;obtain ⟨_, rfl⟩ := h0.uniq h2;exact um h2.aX rfl
    clear s1 rw ra H1;rintro σ H1 ⟨rfl, s1, rw⟩;refine bH (λσ H2 => ∃ vb u, lI g rows m' u /\ σ = sO a l sp n e r.1 r.2.1 w (some vb) (some (.int (m - m'))) none none none /\ av H H2 /\ Rep K H2 vb u) ?_ λN hN => ?_;rotate_left
    · refine dh [some (.p (oD CS g (aj rows) (af rows) n))] (λb => ∃ u, lI g rows m' u /\ b = .p u) (ai (S.mono s1).ob.rep ax) ?_ λb v H2 ⟨u, hu, e2⟩ s2 r2 => ?_
      · walk_at "rs";exact ir wk λm2 u hu => ⟨u, by rw [<- hu.least.uniq hm'];exact hu, rfl⟩
      · subst e2;exact hN _ _ ⟨v, u, hu, rfl, s1.trans s2, r2⟩
    clear s1 rw ha H1;rintro σ H1 ⟨vb, u, hu, rfl, s1, rb⟩;replace S := S.mono s1;replace es := s1 _ _ es;have lh := S.lh;have lk := S.lk;have lt : (allOf r.2.1 (aj (aS rows r.1)) (af (aS rows r.1))).length < most := by
      have lc := mi (k := r.2.1) S.nd (List.mem_filter.mpr ⟨mr, decide_eq_true rfl⟩);rw [<- fQ (show fV (aS rows r.1) from λx hx => S.o x (List.mem_filter.mp hx).1) hk];rw [fQ S.o hk] at lc;have : (allOf r.2.1 (aj rows) (af rows)).length <= most := by unfold allOf;split;exact lh;exact lk
      lia
    have wk2 : dO g (vals (aj (aS rows r.1))) (vals (af (aS rows r.1))) := by rw [fy, eM];exact uv wk
    refine bH (λσ H2 => ∃ t, σ = sO a l sp n e r.1 r.2.1 w (some vb) (some (.int (m - m'))) (some (.ref t)) none none /\ H2 t = some (.tup [.int r.2.2.1, .int r.2.2.2.1, .int r.2.2.2.2]) /\ Ob CS H2 a dx b c g n (aj (aS rows r.1)) (af (aS rows r.1)) /\ Kept [a, b, c] H1 H2 /\ Rep K H2 vb u) ?_ λN hN => ?_;rotate_left
    · refine ⟨_, rfl, a, dx, _, rfl, S.ob.ia, rfl, _, rfl, ?_⟩;dsimp only [vG];refine uw S.ob (BF (by lia) (by lia)) (oZ mr) λt x H2 hx et O2 k2 => ?_;obtain rfl := Bj S.nd mr hx;exact hN _ _ ⟨t, rfl, et, by rw [fy, eM];exact O2, k2, hu.keep rb λt xs e => k2 _ _ e (S.ob.tup e)⟩
    clear rb;rintro σ H2 ⟨t, rfl, et, O2, k2, rb⟩;refine bH (λσ H3 => σ = sO a l sp n e r.1 r.2.1 w (some vb) (some (.int (m - m'))) (some (.ref t)) (some (.int (m' - m))) none /\ H3 t = some (.tup [.int r.2.2.1, .int r.2.2.2.1, .int r.2.2.2.2]) /\ Ob CS H3 a dx b c g n (aj (aS rows r.1)) (af (aS rows r.1)) /\ Kept [a, b, c] H1 H3 /\ Rep K H3 vb u) ?_ λN hN => ?_;rotate_left
    · refine fW [some (.p (oD CS g (aj (aS rows r.1)) (af (aS rows r.1)) n)), none, none, none, none, none, some (.p (.str r.2.1)), none, none, none, some (.p (d3 r.2.2))] (m' - m) (ai O2.rep (aa (aa (aa (aa (aa (ai (.str _) (aa (aa (aa (ai (xP et) ax))))))))))) ?_ λH3 s3 => hN _ _ ⟨rfl, s3 _ _ et, O2.mono s3, λy o e z => s3 _ _ (k2 y o e z), rb.mono s3⟩;walk_at "rs";refine ⟨g, n, aS rows r.1, r.2.1, r.2.2, rfl, ox, wk2, Nat.lt_of_lt_of_le lt m12, λm2 m2' h2 h2' => ?_⟩;obtain rfl := h2'.uniq hm;obtain rfl := h2.uniq (hu.same (lK (i := 0) S.o S.nd mr)).least;rfl
    clear et O2 k2 rb H2;rintro σ H2 ⟨rfl, et, O2, k2, rb⟩;refine bH (λσ H3 => σ = sO a l sp n e r.1 r.2.1 w (some vb) (some (.int (m - m'))) (some (.ref t)) (some (.int (m' - m))) none /\ H3 t = some (.tup [.int r.2.2.1, .int r.2.2.2.1, .int r.2.2.2.2]) /\ Ob CS H3 a dx b c g n (aj (aS rows r.1)) (af (aS rows r.1)) /\ Kept [a, b, c] H1 H3 /\ Rep K H3 vb u) ?_ λN hN => ?_;rotate_left
    · refine tG [some (.p (oD CS g (aj (aS rows r.1)) (af (aS rows r.1)) n)), none, none, none, none, none, none, none, some (.p u), some (.p (.int (m - m'))), none, some (.p (.int (m' - m)))] false (ai O2.rep (aa (aa (aa (aa (aa (aa (aa (ai rb (ai (.int _) (aa (ai (.int _) ax)))))))))))) ?_ λH3 s3 => iY (hN _ _ ⟨rfl, s3 _ _ et, O2.mono s3, λy o e z => s3 _ _ (k2 y o e z), rb.mono s3⟩);walk_at "rs";refine ir wk2 λm2 u2 h2 => ?_;obtain rfl := h2.least.uniq hm;obtain ⟨a1, a2, rfl⟩ := hu.Dd;obtain ⟨b1, b2, rfl⟩ := h2.Dd;walk_at "rs";exact ⟨λz => (nomatch z), λ_ => by rw [decide_eq_true (by lia)];rfl⟩
    clear et O2 k2 rb H2;rintro σ H2 ⟨rfl, et, O2, k2, rb⟩;obtain ⟨ws, el, rws⟩ := S.el;have lr : ws.length <= 24 := by rw [Paired.length rws];exact S.len m12
    refine bH (λσ H3 => σ = sO a l sp n e r.1 r.2.1 w (some vb) (some (.int (m - m'))) (some (.ref t)) (some (.int (m' - m))) none /\ H3 t = some (.tup [.int r.2.2.1, .int r.2.2.2.1, .int r.2.2.2.2]) /\ j4 CS H3 a dx b c l g n most (aS rows r.1) /\ Kept [l, a, b, c] H1 H3 /\ Rep K H3 vb u) ?_ λN hN => ?_;rotate_left
    · have el2 := k2 _ _ el (S.ob.lst el);have es2 := k2 _ _ es (S.ob.lst es);refine ⟨_, rfl, .inl ⟨rfl, _, d0.of el2⟩, ?_⟩;refine fW [none, none, some (.p (.lst [.int ((i : Nat):Int), .int ((j : Nat):Int)]))] ((i : Nat):Int) (aa (aa (ai (Rep.qZ es2 (.cons (.int _) (.cons (.int _) .nil))) ax))) ?_ λH3 s3 => ?_
      · walk_at "rs"
      have lv : ws.length = rows.length := Paired.length rws;have ev := getElem?_eq_getElem (l := ws) (i := i) (by lia);obtain ⟨c1, c2, c3⟩ := CK ev (by lia);have O3 := O2.mono s3;have k3 : Kept [a, b, c] H1 H3 := λy o e z => s3 _ _ (k2 y o e z);have el3 := s3 _ _ el2;obtain ⟨S4, k4⟩ := S.less er el rws (by rw [<- fy, <- eM];exact O3) k3;have kt : ∀ y xs, H3 y = some (.tup xs) -> (upd H3 l (.lst (ws.eraseIdx i))) y = some (.tup xs) := λy xs e => by
        rw [ah λz => by rw [z, el3] at e;cases e];exact e
      exact ⟨l, ws, _, i, _, rfl, rfl, el3, c1, c2, c3, ev, hN _ _ ⟨rfl, kt _ _ (s3 _ _ et), S4, k4, hu.keep (rb.mono s3) kt⟩⟩
    clear et O2 k2 rb H2 el rws lr ws;rintro σ H2 ⟨rfl, et, S2, k2, rb⟩;have lh2 := S2.lh;have lk2 := S2.lk;refine bH (λσ H3 => σ = sO a l sp n e r.1 r.2.1 w (some vb) (some (.int (m - m'))) (some (.ref t)) (some (.int (m' - m))) (some (.int (n + 1))) /\ Ob CS H3 a dx b c g (n + 1) (kq r.2.1 (aj (aS rows r.1)) (n + 1) r.2.2) (ko r.2.1 (af (aS rows r.1)) (n + 1) r.2.2) /\ Kept [a, b, c] H2 H3 /\ Rep K H3 vb u) ?_ λN hN => ?_;rotate_left
    · exact ⟨_, rfl, _, rfl, _, rfl, a, dx, b, c, t, g, n, aj (aS rows r.1), af (aS rows r.1), r.2.1, r.2.2, rfl, et, S2.ob, ox, by lia, by lia, Nat.lt_of_lt_of_le lt m12, λH3 O3 k3 => hN _ _ ⟨rfl, O3, k3, hu.keep rb λt xs e => k3 _ _ e (S2.ob.tup e)⟩⟩
    rintro σ H3 ⟨rfl, O3, k3, rb3⟩;obtain ⟨ws, el, rws⟩ := S2.el;have lr : ws.length <= 24 := by rw [Paired.length rws];exact S2.len m12
    refine bH (λσ H4 => σ = sO a l sp n e r.1 r.2.1 w (some vb) (some (.int (m - m'))) (some (.ref t)) (some (.int (m' - m))) (some (.int (n + 1))) /\ j4 CS H4 a dx b c l g (n + 1) most (aS rows r.1 ++ [(n + 1, r.2)]) /\ Kept [l, a, b, c] H2 H4 /\ Rep K H4 vb u) ?_ λN hN => ?_;rotate_left
    · have el2 := k3 _ _ el (S2.ob.lst el);refine ⟨_, rfl, .inl ⟨rfl, _, d0.of el2⟩, _, rfl, _, rfl, (show 2 <= sizeLine by decide), λp hp => ?_⟩;obtain ⟨S4, k4⟩ := S2.add ox lt O3 k3 hp el rws;have el3 := dB (o := .tup [.int (n + 1), .str r.2.1]) hp _ _ el2;refine ⟨l, ws, .ref p, rfl, rfl, el3, lt1000 (by lia), hN _ _ ⟨rfl, S4, k4, hu.keep rb3 λt xs e => ?_⟩⟩;have e1 := dB (o := .tup [.int (n + 1), .str r.2.1]) hp _ _ e;rw [ah λz => by rw [z, el3] at e1;cases e1];exact e1
    rintro σ H4 ⟨rfl, S4, k4, rb4⟩;refine oG [some (.p (oD CS g (aj (aS rows r.1 ++ [(n + 1, r.2)])) (af (aS rows r.1 ++ [(n + 1, r.2)])) (n + 1))), none, none, some (.p (.int n)), none, none, none, none, some (.p u), none, none, none, some (.p (.int (n + 1)))] (.bl true) (ai S4.ob.rep (aa (aa (ai (.int _) (aa (aa (aa (aa (ai rb4 (aa (aa (aa (ai (.int _) ax))))))))))))) ?_ λv H5 s5 r5 => ?_
    · walk_at "rs";refine ⟨λ_ => ir (S4.Dm g0 g1 m12) λm2 u2 h2 => ?_, λz => (nomatch z)⟩;obtain ⟨_, rfl⟩ := h2.uniq (hu.same (lK (i := n + 1) S.o S.nd mr));exact yC hu.aX rfl
    · cases r5;exact q H5 _ (S4.mono s5) (λy o e z => s5 _ _ (k4 y o (k2 y o (s1 _ _ e) z) z)) (by simp)
noncomputable def xM : DR := λds P => ∃ ns : List Int, ds = [.scr ns] /\ ns.length <= 63 /\ P (.p (.bl true))
structure pP (CS : Addr)(H0 Gs H : Hp)(a dx b c l : Addr)(g n : Int)(most : Nat)(rows : List R4):Prop where
  s : j4 CS H a dx b c l g n most rows
  sm : av H0 H
  sg : av Gs H
  n0 : ∀ y ∈ [l, a, b, c], H0 y = none
  ng : ∀ y ∈ [l, a, b, c], Gs y = none
section
variable {H0 Gs H H2 : Hp} {a dx b c l : Addr} {g n n' : Int} {most : Nat} {rows rows' : List R4}
theorem pP.mono (M : pP CS H0 Gs H a dx b c l g n most rows)(s : av H H2):pP CS H0 Gs H2 a dx b c l g n most rows := ⟨M.s.mono s, M.sm.trans s, M.sg.trans s, M.n0, M.ng⟩
theorem pP.step (M : pP CS H0 Gs H a dx b c l g n most rows)(S2 : j4 CS H2 a dx b c l g n' most rows')(k : Kept [l, a, b, c] H H2):pP CS H0 Gs H2 a dx b c l g n' most rows' :=
  ⟨S2, λy o e => k y o (M.sm y o e) λm => (by rw [M.n0 y m] at e;cases e), λy o e => k y o (M.sg y o e) λm => (by rw [M.ng y m] at e;cases e), M.n0, M.ng⟩
theorem j4.own {y : Addr}(S : j4 CS H a dx b c l g n most rows)(m : y ∈ [l, a, b, c]):H y ≠ none := λe => by
  rcases List.mem_cons.mp m with rfl | m
  · obtain ⟨vs, h, _⟩ := S.el;rw [h] at e;cases e
  rcases List.mem_cons.mp m with rfl | m
  · rw [S.ob.ia] at e;cases e
  rcases List.mem_cons.mp m with rfl | m
  · obtain ⟨es, h, _⟩ := S.ob.hb;rw [h] at e;cases e
  rcases List.mem_cons.mp m with rfl | m
  · obtain ⟨es, h, _⟩ := S.ob.hc;rw [h] at e;cases e
  · cases m
theorem pP.upd {y : Addr}{o : HO}(M : pP CS H0 Gs H a dx b c l g n most rows)(h0 : H0 y = none)(hg : Gs y = none)(m : y ∉ [l, a, b, c])(nt : ∀ xs, H y ≠ some (.tup xs)):pP CS H0 Gs (L2.upd H y o) a dx b c l g n most rows := by
  obtain ⟨vs, el, ra⟩ := M.s.el;have kt : ∀ t xs, H t = some (.tup xs) -> L2.upd H y o t = some (.tup xs) := λt xs e => by
    rw [ah λz => nt xs (by rw [<- z];exact e)];exact e
  refine ⟨⟨M.s.ob.upd (λz => m (mem_cons_of_mem _ z)) nt, ⟨vs, ?_, eJ.on ra kt⟩, M.s.o, M.s.lh, M.s.lk, M.s.nd, M.s.up⟩, M.sm.upd h0, M.sg.upd hg, M.n0, M.ng⟩;rw [ah λz => m (by rw [<- z];exact mem_cons_self)];exact el
end
theorem sH (r : R4):aX (iX r) = true /\ dep (iX r) <= 60 := by
  unfold iX;simp only [lE, gE, ix, lD, yU, lu, gw, il, lq, yA];decide
theorem A5 {r z : R4}(h : z.1 ≠ r.1):bP (iX z) (iX r) = false := by
  unfold iX;unfold bP;unfold ju;have : bP (.int z.1) (.int r.1) = false := by unfold bP;simpa using h
  rw [this];rfl
theorem Bg {G : Hp}{v : V}{r : R4}(h : Rep K G v (iX r)):yk G v r := by
  obtain ⟨p, vs, rfl, e, rr⟩ := Rep.mH h;cases rr with | cons a rr => cases rr with | cons b rr =>
    cases rr;cases a;cases b;exact ⟨p, rfl, e⟩
theorem rG {G : Hp}:∀ {vs : List V} {rs : List R4}, bx K G vs (rs.map iX) -> eJ G vs rs
  | _, [], h => by cases h;exact .nil
  | _, r :: rs, h => by cases h with | cons a t => exact .cons (Bg a) (rG t)
noncomputable abbrev sE (sc : Addr)(f : Int)(a : Addr)(ba : Int)(mo : Nat)(l : Addr)(n : Int)(y7 y8 y9 y10 y11 : Option V):St := [some (.ref sc), some (.int f), some (.ref a), some (.int ba), some (.int mo), some (.ref l), some (.int n), y7, y8, y9, y10, y11]
theorem AQ (T : iV mg)(TX : dR K mg cs)(TC : dQ K mg CS)(F_law_cell_at : Fn P w K mg base "_law_cell_at" 1 ["script", "k"] (fN K jd)){a_Streams___init__ : Addr}{fd_Streams___init__ : FuncData}(FV_Streams___init__ : aM P w K mg base gM 1 a_Streams___init__ fd_Streams___init__ ["self", "gap"] (xU CS))(MV_Streams___init__ : Meth K CS "__init__" a_Streams___init__)(BV_Streams___init__ : Binds K fd_Streams___init__ ["self", "gap"] [])(MK : Mk K CS a_Streams___init__)(F_law_stir : Fn P w K mg base "_law_stir" 1 ["cell", "k"] (fN K aL))(F_law_stream : Fn P w K mg base "_law_stream" 2 ["cell", "base"] (fN K jZ)){a_Streams_take_out : Addr}{fd_Streams_take_out : FuncData}(FV_Streams_take_out : aM P w K mg base (g9 P w) 2 a_Streams_take_out fd_Streams_take_out ["self", "number"] (uK cs CS))(MV_Streams_take_out : Meth K CS "take_out" a_Streams_take_out)(BV_Streams_take_out : Binds K fd_Streams_take_out ["self", "number"] [])(F_law_with_right : Fn P w K mg base "_law_with_right" 8 ["streams", "rows", "kind", "one", "last", "early"] (uJ cs CS))(F_law_without_right : Fn P w K mg base "_law_without_right" 8 ["streams", "rows", "spots", "last", "early"] (zU cs CS))(F_law_put : Fn P w K mg base "_law_put" 6 ["streams", "kind", "one"] (pK cs CS))(F : fU K "law" "law" je f fd):aM P w K mg base gM 9 f fd ["script"] (fN K xM) := by
  refine aM.drop (F.yf eD (λvs H Q E h => ?_) λcdv A outer s H vs Q E hr h => ?_) λ_ _ _ _ h => h
  · obtain ⟨ds, G, P0, sg, r, ⟨ns, rfl, _⟩, _⟩ := h;have := Paired.length r;exact this
  · obtain ⟨ds, G, P0, sg, r, ⟨ns, rfl, hn, q⟩, kk⟩ := h;obtain ⟨v, rfl, rv⟩ := gI r;have hun := hr.units;refine ⟨_, (ar (br (i := 1) eD.nd rfl (Or.inl rfl) ((aW F_law_cell_at (hr.mono (by decide)) (by rfl) (ae (dv 0) (ae ak ao)))).pe)
      (ar (br (i := 2) eD.nd rfl (Or.inl rfl) (zc MK FV_Streams___init__ (hr.mono (by decide)) (by rfl) TC.at_ BV_Streams___init__ .nil rm (au ((bT (j8 (ae ak (ae ak (ae (aD bI (aW F_law_stir (hr.mono (by decide)) (by rfl) (ae (dv 1) (ae ak ao))) ak) (ae (aD bI (aW F_law_stir (hr.mono (by decide)) (by rfl) (ae (dv 1) (ae ak ao))) ak) ao))))) (aD bI (aW F_law_stir (hr.mono (by decide)) (by rfl) (ae (dv 1) (ae ak ao))) ak))).pe aY)))
      (ar (br (i := 3) eD.nd rfl (Or.inl rfl) ((aD bI (aW F_law_stir (hr.mono (by decide)) (by rfl) (ae (dv 1) (ae ak ao))) ak)).pe)
      (ar (br (i := 4) eD.nd rfl (Or.inl rfl) ((bT (j8 (ae ak (ae ak ao))) (nS wc (by rfl) T.vV boot_int (ae (ij fH (aD bI (aW F_law_stir (hr.mono (by decide)) (by rfl) (ae (dv 1) (ae ak ao))) ak) ak (aR _)) ao)))).pe)
      (ar (br (i := 5) eD.nd rfl (Or.inl rfl) (xx aY))
      (ar (br (i := 6) eD.nd rfl (Or.inl rfl) eh)
      (ar (Ba PassesOwn.leaving rfl ((jG (wz (dv 0) (tX ak) (tX ak)))).pi (bu (i := 7) eD.nd rfl (Or.inl rfl))
      (ar (sS ((aW F_law_stream (hr.mono (by decide)) (by rfl) (ae (dv 7) (ae (dv 3) ao)))).pe (iC rfl (bh (bu (i := 8) eD.nd rfl (Or.inr rfl)) (bh (bu (i := 9) eD.nd rfl (Or.inl rfl)) fR))))
      (ar (xJ (i := 10) eD.nd rfl (Or.inl rfl) (g := (.n 0)) (tc := (eG (hG _ (hG lQ (bw 0) (dC _)) (bw 1)))) (te := (bw 0)) (sc0 := ag je) (N0 := ["script", "first", "streams", "base", "most", "rows", "last", "cell", "kind", "one", "same", "spots"]) ["row", "kind"] [none, some 8] rfl (jG (dv 5)) (λ_ _ _ _ _ => (bu (i := 0) (show (["row", "kind"]:List Str).Nodup by decide +kernel) rfl (Or.inl rfl))) (λ_ _ _ _ _ => (jI (bU fH (bT (dv 0) ak) (dv 1) (aR _)))) (λ_ _ _ _ _ => (dv 0)))
      (ar (fh (iS om ((cC lM (by rfl) T.nF PySem.boot_len (ae (dv 10) ao))).pe (pv 4) (aR _)) (ar (dY (eA (pv 2) TC.cl MV_Streams_take_out FV_Streams_take_out (hr.mono (by decide)) BV_Streams_take_out .nil (bJ.passes λ_ _ _ h => h) (au ((bT (bT (dv 10) ak) ak)).pe aY)))
      (aN (dY (oo PySem.F.plainAttrs_list PySem.F.slot_list_remove PySem.F.type_list_remove vv (pv 5) (au ((bT (dv 10) ak)).pe aY))))) cV)
      (ar (fh (iS om ((aD bI (aW F_law_stir (hr.mono (by decide)) (by rfl) (ae (dv 7) (ae ak ao))) (bT (j8 (ae ak (ae ak ao))) (nS wc (by rfl) T.vV boot_int (ae (ij fH (dv 4) ak (aR _)) ao))))).pe eh (aR _))
        (ar (fh (sT (mz (ot F_law_with_right (hr.mono (by decide)) (by rfl) (au (pv 2) (au (pv 5) (au (pv 8) (au (pv 9) (au (pv 6) (au ((ij fH (aD bI (aW F_law_stir (hr.mono (by decide)) (by rfl) (ae (dv 7) (ae ak ao))) ak) ak (aR _))).pe aY))))))))) (aN (cH mw)) cV)
        (ar (br (i := 6) eD.nd rfl (Or.inl rfl) ((aD bE (dv 6) ak)).pe)
        (ar (br (i := 11) eD.nd rfl (Or.inl rfl) ((j8 (ae (aD gT (cC lM (by rfl) T.nF PySem.boot_len (ae (dv 5) ao)) ak) (ae (aD bI (aW F_law_stir (hr.mono (by decide)) (by rfl) (ae (dv 7) (ae ak ao))) (cC lM (by rfl) T.nF PySem.boot_len (ae (dv 5) ao))) ao)))).pe)
        (ar (fh (iS om ((aD bI (aW F_law_stir (hr.mono (by decide)) (by rfl) (ae (dv 7) (ae ak ao))) ak)).pe eh (aR _)) (aN (sS ((aD bI (aW F_law_stir (hr.mono (by decide)) (by rfl) (ae (dv 7) (ae ak ao))) (cC lM (by rfl) T.nF PySem.boot_len (ae (dv 5) ao)))).pe (A6 (pv 11) eh set_list))) cV)
        (aN (fh (sT (mz (ot F_law_without_right (hr.mono (by decide)) (by rfl) (au (pv 2) (au (pv 5) (au (pv 11) (au (pv 6) (au ((ij fH (aD bI (aW F_law_stir (hr.mono (by decide)) (by rfl) (ae (dv 7) (ae ak ao))) ak) ak (aR _))).pe aY)))))))) (aN (cH mw)) cV))))))
        (aN (dY (oo PySem.F.plainAttrs_list PySem.F.slot_list_append PySem.F.type_list_append gC (pv 5) (au (jt (au (ot F_law_put (hr.mono (by decide)) (by rfl) (au (pv 2) (au (pv 8) (au (pv 9) aY)))) (au (pv 8) aY))) aY)))))
      (aN (br (i := 6) eD.nd rfl (Or.inl rfl) ((aD bE (dv 6) ak)).pe)))))))
      (aN (cH mw))))))))), ?_⟩
    obtain ⟨sc, rfl, hsc⟩ : ∃ sc, v = .ref sc /\ d0 K G sc (ns.map V.int) := by cases rv with | scr e => exact ⟨_, rfl, e⟩
    have done : ∀ H2, av H H2 -> Q (.bl true) H2 := λH2 s2 => kk (.p (.bl true)) _ H2 G q ⟨s2, av.refl _, sg.trans s2, λ_ _ => rfl⟩ (.bl true);refine bH (λσ H1 => ∃ f : Int, σ = [some (.ref sc), some (.int f), none, none, none, none, none, none, none, none, none, none] /\ av H H1) ?_ λN hN => ?_;rotate_left
    · refine fW [some (.p (.scr ns))] (wd ns 0) (ai (.scr (sg.seq hsc)) ax) ?_ λH1 s1 => hN _ _ ⟨_, rfl, s1⟩;walk_at "rs";exact ⟨ns, 0, rfl, by decide, rfl⟩
    rintro σ H1 ⟨f, rfl, s1⟩;refine bH (λσ H1 => ∃ g a dx b c, 0 <= g /\ g <= 50 /\ σ = [some (.ref sc), some (.int f), some (.ref a), none, none, none, none, none, none, none, none, none] /\ Run CS H H1 a dx b c g 0 [] []) ?_ λN hN => ?_;rotate_left
    · refine dh [none, some (.p (.int f))] (λb => ∃ g : Int, 0 <= g /\ g <= 50 /\ b = .p (.int g)) (aa (ai (.int f) ax)) ?_ λb v H2 ⟨g, g0, g1, e⟩ s2 r2 => ?_
      · repeat (first | dsimp only [aL] | walk_at "rs1" | walk_at "rsx")
        have m1 := df f 0 51 (by decide);have m2 := df f 0 11 (by decide);have m3 := df f 1 4 (by decide);obtain ⟨v, hv, v0, v1⟩ := Cc (a := 0) (b := 50) (c := eL f 0 % 51) (d := eL f 0 % 11) (lo := 0) (hi := 50) m3.1 m3.2 (by lia) (by lia) (by lia) (by lia);exact ⟨by decide, by decide, by decide, _, hv, v, v0, v1, rfl⟩
      · subst e;cases r2;exact λx dx hx hd hne => ⟨x, dx, g, rfl, aq, λb c hb hc hbc => ⟨rfl, hN _ _ ⟨g, x, dx, b, c, g0, g1, rfl, zr (s1.trans s2) hx hd hb hc hbc⟩⟩⟩
    clear s1 H1;rintro σ H1 ⟨g, a, dx, b, c, g0, g1, rfl, R1⟩;refine bH (λσ H1 => ∃ ba : Int, 0 <= ba /\ ba < 200 /\ σ = [some (.ref sc), some (.int f), some (.ref a), some (.int ba), none, none, none, none, none, none, none, none] /\ Run CS H H1 a dx b c g 0 [] []) ?_ λN hN => ?_;rotate_left
    · have m := df f 2 200 (by decide);refine fW [none, some (.p (.int f))] (eL f 2 % 200) (aa (ai (.int f) ax)) ?_ λH2 s2 => hN _ _ ⟨_, m.1, m.2, rfl, R1.mono s2⟩;repeat (first | dsimp only [aL] | walk_at "rs1" | walk_at "rsx")
      exact ⟨by decide, trivial⟩
    clear R1 H1;rintro σ H1 ⟨ba, ba0, ba1, rfl, R1⟩;refine bH (λσ H1 => ∃ mo : Nat, (mo = 5 \/ mo = 12) /\ σ = [some (.ref sc), some (.int f), some (.ref a), some (.int ba), some (.int mo), none, none, none, none, none, none, none] /\ Run CS H H1 a dx b c g 0 [] []) ?_ λN hN => ?_;rotate_left
    · refine dh [none, some (.p (.int f))] (λb => ∃ mo : Nat, (mo = 5 \/ mo = 12) /\ b = .p (.int mo)) (aa (ai (.int f) ax)) ?_ λb v H2 ⟨mo, hmo, e⟩ s2 r2 => ?_
      · repeat (first | dsimp only [aL] | walk_at "rs1" | walk_at "rsx")
        refine ⟨by decide, ?_⟩;by_cases z : decide (eL f 3 % 4 = 1) = true
        · rw [if_pos z];exact ⟨_, rfl, 12, .inr rfl, rfl⟩
        · rw [if_neg z];exact ⟨_, rfl, 5, .inl rfl, rfl⟩
      · subst e;cases r2;exact hN _ _ ⟨mo, hmo, rfl, R1.mono s2⟩
    clear R1 H1;rintro σ H1 ⟨mo, hmo, rfl, R1⟩;have m12 : mo <= 12 := by lia
    refine bH (λσ H1 => ∃ l, σ = [some (.ref sc), some (.int f), some (.ref a), some (.int ba), some (.int mo), some (.ref l), none, none, none, none, none, none] /\ Run CS H H1 a dx b c g 0 [] [] /\ H l = none /\ H1 l = some (.lst [])) ?_ λN hN => ?_;rotate_left
    · exact ⟨fA (Nat.le_of_ble_eq_true rfl), λl hl => hN _ _ ⟨l, rfl, R1.mono (dB hl), R1.sm.free hl, aq⟩⟩
    clear R1 H1;rintro σ H1 ⟨l, rfl, R1, nl, el⟩;refine bH (λσ H2 => σ = sE sc f a ba mo l 0 none none none none none /\ H2 = H1) ?_ λN hN => hN _ _ ⟨rfl, rfl⟩;rintro σ H2 ⟨rfl, rfl⟩;refine bH (λσ H1 => av H H1) ?_ λN hN => ?_
    · -- return True
      exact λσ H2 s2 => done _ s2
    have own : ∀ y, y ∈ [l, a, b, c] -> H y = none := λy hy => by
      rcases List.mem_cons.mp hy with rfl | hy
      · exact nl
      rcases List.mem_cons.mp hy with rfl | hy
      · exact R1.na
      rcases List.mem_cons.mp hy with rfl | hy
      · exact R1.nb
      rcases List.mem_cons.mp hy with rfl | hy
      · exact R1.nc
      · cases hy
    have S1 : j4 CS H2 a dx b c l g 0 mo [] := ⟨R1.ob, ⟨[], el, .nil⟩, λ_ z => (nomatch z), Nat.zero_le _, Nat.zero_le _, .nil, λ_ z => (nomatch z)⟩
    have s1 := R1.sm;have gmem : ∀ y, y ∈ [l, a, b, c] -> Aa H2 y := λy hy => by
      rcases List.mem_cons.mp hy with rfl | hy
      · exact ⟨_, el, λ_ z => nomatch z⟩
      rcases List.mem_cons.mp hy with rfl | hy
      · exact ⟨_, R1.ob.ia, λ_ z => nomatch z⟩
      rcases List.mem_cons.mp hy with rfl | hy
      · obtain ⟨es, e, _⟩ := R1.ob.hb;exact ⟨_, e, λ_ z => nomatch z⟩
      rcases List.mem_cons.mp hy with rfl | hy
      · obtain ⟨es, e, _⟩ := R1.ob.hc;exact ⟨_, e, λ_ z => nomatch z⟩
      · cases hy
    clear R1 el nl;let Gc : Hp := λy => if y ∈ [l, a, b, c] then none else H2 y
    have gcn : ∀ y, y ∈ [l, a, b, c] -> Gc y = none := λy hy => if_pos hy;have gco : ∀ y, y ∉ [l, a, b, c] -> Gc y = H2 y := λy hy => if_neg hy;have sgc : av Gc H2 := λy o e => by
      by_cases hy : y ∈ [l, a, b, c]
      · rw [gcn y hy] at e;cases e
      · rw [gco y hy] at e;exact e
    have scq : d0 K Gc sc (ns.map V.int) := by
      have key : ∀ u, G sc = some u -> Gc sc = some u := λu h => by
        have e := sg _ _ h;rw [gco sc λz => by rw [own sc z] at e;cases e];exact s1 _ _ e
      rcases hsc with (h | ⟨o, h⟩) | h
      · exact .inl (.inl (key _ h))
      · exact .inl (.inr ⟨o, key _ h⟩)
      · exact .inr h
    refine ⟨Gc, [some (.p (.scr ns))], λxs => xs = (hU ns (some 1) (some 63)).map D.int, sgc, ai (.scr scq) ax, ?_, λxs J H3 Gs e w it => ?_⟩
    · walk_at "rs"
    subst e;have gsn : ∀ y, y ∈ [l, a, b, c] -> Gs y = none := λy hy => by rw [w.old y (gmem y hy)];exact gcn y hy
    have lc : ((hU ns (some 1) (some 63)).map D.int).length <= 62 := by
      rw [length_map];unfold hU;rw [length_take, length_drop];rw [show HT.d9 ns.length 0 (some 1) = min 1 ns.length from rfl];lia
    refine yE it (λi σ H3 => ∃ (n : Int) (rows : List R4) (y7 y8 y9 y10 y11 : Option V), n <= 2 * ((i : Nat):Int) /\ i <= 62 /\ σ = sE sc f a ba mo l n y7 y8 y9 y10 y11 /\ pP CS H Gs H3 a dx b c l g n mo rows) ⟨0, [], none, none, none, none, none, by decide, Nat.zero_le _, rfl, ⟨S1.mono w.hh, s1.trans w.hh, w.gh, own, gsn⟩⟩ (by rintro i σ H3 ⟨_, _, _, _, _, _, _, _, _, _, M⟩;exact M.sg) ?_ ?_;rotate_left
    · rintro σ H3 ⟨n, rows, y7, y8, y9, y10, y11, hn, hi, rfl, M⟩;exact hN _ _ M.sm
    clear S1 s1 sgc scq gcn gco gmem;rintro i d x σ H3 H4 hx ⟨n, rows, y7, y8, y9, y10, y11, hn, hi, rfl, M⟩ s4 rx;obtain ⟨ce, rfl⟩ : ∃ ce : Int, d = .int ce := by
      rw [getElem?_map] at hx;obtain ⟨c, _, e⟩ := Option.map_eq_some_iff.mp hx;exact ⟨c, e.symm⟩
    cases rx;have hi2 : i + 1 <= 62 := Nat.le_trans (List.getElem?_eq_some_iff.mp hx).1 lc;replace M := M.mono s4;clear s4 hx it w;show Bs _ _ _ (sE sc f a ba mo l n (some (.int ce)) y8 y9 y10 y11) H4;refine bH (λσ H5 => ∃ k x t, fP k x /\ σ = sE sc f a ba mo l n (some (.int ce)) (some (.str k)) (some (.ref t)) y10 y11 /\ pP CS H Gs H5 a dx b c l g n mo rows /\ H5 t = some (.tup [.int x.1, .int x.2.1, .int x.2.2])) ?_ λN' hN' => ?_;rotate_left
    · refine dh [none, none, none, some (.p (.int ba)), none, none, none, some (.p (.int ce))] (λb => ∃ k x, fP k x /\ b = .p (.tup [.str k, d3 x])) (aa (aa (aa (ai (.int _) (aa (aa (aa (ai (.int _) ax)))))))) ?_ λb0 v H5 ⟨k, x, ok, e⟩ s5 r5 => ?_
      · walk_at "rs";exact ⟨ce, ba, rfl, ba0, ba1, λk x o => ⟨k, x, o, rfl⟩⟩
      · subst e;obtain ⟨p, vs, rfl, ep, rr⟩ := Rep.mH r5;cases rr with | cons r1 rr => cases rr with | cons r2 rr =>
          cases rr;cases r1;obtain ⟨t, rfl, et⟩ := rep3 r2;exact ⟨p, _, rfl, .inl (lJ.of ep), rfl, _, _, rfl, _, _, rfl, rfl, hN' _ _ ⟨k, x, t, ok, rfl, M.mono s5, et⟩⟩
    clear M H4;rintro σ H4 ⟨k, x, t, ox, rfl, M, et⟩;have hk : k = aO \/ k = bC := ox.elim (λz => .inl z.1) λz => .inr z.1;refine bH (λσ H5 => ∃ sl vs, σ = sE sc f a ba mo l n (some (.int ce)) (some (.str k)) (some (.ref t)) (some (.ref sl)) y11 /\ pP CS H Gs H5 a dx b c l g n mo rows /\ H5 t = some (.tup [.int x.1, .int x.2.1, .int x.2.2]) /\ H5 sl = some (.lst vs) /\ eJ H5 vs (eK rows k)) ?_ λN' hN' => ?_;rotate_left
    · have lr := M.s.len m12;refine wa [none, none, none, none, none, some (.p (.lst (rows.map iX))), none, none, some (.p (.str k))] ((eK rows k).map iX) (aa (aa (aa (aa (aa (ai M.s.rep (aa (aa (ai (.str k) ax))))))))) ?_ λsl vs H5 s5 n5 e5 r5 => hN' _ _ ⟨sl, vs, rfl, M.mono s5, s5 _ _ et, e5, rG r5⟩;walk_at "rs";refine uh (xs := rows) (e := iX) (λd => match d with | .tup [.int _, .str k'] => if decide (k' = k) = true then some d else none | _ => none) (λr => if decide (r.2.1 = k) = true then some (iX r) else none) (λr _ => rfl) (by lia) (λr hr => ?_) ?_
      · unfold iX;walk_at "rs";refine ⟨λz => by rw [if_pos z], λz => by rw [if_neg (by rw [z];decide)]⟩
      · rw [w6]
    clear M et H4;rintro σ H4 ⟨sl, vs, rfl, M, et, es, rs⟩;refine bH (λσ H5 => ∃ rows, σ = sE sc f a ba mo l n (some (.int ce)) (some (.str k)) (some (.ref t)) (some (.ref sl)) y11 /\ pP CS H Gs H5 a dx b c l g n mo rows /\ H5 t = some (.tup [.int x.1, .int x.2.1, .int x.2.2]) /\ (allOf k (aj rows) (af rows)).length < mo) ?_ λN' hN' => ?_;rotate_left
    · have cnt := fQ M.s.o hk;have la : (allOf k (aj rows) (af rows)).length <= mo := by unfold allOf;split;exact M.s.lh;exact M.s.lk
      have re : cy K H4 (sE sc f a ba mo l n (some (.int ce)) (some (.str k)) (some (.ref t)) (some (.ref sl)) y11) [none, none, none, none, none, none, none, none, none, none, some (.p (.lst ((eK rows k).map iX)))] := aa (aa (aa (aa (aa (aa (aa (aa (aa (aa (ai (Rep.qZ es rs.zq) ax))))))))));refine fW _ ((eK rows k).length : Int) re ?_ λH5 s5 => ?_
      · walk_at "rs";rw [length_map]
      refine ⟨_, rfl, rfl, _, rfl, qV (λz => ?_) λz => hN' _ _ ⟨rows, rfl, M.mono s5, s5 _ _ et, ?_⟩⟩;rotate_left
      · have : ¬ ((eK rows k).length : Int) = (mo : Int) := λw => z (decide_eq_true (congrArg V.int w));lia
      have zl : ((eK rows k).length : Int) = (mo : Int) := V.int.inj (of_decide_eq_true z);obtain ⟨r, rest, er⟩ : ∃ r rest, eK rows k = r :: rest := by
        cases e : eK rows k with
        | nil => rw [e] at zl;simp at zl;lia
        | cons r rest => exact ⟨r, rest, rfl⟩
      have hr : r ∈ eK rows k := by rw [er];exact mem_cons_self
      obtain ⟨hr1, hr2⟩ := vp hr;replace M := M.mono s5;replace et := s5 _ _ et;replace es := s5 _ _ es;replace rs := eJ.on rs λt xs e => s5 _ _ e;replace re := re.mono s5;rw [er] at re;refine ⟨_, rfl, a, dx, _, rfl, M.s.ob.ia, rfl, ?_⟩;refine fW _ r.1 re ?_ λH6 s6 => ?_
      · walk_at "rs";unfold iX;walk_at "rs"
      dsimp only [vG];replace M := M.mono s6;replace et := s6 _ _ et;replace es := s6 _ _ es;replace rs := eJ.on rs λt xs e => s6 _ _ e;have ub := M.s.up r hr1;refine uw M.s.ob (BF (by lia) (by lia)) (oZ hr1) λt' x' H7 _ _ O7 k7 => ?_;have kt : ∀ t xs, H6 t = some (.tup xs) -> H7 t = some (.tup xs) := λt xs e => k7 _ _ e (M.s.ob.tup e);obtain ⟨ws, el, ra⟩ := M.s.el;have el7 := k7 _ _ el (M.s.ob.lst el);have ra7 := eJ.on ra kt;have es7 := k7 _ _ es (M.s.ob.lst es);have rs7 := eJ.on rs kt;have re7 : cy K H7 (sE sc f a ba mo l n (some (.int ce)) (some (.str k)) (some (.ref t)) (some (.ref sl)) y11) [none, none, none, none, none, none, none, none, none, none, some (.p (.lst ((r :: rest).map iX)))] := aa (aa (aa (aa (aa (aa (aa (aa (aa (aa (ai (Rep.qZ es7 (by rw [<- er];exact rs7.zq)) ax))))))))));refine ⟨_, rfl, .inl ⟨rfl, _, d0.of el7⟩, ?_⟩;refine oG _ (iX r) re7 ?_ λv8 H8 s8 r8 => ?_
      · walk_at "rs"
      obtain ⟨j, ej⟩ := List.getElem?_of_mem hr1;have jl : j < (rows.map iX).length := by rw [length_map];exact (List.getElem?_eq_some_iff.mp ej).1
      have ra8 := eJ.on ra7 λt xs e => s8 _ _ e;have el8 := s8 _ _ el7;have nt8 : ∀ xs, H8 l ≠ some (.tup xs) := λxs e => by rw [el8] at e;cases e
      refine ⟨l, ws, v8, j, H8, rows.map iX, iX r, rfl, rfl, el8, av.refl _, ra8.zq, r8, λz hz => ?_, (sH r).1, ?_, jl, λz hz => ?_, λm z hm hz => ?_, ?_⟩
      · obtain ⟨w, _, rfl⟩ := mem_map.mp hz;exact sH w
      · exact Nat.lt_trans (Nat.add_lt_add_left (show 62 < 64 by decide) _) hun
      · rw [getElem?_map, ej] at hz;cases hz;exact gH _ (sH r).1
      · rw [getElem?_map] at hz;obtain ⟨w, ew, rfl⟩ := Option.map_eq_some_iff.mp hz;exact A5 (iw M.s.nd ej ew (Nat.ne_of_lt hm))
      · obtain ⟨S9, k9⟩ := M.s.less ej el ra (O7.mono s8) λy o e z => s8 _ _ (k7 y o e z);refine hN' _ _ ⟨aS rows r.1, rfl, M.step S9 k9, ?_, ?_⟩
        · have e8 := s8 _ _ (kt _ _ et);rw [ah λw => nt8 _ (by rw [<- w];exact e8)];exact e8
        · have lc := mi M.s.nd hr;rw [<- fQ S9.o hk];lia
    clear M et es rs H4 rows;rintro σ H4 ⟨rows, rfl, M, et, lt⟩;refine bH (λσ H5 => ∃ (n1 : Int) (rows : List R4) (y11 : Option V), n1 + 1 <= 2 * ((i + 1 : Nat):Int) /\ σ = sE sc f a ba mo l n1 (some (.int ce)) (some (.str k)) (some (.ref t)) (some (.ref sl)) y11 /\ pP CS H Gs H5 a dx b c l g (n1 + 1) mo rows) ?_ λN' hN' => ?_
    · -- last = last + 1
      rintro σ H5 ⟨n1, rows, y11, hn1, rfl, M⟩;refine fW [none, none, none, none, none, none, some (.p (.int n1))] (n1 + 1) (aa (aa (aa (aa (aa (aa (ai (.int _) ax))))))) ?_ λH6 s6 => ⟨n1 + 1, rows, _, _, _, _, _, hn1, hi2, rfl, M.mono s6⟩
      walk_at "rs"
    have lh := M.s.lh;have lk := M.s.lk;have lt12 := Nat.lt_of_lt_of_le lt m12;refine dh [none, none, none, none, some (.p (.int mo)), none, none, some (.p (.int ce))] (λb => ∃ j : Int, b = .p (.int j)) (aa (aa (aa (aa (ai (.int _) (aa (aa (ai (.int _) ax)))))))) ?_ λb0 v H5 ⟨jj, e⟩ s5 r5 => ?_
    · repeat (first | dsimp only [aL] | walk_at "rs1" | walk_at "rsx")
      by_cases z : decide ((mo : Int) = 12) = true
      · rw [if_pos z];exact ⟨_, rfl, (by decide : (0 : Int) < 12), _, rfl⟩
      · rw [if_neg z];exact ⟨_, rfl, (by decide : (0 : Int) < 4), _, rfl⟩
    subst e;cases r5;replace M := M.mono s5;replace et := s5 _ _ et;clear s5 H4;refine ⟨rfl, _, rfl, qV (λz => ?_) λz => ?_⟩;rotate_left
    · -- rows.append(..)
      obtain ⟨ws, el, rws⟩ := M.s.el;have lr : ws.length <= 24 := by rw [Paired.length rws];exact M.s.len m12
      refine ⟨_, rfl, .inl ⟨rfl, _, d0.of el⟩, _, rfl, _, rfl, _, rfl, a, dx, b, c, t, g, n, aj rows, af rows, k, x, rfl, et, M.s.ob, ox, by lia, by lia, lt12, λH6 O6 k6 => ?_⟩;have el6 := k6 _ _ el (M.s.ob.lst el);refine ⟨_, rfl, (show 2 <= sizeLine by decide), λp hp => ?_⟩;obtain ⟨S7, k7⟩ := M.s.add ox lt O6 k6 hp el rws;exact ⟨l, ws, .ref p, rfl, rfl, dB hp _ _ el6, lt1000 (by lia), hN' _ _ ⟨n, _, y11, by lia, rfl, M.step S7 k7⟩⟩
    refine bH (λσ H6 => ∃ rows, σ = sE sc f a ba mo l n (some (.int ce)) (some (.str k)) (some (.ref t)) (some (.ref sl)) y11 /\ pP CS H Gs H6 a dx b c l g (n + 1) mo rows /\ rows ≠ []) ?_ λN2 hN2 => ?_;rotate_left
    · refine ⟨_, rfl, _, rfl, _, rfl, _, rfl, _, rfl, ?_⟩;refine dh [none, none, none, none, none, none, none, some (.p (.int ce))] (λb => ∃ bq : Bool, b = .p (.bl bq)) (aa (aa (aa (aa (aa (aa (aa (ai (.int _) ax)))))))) ?_ λb0 v H6 ⟨bq, e⟩ s6 r6 => ?_
      · repeat (first | dsimp only [aL] | walk_at "rs1" | walk_at "rsx")
        exact ⟨by decide, _, rfl⟩
      subst e;cases r6;replace M := M.mono s6;exact ⟨a, dx, b, c, l, t, g, n, mo, rows, k, x, bq, rfl, s6 _ _ et, M.s, ox, g0, g1, m12, lt, λH7 S7 k7 => ⟨true, rfl, iY (hN2 _ _ ⟨_, rfl, M.step S7 k7, by simp⟩)⟩⟩
    clear M et lt lt12 lh lk H5 rows;rintro σ H5 ⟨rows, rfl, M, ne⟩;have rl : 0 < rows.length := List.length_pos_iff.mpr ne;refine bH (λσ H6 => σ = sE sc f a ba mo l (n + 1) (some (.int ce)) (some (.str k)) (some (.ref t)) (some (.ref sl)) y11 /\ pP CS H Gs H6 a dx b c l g (n + 1) mo rows) ?_ λN2 hN2 => ?_;rotate_left
    · refine fW [none, none, none, none, none, none, some (.p (.int n))] (n + 1) (aa (aa (aa (aa (aa (aa (ai (.int _) ax))))))) ?_ λH6 s6 => hN2 _ _ ⟨rfl, M.mono s6⟩;walk_at "rs"
    clear M H5;rintro σ H5 ⟨rfl, M⟩;have re : cy K H5 (sE sc f a ba mo l (n + 1) (some (.int ce)) (some (.str k)) (some (.ref t)) (some (.ref sl)) y11) [none, none, none, none, none, some (.p (.lst (rows.map iX))), none, some (.p (.int ce))] := aa (aa (aa (aa (aa (ai M.s.rep (aa (ai (.int _) ax)))))));refine bH (λσ H6 => ∃ (sp : Addr) (p1 p2 : Nat), σ = sE sc f a ba mo l (n + 1) (some (.int ce)) (some (.str k)) (some (.ref t)) (some (.ref sl)) (some (.ref sp)) /\ pP CS H Gs H6 a dx b c l g (n + 1) mo rows /\ p1 < rows.length /\ p2 < rows.length /\ H5 sp = none /\ H6 sp = some (.lst [.int ((p1 : Nat):Int), .int ((p2 : Nat):Int)])) ?_ λN2 hN2 => ?_;rotate_left
    · have mm := df ce 12 (rows.length : Int) (by lia);refine wa _ [.int ((rows.length : Int) - 1), .int (eL ce 12 % (rows.length : Int))] re ?_ λsp vs H6 s6 n6 e6 r6 => ?_
      · repeat (first | dsimp only [aL] | walk_at "rs1" | walk_at "rsx")
        rw [length_map];exact ⟨by lia, rfl⟩
      cases r6 with | cons r1 r6 => cases r6 with | cons r2 r6 =>
        cases r6;cases r1;cases r2;refine hN2 _ _ ⟨sp, rows.length - 1, (eL ce 12 % (rows.length : Int)).toNat, rfl, M.mono s6, by lia, by lia, n6, ?_⟩;rw [e6, show (((rows.length - 1 : Nat)):Int) = (rows.length : Int) - 1 by lia, show (((eL ce 12 % (rows.length : Int)).toNat : Nat):Int) = eL ce 12 % (rows.length : Int) by lia]
    clear re;have fr : ∀ {y : Addr}, H5 y = none -> H y = none /\ Gs y = none /\ y ∉ [l, a, b, c] := λ{y} e => ⟨M.sm.free e, M.sg.free e, λz => M.s.own z e⟩
    clear M;rintro σ H6 ⟨sp, p1, p2, rfl, M, hp1, hp2, n6, esp⟩;obtain ⟨f1, f2, f3⟩ := fr n6;refine bH (λσ H7 => ∃ p1 : Nat, σ = sE sc f a ba mo l (n + 1) (some (.int ce)) (some (.str k)) (some (.ref t)) (some (.ref sl)) (some (.ref sp)) /\ pP CS H Gs H7 a dx b c l g (n + 1) mo rows /\ p1 < rows.length /\ H7 sp = some (.lst [.int ((p1 : Nat):Int), .int ((p2 : Nat):Int)])) ?_ λN2 hN2 => ?_;rotate_left
    · have re : cy K H6 (sE sc f a ba mo l (n + 1) (some (.int ce)) (some (.str k)) (some (.ref t)) (some (.ref sl)) (some (.ref sp))) [none, none, none, none, none, some (.p (.lst (rows.map iX))), none, some (.p (.int ce))] := aa (aa (aa (aa (aa (ai M.s.rep (aa (ai (.int _) ax)))))));refine fW _ (eL ce 6 % 2) re ?_ λH7 s7 => ?_
      · repeat (first | dsimp only [aL] | walk_at "rs1" | walk_at "rsx")
        exact ⟨by decide, trivial⟩
      refine ⟨rfl, _, rfl, qV (λz => ?_) λz => hN2 _ _ ⟨p1, rfl, M.mono s7, hp1, s7 _ _ esp⟩⟩;have mm := df ce 5 (rows.length : Int) (by lia);refine fW _ (eL ce 5 % (rows.length : Int)) (re.mono s7) ?_ λH8 s8 => ?_
      · repeat (first | dsimp only [aL] | walk_at "rs1" | walk_at "rsx")
        rw [length_map];exact ⟨by lia, rfl⟩
      have e8 := s8 _ _ (s7 _ _ esp);refine ⟨_, rfl, sp, _, 0, 0, rfl, rfl, e8, rfl, hN2 _ _ ⟨(eL ce 5 % (rows.length : Int)).toNat, rfl, ((M.mono s7).mono s8).upd f1 f2 f3 (λxs e => by rw [e8] at e;cases e), by lia, ?_⟩⟩;rw [aq, show (((eL ce 5 % (rows.length : Int)).toNat : Nat):Int) = eL ce 5 % (rows.length : Int) by lia];rfl
    clear M esp hp1 n6 f1 f2 f3 fr H5 p1 H6;rintro σ H6 ⟨p1, rfl, M, hp1, esp⟩;refine ⟨_, rfl, _, rfl, _, rfl, _, rfl, ?_⟩;refine dh [none, none, none, none, none, none, none, some (.p (.int ce))] (λb => ∃ bq : Bool, b = .p (.bl bq)) (aa (aa (aa (aa (aa (aa (aa (ai (.int _) ax)))))))) ?_ λb0 v H7 ⟨bq, e⟩ s7 r7 => ?_
    · repeat (first | dsimp only [aL] | walk_at "rs1" | walk_at "rsx")
      exact ⟨by decide, _, rfl⟩
    subst e;cases r7;replace M := M.mono s7;exact ⟨a, dx, b, c, l, sp, g, n + 1, mo, p1, p2, rows, bq, rfl, s7 _ _ esp, hp1, hp2, M.s, g0, g1, m12, by lia, λH8 rows' S8 k8 _ => ⟨true, rfl, iY (hN' _ _ ⟨n + 1, rows', _, by lia, rfl, M.step S8 k8⟩)⟩⟩
end
end WS
namespace WS
open PySem L2 DL
theorem eR {α : Type}{P : List α -> Prop}(h : ∀ x0, P [x0]):∀ us : List α, us.length = 1 -> P us := λus hl => match us, hl with | [x0], _ => h x0
theorem dX {α : Type}{P : List α -> Prop}(h : ∀ x0 x1, P [x0, x1]):∀ us : List α, us.length = 2 -> P us := λus hl => match us, hl with | [x0, x1], _ => h x0 x1
theorem jQ {α : Type}{P : List α -> Prop}(h : ∀ x0 x1 x2, P [x0, x1, x2]):∀ us : List α, us.length = 3 -> P us := λus hl => match us, hl with | [x0, x1, x2], _ => h x0 x1 x2
theorem ur {α : Type}{P : List α -> Prop}(h : ∀ x0 x1 x2 x3, P [x0, x1, x2, x3]):∀ us : List α, us.length = 4 -> P us := λus hl => match us, hl with | [x0, x1, x2, x3], _ => h x0 x1 x2 x3
theorem uu {α : Type}{P : List α -> Prop}(h : ∀ x0 x1 x2 x3 x4, P [x0, x1, x2, x3, x4]):∀ us : List α, us.length = 5 -> P us := λus hl => match us, hl with | [x0, x1, x2, x3, x4], _ => h x0 x1 x2 x3 x4
theorem yW {α : Type}{P : List α -> Prop}(h : ∀ x0 x1 x2 x3 x4 x5, P [x0, x1, x2, x3, x4, x5]):∀ us : List α, us.length = 6 -> P us := λus hl => match us, hl with | [x0, x1, x2, x3, x4, x5], _ => h x0 x1 x2 x3 x4 x5
theorem all_mk {l : PySem.W.OpenLaw}{w : World}{K : Frag}{h : Heap}{mg : Str -> Option Value}{fa : Addr}(X : K.In h)(G : h.Ns mainGlobals mg)(hfa : mg "law" = some (.ref fa))
    {CS : Addr}
    {f1 : Addr} {od1 an1 : Option Addr} {sl1 : Array (Option Value)} {oc1 kV1 dc1 pm1 cd1 ct1 : Value}
    {f2 : Addr} {od2 an2 : Option Addr} {sl2 : Array (Option Value)} {oc2 kV2 dc2 pm2 cd2 ct2 : Value}
    {f3 : Addr} {od3 an3 : Option Addr} {sl3 : Array (Option Value)} {oc3 kV3 dc3 pm3 cd3 ct3 : Value}
    {f4 : Addr} {od4 an4 : Option Addr} {sl4 : Array (Option Value)} {oc4 kV4 dc4 pm4 cd4 ct4 : Value}
    {f5 : Addr} {od5 an5 : Option Addr} {sl5 : Array (Option Value)} {oc5 kV5 dc5 pm5 cd5 ct5 : Value}
    {f6 : Addr} {od6 an6 : Option Addr} {sl6 : Array (Option Value)} {oc6 kV6 dc6 pm6 cd6 ct6 : Value}
    {f7 : Addr} {od7 an7 : Option Addr} {sl7 : Array (Option Value)} {oc7 kV7 dc7 pm7 cd7 ct7 : Value}
    {f8 : Addr} {od8 an8 : Option Addr} {sl8 : Array (Option Value)} {oc8 kV8 dc8 pm8 cd8 ct8 : Value}
    {f9 : Addr} {od9 an9 : Option Addr} {sl9 : Array (Option Value)} {oc9 kV9 dc9 pm9 cd9 ct9 : Value}
    {f10 : Addr} {od10 an10 : Option Addr} {sl10 : Array (Option Value)} {oc10 kV10 dc10 pm10 cd10 ct10 : Value}
    {f11 : Addr} {od11 an11 : Option Addr} {sl11 : Array (Option Value)} {oc11 kV11 dc11 pm11 cd11 ct11 : Value}
    {f12 : Addr} {od12 an12 : Option Addr} {sl12 : Array (Option Value)} {oc12 kV12 dc12 pm12 cd12 ct12 : Value}
    {f13 : Addr} {od13 an13 : Option Addr} {sl13 : Array (Option Value)} {oc13 kV13 dc13 pm13 cd13 ct13 : Value}
    {f14 : Addr} {od14 an14 : Option Addr} {sl14 : Array (Option Value)} {oc14 kV14 dc14 pm14 cd14 ct14 : Value}
    {f15 : Addr} {od15 an15 : Option Addr} {sl15 : Array (Option Value)} {oc15 kV15 dc15 pm15 cd15 ct15 : Value}
    {f16 : Addr} {od16 an16 : Option Addr} {sl16 : Array (Option Value)} {oc16 kV16 dc16 pm16 cd16 ct16 : Value}
    {f17 : Addr} {od17 an17 : Option Addr} {sl17 : Array (Option Value)} {oc17 kV17 dc17 pm17 cd17 ct17 : Value}
    {f18 : Addr} {od18 an18 : Option Addr} {sl18 : Array (Option Value)} {oc18 kV18 dc18 pm18 cd18 ct18 : Value}
    {f19 : Addr} {od19 an19 : Option Addr} {sl19 : Array (Option Value)} {oc19 kV19 dc19 pm19 cd19 ct19 : Value}
    {f20 : Addr} {od20 an20 : Option Addr} {sl20 : Array (Option Value)} {oc20 kV20 dc20 pm20 cd20 ct20 : Value}
    {f21 : Addr} {od21 an21 : Option Addr} {sl21 : Array (Option Value)} {oc21 kV21 dc21 pm21 cd21 ct21 : Value}
    {f22 : Addr} {od22 an22 : Option Addr} {sl22 : Array (Option Value)} {oc22 kV22 dc22 pm22 cd22 ct22 : Value}
    {f23 : Addr} {od23 an23 : Option Addr} {sl23 : Array (Option Value)} {oc23 kV23 dc23 pm23 cd23 ct23 : Value}
    {f24 : Addr} {od24 an24 : Option Addr} {sl24 : Array (Option Value)} {oc24 kV24 dc24 pm24 cd24 ct24 : Value}
    {f25 : Addr} {od25 an25 : Option Addr} {sl25 : Array (Option Value)} {oc25 kV25 dc25 pm25 cd25 ct25 : Value}
    {f26 : Addr} {od26 an26 : Option Addr} {sl26 : Array (Option Value)} {oc26 kV26 dc26 pm26 cd26 ct26 : Value}
    {f27 : Addr} {od27 an27 : Option Addr} {sl27 : Array (Option Value)} {oc27 kV27 dc27 pm27 cd27 ct27 : Value}
    {f28 : Addr} {od28 an28 : Option Addr} {sl28 : Array (Option Value)} {oc28 kV28 dc28 pm28 cd28 ct28 : Value}
    {f29 : Addr} {od29 an29 : Option Addr} {sl29 : Array (Option Value)} {oc29 kV29 dc29 pm29 cd29 ct29 : Value}
    {f30 : Addr} {od30 an30 : Option Addr} {sl30 : Array (Option Value)} {oc30 kV30 dc30 pm30 cd30 ct30 : Value}
    {f31 : Addr} {od31 an31 : Option Addr} {sl31 : Array (Option Value)} {oc31 kV31 dc31 pm31 cd31 ct31 : Value}
    {f32 : Addr} {od32 an32 : Option Addr} {sl32 : Array (Option Value)} {oc32 kV32 dc32 pm32 cd32 ct32 : Value}
    {tk1 : Tok}
    {tk2 : Tok}
    {tk3 : Tok}
    {tk4 : Tok}
    {tk5 : Tok}
    {ec1 : Addr} {ed1 : ClassData}
    {ec2 : Addr} {ed2 : ClassData}
    {ec3 : Addr} {ed3 : ClassData}
    {ec4 : Addr} {ed4 : ClassData}
    {ec5 : Addr} {ed5 : ClassData}
    (qC : nsIn K mainGlobals "Streams" = some (some (.ref CS))) (qpg : plainGet K CS Str.empty = true) (qhd : PySem.W.hasDictIn K CS = true) (qpo : PySem.W.plainOver K CS = true) (qsa : PySem.W.findIn K (.ref CS) "__setattr__" = some (some (.builtin "object.__setattr__"))) (qmk : PySem.W.makesIn K CS = true) (qkc : keepIn K (.ref CS) = true)
    (a1 : nsIn K mainGlobals "_law_cell_at" = some (some (.ref f1))) (l1 : K.lookup f1 = some ⟨oc1, od1, .func (fnOf "_law_cell_at" "_law_cell_at" (aG dg) (az dg) (ag dg) .none kV1 dc1 pm1 an1 cd1 ct1), sl1⟩) (c1 : codeIn K cd1 "_law_cell_at" = true) (k1 : keepIn K (.ref f1) = true)
    (a2 : PySem.W.findIn K (.ref CS) "__init__" = some (some (.ref f2))) (i2 : isFn K (.ref f2) = true) (l2 : K.lookup f2 = some ⟨oc2, od2, .func (fnOf "__init__" "Streams.__init__" (aG bz) (az bz) (ag bz) .none kV2 dc2 pm2 an2 cd2 ct2), sl2⟩) (c2 : codeIn K cd2 "Streams.__init__" = true) (k2 : keepIn K (.ref f2) = true)
    (a3 : nsIn K mainGlobals "_law_stir" = some (some (.ref f3))) (l3 : K.lookup f3 = some ⟨oc3, od3, .func (fnOf "_law_stir" "_law_stir" (aG eP) (az eP) (ag eP) .none kV3 dc3 pm3 an3 cd3 ct3), sl3⟩) (c3 : codeIn K cd3 "_law_stir" = true) (k3 : keepIn K (.ref f3) = true)
    (a4 : nsIn K mainGlobals "_law_stream" = some (some (.ref f4))) (l4 : K.lookup f4 = some ⟨oc4, od4, .func (fnOf "_law_stream" "_law_stream" (aG dH) (az dH) (ag dH) .none kV4 dc4 pm4 an4 cd4 ct4), sl4⟩) (c4 : codeIn K cd4 "_law_stream" = true) (k4 : keepIn K (.ref f4) = true)
    (a5 : PySem.W.findIn K (.ref CS) "home_of" = some (some (.ref f5))) (i5 : isFn K (.ref f5) = true) (l5 : K.lookup f5 = some ⟨oc5, od5, .func (fnOf "home_of" "Streams.home_of" (aG bF) (az bF) (ag bF) .none kV5 dc5 pm5 an5 cd5 ct5), sl5⟩) (c5 : codeIn K cd5 "Streams.home_of" = true) (k5 : keepIn K (.ref f5) = true)
    (a6 : PySem.W.findIn K (.ref CS) "take_out" = some (some (.ref f6))) (i6 : isFn K (.ref f6) = true) (l6 : K.lookup f6 = some ⟨oc6, od6, .func (fnOf "take_out" "Streams.take_out" (aG bB) (az bB) (ag bB) .none kV6 dc6 pm6 an6 cd6 ct6), sl6⟩) (c6 : codeIn K cd6 "Streams.take_out" = true) (k6 : keepIn K (.ref f6) = true)
    (a7 : PySem.W.findIn K (.ref CS) "works" = some (some (.ref f7))) (i7 : isFn K (.ref f7) = true) (l7 : K.lookup f7 = some ⟨oc7, od7, .func (fnOf "works" "Streams.works" (aG cc) (az cc) (ag cc) .none kV7 dc7 pm7 an7 cd7 ct7), sl7⟩) (c7 : codeIn K cd7 "Streams.works" = true) (k7 : keepIn K (.ref f7) = true)
    (a8 : nsIn K mainGlobals "check_within" = some (some (.ref f8))) (l8 : K.lookup f8 = some ⟨oc8, od8, .func (fnOf "check_within" "check_within" (aG cL) (az cL) (ag cL) .none kV8 dc8 pm8 an8 cd8 ct8), sl8⟩) (c8 : codeIn K cd8 "check_within" = true) (k8 : keepIn K (.ref f8) = true)
    (a9 : nsIn K mainGlobals "check_stream" = some (some (.ref f9))) (l9 : K.lookup f9 = some ⟨oc9, od9, .func (fnOf "check_stream" "check_stream" (aG cK) (az cK) (ag cK) .none kV9 dc9 pm9 an9 cd9 ct9), sl9⟩) (c9 : codeIn K cd9 "check_stream" = true) (k9 : keepIn K (.ref f9) = true)
    (a10 : PySem.W.findIn K (.ref CS) "all_of" = some (some (.ref f10))) (i10 : isFn K (.ref f10) = true) (l10 : K.lookup f10 = some ⟨oc10, od10, .func (fnOf "all_of" "Streams.all_of" (aG bQ) (az bQ) (ag bQ) .none kV10 dc10 pm10 an10 cd10 ct10), sl10⟩) (c10 : codeIn K cd10 "Streams.all_of" = true) (k10 : keepIn K (.ref f10) = true)
    (a11 : PySem.W.findIn K (.ref CS) "check_new" = some (some (.ref f11))) (i11 : isFn K (.ref f11) = true) (l11 : K.lookup f11 = some ⟨oc11, od11, .func (fnOf "check_new" "Streams.check_new" (aG bo) (az bo) (ag bo) .none kV11 dc11 pm11 an11 cd11 ct11), sl11⟩) (c11 : codeIn K cd11 "Streams.check_new" = true) (k11 : keepIn K (.ref f11) = true)
    (a12 : nsIn K mainGlobals "heat_above" = some (some (.ref f12))) (l12 : K.lookup f12 = some ⟨oc12, od12, .func (fnOf "heat_above" "heat_above" (aG cX) (az cX) (ag cX) .none kV12 dc12 pm12 an12 cd12 ct12), sl12⟩) (c12 : codeIn K cd12 "heat_above" = true) (k12 : keepIn K (.ref f12) = true)
    (a13 : nsIn K mainGlobals "cold_bands" = some (some (.ref f13))) (l13 : K.lookup f13 = some ⟨oc13, od13, .func (fnOf "cold_bands" "cold_bands" (aG cW) (az cW) (ag cW) .none kV13 dc13 pm13 an13 cd13 ct13), sl13⟩) (c13 : codeIn K cd13 "cold_bands" = true) (k13 : keepIn K (.ref f13) = true)
    (a14 : nsIn K mainGlobals "hot_bands" = some (some (.ref f14))) (l14 : K.lookup f14 = some ⟨oc14, od14, .func (fnOf "hot_bands" "hot_bands" (aG dz) (az dz) (ag dz) .none kV14 dc14 pm14 an14 cd14 ct14), sl14⟩) (c14 : codeIn K cd14 "hot_bands" = true) (k14 : keepIn K (.ref f14) = true)
    (a15 : nsIn K mainGlobals "lack_above" = some (some (.ref f15))) (l15 : K.lookup f15 = some ⟨oc15, od15, .func (fnOf "lack_above" "lack_above" (aG dF) (az dF) (ag dF) .none kV15 dc15 pm15 an15 cd15 ct15), sl15⟩) (c15 : codeIn K cd15 "lack_above" = true) (k15 : keepIn K (.ref f15) = true)
    (a16 : nsIn K mainGlobals "lacks_above" = some (some (.ref f16))) (l16 : K.lookup f16 = some ⟨oc16, od16, .func (fnOf "lacks_above" "lacks_above" (aG cw) (az cw) (ag cw) .none kV16 dc16 pm16 an16 cd16 ct16), sl16⟩) (c16 : codeIn K cd16 "lacks_above" = true) (k16 : keepIn K (.ref f16) = true)
    (a17 : nsIn K mainGlobals "least_heat" = some (some (.ref f17))) (l17 : K.lookup f17 = some ⟨oc17, od17, .func (fnOf "least_heat" "least_heat" (aG dM) (az dM) (ag dM) .none kV17 dc17 pm17 an17 cd17 ct17), sl17⟩) (c17 : codeIn K cd17 "least_heat" = true) (k17 : keepIn K (.ref f17) = true)
    (a18 : PySem.W.findIn K (.ref CS) "change_to" = some (some (.ref f18))) (i18 : isFn K (.ref f18) = true) (l18 : K.lookup f18 = some ⟨oc18, od18, .func (fnOf "change_to" "Streams.change_to" (aG bj) (az bj) (ag bj) .none kV18 dc18 pm18 an18 cd18 ct18), sl18⟩) (c18 : codeIn K cd18 "Streams.change_to" = true) (k18 : keepIn K (.ref f18) = true)
    (a19 : PySem.W.findIn K (.ref CS) "change_with" = some (some (.ref f19))) (i19 : isFn K (.ref f19) = true) (l19 : K.lookup f19 = some ⟨oc19, od19, .func (fnOf "change_with" "Streams.change_with" (aG aU) (az aU) (ag aU) .none kV19 dc19 pm19 an19 cd19 ct19), sl19⟩) (c19 : codeIn K cd19 "Streams.change_with" = true) (k19 : keepIn K (.ref f19) = true)
    (a20 : nsIn K mainGlobals "_law_change" = some (some (.ref f20))) (l20 : K.lookup f20 = some ⟨oc20, od20, .func (fnOf "_law_change" "_law_change" (aG dG) (az dG) (ag dG) .none kV20 dc20 pm20 an20 cd20 ct20), sl20⟩) (c20 : codeIn K cd20 "_law_change" = true) (k20 : keepIn K (.ref f20) = true)
    (a21 : nsIn K mainGlobals "least_cold" = some (some (.ref f21))) (l21 : K.lookup f21 = some ⟨oc21, od21, .func (fnOf "least_cold" "least_cold" (aG dJ) (az dJ) (ag dJ) .none kV21 dc21 pm21 an21 cd21 ct21), sl21⟩) (c21 : codeIn K cd21 "least_cold" = true) (k21 : keepIn K (.ref f21) = true)
    (a22 : nsIn K mainGlobals "pinch" = some (some (.ref f22))) (l22 : K.lookup f22 = some ⟨oc22, od22, .func (fnOf "pinch" "pinch" (aG gY) (az gY) (ag gY) .none kV22 dc22 pm22 an22 cd22 ct22), sl22⟩) (c22 : codeIn K cd22 "pinch" = true) (k22 : keepIn K (.ref f22) = true)
    (a23 : PySem.W.findIn K (.ref CS) "least" = some (some (.ref f23))) (i23 : isFn K (.ref f23) = true) (l23 : K.lookup f23 = some ⟨oc23, od23, .func (fnOf "least" "Streams.least" (aG bZ) (az bZ) (ag bZ) .none kV23 dc23 pm23 an23 cd23 ct23), sl23⟩) (c23 : codeIn K cd23 "Streams.least" = true) (k23 : keepIn K (.ref f23) = true)
    (a24 : PySem.W.findIn K (.ref CS) "put_in" = some (some (.ref f24))) (i24 : isFn K (.ref f24) = true) (l24 : K.lookup f24 = some ⟨oc24, od24, .func (fnOf "put_in" "Streams.put_in" (aG bR) (az bR) (ag bR) .none kV24 dc24 pm24 an24 cd24 ct24), sl24⟩) (c24 : codeIn K cd24 "Streams.put_in" = true) (k24 : keepIn K (.ref f24) = true)
    (a25 : PySem.W.findIn K (.ref CS) "put_cold" = some (some (.ref f25))) (i25 : isFn K (.ref f25) = true) (l25 : K.lookup f25 = some ⟨oc25, od25, .func (fnOf "put_cold" "Streams.put_cold" (aG bA) (az bA) (ag bA) .none kV25 dc25 pm25 an25 cd25 ct25), sl25⟩) (c25 : codeIn K cd25 "Streams.put_cold" = true) (k25 : keepIn K (.ref f25) = true)
    (a26 : PySem.W.findIn K (.ref CS) "put_hot" = some (some (.ref f26))) (i26 : isFn K (.ref f26) = true) (l26 : K.lookup f26 = some ⟨oc26, od26, .func (fnOf "put_hot" "Streams.put_hot" (aG bG) (az bG) (ag bG) .none kV26 dc26 pm26 an26 cd26 ct26), sl26⟩) (c26 : codeIn K cd26 "Streams.put_hot" = true) (k26 : keepIn K (.ref f26) = true)
    (a27 : nsIn K mainGlobals "_law_put" = some (some (.ref f27))) (l27 : K.lookup f27 = some ⟨oc27, od27, .func (fnOf "_law_put" "_law_put" (aG fz) (az fz) (ag fz) .none kV27 dc27 pm27 an27 cd27 ct27), sl27⟩) (c27 : codeIn K cd27 "_law_put" = true) (k27 : keepIn K (.ref f27) = true)
    (a28 : nsIn K mainGlobals "_law_whole" = some (some (.ref f28))) (l28 : K.lookup f28 = some ⟨oc28, od28, .func (fnOf "_law_whole" "_law_whole" (aG d8) (az d8) (ag d8) .none kV28 dc28 pm28 an28 cd28 ct28), sl28⟩) (c28 : codeIn K cd28 "_law_whole" = true) (k28 : keepIn K (.ref f28) = true)
    (a29 : nsIn K mainGlobals "_law_with_right" = some (some (.ref f29))) (l29 : K.lookup f29 = some ⟨oc29, od29, .func (fnOf "_law_with_right" "_law_with_right" (aG bS) (az bS) (ag bS) .none kV29 dc29 pm29 an29 cd29 ct29), sl29⟩) (c29 : codeIn K cd29 "_law_with_right" = true) (k29 : keepIn K (.ref f29) = true)
    (a30 : PySem.W.findIn K (.ref CS) "change_without" = some (some (.ref f30))) (i30 : isFn K (.ref f30) = true) (l30 : K.lookup f30 = some ⟨oc30, od30, .func (fnOf "change_without" "Streams.change_without" (aG aE) (az aE) (ag aE) .none kV30 dc30 pm30 an30 cd30 ct30), sl30⟩) (c30 : codeIn K cd30 "Streams.change_without" = true) (k30 : keepIn K (.ref f30) = true)
    (a31 : nsIn K mainGlobals "_law_without_right" = some (some (.ref f31))) (l31 : K.lookup f31 = some ⟨oc31, od31, .func (fnOf "_law_without_right" "_law_without_right" (aG bp) (az bp) (ag bp) .none kV31 dc31 pm31 an31 cd31 ct31), sl31⟩) (c31 : codeIn K cd31 "_law_without_right" = true) (k31 : keepIn K (.ref f31) = true)
    (a32 : nsIn K mainGlobals "law" = some (some (.ref f32))) (l32 : K.lookup f32 = some ⟨oc32, od32, .func (fnOf "law" "law" (aG je) (az je) (ag je) .none kV32 dc32 pm32 an32 cd32 ct32), sl32⟩) (c32 : codeIn K cd32 "law" = true) (k32 : keepIn K (.ref f32) = true)
    (z1 : nsIn K mainGlobals "len" = some none)
    (z2 : nsIn K mainGlobals "min" = some none)
    (z3 : nsIn K mainGlobals "list" = some none)
    (z4 : nsIn K mainGlobals "sum" = some none)
    (z5 : nsIn K mainGlobals "max" = some none)
    (z6 : nsIn K mainGlobals "range" = some none)
    (z7 : nsIn K mainGlobals "enumerate" = some none)
    (z8 : nsIn K mainGlobals "isinstance" = some none)
    (z9 : nsIn K mainGlobals "int" = some none)
    (z10 : nsIn K mainGlobals "bool" = some none)
    (y1 : nsIn K mainGlobals "LEVELS" = some (some (.int 250 tk1)))
    (y2 : nsIn K mainGlobals "MOST_DEGREE" = some (some (.int 200 tk2)))
    (y3 : nsIn K mainGlobals "LEAST_RATE" = some (some (.int 1 tk3)))
    (y4 : nsIn K mainGlobals "MOST_RATE" = some (some (.int 1000000000 tk4)))
    (y5 : nsIn K mainGlobals "MOST_OF_A_KIND" = some (some (.int 12 tk5)))
    (ea1 : nsIn K mainGlobals "HeatError" = some (some (.ref ec1))) (eb1 : PySem.W.excIn K ec1 Bv "ValueError.__new__" = true)
    (eg1 : PySem.W.findIn K (.ref ec1) "__getattribute__" = some (some (.builtin "BaseException.__getattribute__")))
    (eh1 : PySem.W.findIn K (.ref ec1) "__getattr__" = some none)
    (ei1 : PySem.W.findIn K (.ref ec1) "__class__" = some (some (.builtin "object.__class__")))
    (ej1 : PySem.W.mroIn K ec1 (.type "object") = some true)
    (ek1 : PySem.W.mroIn K ec1 (.type "BaseException") = some true)
    (el1 : PySem.W.clsIn K ec1 = some ed1)
    (ea2 : nsIn K mainGlobals "NoMeasure" = some (some (.ref ec2))) (eb2 : PySem.W.excIn K ec2 Bv "ValueError.__new__" = true)
    (eg2 : PySem.W.findIn K (.ref ec2) "__getattribute__" = some (some (.builtin "BaseException.__getattribute__")))
    (eh2 : PySem.W.findIn K (.ref ec2) "__getattr__" = some none)
    (ei2 : PySem.W.findIn K (.ref ec2) "__class__" = some (some (.builtin "object.__class__")))
    (ej2 : PySem.W.mroIn K ec2 (.type "object") = some true)
    (ek2 : PySem.W.mroIn K ec2 (.type "BaseException") = some true)
    (el2 : PySem.W.clsIn K ec2 = some ed2)
    (ea3 : nsIn K mainGlobals "WrongWay" = some (some (.ref ec3))) (eb3 : PySem.W.excIn K ec3 Bv "ValueError.__new__" = true)
    (eg3 : PySem.W.findIn K (.ref ec3) "__getattribute__" = some (some (.builtin "BaseException.__getattribute__")))
    (eh3 : PySem.W.findIn K (.ref ec3) "__getattr__" = some none)
    (ei3 : PySem.W.findIn K (.ref ec3) "__class__" = some (some (.builtin "object.__class__")))
    (ej3 : PySem.W.mroIn K ec3 (.type "object") = some true)
    (ek3 : PySem.W.mroIn K ec3 (.type "BaseException") = some true)
    (el3 : PySem.W.clsIn K ec3 = some ed3)
    (ea4 : nsIn K mainGlobals "Full" = some (some (.ref ec4))) (eb4 : PySem.W.excIn K ec4 Bv "ValueError.__new__" = true)
    (eg4 : PySem.W.findIn K (.ref ec4) "__getattribute__" = some (some (.builtin "BaseException.__getattribute__")))
    (eh4 : PySem.W.findIn K (.ref ec4) "__getattr__" = some none)
    (ei4 : PySem.W.findIn K (.ref ec4) "__class__" = some (some (.builtin "object.__class__")))
    (ej4 : PySem.W.mroIn K ec4 (.type "object") = some true)
    (ek4 : PySem.W.mroIn K ec4 (.type "BaseException") = some true)
    (el4 : PySem.W.clsIn K ec4 = some ed4)
    (ea5 : nsIn K mainGlobals "NoStream" = some (some (.ref ec5))) (eb5 : PySem.W.excIn K ec5 Bv "ValueError.__new__" = true)
    (eg5 : PySem.W.findIn K (.ref ec5) "__getattribute__" = some (some (.builtin "BaseException.__getattribute__")))
    (eh5 : PySem.W.findIn K (.ref ec5) "__getattr__" = some none)
    (ei5 : PySem.W.findIn K (.ref ec5) "__class__" = some (some (.builtin "object.__class__")))
    (ej5 : PySem.W.mroIn K ec5 (.type "object") = some true)
    (ek5 : PySem.W.mroIn K ec5 (.type "BaseException") = some true)
    (el5 : PySem.W.clsIn K ec5 = some ed5)
    (em1 : PySem.W.specialIn K (.builtin "object.__class__") "__get__" = some (some (.builtin "getset_descriptor.__get__"))) (em2 : PySem.W.takesIn K (.builtin "object.__class__") = some true)
    (ef1 : kitOne K (.ref ec2) (.ref ec1) = some true)
    (ef2 : PySem.W.exmOne K (.ref ec2) (.ref ec1) = some true)
    (ef3 : kitOne K (.ref ec2) (.ref ec2) = some true)
    (ef4 : PySem.W.exmOne K (.ref ec2) (.ref ec2) = some true)
    (ef5 : kitOne K (.ref ec2) (.ref ec3) = some false)
    (ef6 : PySem.W.exmOne K (.ref ec2) (.ref ec3) = some false)
    (ef7 : kitOne K (.ref ec2) (.ref ec4) = some false)
    (ef8 : PySem.W.exmOne K (.ref ec2) (.ref ec4) = some false)
    (ef9 : kitOne K (.ref ec2) (.ref ec5) = some false)
    (ef10 : PySem.W.exmOne K (.ref ec2) (.ref ec5) = some false)
    (ef11 : kitOne K (.ref ec2) (.type "ValueError") = some true)
    (ef12 : kitOne K (.ref ec3) (.ref ec1) = some true)
    (ef13 : PySem.W.exmOne K (.ref ec3) (.ref ec1) = some true)
    (ef14 : kitOne K (.ref ec3) (.ref ec2) = some false)
    (ef15 : PySem.W.exmOne K (.ref ec3) (.ref ec2) = some false)
    (ef16 : kitOne K (.ref ec3) (.ref ec3) = some true)
    (ef17 : PySem.W.exmOne K (.ref ec3) (.ref ec3) = some true)
    (ef18 : kitOne K (.ref ec3) (.ref ec4) = some false)
    (ef19 : PySem.W.exmOne K (.ref ec3) (.ref ec4) = some false)
    (ef20 : kitOne K (.ref ec3) (.ref ec5) = some false)
    (ef21 : PySem.W.exmOne K (.ref ec3) (.ref ec5) = some false)
    (ef22 : kitOne K (.ref ec3) (.type "ValueError") = some true)
    (ef23 : kitOne K (.ref ec4) (.ref ec1) = some true)
    (ef24 : PySem.W.exmOne K (.ref ec4) (.ref ec1) = some true)
    (ef25 : kitOne K (.ref ec4) (.ref ec2) = some false)
    (ef26 : PySem.W.exmOne K (.ref ec4) (.ref ec2) = some false)
    (ef27 : kitOne K (.ref ec4) (.ref ec3) = some false)
    (ef28 : PySem.W.exmOne K (.ref ec4) (.ref ec3) = some false)
    (ef29 : kitOne K (.ref ec4) (.ref ec4) = some true)
    (ef30 : PySem.W.exmOne K (.ref ec4) (.ref ec4) = some true)
    (ef31 : kitOne K (.ref ec4) (.ref ec5) = some false)
    (ef32 : PySem.W.exmOne K (.ref ec4) (.ref ec5) = some false)
    (ef33 : kitOne K (.ref ec4) (.type "ValueError") = some true)
    (ef34 : kitOne K (.ref ec5) (.ref ec1) = some true)
    (ef35 : PySem.W.exmOne K (.ref ec5) (.ref ec1) = some true)
    (ef36 : kitOne K (.ref ec5) (.ref ec2) = some false)
    (ef37 : PySem.W.exmOne K (.ref ec5) (.ref ec2) = some false)
    (ef38 : kitOne K (.ref ec5) (.ref ec3) = some false)
    (ef39 : PySem.W.exmOne K (.ref ec5) (.ref ec3) = some false)
    (ef40 : kitOne K (.ref ec5) (.ref ec4) = some false)
    (ef41 : PySem.W.exmOne K (.ref ec5) (.ref ec4) = some false)
    (ef42 : kitOne K (.ref ec5) (.ref ec5) = some true)
    (ef43 : PySem.W.exmOne K (.ref ec5) (.ref ec5) = some true)
    (ef44 : kitOne K (.ref ec5) (.type "ValueError") = some true)
    (qn1 : PySem.W.findIn K (.ref CS) "gap" = some none)
    (qn2 : PySem.W.findIn K (.ref CS) "hots" = some none)
    (qn3 : PySem.W.findIn K (.ref CS) "colds" = some none)
    (qn4 : PySem.W.findIn K (.ref CS) "spent" = some none)
    : ∃ fd : FuncData, (∀ (s : Shared) (v : Value), BindsTo s fd ⟨[v], []⟩ [("script", v)]) /\ ∀ base : Heap, K.In base -> base.Ns mainGlobals mg -> aM l.prog w K mg base gM 9 fa fd ["script"] (xV K) := by
  have e := hfa.symm.trans (mg_of X G a32);cases e;have F1 := aV (st := dg) l1 c1 k1;have b1 := F1.binds (ps := ["script", "k"]) λ_ _ _ _ _ _ => dX λ_ _ => rfl;have F2 := aV (st := bz) l2 c2 k2;have b2 := F2.binds (ps := ["self", "gap"]) λ_ _ _ _ _ _ => dX λ_ _ => rfl;have F3 := aV (st := eP) l3 c3 k3;have b3 := F3.binds (ps := ["cell", "k"]) λ_ _ _ _ _ _ => dX λ_ _ => rfl;have F4 := aV (st := dH) l4 c4 k4;have b4 := F4.binds (ps := ["cell", "base"]) λ_ _ _ _ _ _ => dX λ_ _ => rfl;have F5 := aV (st := bF) l5 c5 k5;have b5 := F5.binds (ps := ["self", "number"]) λ_ _ _ _ _ _ => dX λ_ _ => rfl;have F6 := aV (st := bB) l6 c6 k6;have b6 := F6.binds (ps := ["self", "number"]) λ_ _ _ _ _ _ => dX λ_ _ => rfl;have F7 := aV (st := cc) l7 c7 k7;have b7 := F7.binds (ps := ["self"]) λ_ _ _ _ _ _ => eR λ_ => rfl;have F8 := aV (st := cL) l8 c8 k8;have b8 := F8.binds (ps := ["number", "least", "most"]) λ_ _ _ _ _ _ => jQ λ_ _ _ => rfl;have F9 := aV (st := cK) l9 c9 k9;have b9 := F9.binds (ps := ["kind", "stream"]) λ_ _ _ _ _ _ => dX λ_ _ => rfl;have F10 := aV (st := bQ) l10 c10 k10;have b10 := F10.binds (ps := ["self", "kind"]) λ_ _ _ _ _ _ => dX λ_ _ => rfl;have F11 := aV (st := bo) l11 c11 k11;have b11 := F11.binds (ps := ["self", "kind", "stream"]) λ_ _ _ _ _ _ => jQ λ_ _ _ => rfl;have F12 := aV (st := cX) l12 c12 k12;have b12 := F12.binds (ps := ["bands", "level"]) λ_ _ _ _ _ _ => dX λ_ _ => rfl;have F13 := aV (st := cW) l13 c13 k13;have b13 := F13.binds (ps := ["works"]) λ_ _ _ _ _ _ => eR λ_ => rfl;have F14 := aV (st := dz) l14 c14 k14;have b14 := F14.binds (ps := ["works"]) λ_ _ _ _ _ _ => eR λ_ => rfl;have F15 := aV (st := dF) l15 c15 k15;have b15 := F15.binds (ps := ["works", "level"]) λ_ _ _ _ _ _ => dX λ_ _ => rfl;have F16 := aV (st := cw) l16 c16 k16;have b16 := F16.binds (ps := ["works"]) λ_ _ _ _ _ _ => eR λ_ => rfl;have F17 := aV (st := dM) l17 c17 k17;have b17 := F17.binds (ps := ["works"]) λ_ _ _ _ _ _ => eR λ_ => rfl;have F18 := aV (st := bj) l18 c18 k18;have b18 := F18.binds (ps := ["self", "works"]) λ_ _ _ _ _ _ => dX λ_ _ => rfl;have F19 := aV (st := aU) l19 c19 k19;have b19 := F19.binds (ps := ["self", "kind", "start", "goal", "rate"]) λ_ _ _ _ _ _ => uu λ_ _ _ _ _ => rfl;have F20 := aV (st := dG) l20 c20 k20;have b20 := F20.binds (ps := ["streams", "kind", "one"]) λ_ _ _ _ _ _ => jQ λ_ _ _ => rfl;have F21 := aV (st := dJ) l21 c21 k21;have b21 := F21.binds (ps := ["works"]) λ_ _ _ _ _ _ => eR λ_ => rfl;have F22 := aV (st := gY) l22 c22 k22;have b22 := F22.binds (ps := ["works"]) λ_ _ _ _ _ _ => eR λ_ => rfl;have F23 := aV (st := bZ) l23 c23 k23;have b23 := F23.binds (ps := ["self"]) λ_ _ _ _ _ _ => eR λ_ => rfl;have F24 := aV (st := bR) l24 c24 k24;have b24 := F24.binds (ps := ["self", "kind", "stream"]) λ_ _ _ _ _ _ => jQ λ_ _ _ => rfl;have F25 := aV (st := bA) l25 c25 k25;have b25 := F25.binds (ps := ["self", "start", "goal", "rate"]) λ_ _ _ _ _ _ => ur λ_ _ _ _ => rfl;have F26 := aV (st := bG) l26 c26 k26;have b26 := F26.binds (ps := ["self", "start", "goal", "rate"]) λ_ _ _ _ _ _ => ur λ_ _ _ _ => rfl;have F27 := aV (st := fz) l27 c27 k27;have b27 := F27.binds (ps := ["streams", "kind", "one"]) λ_ _ _ _ _ _ => jQ λ_ _ _ => rfl;have F28 := aV (st := d8) l28 c28 k28;have b28 := F28.binds (ps := ["found"]) λ_ _ _ _ _ _ => eR λ_ => rfl;have F29 := aV (st := bS) l29 c29 k29;have b29 := F29.binds (ps := ["streams", "rows", "kind", "one", "last", "early"]) λ_ _ _ _ _ _ => yW λ_ _ _ _ _ _ => rfl;have F30 := aV (st := aE) l30 c30 k30;have b30 := F30.binds (ps := ["self", "number"]) λ_ _ _ _ _ _ => dX λ_ _ => rfl;have F31 := aV (st := bp) l31 c31 k31;have b31 := F31.binds (ps := ["streams", "rows", "spots", "last", "early"]) λ_ _ _ _ _ _ => uu λ_ _ _ _ _ => rfl;have F32 := aV (st := je) l32 c32 k32;have b32 := F32.binds (ps := ["script"]) λ_ _ _ _ _ _ => eR λ_ => rfl;have T : iV mg := ⟨mg_none_of X G z1, mg_none_of X G z2, mg_none_of X G z3, mg_none_of X G z4, mg_none_of X G z5, mg_none_of X G z6, mg_none_of X G z7, mg_none_of X G z8, mg_none_of X G z9, mg_none_of X G z10, ⟨_, mg_of X G y1⟩, ⟨_, mg_of X G y2⟩, ⟨_, mg_of X G y3⟩, ⟨_, mg_of X G y4⟩, ⟨_, mg_of X G y5⟩⟩
  have TX : dR K mg ⟨ec1, ec2, ec3, ec4, ec5⟩ := ⟨⟨eb1, mg_of X G ea1, ⟨eg1, eh1, ei1, em1, em2, ej1, ek1, by rw [el1];rfl⟩⟩, ⟨eb2, mg_of X G ea2, ⟨eg2, eh2, ei2, em1, em2, ej2, ek2, by rw [el2];rfl⟩⟩, ⟨eb3, mg_of X G ea3, ⟨eg3, eh3, ei3, em1, em2, ej3, ek3, by rw [el3];rfl⟩⟩, ⟨eb4, mg_of X G ea4, ⟨eg4, eh4, ei4, em1, em2, ej4, ek4, by rw [el4];rfl⟩⟩, ⟨eb5, mg_of X G ea5, ⟨eg5, eh5, ei5, em1, em2, ej5, ek5, by rw [el5];rfl⟩⟩, ef1, ef2, ef3, ef4, ef5, ef6, ef7, ef8, ef9, ef10, ef11, ef12, ef13, ef14, ef15, ef16, ef17, ef18, ef19, ef20, ef21, ef22, ef23, ef24, ef25, ef26, ef27, ef28, ef29, ef30, ef31, ef32, ef33, ef34, ef35, ef36, ef37, ef38, ef39, ef40, ef41, ef42, ef43, ef44⟩
  have TC : dQ K mg CS := ⟨⟨qpg, qhd, qpo, qsa⟩, qn1, qn2, qn3, qn4, mg_of X G qC⟩
  have O1 := λbase : Heap => mq (P := l.prog) (w := w) (base := base) T TX TC  F1;have O2 := λbase : Heap => i0 (P := l.prog) (w := w) (base := base) T TX TC  F2;have O3 := λbase : Heap => rh (P := l.prog) (w := w) (base := base) T TX TC  F3;have O4 := λbase : Heap => m8 (P := l.prog) (w := w) (base := base) T TX TC (cN F3 (mg_of X G a3) b3 (O3 base)) F4;have O5 := λbase : Heap => jq (P := l.prog) (w := w) (base := base) T TX TC  F5;have O6 := λbase : Heap => i4 (P := l.prog) (w := w) (base := base) T TX TC (O5 base) ⟨a5, i5, k5⟩ b5 F6;have O7 := λbase : Heap => kl (P := l.prog) (w := w) (base := base) T TX TC  F7;have O8 := λbase : Heap => kX (P := l.prog) (w := w) (base := base) T TX TC  F8;have O9 := λbase : Heap => kW (P := l.prog) (w := w) (base := base) T TX TC (wM F8 (mg_of X G a8) b8 (O8 base)) F9;have O10 := λbase : Heap => jR (P := l.prog) (w := w) (base := base) T TX TC  F10;have O11 := λbase : Heap => iz (P := l.prog) (w := w) (base := base) T TX TC (wM F9 (mg_of X G a9) b9 (O9 base)) (O10 base) ⟨a10, i10, k10⟩ b10 F11;have O12 := λbase : Heap => m5 (P := l.prog) (w := w) (base := base) T TX TC  F12;have O13 := λbase : Heap => mZ (P := l.prog) (w := w) (base := base) T TX TC  F13;have O14 := λbase : Heap => pq (P := l.prog) (w := w) (base := base) T TX TC  F14;have O15 := λbase : Heap => m6 (P := l.prog) (w := w) (base := base) T TX TC (cN F12 (mg_of X G a12) b12 (O12 base)) (cN F13 (mg_of X G a13) b13 (O13 base)) (cN F14 (mg_of X G a14) b14 (O14 base)) F15;have O16 := λbase : Heap => mn (P := l.prog) (w := w) (base := base) T TX TC (cN F15 (mg_of X G a15) b15 (O15 base)) F16;have O17 := λbase : Heap => ni (P := l.prog) (w := w) (base := base) T TX TC (cN F16 (mg_of X G a16) b16 (O16 base)) F17;have O18 := λbase : Heap => iy (P := l.prog) (w := w) (base := base) T TX TC (cN F17 (mg_of X G a17) b17 (O17 base)) (jc (O7 base) ⟨a7, i7, k7⟩ b7) F18;have O19 := λbase : Heap => gU (P := l.prog) (w := w) (base := base) T TX TC (ml (O11 base) ⟨a11, i11, k11⟩ b11) (jc (O7 base) ⟨a7, i7, k7⟩ b7) (jc (O18 base) ⟨a18, i18, k18⟩ b18) F19;have O20 := λbase : Heap => m7 (P := l.prog) (w := w) (base := base) T TX TC (ml (O19 base) ⟨a19, i19, k19⟩ b19) F20;have O21 := λbase : Heap => m9 (P := l.prog) (w := w) (base := base) T TX TC (cN F17 (mg_of X G a17) b17 (O17 base)) (cN F15 (mg_of X G a15) b15 (O15 base)) F21;have O22 := λbase : Heap => xr (P := l.prog) (w := w) (base := base) T TX TC (cN F17 (mg_of X G a17) b17 (O17 base)) (cN F16 (mg_of X G a16) b16 (O16 base)) F22;have O23 := λbase : Heap => kj (P := l.prog) (w := w) (base := base) T TX TC (jc (O7 base) ⟨a7, i7, k7⟩ b7) (cN F17 (mg_of X G a17) b17 (O17 base)) (cN F21 (mg_of X G a21) b21 (O21 base)) (cN F22 (mg_of X G a22) b22 (O22 base)) F23;have O24 := λbase : Heap => jS (P := l.prog) (w := w) (base := base) T TX TC (ml (O11 base) ⟨a11, i11, k11⟩ b11) (O10 base) ⟨a10, i10, k10⟩ b10 F24;have O25 := λbase : Heap => i3 (P := l.prog) (w := w) (base := base) T TX TC (O24 base) ⟨a24, i24, k24⟩ b24 F25;have O26 := λbase : Heap => jr (P := l.prog) (w := w) (base := base) T TX TC (O24 base) ⟨a24, i24, k24⟩ b24 F26;have O27 := λbase : Heap => sL (P := l.prog) (w := w) (base := base) T TX TC (O25 base) ⟨a25, i25, k25⟩ b25 (O26 base) ⟨a26, i26, k26⟩ b26 F27;have O28 := λbase : Heap => pz (P := l.prog) (w := w) (base := base) T TX TC  F28;have O29 := λbase : Heap => jT (P := l.prog) (w := w) (base := base) T TX TC (jc (O7 base) ⟨a7, i7, k7⟩ b7) (cN F20 (mg_of X G a20) b20 (O20 base)) (jc (O23 base) ⟨a23, i23, k23⟩ b23) (cN F27 (mg_of X G a27) b27 (O27 base)) (cN F28 (mg_of X G a28) b28 (O28 base)) F29;have O30 := λbase : Heap => fM (P := l.prog) (w := w) (base := base) T TX TC (O5 base) ⟨a5, i5, k5⟩ b5 (jc (O18 base) ⟨a18, i18, k18⟩ b18) F30;have O31 := λbase : Heap => iA (P := l.prog) (w := w) (base := base) T TX TC (jc (O7 base) ⟨a7, i7, k7⟩ b7) (ml (O30 base) ⟨a30, i30, k30⟩ b30) (jc (O23 base) ⟨a23, i23, k23⟩ b23) (O6 base) ⟨a6, i6, k6⟩ b6 (cN F20 (mg_of X G a20) b20 (O20 base)) (cN F27 (mg_of X G a27) b27 (O27 base)) (cN F28 (mg_of X G a28) b28 (O28 base)) F31;exact ⟨fnOf "law" "law" (aG je) (az je) (ag je) .none kV32 dc32 pm32 an32 cd32 ct32, λs v => .of_eq rfl, λbase _ _ => AJ (AQ T TX TC (cN F1 (mg_of X G a1) b1 (O1 base)) (O2 base) ⟨a2, i2, k2⟩ b2 ⟨qmk, a2, i2, qkc⟩ (cN F3 (mg_of X G a3) b3 (O3 base)) (cN F4 (mg_of X G a4) b4 (O4 base)) (O6 base) ⟨a6, i6, k6⟩ b6 (cN F29 (mg_of X G a29) b29 (O29 base)) (cN F31 (mg_of X G a31) b31 (O31 base)) (cN F27 (mg_of X G a27) b27 (O27 base)) F32)⟩
end WS
open PySem PySem.W PyProof.Rows
set_option maxRecDepth 100000 in
set_option maxHeartbeats 0 in
theorem PySem.Challenge.cw_warmshare_k32_changes_told_holds : PySem.Challenge.rw_warmshare_k32_changes_told.Holds := by
  w_on;o_law;z_head;(case hw => w_witness2)
  k_fill
  refine L2.Bw (L2.x8 (l := PySem.Challenge.rw_warmshare_k32_changes_told) (n := 63) (k := 9) (x := "script") (CX := L2.gM) (sp := DL.xV) rfl (by decide) rfl ⟨rfl, by decide, by decide, rfl⟩ (λw h Y => Y) ?F (λ_ _ a ns hl _ hS => ⟨a, ns, rfl, hS, hl, λ_ => rfl⟩) λ_ _ _ _ z => z) (λw s y => (PySem.W.X.z_facts (λ_ => by kernel_rfl) y).2.1) λw h h' x k => Frag.In.keeps x k
  case F =>
    intro w mg fa h KX G hmg
    refine' WS.all_mk KX G hmg ?qC ?qpg ?qhd ?qpo ?qsa ?qmk ?qkc ?a1 ?l1 ?c1 ?k1 ?a2 ?i2 ?l2 ?c2 ?k2 ?a3 ?l3 ?c3 ?k3 ?a4 ?l4 ?c4 ?k4 ?a5 ?i5 ?l5 ?c5 ?k5 ?a6 ?i6 ?l6 ?c6 ?k6 ?a7 ?i7 ?l7 ?c7 ?k7 ?a8 ?l8 ?c8 ?k8 ?a9 ?l9 ?c9 ?k9 ?a10 ?i10 ?l10 ?c10 ?k10 ?a11 ?i11 ?l11 ?c11 ?k11 ?a12 ?l12 ?c12 ?k12 ?a13 ?l13 ?c13 ?k13 ?a14 ?l14 ?c14 ?k14 ?a15 ?l15 ?c15 ?k15 ?a16 ?l16 ?c16 ?k16 ?a17 ?l17 ?c17 ?k17 ?a18 ?i18 ?l18 ?c18 ?k18 ?a19 ?i19 ?l19 ?c19 ?k19 ?a20 ?l20 ?c20 ?k20 ?a21 ?l21 ?c21 ?k21 ?a22 ?l22 ?c22 ?k22 ?a23 ?i23 ?l23 ?c23 ?k23 ?a24 ?i24 ?l24 ?c24 ?k24 ?a25 ?i25 ?l25 ?c25 ?k25 ?a26 ?i26 ?l26 ?c26 ?k26 ?a27 ?l27 ?c27 ?k27 ?a28 ?l28 ?c28 ?k28 ?a29 ?l29 ?c29 ?k29 ?a30 ?i30 ?l30 ?c30 ?k30 ?a31 ?l31 ?c31 ?k31 ?a32 ?l32 ?c32 ?k32 ?z1 ?z2 ?z3 ?z4 ?z5 ?z6 ?z7 ?z8 ?z9 ?z10 ?y1 ?y2 ?y3 ?y4 ?y5 ?ea1 ?eb1 ?eg1 ?eh1 ?ei1 ?ej1 ?ek1 ?el1 ?ea2 ?eb2 ?eg2 ?eh2 ?ei2 ?ej2 ?ek2 ?el2 ?ea3 ?eb3 ?eg3 ?eh3 ?ei3 ?ej3 ?ek3 ?el3 ?ea4 ?eb4 ?eg4 ?eh4 ?ei4 ?ej4 ?ek4 ?el4 ?ea5 ?eb5 ?eg5 ?eh5 ?ei5 ?ej5 ?ek5 ?el5 ?em1 ?em2 ?ef1 ?ef2 ?ef3 ?ef4 ?ef5 ?ef6 ?ef7 ?ef8 ?ef9 ?ef10 ?ef11 ?ef12 ?ef13 ?ef14 ?ef15 ?ef16 ?ef17 ?ef18 ?ef19 ?ef20 ?ef21 ?ef22 ?ef23 ?ef24 ?ef25 ?ef26 ?ef27 ?ef28 ?ef29 ?ef30 ?ef31 ?ef32 ?ef33 ?ef34 ?ef35 ?ef36 ?ef37 ?ef38 ?ef39 ?ef40 ?ef41 ?ef42 ?ef43 ?ef44 ?qn1 ?qn2 ?qn3 ?qn4
    (case qC => k_is)
    (case qpg => k_is)
    (case qhd => k_is)
    (case qpo => k_is)
    (case qsa => k_is)
    (case qmk => k_is)
    (case qkc => k_is)
    (case a1 => k_is)
    (case l1 => k_is)
    (case c1 => k_is)
    (case k1 => k_is)
    (case a2 => k_is)
    (case i2 => k_is)
    (case l2 => k_is)
    (case c2 => k_is)
    (case k2 => k_is)
    (case a3 => k_is)
    (case l3 => k_is)
    (case c3 => k_is)
    (case k3 => k_is)
    (case a4 => k_is)
    (case l4 => k_is)
    (case c4 => k_is)
    (case k4 => k_is)
    (case a5 => k_is)
    (case i5 => k_is)
    (case l5 => k_is)
    (case c5 => k_is)
    (case k5 => k_is)
    (case a6 => k_is)
    (case i6 => k_is)
    (case l6 => k_is)
    (case c6 => k_is)
    (case k6 => k_is)
    (case a7 => k_is)
    (case i7 => k_is)
    (case l7 => k_is)
    (case c7 => k_is)
    (case k7 => k_is)
    (case a8 => k_is)
    (case l8 => k_is)
    (case c8 => k_is)
    (case k8 => k_is)
    (case a9 => k_is)
    (case l9 => k_is)
    (case c9 => k_is)
    (case k9 => k_is)
    (case a10 => k_is)
    (case i10 => k_is)
    (case l10 => k_is)
    (case c10 => k_is)
    (case k10 => k_is)
    (case a11 => k_is)
    (case i11 => k_is)
    (case l11 => k_is)
    (case c11 => k_is)
    (case k11 => k_is)
    (case a12 => k_is)
    (case l12 => k_is)
    (case c12 => k_is)
    (case k12 => k_is)
    (case a13 => k_is)
    (case l13 => k_is)
    (case c13 => k_is)
    (case k13 => k_is)
    (case a14 => k_is)
    (case l14 => k_is)
    (case c14 => k_is)
    (case k14 => k_is)
    (case a15 => k_is)
    (case l15 => k_is)
    (case c15 => k_is)
    (case k15 => k_is)
    (case a16 => k_is)
    (case l16 => k_is)
    (case c16 => k_is)
    (case k16 => k_is)
    (case a17 => k_is)
    (case l17 => k_is)
    (case c17 => k_is)
    (case k17 => k_is)
    (case a18 => k_is)
    (case i18 => k_is)
    (case l18 => k_is)
    (case c18 => k_is)
    (case k18 => k_is)
    (case a19 => k_is)
    (case i19 => k_is)
    (case l19 => k_is)
    (case c19 => k_is)
    (case k19 => k_is)
    (case a20 => k_is)
    (case l20 => k_is)
    (case c20 => k_is)
    (case k20 => k_is)
    (case a21 => k_is)
    (case l21 => k_is)
    (case c21 => k_is)
    (case k21 => k_is)
    (case a22 => k_is)
    (case l22 => k_is)
    (case c22 => k_is)
    (case k22 => k_is)
    (case a23 => k_is)
    (case i23 => k_is)
    (case l23 => k_is)
    (case c23 => k_is)
    (case k23 => k_is)
    (case a24 => k_is)
    (case i24 => k_is)
    (case l24 => k_is)
    (case c24 => k_is)
    (case k24 => k_is)
    (case a25 => k_is)
    (case i25 => k_is)
    (case l25 => k_is)
    (case c25 => k_is)
    (case k25 => k_is)
    (case a26 => k_is)
    (case i26 => k_is)
    (case l26 => k_is)
    (case c26 => k_is)
    (case k26 => k_is)
    (case a27 => k_is)
    (case l27 => k_is)
    (case c27 => k_is)
    (case k27 => k_is)
    (case a28 => k_is)
    (case l28 => k_is)
    (case c28 => k_is)
    (case k28 => k_is)
    (case a29 => k_is)
    (case l29 => k_is)
    (case c29 => k_is)
    (case k29 => k_is)
    (case a30 => k_is)
    (case i30 => k_is)
    (case l30 => k_is)
    (case c30 => k_is)
    (case k30 => k_is)
    (case a31 => k_is)
    (case l31 => k_is)
    (case c31 => k_is)
    (case k31 => k_is)
    (case a32 => k_is)
    (case l32 => k_is)
    (case c32 => k_is)
    (case k32 => k_is)
    (case z1 => k_is)
    (case z2 => k_is)
    (case z3 => k_is)
    (case z4 => k_is)
    (case z5 => k_is)
    (case z6 => k_is)
    (case z7 => k_is)
    (case z8 => k_is)
    (case z9 => k_is)
    (case z10 => k_is)
    (case y1 => k_is)
    (case y2 => k_is)
    (case y3 => k_is)
    (case y4 => k_is)
    (case y5 => k_is)
    (case ea1 => k_is)
    (case eb1 => k_exc)
    (case eg1 => k_is)
    (case eh1 => k_is)
    (case ei1 => k_is)
    (case ej1 => k_is)
    (case ek1 => k_is)
    (case el1 => k_is)
    (case ea2 => k_is)
    (case eb2 => k_exc)
    (case eg2 => k_is)
    (case eh2 => k_is)
    (case ei2 => k_is)
    (case ej2 => k_is)
    (case ek2 => k_is)
    (case el2 => k_is)
    (case ea3 => k_is)
    (case eb3 => k_exc)
    (case eg3 => k_is)
    (case eh3 => k_is)
    (case ei3 => k_is)
    (case ej3 => k_is)
    (case ek3 => k_is)
    (case el3 => k_is)
    (case ea4 => k_is)
    (case eb4 => k_exc)
    (case eg4 => k_is)
    (case eh4 => k_is)
    (case ei4 => k_is)
    (case ej4 => k_is)
    (case ek4 => k_is)
    (case el4 => k_is)
    (case ea5 => k_is)
    (case eb5 => k_exc)
    (case eg5 => k_is)
    (case eh5 => k_is)
    (case ei5 => k_is)
    (case ej5 => k_is)
    (case ek5 => k_is)
    (case el5 => k_is)
    (case em1 => k_is)
    (case em2 => k_is)
    (case ef1 => kit_is)
    (case ef2 => kts_exm)
    (case ef3 => kit_is)
    (case ef4 => kts_exm)
    (case ef5 => kit_is)
    (case ef6 => kts_exm)
    (case ef7 => kit_is)
    (case ef8 => kts_exm)
    (case ef9 => kit_is)
    (case ef10 => kts_exm)
    (case ef11 => kit_is)
    (case ef12 => kit_is)
    (case ef13 => kts_exm)
    (case ef14 => kit_is)
    (case ef15 => kts_exm)
    (case ef16 => kit_is)
    (case ef17 => kts_exm)
    (case ef18 => kit_is)
    (case ef19 => kts_exm)
    (case ef20 => kit_is)
    (case ef21 => kts_exm)
    (case ef22 => kit_is)
    (case ef23 => kit_is)
    (case ef24 => kts_exm)
    (case ef25 => kit_is)
    (case ef26 => kts_exm)
    (case ef27 => kit_is)
    (case ef28 => kts_exm)
    (case ef29 => kit_is)
    (case ef30 => kts_exm)
    (case ef31 => kit_is)
    (case ef32 => kts_exm)
    (case ef33 => kit_is)
    (case ef34 => kit_is)
    (case ef35 => kts_exm)
    (case ef36 => kit_is)
    (case ef37 => kts_exm)
    (case ef38 => kit_is)
    (case ef39 => kts_exm)
    (case ef40 => kit_is)
    (case ef41 => kts_exm)
    (case ef42 => kit_is)
    (case ef43 => kts_exm)
    (case ef44 => kit_is)
    (case qn1 => k_is)
    (case qn2 => k_is)
    (case qn3 => k_is)
    (case qn4 => k_is)
#print axioms PySem.Challenge.cw_warmshare_k32_changes_told_holds
