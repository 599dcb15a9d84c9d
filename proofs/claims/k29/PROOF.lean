import PyProof.Rows.All
import Wide.All
import OpenK.AllK
import Wide.FinOn
import Lean
import PyProof.EqAt
import PyProof.EqKinds
import PyProof.TupleCall
import KE.KTryMore
import PySem.Challenge.RW_warmshare_k29_streams_put_and_taken
set_option maxHeartbeats 4000000
set_option bootstrap.genMatcherCode false
set_option tactic.hygienic false
set_option genSizeOfSpec false
noncomputable section
set_option Elab.async false
set_option linter.all false
set_option maxRecDepth 100000
namespace L2
open PySem PySem.Spec PyProof.Rows
abbrev Key := Sum Int Str
def keyIs : Key → Value → Bool
  | .inl k, v => Value.isInt k v
  | .inr x, v => Value.isStrOf x v
def keyH (w : World) : Key → Int
  | .inl k => hashInt k
  | .inr x => hashStr w x
theorem keyIs_shape : ∀ {k : Key} {v : Value}, keyIs k v = true → (∃ i t, k = Sum.inl i ∧ v = Value.int i t) ∨ (∃ x t, k = Sum.inr x ∧ v = Value.str x t)
  | .inl i, v, h => by
    obtain ⟨t, e⟩ := Value.isInt_shape (k := i) (v := v) h
    exact .inl ⟨i, t, rfl, e⟩
  | .inr x, v, h => by
    obtain ⟨t, e⟩ := Value.isStrOf_shape (x := x) (v := v) h
    exact .inr ⟨x, t, rfl, e⟩
theorem keyIs_int (i : Int) (t : Tok) : keyIs (.inl i) (.int i t) = true := by simp [keyIs, Value.isInt]
theorem keyIs_str (x : Str) (t : Tok) : keyIs (.inr x) (.str x t) = true := by simp [keyIs, Value.isStrOf]
theorem key_ll (a b : Int) : decide ((Sum.inl a : Key) = Sum.inl b) = (a == b) := by
  by_cases e : a = b
  · subst e; simp
  · have h : ¬ (Sum.inl a : Key) = Sum.inl b := fun q => e (Sum.inl.inj q)
    rw [decide_eq_false h]
    exact (beq_eq_false_iff_ne.mpr e).symm
theorem key_rr (a b : Str) : decide ((Sum.inr a : Key) = Sum.inr b) = decide (a = b) := by
  by_cases e : a = b
  · subst e; simp
  · have h : ¬ (Sum.inr a : Key) = Sum.inr b := fun q => e (Sum.inr.inj q)
    rw [decide_eq_false h, decide_eq_false e]
theorem key_lr (a : Int) (b : Str) : decide ((Sum.inl a : Key) = Sum.inr b) = false := decide_eq_false (fun q => nomatch q)
theorem key_rl (a : Str) (b : Int) : decide ((Sum.inr a : Key) = Sum.inl b) = false := decide_eq_false (fun q => nomatch q)
def mixKind (prog : Program) (w : World) : PySem.KeyKind prog w Key where
  is := keyIs
  hash := keyH w
  inj := fun v a b ha hb => by
    rcases keyIs_shape ha with ⟨i, t, rfl, rfl⟩ | ⟨x, t, rfl, rfl⟩
    · rcases keyIs_shape hb with ⟨j, u, rfl, e⟩ | ⟨y, u, rfl, e⟩
      · injection e with e1 _; rw [e1]
      · exact nomatch e
    · rcases keyIs_shape hb with ⟨j, u, rfl, e⟩ | ⟨y, u, rfl, e⟩
      · exact nomatch e
      · injection e with e1 _; rw [e1]
  byValue := fun k v h => by
    rcases keyIs_shape h with ⟨i, t, rfl, rfl⟩ | ⟨x, t, rfl, rfl⟩ <;> rfl
  pyHash := fun hv h => by
    rcases keyIs_shape hv with ⟨i, t, rfl, rfl⟩ | ⟨x, t, rfl, rfl⟩
    · exact wpAny_pyHash_int h
    · exact wpAny_pyHash_str h
  eqBool := fun hu hv h => by
    rcases keyIs_shape hu with ⟨i, t, rfl, rfl⟩ | ⟨x, t, rfl, rfl⟩
    · rcases keyIs_shape hv with ⟨j, u, rfl, rfl⟩ | ⟨y, u, rfl, rfl⟩
      · rw [key_ll] at h; exact wpAny_eqBool_int h
      · rw [key_lr] at h; exact SeqAt.EqAt.int_str i t y u _ _ _ _ h
    · rcases keyIs_shape hv with ⟨j, u, rfl, rfl⟩ | ⟨y, u, rfl, rfl⟩
      · rw [key_rl] at h; exact SeqAt.EqAt.str_int x t j u _ _ _ _ h
      · rw [key_rr] at h; exact wpAny_eqBool_str h
  «strs» := fun k x t v h => by
    rcases keyIs_shape h with ⟨i, u, rfl, e⟩ | ⟨y, u, rfl, e⟩
    · exact nomatch e
    · injection e with e1 _
      subst e1
      cases v <;> rfl
theorem mixKind_int (prog : Program) (w : World) (i : Int) (t : Tok) : (mixKind prog w).is (.inl i) (.int i t) = true := keyIs_int i t
theorem mixKind_str (prog : Program) (w : World) (x : Str) (t : Tok) : (mixKind prog w).is (.inr x) (.str x t) = true := keyIs_str x t
end L2
namespace L2
open PySem PySem.Spec PyProof.Rows
inductive V where
  | non | bl (b : Bool) | int (i : Int) | str (x : Str) | byt (b : Array UInt8) | flt (b : UInt64) | ref (a : Addr) | ty (n : String)
  deriving DecidableEq
def RelV : V → Value → Prop
  | .non, u => u = Value.none
  | .bl b, u => u = Value.bool b
  | .int i, u => ∃ t, u = Value.int i t
  | .str x, u => ∃ t, u = Value.str x t
  | .byt b, u => ∃ t, u = Value.bytes b t
  | .flt b, u => ∃ t, u = Value.float b t
  | .ref a, u => u = Value.ref a
  | .ty n, u => u = Value.type n
abbrev Vals : List V → List Value → Prop := Paired RelV
theorem Vals.length {xs : List V} {us : List Value} (r : Vals xs us) : xs.length = us.length := Paired.length r
theorem Vals.get : ∀ {xs : List V} {us : List Value} {i : Nat} {x : V}, Vals xs us → xs[i]? = some x → ∃ u, us[i]? = some u ∧ RelV x u
  | _, _, _, _, .nil, e => by simp at e
  | _, _, 0, _, .cons r _, e => by simp at e; subst e; exact ⟨_, rfl, r⟩
  | _, _, i + 1, x, .cons _ t, e => by
    obtain ⟨u, h1, h2⟩ := Vals.get (i := i) (x := x) t (by simpa using e)
    exact ⟨u, by simpa using h1, h2⟩
theorem Vals.set {x : V} {u : Value} (r : RelV x u) : ∀ {xs : List V} {us : List Value} (i : Nat), Vals xs us → Vals (xs.set i x) (us.set i u)
  | _, _, _, .nil => .nil
  | _, _, 0, .cons _ t => .cons r t
  | _, _, i + 1, .cons q t => .cons q (Vals.set r i t)
theorem Vals.append : ∀ {xs ys : List V} {us ws : List Value}, Vals xs us → Vals ys ws → Vals (xs ++ ys) (us ++ ws)
  | _, _, _, _, .nil, s => s
  | _, _, _, _, .cons r t, s => .cons r (Vals.append t s)
theorem Vals.take : ∀ {xs : List V} {us : List Value} (n : Nat), Vals xs us → Vals (xs.take n) (us.take n)
  | _, _, 0, _ => .nil
  | _, _, _ + 1, .nil => .nil
  | _, _, n + 1, .cons r t => .cons r (Vals.take n t)
theorem Vals.drop : ∀ {xs : List V} {us : List Value} (n : Nat), Vals xs us → Vals (xs.drop n) (us.drop n)
  | _, _, 0, r => r
  | _, _, _ + 1, .nil => .nil
  | _, _, n + 1, .cons _ t => Vals.drop n t
def RelO : Option V → Option Value → Prop
  | some v, some u => RelV v u
  | none, none => True
  | _, _ => False
def KV {κ : Type} : List (κ × V) → List (κ × Value) → Prop := Paired fun (p : κ × V) (q : κ × Value) => p.1 = q.1 ∧ RelV p.2 q.2
def kV : Key → V
  | .inl i => .int i
  | .inr x => .str x
inductive HO where
  | lst (xs : List V)
  | tup (xs : List V)
  | dK (kvs : List (Key × V)) | dT (kvs : List (List Key × V))
  | set (S : Int → Bool) (n : Nat)
  | ins (C dx : Addr) (fs : List (Str × V))
  | own (x : Addr)
  | xd (fs : List (Str × V))
  | met (f x : Addr)
  | rng (lo hi : Int)
  | frz (o : Obj) (u : HO)
  | tbl (ps : Array Value)
  | ext (φ : Heap → Prop)
abbrev Hp := Addr → Option HO
def upd (H : Hp) (a : Addr) (o : HO) : Hp := fun b => if b = a then some o else H b
theorem upd_same {H : Hp} {a : Addr} {o : HO} : upd H a o a = some o := by unfold upd; rw [if_pos rfl]
theorem upd_ne {H : Hp} {a b : Addr} {o : HO} (h : b ≠ a) : upd H a o b = H b := by unfold upd; rw [if_neg h]
theorem ne_of {H : Hp} {a b : Addr} {o u : HO} (h : H a = some o) (h' : H b = some u) (d : o ≠ u) : a ≠ b := by
  intro e; subst e; rw [h] at h'; exact d (Option.some.inj h')
theorem ne_of_none {H : Hp} {a b : Addr} {o : HO} (h : H a = some o) (h' : H b = none) : a ≠ b := by
  intro e; subst e; rw [h] at h'; cases h'
section
variable (P : Program) (w : World)
def ObjOk (H : Hp) (h : Heap) (a : Addr) : HO → Prop
  | .lst xs => xs.length ≤ sizeLine ∧ ∃ (its : List Value) (n : Nat), Vals xs its ∧ h.get? a = some { cls := .type "list", data := .seq its.toArray n }
  | .tup xs => xs.length ≤ sizeLine ∧ ∃ its : List Value, Vals xs its ∧ IsTup h a its.toArray
  | .dK kvs => kvs.length ≤ sizeLine ∧ (a == sysModules) = false ∧ ∃ vs, KV kvs vs ∧ h.DictOf (mixKind P w) a vs
  | .dT kvs => kvs.length ≤ sizeLine ∧ (a == sysModules) = false ∧ ∃ xs : List (List Key × Addr × Value),
      Paired (fun (p : List Key × V) (q : List Key × Addr × Value) => p.1 = q.1 ∧ H q.2.1 = some (.tup (p.1.map kV)) ∧ RelV p.2 q.2.2) kvs xs ∧
      ∃ o es ep, h.get? a = some o ∧ o.ExactDict ∧ o.data = .dict es ep ∧ es.toList = xs.map (entryOfKey (tupleKind (mixKind P w))) ∧ (xs.map (·.1)).Nodup
  | .set S n => h.SetOf (intKind P w) a S n
  | .ins C dx fs => H dx = some (.own a) ∧ fs.length ≤ 1000 ∧ dx ≠ a ∧ h.get? a = some (PySem.W.instObj C dx) ∧
      ∃ mA, h.Ns1 dx mA ∧ (∀ f, RelO (fs.lookup f) (mA f)) ∧ PySem.Within mA (fs.map (·.1))
  | .own _ => ∃ o, h.get? a = some o
  | .xd fs => ∃ mA, h.Ns1 a mA ∧ ∀ f, RelO (fs.lookup f) (mA f)
  | .rng lo hi => ∃ t u v, h.get? a = some { cls := .type "range", data := .fields #[.int lo t, .int hi u, .int 1 v] }
  | .frz o u => h.get? a = some o ∧ ObjOk H h a u
  | .tbl ps => h.get? a = some { cls := .none, data := .fields ps }
  | .met f x => h.get? a = some (PySem.W.methodObj (.ref f) (.ref x))
  | .ext φ => φ h ∧ (∃ o, h.get? a = some o) ∧ ∀ h1 h2 : Heap, φ h1 → (∀ o, h1.get? a = some o → h2.get? a = some o) → φ h2
def HOk (H : Hp) (h : Heap) : Prop := ∀ a o, H a = some o → ObjOk P w H h a o
end
section
variable {P : Program} {w : World} {H H' : Hp} {h h' : Heap} {a : Addr} {o : HO}
theorem ObjOk.lt (x : ObjOk P w H h a o) : a < h.objs.size := by
  cases o with
  | lst xs => obtain ⟨_, _, _, _, e⟩ := x; exact Heap.lt_size e
  | tup xs => obtain ⟨_, _, _, p⟩ := x; exact p.lt
  | dK kvs => obtain ⟨_, _, _, _, o, _, _, e, _⟩ := x; exact Heap.lt_size e
  | dT kvs => obtain ⟨_, _, _, _, o, _, _, e, _⟩ := x; exact Heap.lt_size e
  | set S n => obtain ⟨o, _, _, _, e, _⟩ := x; exact Heap.lt_size e
  | ins C dx fs => obtain ⟨_, _, _, e, _⟩ := x; exact Heap.lt_size e
  | own y => obtain ⟨_, e⟩ := x; exact Heap.lt_size e
  | xd fs => obtain ⟨_, ⟨_, _, _, e, _⟩, _⟩ := x; exact Heap.lt_size e
  | rng lo hi => obtain ⟨_, _, _, e⟩ := x; exact Heap.lt_size e
  | frz ob u => obtain ⟨e, _⟩ := x; exact Heap.lt_size e
  | tbl ps => exact Heap.lt_size (show h.get? a = some _ from x)
  | met f y => exact Heap.lt_size (show h.get? a = some _ from x)
  | ext φ => obtain ⟨_, ⟨_, e⟩, _⟩ := x; exact Heap.lt_size e
theorem Paired.mapP {α β : Type} {F G : α → β → Prop} : ∀ {l₁ : List α} {l₂ : List β}, Paired F l₁ l₂ → (∀ a b, F a b → G a b) → Paired G l₁ l₂
  | _, _, .nil, _ => .nil
  | _, _, .cons r t, f => .cons (f _ _ r) (Paired.mapP t f)
theorem Paired.imp' {α β : Type} {F G : α → β → Prop} (f : ∀ a b, F a b → G a b) {l₁ : List α} {l₂ : List β} (r : Paired F l₁ l₂) : Paired G l₁ l₂ := Paired.mapP r f
theorem ObjOk.stay (x : ObjOk P w H h a o) (k : ∀ b u, (b = a ∨ H b = some (.own a)) → h.get? b = some u → h'.get? b = some u)
    (ho : ∀ b, H b = some (.own a) → H' b = some (.own a)) (ht : ∀ b xs, H b = some (.tup xs) → H' b = some (.tup xs)) : ObjOk P w H' h' a o := by
  induction o with
  | lst xs => obtain ⟨z, its, n, r, e⟩ := x; exact ⟨z, its, n, r, k _ _ (.inl rfl) e⟩
  | tup xs => obtain ⟨z, its, r, ob, e, c⟩ := x; exact ⟨z, its, r, ob, k _ _ (.inl rfl) e, c⟩
  | dK kvs => obtain ⟨z, y, vs, r, ob, es, ep, e, c⟩ := x; exact ⟨z, y, vs, r, ob, es, ep, k _ _ (.inl rfl) e, c⟩
  | dT kvs =>
    obtain ⟨z, y, xs, r, ob, es, ep, e, c⟩ := x
    exact ⟨z, y, xs, Paired.mapP r fun p q z => ⟨z.1, ht _ _ z.2.1, z.2.2⟩, ob, es, ep, k _ _ (.inl rfl) e, c⟩
  | set S n => obtain ⟨ob, es, ep, t, e, c⟩ := x; exact ⟨ob, es, ep, t, k _ _ (.inl rfl) e, c⟩
  | ins C dx fs =>
    obtain ⟨d, z, ne, e, mA, ⟨od, es, ep, e2, c⟩, r⟩ := x
    exact ⟨ho _ d, z, ne, k _ _ (.inl rfl) e, mA, ⟨od, es, ep, k _ _ (.inr d) e2, c⟩, r⟩
  | own y => obtain ⟨ob, e⟩ := x; exact ⟨ob, k _ _ (.inl rfl) e⟩
  | xd fs => obtain ⟨mA, ⟨od, es, ep, e, c⟩, r⟩ := x; exact ⟨mA, ⟨od, es, ep, k _ _ (.inl rfl) e, c⟩, r⟩
  | rng lo hi => obtain ⟨t, u, v, e⟩ := x; exact ⟨t, u, v, k _ _ (.inl rfl) e⟩
  | frz ob u ih => obtain ⟨e, q⟩ := x; exact ⟨k _ _ (.inl rfl) e, ih q⟩
  | tbl ps =>
    have e : h.get? a = some { cls := .none, data := .fields ps } := x
    show h'.get? a = some { cls := .none, data := .fields ps }
    exact k a _ (.inl rfl) e
  | met f y =>
    have e : h.get? a = some (PySem.W.methodObj (.ref f) (.ref y)) := x
    show h'.get? a = some (PySem.W.methodObj (.ref f) (.ref y))
    exact k a _ (.inl rfl) e
  | ext φ => obtain ⟨p, ⟨o, e⟩, st⟩ := x; exact ⟨st _ _ p fun o q => k _ _ (.inl rfl) q, ⟨o, k _ _ (.inl rfl) e⟩, st⟩
theorem HOk.lt (x : HOk P w H h) (e : H a = some o) : a < h.objs.size := (x a o e).lt
theorem HOk.fresh (x : HOk P w H h) (e : h.objs.size ≤ a) : H a = none := by
  cases q : H a with
  | none => rfl
  | some u => exact absurd (Nat.lt_of_lt_of_le (x.lt q) e) (Nat.lt_irrefl _)
theorem HOk.kept (x : HOk P w H h) (k : ∀ b u, h.get? b = some u → h'.get? b = some u) : HOk P w H h' := fun a o e =>
  (x a o e).stay (fun b u _ q => k b u q) (fun _ q => q) fun _ _ q => q
theorem HOk.laid (x : HOk P w H h) (k : ∀ b u, h.get? b = some u → h'.get? b = some u) (hp : h.objs.size ≤ a) (new : ObjOk P w (upd H a o) h' a o) : HOk P w (upd H a o) h' := fun b u e => by
  have hn := x.fresh hp
  by_cases hb : b = a
  · subst hb; rw [upd_same] at e; cases e; exact new
  · rw [upd_ne hb] at e
    exact (x b u e).stay (fun c v _ q => k c v q) (fun c q => by rw [upd_ne (ne_of_none q hn)]; exact q) fun c xs q => by rw [upd_ne (ne_of_none q hn)]; exact q
end
def Rd (H : Hp) (a : Addr) (u : HO) : Prop := H a = some u ∨ ∃ o, H a = some (.frz o u)
theorem Rd.of {H : Hp} {a : Addr} {u : HO} (h : H a = some u) : Rd H a u := .inl h
theorem Rd.ok {P : Program} {w : World} {H : Hp} {h : Heap} {a : Addr} {u : HO} (r : Rd H a u) (x : HOk P w H h) : ObjOk P w H h a u := by
  rcases r with r | ⟨o, r⟩
  · exact x a u r
  · obtain ⟨_, q⟩ := x a _ r
    exact q
def Mut : Option HO → Prop
  | some (.lst _) => True
  | some (.dK _) => True
  | some (.dT _) => True
  | some (.set _ _) => True
  | some (.ins _ _ _) => True
  | some (.ext _) => True
  | _ => False
section
variable {P : Program} {w : World} {H : Hp} {h h' : Heap} {x e : Addr} {o' : HO}
theorem HOk.write (ok : HOk P w H h) (mu : Mut (H x)) (he : e = x ∨ H e = some (.own x)) (k : ∀ b u, b ≠ e → h.get? b = some u → h'.get? b = some u) (heo : ∃ u, h'.get? e = some u)
    (new : ObjOk P w (upd H x o') h' x o') : HOk P w (upd H x o') h' := fun b u q => by
  have nown : ∀ c y, H c = some (.own y) → c ≠ x := fun c y r z => by subst z; rw [r] at mu; exact mu
  have ntup : ∀ c xs, H c = some (.tup xs) → c ≠ x := fun c xs r z => by subst z; rw [r] at mu; exact mu
  by_cases hb : b = x
  · subst hb; rw [upd_same] at q; cases q; exact new
  · rw [upd_ne hb] at q
    by_cases hbe : b = e
    · have q' : H b = some (.own x) := by
        rcases he with z | z
        · exact absurd (hbe.trans z) hb
        · rw [hbe]; exact z
      rw [q] at q'; cases q'
      obtain ⟨v, hv⟩ := heo
      exact ⟨v, by rw [hbe]; exact hv⟩
    · refine (ok b u q).stay (fun c v hc r => k c v ?_ r) (fun c r => by rw [upd_ne (nown c b r)]; exact r) fun c xs r => by rw [upd_ne (ntup c xs r)]; exact r
      rcases hc with rfl | hc
      · exact hbe
      · rintro rfl
        rcases he with z | z
        · exact nown c b hc z
        · rw [hc] at z; cases z; exact hb rfl
end
structure Un (fs ex : List Addr) (H H' : Hp) (h h' : Heap) : Prop where
  keep : ∀ b o, h.get? b = some o → H b = none → b ∉ fs → b ∉ ex → h'.get? b = some o
  slot : ∀ b o, h.get? b = some o → H b = none → b ∈ fs → b ∉ ex → ∃ sl, h'.get? b = some { o with slots := sl }
  free : ∀ b o, h.get? b = some o → H b = none → b ∉ ex → H' b = none
  there : ∀ b o, h.get? b = some o → b ∉ ex → ∃ o', h'.get? b = some o'
  tups : ∀ b xs, H b = some (.tup xs) → H' b = some (.tup xs)
  frzs : ∀ b o u, H b = some (.frz o u) → H' b = some (.frz o u)
  tbls : ∀ b ps, H b = some (.tbl ps) → ∃ more, H' b = some (.tbl (ps ++ more))
section
variable {fs fs' ex ex' : List Addr} {H H1 H2 : Hp} {h h1 h2 h' : Heap} {a x e : Addr} {o : HO}
theorem Un.any (u : Un fs ex H H1 h h1) {b : Addr} {ob : Obj} (q : h.get? b = some ob) (n : H b = none) (hx : b ∉ ex) : ∃ sl, h1.get? b = some { ob with slots := sl } := by
  by_cases hb : b ∈ fs
  · exact u.slot b ob q n hb hx
  · exact ⟨ob.slots, u.keep b ob q n hb hx⟩
theorem Un.trans (a : Un fs ex H H1 h h1) (b : Un fs ex H1 H2 h1 h2) : Un fs ex H H2 h h2 where
  keep := fun c ob q n hc hx => b.keep c ob (a.keep c ob q n hc hx) (a.free c ob q n hx) hc hx
  slot := fun c ob q n hc hx => by
    obtain ⟨sl, e1⟩ := a.slot c ob q n hc hx
    obtain ⟨sl', e2⟩ := b.slot c _ e1 (a.free c ob q n hx) hc hx
    exact ⟨sl', e2⟩
  free := fun c ob q n hx => by
    obtain ⟨o', e1⟩ := a.there c ob q hx
    exact b.free c o' e1 (a.free c ob q n hx) hx
  there := fun c ob q hx => by
    obtain ⟨o', e1⟩ := a.there c ob q hx
    exact b.there c o' e1 hx
  tups := fun c xs q => b.tups c xs (a.tups c xs q)
  frzs := fun c ob xs q => b.frzs c ob xs (a.frzs c ob xs q)
  tbls := fun c ps q => by
    obtain ⟨m1, e1⟩ := a.tbls c ps q
    obtain ⟨m2, e2⟩ := b.tbls c _ e1
    exact ⟨m1 ++ m2, by rw [e2, Array.append_assoc]⟩
theorem Un.kept (k : ∀ b u, h.get? b = some u → h'.get? b = some u) : Un fs ex H H h h' :=
  ⟨fun b ob q _ _ _ => k b ob q, fun b ob q _ _ _ => ⟨ob.slots, k b ob q⟩, fun _ _ _ n _ => n, fun b ob q _ => ⟨ob, k b ob q⟩, fun _ _ q => q, fun _ _ _ q => q, fun _ ps q => ⟨#[], by rw [q]; simp⟩⟩
theorem Un.refl : Un fs ex H H h h := Un.kept fun _ _ q => q
theorem Un.laid (k : ∀ b u, h.get? b = some u → h'.get? b = some u) (hp : h.objs.size ≤ a) (hn : H a = none) : Un fs ex H (upd H a o) h h' where
  keep := fun b u q _ _ _ => k b u q
  slot := fun b u q _ _ _ => ⟨u.slots, k b u q⟩
  free := fun b u q n _ => by rw [upd_ne (Nat.ne_of_lt (Nat.lt_of_lt_of_le (Heap.lt_size q) hp))]; exact n
  there := fun b u q _ => ⟨u, k b u q⟩
  tups := fun b xs q => by rw [upd_ne (ne_of_none q hn)]; exact q
  frzs := fun b u xs q => by rw [upd_ne (ne_of_none q hn)]; exact q
  tbls := fun b ps q => ⟨#[], by rw [upd_ne (ne_of_none q hn), q]; simp⟩
theorem Un.write (mu : Mut (H x)) (he : e = x ∨ H e = some (.own x)) (k : ∀ b u, b ≠ e → h.get? b = some u → h'.get? b = some u) (heo : ∃ u, h'.get? e = some u) : Un fs ex H (upd H x o) h h' := by
  have hx : ∀ b, H b = none → b ≠ x := fun b n z => by subst z; rw [n] at mu; exact mu
  have hb : ∀ b, H b = none → b ≠ e := fun b n z => by
    subst z
    rcases he with r | r
    · exact hx b n r
    · rw [n] at r; cases r
  have hm : ∀ b u, H b = some u → ¬ Mut (some u) → b ≠ x := fun b u q nm z => by subst z; rw [q] at mu; exact nm mu
  refine ⟨fun b u q n _ _ => k b u (hb b n) q, fun b u q n _ _ => ⟨u.slots, k b u (hb b n) q⟩, fun b u q n _ => by rw [upd_ne (hx b n)]; exact n, fun b u q _ => ?_,
    fun b xs q => by rw [upd_ne (hm b _ q fun z => z)]; exact q, fun b u xs q => by rw [upd_ne (hm b _ q fun z => z)]; exact q, fun b ps q => ⟨#[], by rw [upd_ne (hm b _ q fun z => z), q]; simp⟩⟩
  by_cases hbe : b = e
  · subst hbe; exact heo
  · exact ⟨u, k b u hbe q⟩
theorem Un.mono (u : Un fs ex H H1 h h1) (hs : ∀ b ∈ fs, b ∈ fs') (hx : ∀ b ∈ ex, b ∈ ex') : Un fs' ex' H H1 h h1 :=
  ⟨fun b ob q n hb he => u.keep b ob q n (fun z => hb (hs b z)) fun z => he (hx b z), fun _ _ q n _ he => u.any q n fun z => he (hx _ z), fun b ob q n he => u.free b ob q n fun z => he (hx b z), fun b ob q he => u.there b ob q fun z => he (hx b z), u.tups, u.frzs, u.tbls⟩
end
def trk (h : Heap) (H : Hp) : List Addr := (List.range h.objs.size).filter fun a => (H a).isSome
def hidT (h : Heap) (H : Hp) : Heap := PySem.W.hideAll h (trk h H)
theorem hidT_size (h : Heap) (H : Hp) : (hidT h H).objs.size = h.objs.size := PySem.W.hideAll_size _ _
theorem hidT_get {h : Heap} {H : Hp} {b : Addr} {o : Obj} (e : h.get? b = some o) (n : H b = none) : (hidT h H).get? b = some o :=
  PySem.W.hideAll_get _ e fun hm => by
    have q : (H b).isSome = true := (List.mem_filter.mp hm).2
    rw [n] at q; simp at q
theorem of_hidT {h : Heap} {H : Hp} {b : Addr} {o : Obj} (e : (hidT h H).get? b = some o) : h.get? b = some o ∧ H b = none := by
  have e' : h.get? b = some o := PySem.W.of_hideAll (trk h H) e
  refine ⟨e', ?_⟩
  cases q : H b with
  | none => rfl
  | some x =>
    have hm : b ∈ trk h H := List.mem_filter.mpr ⟨List.mem_range.mpr (Heap.lt_size e'), by simp [q]⟩
    have z : (hidT h H).get? b = none := PySem.W.hideAll_none (trk h H) hm
    rw [z] at e; cases e
def allNews (g h : Heap) (L : Addr) : List (Addr × Obj) := (List.range h.objs.size).filterMap fun a => if a = L ∨ (g.get? a).isSome = true then none else (h.get? a).map fun o => (a, o)
def rest (g h : Heap) (L d : Addr) : List (Addr × Obj) := (allNews g h L).filter fun p => decide (p.1 ≠ d)
end L2
namespace L2
open PySem PySem.Spec PyProof.Rows
structure Mod (K : PySem.W.Frag) (mg : Str → Option Value) (base : Heap) : Prop where
  kin : K.In base
  glob : base.Ns mainGlobals mg
  blt : ∃ mb, base.Ns builtinsNs mb ∧ ∀ x : Str, x ≠ "__name__" → mb x = bootBuiltins x
  nolimit : base.NoLimit
structure Cx where
  prog : Program
  w : World
  K : PySem.W.Frag
  mg : Str → Option Value
  base : Heap
  A : Around
  N : List Str
  s₀ : Shared
  H₀ : Hp
  env : Env
  outer : List Env
  stack : List Env
  ex : List Addr
  fn : Str → Bool
  calm : Bool
  pn : List (Addr × Obj)
  xe : Value → Shared → Prop
def frs (l : List Env) : List Addr := l.filterMap (·.frame)
abbrev Cx.fs (X : Cx) : List Addr := frs X.outer
def Vis (sc : Scope) (x : Str) : Prop := sc.names.lookup x = some .local ∨ sc.names.lookup x = some .cell ∨ sc.names.lookup x = some .free
def Loc (sc : Scope) (x : Str) : Prop := sc.names.lookup x = some .local ∨ sc.names.lookup x = some .cell
def Look (env : Env) (h : Heap) (m : Str → Option Value) (x : Str) (u : Value) : Prop :=
  (env.kindOf x = some .local ∧ m x = some u) ∨ ((env.kindOf x = some .cell ∨ env.kindOf x = some .free) ∧ ∃ c, env.cells.lookup x = some c ∧ h.IsCell c (some u))
structure Cx.Ok (X : Cx) : Prop where
  mod : Mod X.K X.mg X.base
  kind : X.env.scope.kind = .function
  glob : X.env.globals = mainGlobals
  blt : X.env.builtins = builtinsNs
  above : X.s₀.heap.objs.size ≤ X.env.locals
  inj : ∀ x y c, X.env.cells.lookup x = some c → X.env.cells.lookup y = some c → x = y
  has : ∀ x, (X.env.kindOf x = some .cell ∨ X.env.kindOf x = some .free) → ∃ c, X.env.cells.lookup x = some c
  cab : ∀ x c, X.fn x = true → X.env.cells.lookup x = some c → X.s₀.heap.objs.size ≤ c
  hd : X.calm = true → X.A.handled = none
  frames : X.A.frames = some X.stack
  stk : X.stack = X.outer ∨ (X.stack = X.env :: X.outer ∧ X.env.frame = some X.env.locals)
  exf : ∀ b ∈ X.ex, b ≠ X.env.locals ∧ ∀ x c, X.env.cells.lookup x = some c → c ≠ b
  bs : ∀ b o, X.base.get? b = some o → X.s₀.heap.get? b = some o ∧ X.H₀ b = none
  bsz : X.base.objs.size ≤ X.s₀.heap.objs.size
  noex : ∀ b o, X.base.get? b = some o → b ∉ X.ex
  exfs : ∀ b ∈ X.ex, b ∉ X.fs
  funs : X.s₀.heap.FunFrames X.base X.outer
  frf : ∀ b ∈ X.fs, X.H₀ b = none
structure Inv (X : Cx) (pins : List (Addr × Obj)) (σ : List (Option V)) (H : Hp) (s : Shared) : Prop where
  ok : X.Ok
  os : s.os = X.s₀.os
  bare : AllBare s.gens
  base : Un X.fs X.ex X.H₀ H X.s₀.heap s.heap
  loc : ∃ m, s.heap.Ns X.env.locals m ∧ ∀ (i : Nat) (x : Str) (v : V), X.N[i]? = some x → σ[i]? = some (some v) → Vis X.env.scope x → ∃ u, RelV v u ∧ Look X.env s.heap m x u
  cell : ∀ x c, X.env.cells.lookup x = some c → ∃ v, s.heap.IsCell c v
  free : H X.env.locals = none
  freeC : ∀ x c, X.env.cells.lookup x = some c → H c = none
  pin : ∀ p ∈ X.pn ++ pins, s.heap.get? p.1 = some p.2 ∧ H p.1 = none ∧ p.1 ≠ X.env.locals ∧ p.1 ∉ X.fs ∧ ∀ v, p.2.data ≠ .cell v
  hok : HOk X.prog X.w H s.heap
  len : σ.length = X.N.length
section
variable {X : Cx} {pins : List (Addr × Obj)} {σ : List (Option V)} {H H' : Hp} {s : Shared} {h' : Heap}
theorem Cx.Ok.nofr (ok : X.Ok) {b : Addr} {o : Obj} (e : X.base.get? b = some o) : b ∉ X.fs := fun hb => by
  have := (ok.funs.mem hb).1
  rw [e] at this; cases this
theorem Inv.bs (I : Inv X pins σ H s) : ∀ b o, X.base.get? b = some o → s.heap.get? b = some o ∧ H b = none := fun b o e =>
  ⟨I.base.keep b o (I.ok.bs b o e).1 (I.ok.bs b o e).2 (I.ok.nofr e) (I.ok.noex b o e), I.base.free b o (I.ok.bs b o e).1 (I.ok.bs b o e).2 (I.ok.noex b o e)⟩
theorem Inv.bk (I : Inv X pins σ H s) : ∀ b o, X.base.get? b = some o → s.heap.get? b = some o := fun b o e => (I.bs b o e).1
theorem Inv.mod (I : Inv X pins σ H s) : Mod X.K X.mg X.base := I.ok.mod
theorem Inv.kIn (I : Inv X pins σ H s) : X.K.In s.heap := I.ok.mod.kin.keeps I.bk
theorem Inv.lt (I : Inv X pins σ H s) : X.env.locals < s.heap.objs.size := let ⟨_, hn, _⟩ := I.loc; hn.lt
theorem Inv.sz (I : Inv X pins σ H s) : X.s₀.heap.objs.size ≤ s.heap.objs.size := Nat.le_trans I.ok.above (Nat.le_of_lt I.lt)
theorem Inv.nofs (I : Inv X pins σ H s) {a : Addr} (h : s.heap.objs.size ≤ a) : a ∉ X.fs := fun hb => by
  obtain ⟨_, o, ho, _⟩ := I.ok.funs.mem hb
  exact absurd (Nat.lt_of_lt_of_le (Heap.lt_size ho) (Nat.le_trans I.sz h)) (Nat.lt_irrefl _)
theorem Inv.cne (I : Inv X pins σ H s) : ∀ x c, X.env.cells.lookup x = some c → c ≠ X.env.locals := fun x c e z => by
  obtain ⟨v, o, ho, hd⟩ := I.cell x c e
  obtain ⟨m, ⟨o', es, ep, ho', hd', _⟩, _⟩ := I.loc
  rw [z, ho'] at ho; cases ho; rw [hd'] at hd; cases hd
theorem Inv.funs (I : Inv X pins σ H s) : s.heap.FunFrames X.base X.outer := by
  have all : ∀ (l : List Env), (∀ b ∈ frs l, b ∈ X.fs) → X.s₀.heap.FunFrames X.base l → s.heap.FunFrames X.base l := by
    intro l
    induction l with
    | nil => intro _ _; trivial
    | cons env r ih =>
      intro hs hl
      obtain ⟨hk, ⟨L, o, hf, hn, ho, hd⟩, hr⟩ := hl
      have hL : L ∈ X.fs := hs L (by unfold frs; rw [List.filterMap_cons, hf]; exact List.mem_cons_self)
      obtain ⟨sl, e⟩ := I.base.slot L o ho (I.ok.frf L hL) hL fun z => I.ok.exfs L z hL
      exact ⟨hk, ⟨L, _, hf, hn, e, hd⟩, ih (fun b hb => hs b (by unfold frs; rw [List.filterMap_cons, hf]; exact List.mem_cons_of_mem _ hb)) hr⟩
  exact all X.outer (fun _ hb => hb) I.ok.funs
theorem Inv.stack (I : Inv X pins σ H s) : s.heap.FunFrames X.base X.stack := by
  rcases I.ok.stk with e | ⟨e, hf⟩
  · rw [e]; exact I.funs
  · rw [e]
    obtain ⟨m, hn, _⟩ := I.loc
    refine .cons (by rw [I.ok.kind]; decide) hf hn ?_ I.funs
    exact Heap.get?_none_of_le (Nat.le_trans I.ok.bsz I.ok.above)
theorem Inv.stkSub (I : Inv X pins σ H s) : ∀ b ∈ frs X.stack, b ∈ X.env.locals :: X.fs := fun b hb => by
  rcases I.ok.stk with e | ⟨e, hf⟩
  · rw [e] at hb; exact List.mem_cons_of_mem _ hb
  · rw [e] at hb
    unfold frs at hb
    rw [List.filterMap_cons, hf] at hb
    exact hb
theorem Inv.stkFree (I : Inv X pins σ H s) : ∀ b ∈ frs X.stack, H b = none := fun b hb => by
  rcases List.mem_cons.mp (I.stkSub b hb) with e | hb
  · rw [e]; exact I.free
  · obtain ⟨_, o, ho, _⟩ := I.ok.funs.mem hb
    exact I.base.free b o ho (I.ok.frf b hb) fun z => I.ok.exfs b z hb
theorem Inv.step {g' : Array GenState} {t' : Nat} {d' : Drawn} {ch : List Addr} (I : Inv X pins σ H s)
    (hch : ∀ b ∈ ch, (b ∈ X.ex ∨ X.s₀.heap.objs.size ≤ b) ∧ b ≠ X.env.locals ∧ (∀ x c, X.env.cells.lookup x = some c → c ≠ b) ∧ ∀ p ∈ X.pn ++ pins, p.1 ≠ b)
    (keep : ∀ b o, b ≠ X.env.locals → b ∉ X.fs → b ∉ ch → s.heap.get? b = some o → H b = none → h'.get? b = some o)
    (slot : ∀ b o, b ≠ X.env.locals → b ∈ X.fs → b ∉ ch → s.heap.get? b = some o → H b = none → ∃ sl, h'.get? b = some { o with slots := sl }) (free : ∀ b o, b ∉ ch → s.heap.get? b = some o → H b = none → H' b = none)
    (there : ∀ b o, b ∉ ch → s.heap.get? b = some o → ∃ o', h'.get? b = some o')
    (tups : ∀ b xs, H b = some (.tup xs) → H' b = some (.tup xs)) (frzs : ∀ b o u, H b = some (.frz o u) → H' b = some (.frz o u)) (tbls : ∀ b ps, H b = some (.tbl ps) → ∃ more, H' b = some (.tbl (ps ++ more)))
    (ns : ∀ m, s.heap.Ns X.env.locals m → h'.Ns X.env.locals m) (hok : HOk X.prog X.w H' h') (hg : AllBare g') :
    Inv X pins σ H' { s with heap := h', gens := g', drawn := d', toks := t' } := by
  have neL : ∀ b o, X.s₀.heap.get? b = some o → b ≠ X.env.locals := fun b o e => Nat.ne_of_lt (Nat.lt_of_lt_of_le (Heap.lt_size e) I.ok.above)
  have neC : ∀ b o, X.s₀.heap.get? b = some o → b ∉ X.ex → b ∉ ch := fun b o e hx hb => by
    rcases (hch b hb).1 with z | z
    · exact hx z
    · exact absurd (Nat.lt_of_lt_of_le (Heap.lt_size e) z) (Nat.lt_irrefl _)
  have cellK : ∀ x c, X.env.cells.lookup x = some c → ∀ v, s.heap.IsCell c v → h'.IsCell c v := by
    rintro x c e v ⟨o, ho, hd⟩
    have nch : c ∉ ch := fun z => (hch c z).2.2.1 x c e rfl
    by_cases hc : c ∈ X.fs
    · obtain ⟨sl, q⟩ := slot c o (I.cne x c e) hc nch ho (I.freeC x c e)
      exact ⟨_, q, hd⟩
    · exact ⟨o, keep c o (I.cne x c e) hc nch ho (I.freeC x c e), hd⟩
  refine ⟨I.ok, I.os, hg, ⟨fun b o e n hb hx => ?_, fun b o e n hb hx => ?_, fun b o e n hx => ?_, fun b o e hx => ?_, fun b xs e => tups b xs (I.base.tups b xs e), fun b o xs e => frzs b o xs (I.base.frzs b o xs e), fun b ps e => ?_⟩, ?_, fun x c e => ?_, ?_, fun x c e => ?_, fun p hp => ?_, hok, I.len⟩
  · exact keep b o (neL b o e) hb (neC b o e hx) (I.base.keep b o e n hb hx) (I.base.free b o e n hx)
  · obtain ⟨sl, e1⟩ := I.base.slot b o e n hb hx
    obtain ⟨sl', e2⟩ := slot b _ (neL b o e) hb (neC b o e hx) e1 (I.base.free b o e n hx)
    exact ⟨sl', e2⟩
  · obtain ⟨o', e1⟩ := I.base.there b o e hx
    exact free b o' (neC b o e hx) e1 (I.base.free b o e n hx)
  · obtain ⟨o', e1⟩ := I.base.there b o e hx
    exact there b o' (neC b o e hx) e1
  · obtain ⟨m1, e1⟩ := I.base.tbls b ps e
    obtain ⟨m2, e2⟩ := tbls b _ e1
    exact ⟨m1 ++ m2, by rw [e2, Array.append_assoc]⟩
  · obtain ⟨m, hn, hl⟩ := I.loc
    refine ⟨m, ns m hn, fun i x v e1 e2 e3 => ?_⟩
    obtain ⟨u, r, l⟩ := hl i x v e1 e2 e3
    refine ⟨u, r, ?_⟩
    rcases l with l | ⟨k, c, e, z⟩
    · exact .inl l
    · exact .inr ⟨k, c, e, cellK x c e _ z⟩
  · obtain ⟨v, z⟩ := I.cell x c e
    exact ⟨v, cellK x c e v z⟩
  · obtain ⟨m, ⟨o, _, _, ho, _⟩, _⟩ := I.loc
    exact free _ o (fun z => (hch _ z).2.1 rfl) ho I.free
  · obtain ⟨v, o, ho, hd⟩ := I.cell x c e
    exact free c o (fun z => (hch c z).2.2.1 x c e rfl) ho (I.freeC x c e)
  · obtain ⟨e, n, ne, nf, d⟩ := I.pin p hp
    have nch : p.1 ∉ ch := fun z => (hch p.1 z).2.2.2 p hp rfl
    exact ⟨keep p.1 p.2 ne nf nch e n, free p.1 p.2 nch e n, ne, nf, d⟩
theorem Inv.un {t' : Nat} (I : Inv X pins σ H s) (u : Un X.fs [] H H' s.heap h') (hok : HOk X.prog X.w H' h') : Inv X pins σ H' { s with heap := h', toks := t' } := by
  obtain ⟨m, ⟨o, es, ep, ho, r⟩, _⟩ := id I.loc
  obtain ⟨sl, hL⟩ := u.any ho I.free (by simp)
  exact I.step (g' := s.gens) (d' := s.drawn) (ch := []) (fun _ z => nomatch z) (fun b o _ hb _ e n => u.keep b o e n hb (by simp)) (fun b o _ hb _ e n => u.slot b o e n hb (by simp)) (fun b o _ e n => u.free b o e n (by simp)) (fun b o _ e => u.there b o e (by simp)) u.tups u.frzs u.tbls (fun m' hm => by
    obtain ⟨o', es', ep', ho', r'⟩ := hm
    rw [ho] at ho'; cases ho'
    exact ⟨_, es', ep', hL, r'⟩) hok I.bare
theorem Inv.call {g' : Array GenState} {t' : Nat} {d' : Drawn} {ch : List Addr} (I : Inv X pins σ H s) (u : Un (frs X.stack) ch H H' s.heap h') (hok : HOk X.prog X.w H' h') (hg : AllBare g')
    (hch : ∀ b ∈ ch, (b ∈ X.ex ∨ X.s₀.heap.objs.size ≤ b) ∧ b ≠ X.env.locals ∧ (∀ x c, X.env.cells.lookup x = some c → c ≠ b) ∧ ∀ p ∈ X.pn ++ pins, p.1 ≠ b) :
    Inv X pins σ H' { s with heap := h', gens := g', drawn := d', toks := t' } := by
  obtain ⟨m, ⟨o, es, ep, ho, r⟩, _⟩ := id I.loc
  obtain ⟨sl, hL⟩ := u.any ho I.free fun z => (hch _ z).2.1 rfl
  exact I.step (ch := ch) hch (fun b o hL hb hc e n => u.keep b o e n (fun z => (List.mem_cons.mp (I.stkSub b z)).elim hL hb) hc) (fun b o _ _ hc e n => u.any e n hc) (fun b o hc e n => u.free b o e n hc) (fun b o hc e => u.there b o e hc) u.tups u.frzs u.tbls (fun m' hm => by
    obtain ⟨o', es', ep', ho', r'⟩ := hm
    rw [ho] at ho'; cases ho'
    exact ⟨_, es', ep', hL, r'⟩) hok hg
theorem Inv.turned {t' : Nat} {it : Addr} (I : Inv X pins σ H s) (k : ∀ b o, b ≠ it → s.heap.get? b = some o → h'.get? b = some o) (hn : H it = none) (hL : it ≠ X.env.locals)
    (h1 : it ∈ X.ex ∨ X.s₀.heap.objs.size ≤ it) (h2 : ∀ x c, X.env.cells.lookup x = some c → c ≠ it) (h3 : ∀ p ∈ X.pn ++ pins, p.1 ≠ it) : Inv X pins σ H { s with heap := h', toks := t' } := by
  have nit : ∀ b u, H b = some u → b ≠ it := fun b u e z => by rw [z, hn] at e; cases e
  refine I.step (g' := s.gens) (d' := s.drawn) (ch := [it]) (fun b hb => ?_) (fun b o _ _ hc e _ => k b o (fun z => hc (by simp [z])) e) (fun b o _ _ hc e _ => ⟨o.slots, k b o (fun z => hc (by simp [z])) e⟩) (fun _ _ _ _ n => n)
    (fun b o hc e => ⟨o, k b o (fun z => hc (by simp [z])) e⟩) (fun _ _ e => e) (fun _ _ _ e => e) (fun b ps e => ⟨#[], by rw [e]; simp⟩) (fun m hm => ?_) (fun b u e => ?_) I.bare
  · have e : b = it := by simpa using hb
    subst e
    exact ⟨h1, hL, h2, h3⟩
  · obtain ⟨o, es, ep, ho, r⟩ := hm
    exact ⟨o, es, ep, k _ o (Ne.symm hL) ho, r⟩
  · refine (I.hok b u e).stay (fun c v hc q => k c v ?_ q) (fun _ q => q) fun _ _ q => q
    rcases hc with z | z
    · rw [z]; exact nit b u e
    · exact nit c _ z
theorem Inv.tok (I : Inv X pins σ H s) (t : Nat) : Inv X pins σ H { s with toks := t } := I.un (h' := s.heap) (t' := t) Un.refl I.hok
theorem Inv.kept {t' : Nat} (I : Inv X pins σ H s) (k : ∀ b u, s.heap.get? b = some u → h'.get? b = some u) : Inv X pins σ H { s with heap := h', toks := t' } := I.un (Un.kept k) (I.hok.kept k)
theorem Inv.laid {a : Addr} {o : HO} {t' : Nat} (I : Inv X pins σ H s) (k : ∀ b u, s.heap.get? b = some u → h'.get? b = some u) (hp : s.heap.objs.size ≤ a) (new : ObjOk X.prog X.w (upd H a o) h' a o) :
    Inv X pins σ (upd H a o) { s with heap := h', toks := t' } := I.un (Un.laid k hp (I.hok.fresh hp)) (I.hok.laid k hp new)
theorem Inv.write {x e : Addr} {o : HO} {t' : Nat} (I : Inv X pins σ H s) (mu : Mut (H x)) (he : e = x ∨ H e = some (.own x)) (k : ∀ b u, b ≠ e → s.heap.get? b = some u → h'.get? b = some u) (heo : ∃ u, h'.get? e = some u)
    (new : ObjOk X.prog X.w (upd H x o) h' x o) : Inv X pins σ (upd H x o) { s with heap := h', toks := t' } := I.un (Un.write mu he k heo) (I.hok.write mu he k heo new)
theorem Inv.pins_of {pins' : List (Addr × Obj)} (I : Inv X pins σ H s) (h : ∀ p ∈ pins', s.heap.get? p.1 = some p.2 ∧ H p.1 = none ∧ p.1 ≠ X.env.locals ∧ p.1 ∉ X.fs ∧ ∀ v, p.2.data ≠ .cell v) : Inv X pins' σ H s :=
  ⟨I.ok, I.os, I.bare, I.base, I.loc, I.cell, I.free, I.freeC, fun p hp => (List.mem_append.mp hp).elim (fun z => I.pin p (List.mem_append_left _ z)) (h p), I.hok, I.len⟩
theorem nodup_ix {N : List Str} (hN : N.Nodup) {i j : Nat} {x : Str} (a : N[i]? = some x) (b : N[j]? = some x) : i = j := by
  obtain ⟨h1, e1⟩ := List.getElem?_eq_some_iff.mp a
  obtain ⟨h2, e2⟩ := List.getElem?_eq_some_iff.mp b
  exact (List.getElem_inj hN).mp (e1.trans e2.symm)
theorem store_ok2 {M : Model} {A : Around} {E : Value → Shared → Prop} {i : Nat} {x : Str} {v : V} {u : Value} {Q : Unit → Shared → Prop} (I : Inv X pins σ H s) (hN : X.N.Nodup) (hi : X.N[i]? = some x) (hx : Loc X.env.scope x) (r : RelV v u)
    (h : ∀ s', Inv X pins (σ.set i (some v)) H s' → (∃ a, Heap.SameBut a s.heap s'.heap ∧ (a = X.env.locals ∨ X.env.cells.lookup x = some a)) → Q () s') (hf : X.fn x = true ∨ X.env.scope.names.lookup x = some .local := by first | exact .inl rfl | exact .inr rfl | assumption) : wpAny M A (storeName X.env x u) Q E s := by
  obtain ⟨m, hn, hl⟩ := id I.loc
  have hcls : (X.env.scope.kind == .class || (X.env.scope.kind == .module && X.env.locals != X.env.globals)) = false := by rw [I.ok.kind]; rfl
  have hiσ : i < σ.length := by rw [I.len]; exact (List.getElem?_eq_some_iff.mp hi).1
  have cne := I.cne
  have tracked : ∀ {a : Addr} {h' : Heap}, (∃ o, s.heap.get? a = some o ∧ H a = none) → Heap.SameBut a s.heap h' → HOk X.prog X.w H h' := fun {a h'} ha hs b ob e => by
    obtain ⟨_, _, hfree⟩ := ha
    refine (I.hok b ob e).stay (fun c w' hc q => (hs.2 c ?_).trans q) (fun _ q => q) fun _ _ q => q
    rintro rfl
    rcases hc with rfl | hc
    · rw [hfree] at e; cases e
    · rw [hfree] at hc; cases hc
  rcases hx with hk | hk
  · refine wpAny_storeName_local hk hn (fun h' hn' hs => ?_) hcls
    obtain ⟨oL, _, _, hoL, _⟩ := id hn
    refine h _ ⟨I.ok, I.os, I.bare, ⟨fun b o e n hb hx => ?_, fun b o e n hb hx => ?_, I.base.free, fun b o e hx => ?_, I.base.tups, I.base.frzs, I.base.tbls⟩, ⟨_, hn', fun j y v' e1 e2 e3 => ?_⟩, fun y c e => ?_, I.free, I.freeC, fun p hp => ?_, tracked ⟨oL, hoL, I.free⟩ hs, by simpa using I.len⟩ ⟨_, hs, .inl rfl⟩
    · exact (hs.2 b (Nat.ne_of_lt (Nat.lt_of_lt_of_le (Heap.lt_size e) I.ok.above))).trans (I.base.keep b o e n hb hx)
    · obtain ⟨sl, e1⟩ := I.base.slot b o e n hb hx
      exact ⟨sl, (hs.2 b (Nat.ne_of_lt (Nat.lt_of_lt_of_le (Heap.lt_size e) I.ok.above))).trans e1⟩
    · obtain ⟨o', e1⟩ := I.base.there b o e hx
      exact ⟨o', (hs.2 b (Nat.ne_of_lt (Nat.lt_of_lt_of_le (Heap.lt_size e) I.ok.above))).trans e1⟩
    · by_cases hj : j = i
      · subst hj
        rw [hi] at e1; cases e1
        rw [List.getElem?_set_self hiσ] at e2
        cases e2
        exact ⟨u, r, .inl ⟨hk, by simp⟩⟩
      · rw [List.getElem?_set_ne (Ne.symm hj)] at e2
        obtain ⟨u', r', q⟩ := hl j y v' e1 e2 e3
        refine ⟨u', r', ?_⟩
        rcases q with ⟨k, e⟩ | ⟨k, c, e, z⟩
        · refine .inl ⟨k, ?_⟩
          have : y ≠ x := fun e => hj (nodup_ix hN e1 (e ▸ hi))
          simp [this, e]
        · exact .inr ⟨k, c, e, z.sameBut hs (cne y c e)⟩
    · obtain ⟨w', z⟩ := I.cell y c e
      exact ⟨w', z.sameBut hs (cne y c e)⟩
    · obtain ⟨e, n, ne, nf, d⟩ := I.pin p hp
      exact ⟨(hs.2 p.1 ne).trans e, n, ne, nf, d⟩
  · have hfn : X.fn x = true := by
      rcases hf with z | z
      · exact z
      · rw [z] at hk; cases hk
    obtain ⟨c, hc⟩ := I.ok.has x (.inl hk)
    obtain ⟨w', z⟩ := I.cell x c hc
    refine wpAny_storeName_cell I.ok.kind hk hc z (fun h' hc' hs => ?_)
    obtain ⟨oc, hoc, hocd⟩ := id z
    refine h { s with heap := h' } ⟨I.ok, I.os, I.bare, ⟨fun b o e n hb hx => ?_, fun b o e n hb hx => ?_, I.base.free, fun b o e hx => ?_, I.base.tups, I.base.frzs, I.base.tbls⟩, ⟨m, hn.sameBut hs (Ne.symm (cne x c hc)), fun j y v' e1 e2 e3 => ?_⟩, fun y c' e => ?_, I.free, I.freeC, fun p hp => ?_, tracked ⟨oc, hoc, I.freeC x c hc⟩ hs, by simpa using I.len⟩ ⟨c, hs, .inr hc⟩
    · exact (hs.2 b (Nat.ne_of_lt (Nat.lt_of_lt_of_le (Heap.lt_size e) (I.ok.cab x c hfn hc)))).trans (I.base.keep b o e n hb hx)
    · obtain ⟨sl, e1⟩ := I.base.slot b o e n hb hx
      exact ⟨sl, (hs.2 b (Nat.ne_of_lt (Nat.lt_of_lt_of_le (Heap.lt_size e) (I.ok.cab x c hfn hc)))).trans e1⟩
    · obtain ⟨o', e1⟩ := I.base.there b o e hx
      exact ⟨o', (hs.2 b (Nat.ne_of_lt (Nat.lt_of_lt_of_le (Heap.lt_size e) (I.ok.cab x c hfn hc)))).trans e1⟩
    · by_cases hj : j = i
      · subst hj
        rw [hi] at e1; cases e1
        rw [List.getElem?_set_self hiσ] at e2
        cases e2
        exact ⟨u, r, .inr ⟨.inl hk, c, hc, hc'⟩⟩
      · rw [List.getElem?_set_ne (Ne.symm hj)] at e2
        obtain ⟨u', r', q⟩ := hl j y v' e1 e2 e3
        refine ⟨u', r', ?_⟩
        rcases q with q | ⟨k, c', e, z'⟩
        · exact .inl q
        · refine .inr ⟨k, c', e, z'.sameBut hs ?_⟩
          rintro rfl
          exact hj (nodup_ix hN e1 (I.ok.inj _ _ _ e hc ▸ hi))
    · by_cases hcc : c' = c
      · subst hcc; exact ⟨_, hc'⟩
      · obtain ⟨w2, z2⟩ := I.cell y c' e
        exact ⟨w2, z2.sameBut hs hcc⟩
    · obtain ⟨e, n, ne, nf, d⟩ := I.pin p hp
      refine ⟨(hs.2 p.1 ?_).trans e, n, ne, nf, d⟩
      intro q
      rw [q, hoc] at e
      have q' : oc = p.2 := Option.some.inj e
      exact d w' (by rw [← q']; exact hocd)
theorem store_ok {M : Model} {A : Around} {E : Value → Shared → Prop} {i : Nat} {x : Str} {v : V} {u : Value} {Q : Unit → Shared → Prop} (I : Inv X pins σ H s) (hN : X.N.Nodup) (hi : X.N[i]? = some x) (hx : Loc X.env.scope x) (r : RelV v u)
    (h : ∀ s', Inv X pins (σ.set i (some v)) H s' → Q () s') (hf : X.fn x = true ∨ X.env.scope.names.lookup x = some .local := by first | exact .inl rfl | exact .inr rfl | assumption) : wpAny M A (storeName X.env x u) Q E s :=
  store_ok2 I hN hi hx r (fun s' I' _ => h s' I') hf
theorem Inv.call' {s' : Shared} {ch : List Addr} (I : Inv X pins σ H s) (ho : s'.os = s.os) (u : Un (frs X.stack) ch H H' s.heap s'.heap) (hok : HOk X.prog X.w H' s'.heap) (hg : AllBare s'.gens)
    (hch : ∀ b ∈ ch, (b ∈ X.ex ∨ X.s₀.heap.objs.size ≤ b) ∧ b ≠ X.env.locals ∧ (∀ x c, X.env.cells.lookup x = some c → c ≠ b) ∧ ∀ p ∈ X.pn ++ pins, p.1 ≠ b) : Inv X pins σ H' s' := by
  obtain ⟨h', g', d', t', o'⟩ := s'
  have e : o' = s.os := ho
  subst e
  exact I.call (g' := g') (t' := t') (d' := d') u hok hg hch
end
abbrev XK := Value → Option Addr → Hp → Prop
abbrev St := List (Option V)
abbrev VK := V → Hp → Prop
abbrev TE := St → Hp → VK → Prop
abbrev TT := St → Hp → (Bool → Hp → Prop) → Prop
abbrev TA := St → Hp → (List V → Hp → Prop) → Prop
structure Ends where
  nx : St → Hp → Prop
  rt : VK
  bk : St → Hp → Prop := fun _ _ => False
  ct : St → Hp → Prop := fun _ _ => False
abbrev TS := Ends → St → Hp → Prop
def EP (X : Cx) (pins : List (Addr × Obj)) (σ : St) (Q : VK) (u : Value) (s' : Shared) : Prop := ∃ v H', Inv X pins σ H' s' ∧ RelV v u ∧ Q v H'
def TP (X : Cx) (pins : List (Addr × Obj)) (σ : St) (Q : Bool → Hp → Prop) (b : Bool) (s' : Shared) : Prop := ∃ H', Inv X pins σ H' s' ∧ Q b H'
def AP (X : Cx) (pins : List (Addr × Obj)) (σ : St) (Q : List V → Hp → Prop) (us : List Value) (s' : Shared) : Prop := ∃ vs H', Inv X pins σ H' s' ∧ Vals vs us ∧ Q vs H'
def SP (X : Cx) (pins : List (Addr × Obj)) (D : Ends) (f : Flow) (s' : Shared) : Prop :=
  match f with
  | .next => ∃ σ' H', Inv X pins σ' H' s' ∧ D.nx σ' H'
  | .brk => ∃ σ' H', Inv X pins σ' H' s' ∧ D.bk σ' H'
  | .cont => ∃ σ' H', Inv X pins σ' H' s' ∧ D.ct σ' H'
  | .ret u => ∃ v σ' H', Inv X pins σ' H' s' ∧ RelV v u ∧ D.rt v H'
def PE (X : Cx) (e : Expr) (t : TE) : Prop :=
  ∀ (pins : List (Addr × Obj)) (s : Shared) (σ : St) (H : Hp) (Q : VK), Inv X pins σ H s → t σ H Q → wpAny (model X.prog X.w) X.A (eval e X.env) (EP X pins σ Q) X.xe s
def PT (X : Cx) (e : Expr) (t : TT) : Prop :=
  ∀ (pins : List (Addr × Obj)) (s : Shared) (σ : St) (H : Hp) (Q : Bool → Hp → Prop), Inv X pins σ H s → t σ H Q → wpAny (model X.prog X.w) X.A (isTrue e X.env (eval e X.env)) (TP X pins σ Q) X.xe s
def PW (X : Cx) (e : Expr) (t : TT) : Prop :=
  ∀ (whole : Sem Value) (pins : List (Addr × Obj)) (s : Shared) (σ : St) (H : Hp) (Q : Bool → Hp → Prop), Inv X pins σ H s → t σ H Q → wpAny (model X.prog X.w) X.A (isTrue e X.env whole) (TP X pins σ Q) X.xe s
theorem PW.pt {X : Cx} {e : Expr} {t : TT} (h : PW X e t) : PT X e t := h _
def PA (X : Cx) (es : List Expr) (t : TA) : Prop :=
  ∀ (pos : Pos) (pins : List (Addr × Obj)) (s : Shared) (σ : St) (H : Hp) (Q : List V → Hp → Prop), Inv X pins σ H s → t σ H Q → wpAny (model X.prog X.w) X.A (spliced (backTo pos (starEach es X.env))) (AP X pins σ Q) X.xe s
def PS (X : Cx) (st : Stmt) (t : TS) : Prop :=
  ∀ (pins : List (Addr × Obj)) (s : Shared) (σ : St) (H : Hp) (D : Ends), Inv X pins σ H s → t D σ H → wpAny (model X.prog X.w) X.A (exec st X.env) (SP X pins D) X.xe s
def PSs (X : Cx) (st : List Stmt) (t : TS) : Prop :=
  ∀ (pins : List (Addr × Obj)) (s : Shared) (σ : St) (H : Hp) (D : Ends), Inv X pins σ H s → t D σ H → wpAny (model X.prog X.w) X.A (execs st X.env) (SP X pins D) X.xe s
theorem thn {α : Type} {t : Sem α} {Q Q' : α → Shared → Prop} {M : Model} {A : Around} {E : Value → Shared → Prop} {s : Shared} (h : wpAny M A t Q E s) (hQ : ∀ a s, Q a s → Q' a s) : wpAny M A t Q' E s := wpAny_mono h hQ fun _ _ x => x
end L2
namespace L2
open PySem PySem.Spec PyProof.Rows
section
variable {X : Cx}
theorem bin {a b : Expr} {ta tb : TE} (ha : PE X a ta) (hb : PE X b tb) {pins : List (Addr × Obj)} {s : Shared} {σ : St} {H : Hp} {R : V → V → Hp → Prop} (I : Inv X pins σ H s) (h : ta σ H fun x H1 => tb σ H1 fun y H2 => R x y H2)
    {α : Type} {Q : α → Shared → Prop} {f : Value → Value → Sem α}
    (hf : ∀ v u s2 x y H2, Inv X pins σ H2 s2 → RelV x v → RelV y u → R x y H2 → wpAny (model X.prog X.w) X.A (f v u) Q X.xe s2) :
    wpAny (model X.prog X.w) X.A (eval a X.env) (fun v s₁ => wpAny (model X.prog X.w) X.A (eval b X.env) (fun u s₂ => wpAny (model X.prog X.w) X.A (f v u) Q X.xe s₂) X.xe s₁) X.xe s := by
  refine thn (ha pins s σ H _ I h) ?_
  rintro v s1 ⟨x, H1, I1, r1, q1⟩
  refine thn (hb pins s1 σ H1 _ I1 q1) ?_
  rintro u s2 ⟨y, H2, I2, r2, q2⟩
  exact hf v u s2 x y H2 I2 r1 r2 q2
def tVar (i : Nat) : TE := fun σ H Q => ∃ v, σ[i]? = some (some v) ∧ Q v H
def tC (v : V) : TE := fun _ H Q => Q v H
theorem pe_var {i : Nat} {x : Str} {pos : Pos} (hN : X.N[i]? = some x) (hv : Vis X.env.scope x) (hd : (x == ("__debug__" : Str)) = false := by decide) (hcd : (x == ("__classdict__" : Str)) = false := by decide) : PE X (.Name x pos) (tVar i) := by
  intro pins s σ H Q I h
  obtain ⟨v, e, h⟩ := h
  obtain ⟨m, hn, hl⟩ := I.loc
  obtain ⟨u, r, l⟩ := hl i x v hN e hv
  have fin : EP X pins σ Q u s := ⟨v, H, I, r, h⟩
  rcases l with ⟨hk, hm⟩ | ⟨hk, c, hc, hcell⟩
  · exact wpAny_Name (wpAny_loadName_local I.ok.kind hk hn hm fin) hd
  · rcases hk with hk | hk
    · exact wpAny_Name (wpAny_loadName_cell I.ok.kind hk hc hcell fin) hd
    · exact wpAny_Name (wpAny_loadName_free I.ok.kind hk hc hcell fin hcd) hd
theorem pe_int {i j pos} : PE X (.Constant (.int i) j pos) (tC (.int i)) := fun _ _ _ H _ I h => wpAny_Constant_int ⟨.int i, H, I.tok _, ⟨_, rfl⟩, h⟩
theorem pe_bl {b j pos} : PE X (.Constant (.bool b) j pos) (tC (.bl b)) := fun _ _ _ H _ I h => Constant_bool ⟨.bl b, H, I, rfl, h⟩
theorem pe_non {j pos} : PE X (.Constant .none j pos) (tC .non) := fun _ _ _ H _ I h => Constant_none ⟨.non, H, I, rfl, h⟩
theorem pe_str {x j pos} : PE X (.Constant (.str x) j pos) (tC (.str x)) := fun _ _ _ H _ I h => Calls.Constant_str ⟨.str x, H, I.tok _, ⟨_, rfl⟩, h⟩
def Gl (X : Cx) (x : Str) : Prop := X.env.kindOf x = some .globalImplicit
theorem ld_glob {E : Value → Shared → Prop} {pins : List (Addr × Obj)} {s : Shared} {σ : St} {H : Hp} {x : Str} {u : Value} {pos : Pos} {Q : Value → Shared → Prop} (I : Inv X pins σ H s) (hg : Gl X x) (hm : X.mg x = some u) (h : Q u s)
    (hd : (x == ("__debug__" : Str)) = false := by decide) : wpAny (model X.prog X.w) X.A (eval (.Name x pos) X.env) Q E s :=
  Calls.Name_function_global I.ok.kind hg (Calls.loadGlobal_global (by rw [I.ok.glob]; exact I.mod.glob.keeps I.bk) hm h) hd
theorem ld_blt {E : Value → Shared → Prop} {pins : List (Addr × Obj)} {s : Shared} {σ : St} {H : Hp} {x : Str} {u : Value} {pos : Pos} {Q : Value → Shared → Prop} (I : Inv X pins σ H s) (hg : Gl X x) (hm : X.mg x = none) (hv : bootBuiltins x = some u) (h : Q u s)
    (hn : x ≠ "__name__" := by decide) (hd : (x == ("__debug__" : Str)) = false := by decide) : wpAny (model X.prog X.w) X.A (eval (.Name x pos) X.env) Q E s := by
  obtain ⟨mb, h1, h2⟩ := I.mod.blt
  exact Calls.Name_function_global I.ok.kind hg (Calls.loadGlobal_builtin (by rw [I.ok.glob]; exact I.mod.glob.keeps I.bk) hm (by rw [I.ok.blt]; exact h1.keeps I.bk) ((h2 x hn).trans hv) h) hd
theorem pe_glob {x : Str} {v : V} {u : Value} {pos : Pos} (hg : Gl X x) (hm : X.mg x = some u) (r : RelV v u) (hd : (x == ("__debug__" : Str)) = false := by decide) : PE X (.Name x pos) (tC v) :=
  fun _ _ _ H _ I h => ld_glob I hg hm ⟨v, H, I, r, h⟩ hd
theorem pe_bltn {x : Str} {v : V} {u : Value} {pos : Pos} (hg : Gl X x) (hm : X.mg x = none) (hv : bootBuiltins x = some u) (r : RelV v u) (hn : x ≠ "__name__" := by decide) (hd : (x == ("__debug__" : Str)) = false := by decide) : PE X (.Name x pos) (tC v) :=
  fun _ _ _ H _ I h => ld_blt I hg hm hv ⟨v, H, I, r, h⟩ hn hd
variable {a b : Expr} {ta tb : TE} {pos : Pos}
def PC (X : Cx) (op : CmpOp) (a b : Expr) (t : TE) : Prop :=
  ∀ (pins : List (Addr × Obj)) (s : Shared) (σ : St) (H : Hp) (Q : VK), Inv X pins σ H s → t σ H Q →
    wpAny (model X.prog X.w) X.A (eval a X.env) (fun v s₁ => wpAny (model X.prog X.w) X.A (eval b X.env) (fun u s₂ => wpAny (model X.prog X.w) X.A (compareOp op v u) (EP X pins σ Q) X.xe s₂) X.xe s₁) X.xe s
theorem nobehind (b : Expr) {op : CmpOp} (h : op ≠ .In) (h2 : op ≠ .NotIn) : behindInMarks op b = false := by
  have e1 : (op == CmpOp.In) = false := by cases op <;> first | rfl | exact absurd rfl h
  have e2 : (op == CmpOp.NotIn) = false := by cases op <;> first | rfl | exact absurd rfl h2
  cases b <;> simp [behindInMarks, e1, e2]
def tB (t : TE) : TT := fun σ H Q => t σ H fun x H1 => ∃ c, x = .bl c ∧ Q c H1
theorem pt_cmp {op : CmpOp} {t : TE} (h : PC X op a b t) (h1 : behindInMarks op b = false := by first | exact nobehind _ (by decide) (by decide) | rfl) : PT X (.Compare a [op] [b] pos) (tB t) := by
  intro pins s σ H Q I hw
  refine wpAny_isTrue_Compare1 (thn (h pins s σ H _ I hw) fun v s1 h1 => thn h1 fun u s2 h2 => thn h2 ?_) h1
  rintro c s3 ⟨x, H1, I1, r1, q1⟩
  obtain ⟨d, rfl, q⟩ := q1
  cases r1
  exact wpAny_truthy_bool ⟨H1, I1, q⟩
theorem pt_val {e : Expr} {t : TE} (h : PE X e t) (he : ∀ whole, isTrue e X.env whole = (do let v ← whole; standAt e.pos; holding [v] (truthy v)) := by intro _; rfl) : PT X e (tB t) := by
  intro pins s σ H Q I hw
  refine isTrue_plain (thn (h pins s σ H _ I hw) ?_) (he _)
  rintro v s1 ⟨x, H1, I1, r1, q1⟩
  obtain ⟨d, rfl, q⟩ := q1
  cases r1
  exact wpAny_truthy_bool ⟨H1, I1, q⟩
variable {tA tB' : TT} {rest : List Expr}
def tAnd (t u : TT) : TT := fun σ H Q => t σ H fun c H1 => if c = true then u σ H1 Q else Q false H1
def tOr (t u : TT) : TT := fun σ H Q => t σ H fun c H1 => if c = true then Q true H1 else u σ H1 Q
def tNot (t : TT) : TT := fun σ H Q => t σ H fun c H1 => Q (!c) H1
theorem pw_and1 (ha : PT X a tA) : PW X (.BoolOp .And [a] pos) tA := by
  intro wh pins s σ H Q I h
  refine isTrue_and (thn (ha pins s σ H Q I h) fun c s1 e => ?_)
  cases c with
  | true => exact isTrue_and_nil e
  | false => exact e
theorem pw_or1 (ha : PT X a tA) : PW X (.BoolOp .Or [a] pos) tA := by
  intro wh pins s σ H Q I h
  refine isTrue_or (thn (ha pins s σ H Q I h) fun c s1 e => ?_)
  cases c with
  | false => exact isTrue_or_nil e
  | true => exact e
theorem pw_and (ha : PT X a tA) (hb : PW X (.BoolOp .And (b :: rest) pos) tB') : PW X (.BoolOp .And (a :: b :: rest) pos) (tAnd tA tB') := by
  intro wh pins s σ H Q I h
  refine isTrue_and (thn (ha pins s σ H _ I h) ?_)
  rintro c s1 ⟨H1, I1, q1⟩
  cases c with
  | true => exact hb wh pins s1 σ H1 Q I1 q1
  | false => exact ⟨H1, I1, q1⟩
theorem pw_or (ha : PT X a tA) (hb : PW X (.BoolOp .Or (b :: rest) pos) tB') : PW X (.BoolOp .Or (a :: b :: rest) pos) (tOr tA tB') := by
  intro wh pins s σ H Q I h
  refine isTrue_or (thn (ha pins s σ H _ I h) ?_)
  rintro c s1 ⟨H1, I1, q1⟩
  cases c with
  | true => exact ⟨H1, I1, q1⟩
  | false => exact hb wh pins s1 σ H1 Q I1 q1
theorem pt_not (ha : PT X a tA) : PT X (.UnaryOp .Not a pos) (tNot tA) := by
  intro pins s σ H Q I h
  exact isTrue_not (ha pins s σ H (fun c H1 => Q (!c) H1) I h)
def tAndV (ta tb : TE) : TE := fun σ H Q => ta σ H fun x H1 => ∃ c, x = .bl c ∧ if c = true then tb σ H1 Q else Q (.bl false) H1
def tNotV (ta : TE) : TE := fun σ H Q => ta σ H fun x H1 => ∃ c, x = .bl c ∧ Q (.bl (!c)) H1
theorem pe_one {op} {t : TE} (h : PE X a t) : PE X (.BoolOp op [a] pos) t := fun pins s σ H Q I hw => BoolOp_one (h pins s σ H Q I hw)
theorem pe_and (ha : PE X a ta) (hb : PE X (.BoolOp .And (b :: rest) pos) tb) : PE X (.BoolOp .And (a :: b :: rest) pos) (tAndV ta tb) := by
  intro pins s σ H Q I h
  refine BoolOp_and (thn (ha pins s σ H _ I h) ?_)
  rintro v s1 ⟨x, H1, I1, r1, q1⟩
  obtain ⟨c, rfl, q1⟩ := q1
  cases r1
  refine wpAny_truthy_bool ?_
  cases c with
  | true => exact hb pins s1 σ H1 Q I1 q1
  | false => exact ⟨.bl false, H1, I1, rfl, q1⟩
theorem pe_not (ha : PE X a ta) : PE X (.UnaryOp .Not a pos) (tNotV ta) := by
  intro pins s σ H Q I h
  refine UnaryOp_ (thn (ha pins s σ H _ I h) ?_)
  rintro v s1 ⟨x, H1, I1, r1, q1⟩
  obtain ⟨c, rfl, q1⟩ := q1
  cases r1
  exact not_of (wpAny_truthy_bool ⟨.bl (!c), H1, I1, rfl, q1⟩)
end
end L2
namespace L2
open PySem PySem.Spec PyProof.Rows
def SqL (K : PySem.W.Frag) (H : Hp) (a : Addr) (xs : List V) : Prop :=
  Rd H a (.lst xs) ∨
    ∃ (o : Obj) (its : Array Value) (n : Nat), K.lookup a = some o ∧ o.cls = .type "list" ∧ o.dict = none ∧ o.data = .seq its n ∧ its.size ≤ sizeLine ∧ Vals xs its.toList
def SqT (K : PySem.W.Frag) (H : Hp) (a : Addr) (xs : List V) : Prop :=
  Rd H a (.tup xs) ∨
    ∃ (o : Obj) (its : Array Value) (n : Nat), K.lookup a = some o ∧ o.cls = .type "tuple" ∧ o.data = .seq its n ∧ its.size ≤ sizeLine ∧ Vals xs its.toList
def absV : Value → Option V
  | .none => some .non
  | .bool b => some (.bl b)
  | .int i _ => some (.int i)
  | .str x _ => some (.str x)
  | .bytes b _ => some (.byt b)
  | .float b _ => some (.flt b)
  | .ref a => some (.ref a)
  | .type n => some (.ty n)
  | _ => none
theorem RelV.abs {x : V} {u : Value} (r : RelV x u) : absV u = some x := by
  cases x with
  | non => cases r; rfl
  | bl _ => cases r; rfl
  | int _ => obtain ⟨t, rfl⟩ := r; rfl
  | str _ => obtain ⟨t, rfl⟩ := r; rfl
  | byt _ => obtain ⟨t, rfl⟩ := r; rfl
  | flt _ => obtain ⟨t, rfl⟩ := r; rfl
  | ref _ => cases r; rfl
  | ty _ => cases r; rfl
theorem RelV.inj {x y : V} {u : Value} (r : RelV x u) (q : RelV y u) : x = y := Option.some.inj (r.abs.symm.trans q.abs)
theorem Vals.inj : ∀ {xs ys : List V} {us : List Value}, Vals xs us → Vals ys us → xs = ys
  | _, _, _, .nil, .nil => rfl
  | _, _, _, .cons r t, .cons r' t' => by rw [r.inj r', Vals.inj t t']
section
variable {X : Cx} {pins : List (Addr × Obj)} {σ : St} {H : Hp} {s : Shared} {a : Addr} {xs ys : List V}
theorem SqL.of {K : PySem.W.Frag} (h : H a = some (.lst xs)) : SqL K H a xs := .inl (.inl h)
theorem SqT.of {K : PySem.W.Frag} (h : H a = some (.tup xs)) : SqT K H a xs := .inl (.inl h)
theorem Inv.list (I : Inv X pins σ H s) (h : SqL X.K H a xs) : ∃ its : List Value, Vals xs its ∧ PlainL s.heap a its.toArray ∧ xs.length ≤ sizeLine := by
  rcases h with h | ⟨o, its, n, hk, hc, hd, hs, hz, r⟩
  · obtain ⟨z, its, n, r, e⟩ := h.ok I.hok
    exact ⟨its, r, ⟨_, n, e, rfl, rfl, rfl⟩, z⟩
  · refine ⟨its.toList, r, ⟨o, n, I.kIn a o hk, hc, hd, by simpa using hs⟩, ?_⟩
    have e := r.length
    simp only [Array.length_toList] at e
    lia
theorem Inv.tuple (I : Inv X pins σ H s) (h : SqT X.K H a xs) : ∃ its : List Value, Vals xs its ∧ IsTup s.heap a its.toArray ∧ xs.length ≤ sizeLine := by
  rcases h with h | ⟨o, its, n, hk, hc, hs, hz, r⟩
  · obtain ⟨z, its, r, p⟩ := h.ok I.hok
    exact ⟨its, r, p, z⟩
  · refine ⟨its.toList, r, ⟨o, I.kIn a o hk, hc, n, by simpa using hs⟩, ?_⟩
    have e := r.length
    simp only [Array.length_toList] at e
    lia
theorem Inv.list_inj (I : Inv X pins σ H s) (h : SqL X.K H a xs) (h' : SqL X.K H a ys) : xs = ys := by
  obtain ⟨its, r, ⟨o, n, e, _, _, d⟩, _⟩ := I.list h
  obtain ⟨its', r', ⟨o', n', e', _, _, d'⟩, _⟩ := I.list h'
  rw [e] at e'; cases e'
  rw [d] at d'
  injection d' with d1 _
  have : its = its' := by simpa using congrArg Array.toList d1
  subst this
  exact r.inj r'
theorem Inv.tuple_inj (I : Inv X pins σ H s) (h : SqT X.K H a xs) (h' : SqT X.K H a ys) : xs = ys := by
  obtain ⟨its, r, ⟨o, e, _, n, d⟩, _⟩ := I.tuple h
  obtain ⟨its', r', ⟨o', e', _, n', d'⟩, _⟩ := I.tuple h'
  rw [e] at e'; cases e'
  rw [d] at d'
  injection d' with d1 _
  have : its = its' := by simpa using congrArg Array.toList d1
  subst this
  exact r.inj r'
end
abbrev Cx.wish (X : Cx) (E : Value → Shared → Prop) : Cx := { X with xe := E }
abbrev Cx.nox (X : Cx) : Cx := X.wish fun _ _ => False
theorem Cx.Ok.wish {X : Cx} (ok : X.Ok) (E : Value → Shared → Prop) : (X.wish E).Ok :=
  ⟨ok.mod, ok.kind, ok.glob, ok.blt, ok.above, ok.inj, ok.has, ok.cab, ok.hd, ok.frames, ok.stk, ok.exf, ok.bs, ok.bsz, ok.noex, ok.exfs, ok.funs, ok.frf⟩
theorem Cx.Ok.unwish {X : Cx} {E : Value → Shared → Prop} (ok : (X.wish E).Ok) : X.Ok :=
  ⟨ok.mod, ok.kind, ok.glob, ok.blt, ok.above, ok.inj, ok.has, ok.cab, ok.hd, ok.frames, ok.stk, ok.exf, ok.bs, ok.bsz, ok.noex, ok.exfs, ok.funs, ok.frf⟩
section
variable {X : Cx} {pins : List (Addr × Obj)} {σ : St} {H : Hp} {s : Shared} {E : Value → Shared → Prop}
theorem Inv.wish (I : Inv X pins σ H s) (E : Value → Shared → Prop) : Inv (X.wish E) pins σ H s := ⟨I.ok.wish E, I.os, I.bare, I.base, I.loc, I.cell, I.free, I.freeC, I.pin, I.hok, I.len⟩
theorem Inv.unwish (I : Inv (X.wish E) pins σ H s) : Inv X pins σ H s := ⟨I.ok.unwish, I.os, I.bare, I.base, I.loc, I.cell, I.free, I.freeC, I.pin, I.hok, I.len⟩
theorem SP.unwish {D : Ends} {f : Flow} {s' : Shared} (h : SP (X.wish E) pins D f s') : SP X pins D f s' := by
  cases f with
  | next => obtain ⟨σ', H', I, q⟩ := h; exact ⟨σ', H', I.unwish, q⟩
  | brk => obtain ⟨σ', H', I, q⟩ := h; exact ⟨σ', H', I.unwish, q⟩
  | cont => obtain ⟨σ', H', I, q⟩ := h; exact ⟨σ', H', I.unwish, q⟩
  | ret u => obtain ⟨v, σ', H', I, r, q⟩ := h; exact ⟨v, σ', H', I.unwish, r, q⟩
theorem PSs.nox {st : List Stmt} {t : TS} (h : PSs X.nox st t) : PSs X st t := fun pins s σ H D I hw =>
  wpAny_mono (h pins s σ H D (I.wish _) hw) (fun _ _ q => q.unwish) fun _ _ z => False.elim z
end
section
variable {X : Cx} {st : Stmt} {rest : List Stmt} {t u : TS} {e : Expr} {te : TE} {pos : Pos}
def tNext : TS := fun D σ H => D.nx σ H
def tSeq (t u : TS) : TS := fun D σ H => t { D with nx := u D } σ H
theorem pss_nil : PSs X [] tNext := fun _ _ σ H _ I h => wpAny_execs_nil ⟨σ, H, I, h⟩
theorem pss_cons (h1 : PS X st t) (h2 : PSs X rest u) : PSs X (st :: rest) (tSeq t u) := by
  intro pins s σ H D I h
  refine wpAny_execs_cons (thn (h1 pins s σ H { D with nx := u D } I h) fun f s1 q => ?_)
  cases f with
  | next =>
    obtain ⟨σ', H', I', q⟩ := q
    exact h2 pins s1 σ' H' D I' q
  | ret v => exact q
  | brk => exact q
  | cont => exact q
theorem pss_one (h1 : PS X st t) : PSs X [st] t := by
  intro pins s σ H D I h
  refine wpAny_execs_cons (thn (h1 pins s σ H D I h) fun f s1 q => ?_)
  cases f with
  | next => exact wpAny_execs_nil q
  | ret v => exact q
  | brk => exact q
  | cont => exact q
theorem Inv.quiet {pins : List (Addr × Obj)} {σ : St} {H : Hp} {s : Shared} (I : Inv X pins σ H s) : interactive X.env = false := by simp [interactive, I.ok.kind]
def tDrop (te : TE) : TS := fun D σ H => te σ H fun _ H1 => D.nx σ H1
theorem ps_expr (he : PE X e te) (hs : swapsWith e none pos.line X.env = pure false := by rfl) : PS X (.Expr e pos) (tDrop te) := by
  intro pins s σ H D I h
  exact wpAny_Expr_any (thn (he pins s σ H _ I h) (by rintro v s1 ⟨x, H1, I1, r1, q1⟩;exact ⟨σ, H1, I1, q1⟩)) I.quiet hs
def tRet (te : TE) : TS := fun D σ H => te σ H D.rt
theorem ps_ret (he : PE X e te) : PS X (.Return (some e) pos) (tRet te) := by
  intro pins s σ H D I h
  exact wpAny_Return_some (thn (he pins s σ H _ I h) (by rintro v s1 ⟨x, H1, I1, r1, q1⟩;exact ⟨x, σ, H1, I1, r1, q1⟩))
def tIfS (c : TT) (t u : TS) : TS := fun D σ H => c σ H fun b H1 => if b = true then t D σ H1 else u D σ H1
theorem ps_if {c : Expr} {a b : List Stmt} {tc : TT} (hc : PT X c tc) (ha : PSs X a t) (hb : PSs X b u) : PS X (.If c a b pos) (tIfS tc t u) := by
  intro pins s σ H D I h
  refine wpAny_If (thn (hc pins s σ H _ I h) ?_)
  rintro d s1 ⟨H1, I1, q1⟩
  cases d with
  | true => exact ha pins s1 σ H1 D I1 q1
  | false => exact hb pins s1 σ H1 D I1 q1
end
abbrev TG := V → St → Hp → (St → Hp → Prop) → Prop
abbrev TGs := List V → St → Hp → (St → Hp → Prop) → Prop
def PG (X : Cx) (target : Expr) (t : TG) : Prop :=
  ∀ (pins : List (Addr × Obj)) (s : Shared) (σ : St) (H : Hp) (v : V) (u : Value) (Q : St → Hp → Prop), Inv X pins σ H s → RelV v u → t v σ H Q →
    wpAny (model X.prog X.w) X.A (assign target X.env u) (fun _ s' => ∃ σ' H', Inv X pins σ' H' s' ∧ Q σ' H') X.xe s
def PGs (X : Cx) (ts : List Expr) (t : TGs) : Prop :=
  ∀ (pins : List (Addr × Obj)) (s : Shared) (σ : St) (H : Hp) (vs : List V) (us : List Value) (Q : St → Hp → Prop), Inv X pins σ H s → Vals vs us → t vs σ H Q →
    wpAny (model X.prog X.w) X.A (assignInOrder ((assignEach ts X.env).map (·.2)) us) (fun _ s' => ∃ σ' H', Inv X pins σ' H' s' ∧ Q σ' H') X.xe s
section
variable {X : Cx} {pos : Pos}
def gName (i : Nat) : TG := fun v σ H Q => Q (σ.set i (some v)) H
theorem pg_name {i : Nat} {x : Str} (hN : X.N.Nodup) (hi : X.N[i]? = some x) (hx : Loc X.env.scope x) (hf : X.fn x = true ∨ X.env.scope.names.lookup x = some .local := by first | exact .inl rfl | exact .inr rfl | assumption) : PG X (.Name x pos) (gName i) := by
  intro pins s σ H v u Q I r h
  exact wpAny_assign_Name (store_ok I hN hi hx r (fun s' I' => ⟨_, H, I', h⟩) hf)
def gNil : TGs := fun vs σ H Q => vs = [] ∧ Q σ H
def gCons (t : TG) (u : TGs) : TGs := fun vs σ H Q => ∃ v r, vs = v :: r ∧ t v σ H fun σ' H' => u r σ' H' Q
theorem pgs_nil : PGs X [] gNil := by
  intro pins s σ H vs us Q I r h
  obtain ⟨e, h⟩ := h
  subst e
  cases r
  exact assignInOrder_nil ⟨σ, H, I, h⟩
theorem pgs_cons {e : Expr} {es : List Expr} {t : TG} {u : TGs} (h1 : PG X e t) (h2 : PGs X es u)
    (hs : (assignEach (e :: es) X.env).map (·.2) = assign e X.env :: (assignEach es X.env).map (·.2) := by rfl) : PGs X (e :: es) (gCons t u) := by
  intro pins s σ H vs us Q I r h
  obtain ⟨v, vr, e1, h⟩ := h
  subst e1
  cases r with
  | cons r rr =>
    rw [hs]
    refine assignInOrder_cons (thn (h1 pins s σ H _ _ _ I r h) ?_)
    rintro _ s1 ⟨σ1, H1, I1, q1⟩
    exact h2 pins s1 σ1 H1 _ _ Q I1 rr q1
def tAsg (te : TE) (g : TG) : TS := fun D σ H => te σ H fun x H1 => g x σ H1 D.nx
theorem ps_asg {tg e : Expr} {te : TE} {g : TG} (he : PE X e te) (hg : PG X tg g) (hs : swapsWithSole [tg] e pos.line X.env = pure false := by rfl) (hw : swappedStores [tg] e X.env = pure none := by rfl)
    (h1 : (assignEach [tg] X.env).map (·.2) = [assign tg X.env] := by rfl) : PS X (.Assign [tg] e pos) (tAsg te g) := by
  intro pins s σ H D I h
  refine wpAny_Assign_stores (thn (he pins s σ H _ I h) ?_) hs hw
  rintro v s1 ⟨x, H1, I1, r1, q1⟩
  rw [h1]
  exact thn (hg pins s1 σ H1 x v _ I1 r1 q1) fun _ s2 q => q
theorem ps_set {i : Nat} {x : Str} {e : Expr} {te : TE} {pos' : Pos} (hN : X.N.Nodup) (hi : X.N[i]? = some x) (hx : Loc X.env.scope x) (he : PE X e te) (hs : swapsWith e (some (.Name x pos')) pos.line X.env = pure false := by rfl) (hf : X.fn x = true ∨ X.env.scope.names.lookup x = some .local := by first | exact .inl rfl | exact .inr rfl | assumption) :
    PS X (.Assign [.Name x pos'] e pos) (tAsg te (gName i)) := by
  intro pins s σ H D I h
  refine wpAny_Assign_Name (thn (he pins s σ H _ I h) ?_) hs
  rintro v s1 ⟨y, H1, I1, r1, q1⟩
  exact store_ok I1 hN hi hx r1 (fun s2 I2 => ⟨_, H1, I2, q1⟩) hf
end
section
variable {X : Cx} {pos : Pos}
end
structure It where
  go : Nat → Hp → Prop
  yld : Nat → Hp → V → Hp → Prop
  stop : Nat → Hp → Prop
def FpOk (X : Cx) (pins : List (Addr × Obj)) (H : Hp) (b : Addr) : Prop :=
  H b = none ∧ b ≠ X.env.locals ∧ b ∉ X.fs ∧ (b ∈ X.ex ∨ X.s₀.heap.objs.size ≤ b) ∧ (∀ x c, X.env.cells.lookup x = some c → c ≠ b) ∧ ∀ p ∈ X.pn ++ pins, p.1 ≠ b
theorem Inv.fpOk {X : Cx} {pins : List (Addr × Obj)} {σ : St} {H H' : Hp} {s : Shared} {b : Addr} (I : Inv X pins σ H s) (hb : s.heap.objs.size ≤ b) (hn : H' b = none) : FpOk X pins H' b := by
  refine ⟨hn, Nat.ne_of_gt (Nat.lt_of_lt_of_le I.lt hb), I.nofs hb, .inr (Nat.le_trans I.sz hb), fun x c e z => ?_, fun p hp z => ?_⟩
  · obtain ⟨v, q⟩ := I.cell x c e
    exact absurd (Nat.lt_of_lt_of_le q.lt (by rw [z]; exact hb)) (Nat.lt_irrefl _)
  · exact absurd (Nat.lt_of_lt_of_le (Heap.lt_size (I.pin p hp).1) (by rw [z]; exact hb)) (Nat.lt_irrefl _)
structure Turn (P : Program) (w : World) (K : PySem.W.Frag) (tg : Expr) (J : It) (fp : List Addr) (it : Addr) (tn : Nat → Heap → Prop) : Prop where
  mem : it ∈ fp
  obj : ∀ i h, tn i h → ∀ b ∈ fp, ∃ o, h.get? b = some o ∧ ∀ v, o.data ≠ .cell v
  keep : ∀ i h h', tn i h → (∀ b ∈ fp, ∀ o, h.get? b = some o → h'.get? b = some o) → tn i h'
  item : ∀ (X : Cx), X.prog = P → X.w = w → X.K = K → X.calm = true → ∀ (i : Nat) (pins : List (Addr × Obj)) (s : Shared) (σ : St) (H : Hp) (E : Value → Shared → Prop), Inv X pins σ H s → (∀ b ∈ fp, FpOk X pins H b) → tn i s.heap → J.go i H →
    wpAny (model P w) X.A (pyNext (.ref it)) (fun r s1 => ∃ u, r = some u ∧
      wpAny (model P w) X.A (letOwnedTupleGo tg (.ref it) u) (fun _ s2 => ∃ x H', Inv X pins σ H' s2 ∧ RelV x u ∧ J.yld i H x H' ∧ tn (i + 1) s2.heap ∧ ∀ b ∈ fp, H' b = none) E s1) E s
  done : ∀ (X : Cx), X.prog = P → X.w = w → X.K = K → X.calm = true → ∀ (i : Nat) (pins : List (Addr × Obj)) (s : Shared) (σ : St) (H : Hp) (E : Value → Shared → Prop), Inv X pins σ H s → (∀ b ∈ fp, FpOk X pins H b) → tn i s.heap → J.stop i H →
    wpAny (model P w) X.A (pyNext (.ref it)) (fun r s1 => r = none ∧ Inv X pins σ H s1) E s
  self : ∀ (A : Around) (i : Nat) (s : Shared) (Q : Value → Shared → Prop) (E : Value → Shared → Prop), tn i s.heap → Q (.ref it) s → wpAny (model P w) A (pyIter (.ref it)) Q E s
abbrev TI := St → Hp → (It → Hp → Prop) → Prop
def PIE (X : Cx) (pins : List (Addr × Obj)) (σ : St) (tg : Expr) (R : It → Hp → Prop) (itv : Value) (s2 : Shared) : Prop :=
  ∃ (it : Addr) (fp : List Addr) (tn : Nat → Heap → Prop) (J : It) (H' : Hp), itv = .ref it ∧ Inv X pins σ H' s2 ∧ Turn X.prog X.w X.K tg J fp it tn ∧ tn 0 s2.heap ∧ (∀ b ∈ fp, FpOk X pins H' b) ∧ R J H'
def PI (X : Cx) (tg iter : Expr) (wi : TI) : Prop :=
  ∀ (pins : List (Addr × Obj)) (s : Shared) (σ : St) (H : Hp) (R : It → Hp → Prop), Inv X pins σ H s → wi σ H R →
    wpAny (model X.prog X.w) X.A (eval iter X.env) (fun v s1 => wpAny (model X.prog X.w) X.A (pyIter v) (PIE X pins σ tg R) X.xe s1) X.xe s
theorem go_of {M : Model} {A : Around} {E : Value → Shared → Prop} {s : Shared} {tg : Expr} {it : Addr} {u : Value} {o : Obj} {n : String} {vs : Array Value} {Q : Unit → Shared → Prop} (ho : s.heap.get? it = some o) (hc : o.cls = .type n) (hd : o.data = .fields vs)
    (hn : ["enumerate", "zip", "dict_itemiterator", "dict_reverseitemiterator", "odict_iterator", "itertools.zip_longest", "itertools.pairwise"].contains n = false) (hQ : Q () s) : wpAny M A (letOwnedTupleGo tg (.ref it) u) Q E s := by
  unfold letOwnedTupleGo
  cases tg <;> first
    | exact wpAny_pure hQ
    | (cases u <;> first
        | exact wpAny_pure hQ
        | (refine wpAny_bind (wpAny_load ho ?_)
           rw [hc, hd]
           show wpAny M A (if (["enumerate", "zip", "dict_itemiterator", "dict_reverseitemiterator", "odict_iterator", "itertools.zip_longest", "itertools.pairwise"].contains n && vs[0]? == some (rawInt _)) = true then _ else _) Q E s
           rw [if_neg (by intro h; rw [hn, Bool.false_and] at h; cases h)]
           exact wpAny_pure hQ))
def Itl (K : PySem.W.Frag) (a : Addr) : It :=
  ⟨fun i H => ∃ xs x, SqL K H a xs ∧ xs[i]? = some x, fun i H x H' => H' = H ∧ ∀ xs, SqL K H a xs → xs[i]? = some x, fun i H => ∃ xs, SqL K H a xs ∧ xs.length ≤ i⟩
def Itt (K : PySem.W.Frag) (a : Addr) : It :=
  ⟨fun i H => ∃ xs x, SqT K H a xs ∧ xs[i]? = some x, fun i H x H' => H' = H ∧ ∀ xs, SqT K H a xs → xs[i]? = some x, fun i H => ∃ xs, SqT K H a xs ∧ xs.length ≤ i⟩
def Itr (lo : Int) (n : Nat) : It := ⟨fun i _ => i < n, fun i H x H' => H' = H ∧ x = .int (lo + i), fun i _ => n ≤ i⟩
theorem turn_list {P : Program} {w : World} {K : PySem.W.Frag} {tg : Expr} (a it : Addr) : Turn P w K tg (Itl K a) [it] it (fun i h => h.IsListIter it a i) where
  mem := by simp
  obj := fun i h st b hb => by
    have e : b = it := by simpa using hb
    subst e
    obtain ⟨o, e, c, d⟩ := st
    exact ⟨o, e, fun v z => by rw [d] at z; cases z⟩
  keep := fun i h h' st k => st.at fun o e => k it (by simp) o e
  item := by
    intro X hP hw hK hc i pins s σ H E I hf st hg
    subst hP hw hK
    obtain ⟨xs, x, hq, hx⟩ := hg
    obtain ⟨its, rv, p, hz⟩ := I.list hq
    obtain ⟨u, hu, ru⟩ := rv.get hx
    obtain ⟨f0, f1, f2, f3, f4, f5⟩ := hf it (by simp)
    refine wpAny_pyNext_list_item st p.isList (x := u) (by simpa using hu) fun h' st' sb => ?_
    have I1 : Inv X pins σ H { s with heap := h' } := I.turned (t' := s.toks) (fun b o hb e => (sb.2 b hb).trans e) f0 f1 f3 f4 f5
    obtain ⟨o, e, c, d⟩ := id st'
    exact ⟨u, rfl, go_of (s := { s with heap := h' }) e c d (by decide) ⟨x, H, I1, ru, ⟨rfl, fun ys hy => by rw [I.list_inj hy hq]; exact hx⟩, st', fun b hb => (hf b hb).1⟩⟩
  done := by
    intro X hP hw hK hc i pins s σ H E I hf st hg
    subst hP hw hK
    obtain ⟨xs, hq, hx⟩ := hg
    obtain ⟨its, rv, p, hz⟩ := I.list hq
    obtain ⟨f0, f1, f2, f3, f4, f5⟩ := hf it (by simp)
    have hl := rv.length
    exact wpAny_pyNext_list_end (I.ok.hd hc) st p.isList (by simp; lia) fun h' eb => ⟨rfl, I.turned (t' := s.toks) (fun b o hb e => eb b o hb e) f0 f1 f3 f4 f5⟩
  self := fun _ _ _ _ _ st h => wpAny_pyIter_listiter st h
theorem turn_tuple {P : Program} {w : World} {K : PySem.W.Frag} {tg : Expr} (a it : Addr) : Turn P w K tg (Itt K a) [it] it (fun i h => h.IsTupleIter it a i) where
  mem := by simp
  obj := fun i h st b hb => by
    have e : b = it := by simpa using hb
    subst e
    obtain ⟨o, e, c, d⟩ := st
    exact ⟨o, e, fun v z => by rw [d] at z; cases z⟩
  keep := fun i h h' st k => st.at fun o e => k it (by simp) o e
  item := by
    intro X hP hw hK hc i pins s σ H E I hf st hg
    subst hP hw hK
    obtain ⟨xs, x, hq, hx⟩ := hg
    obtain ⟨its, rv, p, hz⟩ := I.tuple hq
    obtain ⟨u, hu, ru⟩ := rv.get hx
    obtain ⟨f0, f1, f2, f3, f4, f5⟩ := hf it (by simp)
    refine wpAny_pyNext_tuple_item st (show s.heap.IsTuple a its.toArray from p) (x := u) (by simpa using hu) fun h' st' sb => ?_
    have I1 : Inv X pins σ H { s with heap := h' } := I.turned (t' := s.toks) (fun b o hb e => (sb.2 b hb).trans e) f0 f1 f3 f4 f5
    obtain ⟨o, e, c, d⟩ := id st'
    exact ⟨u, rfl, go_of (s := { s with heap := h' }) e c d (by decide) ⟨x, H, I1, ru, ⟨rfl, fun ys hy => by rw [I.tuple_inj hy hq]; exact hx⟩, st', fun b hb => (hf b hb).1⟩⟩
  done := by
    intro X hP hw hK hc i pins s σ H E I hf st hg
    subst hP hw hK
    obtain ⟨xs, hq, hx⟩ := hg
    obtain ⟨its, rv, p, hz⟩ := I.tuple hq
    obtain ⟨f0, f1, f2, f3, f4, f5⟩ := hf it (by simp)
    have hl := rv.length
    exact wpAny_pyNext_tuple_end (I.ok.hd hc) st (show s.heap.IsTuple a its.toArray from p) (by simp; lia) fun h' eb => ⟨rfl, I.turned (t' := s.toks) (fun b o hb e => eb b o hb e) f0 f1 f3 f4 f5⟩
  self := fun _ _ _ _ _ st h => wpAny_pyIter_tupleiter st h
theorem turn_range {P : Program} {w : World} {K : PySem.W.Frag} {tg : Expr} (it : Addr) (lo : Int) (n : Nat) : Turn P w K tg (Itr lo n) [it] it (fun i h => IsRangeIter h it (lo + (i : Nat) * 1) ((n : Int) - (i : Nat)) 1) where
  mem := by simp
  obj := fun i h st b hb => by
    have e : b = it := by simpa using hb
    subst e
    exact ⟨_, st, fun v z => by
      have z' : Data.fields _ = Data.cell v := z
      cases z'⟩
  keep := fun i h h' st k => k it (by simp) _ st
  item := by
    intro X hP hw hK hc i pins s σ H E I hf st hg
    subst hP hw hK
    obtain ⟨f0, f1, f2, f3, f4, f5⟩ := hf it (by simp)
    have W := Walks.range (prog := X.prog) (w := X.w) (I.ok.hd hc) it lo 1 n
    refine W.item i s _ _ hg st fun v h' tk hv st' kk => ?_
    obtain ⟨t, rfl⟩ := hv
    have I1 : Inv X pins σ H { s with heap := h', toks := tk } := I.turned (fun b o hb e => kk b o (by simpa using hb) e) f0 f1 f3 f4 f5
    refine ⟨_, rfl, go_of (s := { s with heap := h', toks := tk }) (n := "range_iterator") st' rfl rfl (by decide) ⟨.int (lo + i), H, I1, ⟨t, ?_⟩, ⟨rfl, rfl⟩, st', fun b hb => (hf b hb).1⟩⟩
    rw [Int.mul_one]
  done := by
    intro X hP hw hK hc i pins s σ H E I hf st hg
    subst hP hw hK
    obtain ⟨f0, f1, f2, f3, f4, f5⟩ := hf it (by simp)
    exact wpAny_pyNext_range_end (I.ok.hd hc) st (by have : n ≤ i := hg; lia) fun h' eb => ⟨rfl, I.turned (t' := s.toks) (fun b o hb e => eb b o hb e) f0 f1 f3 f4 f5⟩
  self := fun _ _ _ _ _ st h => wpAny_pyIter_rangeiter st h
end L2
namespace L2
open PySem PySem.Spec PyProof.Rows
section
variable {X : Cx} {tg : Expr}
def iList (K : PySem.W.Frag) (tl : TE) : TI := fun σ H R => tl σ H fun x H1 => ∃ a, x = .ref a ∧ (∃ xs, SqL K H1 a xs) ∧ R (Itl K a) H1
def iTup (K : PySem.W.Frag) (tl : TE) : TI := fun σ H R => tl σ H fun x H1 => ∃ a, x = .ref a ∧ (∃ xs, SqT K H1 a xs) ∧ R (Itt K a) H1
theorem pi_list {l : Expr} {tl : TE} (hl : PE X l tl) : PI X tg l (iList X.K tl) := by
  intro pins s σ H R I h
  refine thn (hl pins s σ H _ I h) ?_
  rintro v s1 ⟨x, H1, I1, r1, q1⟩
  obtain ⟨a, e, ⟨xs, hq⟩, q⟩ := q1
  subst e
  cases r1
  obtain ⟨its, rv, p, hz⟩ := I1.list hq
  refine wpAny_pyIter_list p.isList ?_
  refine ⟨s1.heap.objs.size, [s1.heap.objs.size], _, _, H1, rfl, I1.kept (t' := s1.toks) fun b o e => Heap.get?_push_of_some _ e, turn_list a _, ⟨_, Heap.get?_push_size _ rfl, rfl, rfl⟩, fun b hb => ?_, q⟩
  have e : b = s1.heap.objs.size := by simpa using hb
  subst e
  exact I1.fpOk (Nat.le_refl _) (I1.hok.fresh (Nat.le_refl _))
theorem pi_tup {l : Expr} {tl : TE} (hl : PE X l tl) : PI X tg l (iTup X.K tl) := by
  intro pins s σ H R I h
  refine thn (hl pins s σ H _ I h) ?_
  rintro v s1 ⟨x, H1, I1, r1, q1⟩
  obtain ⟨a, e, ⟨xs, hq⟩, q⟩ := q1
  subst e
  cases r1
  obtain ⟨its, rv, p, hz⟩ := I1.tuple hq
  refine wpAny_pyIter_tuple (show s1.heap.IsTuple a its.toArray from p) ?_
  refine ⟨s1.heap.objs.size, [s1.heap.objs.size], _, _, H1, rfl, I1.kept (t' := s1.toks) fun b o e => Heap.get?_push_of_some _ e, turn_tuple a _, ⟨_, Heap.get?_push_size _ rfl, rfl, rfl⟩, fun b hb => ?_, q⟩
  have e : b = s1.heap.objs.size := by simpa using hb
  subst e
  exact I1.fpOk (Nat.le_refl _) (I1.hok.fresh (Nat.le_refl _))
theorem range_it {pins : List (Addr × Obj)} {σ : St} {H : Hp} {s : Shared} {R : It → Hp → Prop} {E : Value → Shared → Prop} {lo hi : Int} {t u v : Tok} {tk : Nat} (I : Inv X pins σ H s) (h1 : -(2 ^ 62) ≤ lo) (h2 : lo < 2 ^ 62) (h3 : -(2 ^ 62) ≤ hi) (h4 : hi < 2 ^ 62)
    (q : R (Itr lo (hi - lo).toNat) H) : wpAny (model X.prog X.w) X.A (pyIter (.ref s.heap.objs.size)) (PIE X pins σ tg R) E { s with heap := s.heap.push { cls := .type "range", data := .fields #[.int lo t, .int hi u, .int 1 v] }, toks := tk } := by
  refine wpAny_pyIter_range (IsRange.new ..) (small_one h1 h2 h3 h4) ?_
  have I1 : Inv X pins σ H { s with heap := s.heap.push { cls := .type "range", data := .fields #[.int lo t, .int hi u, .int 1 v] }, toks := tk } := I.kept fun b o e => Heap.get?_push_of_some _ e
  refine ⟨(s.heap.push { cls := .type "range", data := .fields #[.int lo t, .int hi u, .int 1 v] }).objs.size, [(s.heap.push { cls := .type "range", data := .fields #[.int lo t, .int hi u, .int 1 v] }).objs.size], _, _, H, rfl,
    I1.kept (t' := tk) fun b o e => Heap.get?_push_of_some _ e, turn_range _ lo (hi - lo).toNat, ?_, fun b hb => ?_, q⟩
  · have e1 : lo + ((0 : Nat) : Int) * 1 = lo := by simp
    have e2 : (((hi - lo).toNat : Nat) : Int) - ((0 : Nat) : Int) = Builtin.Range.rangeSize lo hi 1 := by rw [rangeSize_one]; split <;> lia
    show IsRangeIter _ _ (lo + ((0 : Nat) : Int) * 1) ((((hi - lo).toNat : Nat) : Int) - ((0 : Nat) : Int)) 1
    rw [e1, e2]
    exact Heap.get?_push_size _ rfl
  · have e : b = (s.heap.push { cls := .type "range", data := .fields #[.int lo t, .int hi u, .int 1 v] }).objs.size := by simpa using hb
    subst e
    exact I1.fpOk (Nat.le_refl _) (I1.hok.fresh (Nat.le_refl _))
def iRng1 (ta : TA) : TI := fun σ H R => ta σ H fun vs H1 => ∃ j : Int, vs = [.int j] ∧ -(2 ^ 62) ≤ j ∧ j < 2 ^ 62 ∧ R (Itr 0 j.toNat) H1
theorem pi_range1 {a : Expr} {ta : TA} {p pos : Pos} (hg : Gl X "range") (hm : X.mg "range" = none) (ha : PA X [a] ta) (hs : starEach [a] X.env = [(false, eval a X.env)] := by rfl) : PI X tg (.Call (.Name "range" p) [a] [] pos) (iRng1 ta) := by
  intro pins s σ H R I h
  refine Call_ (ld_blt I hg hm boot_range (PyProof.Rows.callWith_type1 (thn (ha pos pins s σ H _ I h) ?_) hs rfl))
  rintro us s1 ⟨vs, H1, I1, r1, q1⟩
  obtain ⟨j, e, q1, q2, q⟩ := q1
  subst e
  cases r1 with
  | cons r rr =>
    cases rr
    obtain ⟨t, rfl⟩ := r
    exact call_range_1 (range_it I1 (by lia) (by lia) q1 q2 (by simpa using q))
def tFor (wi : TI) (g : TG) (tb : TS) : TS := fun D σ H => wi σ H fun J H1 => ∃ W : Nat → Nat → St → Hp → Prop, (∃ m, W 0 m σ H1) ∧ ∀ i m σ H, W i m σ H →
  (J.stop i H ∧ D.nx σ H) ∨ (J.go i H ∧ ∃ N : St → Hp → Prop, (∀ σ' H', N σ' H' → ∃ m', m' < m ∧ W (i + 1) m' σ' H') ∧ ∀ x H', J.yld i H x H' → g x σ H' fun σ2 H2 => tb { D with nx := N, ct := N, bk := D.nx } σ2 H2)
def pinsAt (fp : List Addr) (h : Heap) : List (Addr × Obj) := fp.filterMap fun b => (h.get? b).map fun o => (b, o)
theorem mem_pinsAt {fp : List Addr} {h : Heap} {b : Addr} {o : Obj} (hb : b ∈ fp) (e : h.get? b = some o) : (b, o) ∈ pinsAt fp h := List.mem_filterMap.mpr ⟨b, hb, by rw [e]; rfl⟩
theorem of_pinsAt {fp : List Addr} {h : Heap} {p : Addr × Obj} (hp : p ∈ pinsAt fp h) : p.1 ∈ fp ∧ h.get? p.1 = some p.2 := by
  obtain ⟨b, hb, e⟩ := List.mem_filterMap.mp hp
  cases q : h.get? b with
  | none => rw [q] at e; cases e
  | some o =>
    rw [q] at e
    have e' : (b, o) = p := Option.some.inj e
    subst e'
    exact ⟨hb, q⟩
theorem Inv.pinned {pins : List (Addr × Obj)} {σ : St} {H : Hp} {s : Shared} {fp : List Addr} (I : Inv X pins σ H s) (hf : ∀ b ∈ fp, FpOk X pins H b) (ho : ∀ b ∈ fp, ∃ o, s.heap.get? b = some o ∧ ∀ v, o.data ≠ .cell v) : Inv X (pins ++ pinsAt fp s.heap) σ H s :=
  I.pins_of fun p hp => (List.mem_append.mp hp).elim (fun z => I.pin p (List.mem_append_right _ z)) fun z => by
    obtain ⟨hb, e⟩ := of_pinsAt z
    obtain ⟨f0, f1, f2, _⟩ := hf p.1 hb
    obtain ⟨o, e', d⟩ := ho p.1 hb
    rw [e] at e'; cases e'
    exact ⟨e, f0, f1, f2, d⟩
theorem Inv.unpinned {pins pl : List (Addr × Obj)} {σ : St} {H : Hp} {s : Shared} (I : Inv X (pins ++ pl) σ H s) : Inv X pins σ H s := I.pins_of fun p hp => I.pin p (List.mem_append_right _ (List.mem_append_left _ hp))
theorem ps_for {iter : Expr} {body : List Stmt} {wi : TI} {g : TG} {tb : TS} {pos : Pos} (hp : PassesOwn (model X.prog X.w) X.A X.env X.xe) (hc : X.calm = true) (hi : PI X tg iter wi) (hg : PG X tg g) (hb : PSs X body tb)
    (hs : ∀ x, foldedSetIterable iter X.env x = pure x := by intro _; rfl) : PS X (.For tg iter body [] pos) (tFor wi g tb) := by
  intro pins s σ H D I h
  refine wpAny_For (thn (hi pins s σ H _ I h) fun v s1 h1 => thn h1 fun itv s2 h2 => ?_) hs
  obtain ⟨it, fp, tn, J, H2, e, I2, T, st2, f2, W, ⟨m0, w0⟩, turn⟩ := h2
  subst e
  have stat : ∀ {H' : Hp}, (∀ b ∈ fp, H' b = none) → ∀ b ∈ fp, FpOk X pins H' b := fun hn b hb => ⟨hn b hb, (f2 b hb).2⟩
  refine codeAny_forLoop_any (fun n s' => ∃ i σ' H', Inv X pins σ' H' s' ∧ tn i s'.heap ∧ (∀ b ∈ fp, H' b = none) ∧ W i n σ' H') ?_ m0 ⟨0, σ, H2, I2, st2, fun b hb => (f2 b hb).1, w0⟩
  rintro n s3 ⟨i, σ3, H3, I3, st3, fr3, w3⟩
  rcases turn i n σ3 H3 w3 with ⟨stop, qn⟩ | ⟨go, N, hN, step⟩
  · refine wpAny_passesOwn hp (thn (T.done X rfl rfl rfl hc i pins s3 σ3 H3 X.xe I3 (stat fr3) st3 stop) ?_)
    rintro r s4 ⟨hr, I4⟩
    subst hr
    exact wpAny_execs_nil ⟨σ3, H3, I4, qn⟩
  · refine wpAny_passesOwn hp (thn (T.item X rfl rfl rfl hc i pins s3 σ3 H3 X.xe I3 (stat fr3) st3 go) ?_)
    rintro r s4 ⟨u, hr, h4⟩
    subst hr
    refine wpAny_passesOwn hp (thn h4 ?_)
    rintro _ s5 ⟨x, H5, I5, r5, y5, st5, fr5⟩
    have I5' := I5.pinned (stat fr5) (T.obj _ _ st5)
    refine wpAny_passesOwn hp (thn (hg _ s5 σ3 H5 x u _ I5' r5 (step x H5 y5)) ?_)
    rintro _ s6 ⟨σ6, H6, I6, q6⟩
    refine wpAny_passesOwn hp (thn (hb _ s6 σ6 H6 _ I6 q6) fun f s7 q7 => ?_)
    have again : ∀ {σ7 : St} {H7 : Hp}, Inv X (pins ++ pinsAt fp s5.heap) σ7 H7 s7 → N σ7 H7 → ∃ m, m < n ∧ ∃ i σ' H', Inv X pins σ' H' s7 ∧ tn i s7.heap ∧ (∀ b ∈ fp, H' b = none) ∧ W i m σ' H' := fun {σ7 H7} I7 n7 => by
      obtain ⟨m', hm, w7⟩ := hN σ7 H7 n7
      refine ⟨m', hm, i + 1, σ7, H7, I7.unpinned, T.keep _ _ _ st5 fun b hb o e => (I7.pin (b, o) (List.mem_append_right _ (List.mem_append_right _ (mem_pinsAt hb e)))).1, fun b hb => ?_, w7⟩
      obtain ⟨o, e, d⟩ := T.obj _ _ st5 b hb
      exact (I7.pin (b, o) (List.mem_append_right _ (List.mem_append_right _ (mem_pinsAt hb e)))).2.1
    cases f with
    | next => obtain ⟨σ7, H7, I7, n7⟩ := q7; exact again I7 n7
    | cont => obtain ⟨σ7, H7, I7, n7⟩ := q7; exact again I7 n7
    | brk => obtain ⟨σ7, H7, I7, q7⟩ := q7; exact ⟨σ7, H7, I7.unpinned, q7⟩
    | ret v => obtain ⟨x7, σ7, H7, I7, r7, q7⟩ := q7; exact ⟨x7, σ7, H7, I7.unpinned, r7, q7⟩
end
end L2
namespace L2
open PySem PySem.Spec PyProof.Rows
abbrev R2 := V → V → Hp → VK → Prop
def OpR (X : Cx) (f : Value → Value → Sem Value) (r : R2) : Prop :=
  ∀ (pins : List (Addr × Obj)) (s : Shared) (σ : St) (H : Hp) (x y : V) (v u : Value) (Q : VK), Inv X pins σ H s → RelV x v → RelV y u → r x y H Q →
    wpAny (model X.prog X.w) X.A (f v u) (EP X pins σ Q) X.xe s
def UnR (X : Cx) (f : Value → Sem Value) (r : V → Hp → VK → Prop) : Prop :=
  ∀ (pins : List (Addr × Obj)) (s : Shared) (σ : St) (H : Hp) (x : V) (v : Value) (Q : VK), Inv X pins σ H s → RelV x v → r x H Q →
    wpAny (model X.prog X.w) X.A (f v) (EP X pins σ Q) X.xe s
def CallR (X : Cx) (f : Value) (r : List V → Hp → VK → Prop) : Prop :=
  ∀ (pins : List (Addr × Obj)) (s : Shared) (σ : St) (H : Hp) (xs : List V) (us : List Value) (Q : VK), Inv X pins σ H s → Vals xs us → r xs H Q →
    wpAny (model X.prog X.w) X.A (call f us) (EP X pins σ Q) X.xe s
def TruR (X : Cx) (r : V → Hp → (Bool → Hp → Prop) → Prop) : Prop :=
  ∀ (pins : List (Addr × Obj)) (s : Shared) (σ : St) (H : Hp) (x : V) (v : Value) (Q : Bool → Hp → Prop), Inv X pins σ H s → RelV x v → r x H Q →
    wpAny (model X.prog X.w) X.A (truthy v) (TP X pins σ Q) X.xe s
def tOp (r : R2) (ta tb : TE) : TE := fun σ H Q => ta σ H fun x H1 => tb σ H1 fun y H2 => r x y H2 Q
def tUn (r : V → Hp → VK → Prop) (ta : TE) : TE := fun σ H Q => ta σ H fun x H1 => r x H1 Q
def rI (C : Int → Int → Prop) (g : Int → Int → V) : R2 := fun x y H Q => ∃ i j, x = .int i ∧ y = .int j ∧ C i j ∧ Q (g i j) H
def rI0 (g : Int → Int → V) : R2 := fun x y H Q => ∃ i j, x = .int i ∧ y = .int j ∧ Q (g i j) H
def rU (g : Int → V) : V → Hp → VK → Prop := fun x H Q => ∃ i, x = .int i ∧ Q (g i) H
section
variable {X : Cx} {a b c : Expr} {ta tb tc : TE} {pos : Pos}
theorem binT (ha : PE X a ta) (hb : PE X b tb) {pins : List (Addr × Obj)} {s : Shared} {σ : St} {H : Hp} {R : V → V → Hp → Prop} (I : Inv X pins σ H s)
    (h : ta σ H fun x H1 => tb σ H1 fun y H2 => R x y H2) {Q : Value → Shared → Prop} {f : Value → Value → Sem Value}
    (hf : ∀ v u s2 x y H2, Inv X pins σ H2 s2 → RelV x v → RelV y u → R x y H2 → wpAny (model X.prog X.w) X.A (f v u) Q X.xe s2) :
    wpAny (model X.prog X.w) X.A (eval a X.env) (fun v s₁ => wpAny (model X.prog X.w) X.A (eval b X.env) (fun u s₂ => wpAny (model X.prog X.w) X.A (f v u) Q X.xe s₂) X.xe s₁) X.xe s := by
  refine thn (ha pins s σ H _ I h) ?_
  rintro v s1 ⟨x, H1, I1, r1, q1⟩
  refine thn (hb pins s1 σ H1 _ I1 q1) ?_
  rintro u s2 ⟨y, H2, I2, r2, q2⟩
  exact hf v u s2 x y H2 I2 r1 r2 q2
theorem pe_op {op : Operator} {r : R2} (ho : OpR X (binaryOp op) r) (ha : PE X a ta) (hb : PE X b tb) : PE X (.BinOp a op b pos) (tOp r ta tb) := by
  intro pins s σ H Q I h
  exact wpAny_BinOp (binT ha hb I h fun v u s2 x y H2 I2 rx ry q => ho pins s2 σ H2 x y v u Q I2 rx ry q)
theorem pe_un {op : UnaryOp} {r : V → Hp → VK → Prop} (ho : UnR X (unaryOp op) r) (ha : PE X a ta) : PE X (.UnaryOp op a pos) (tUn r ta) := by
  intro pins s σ H Q I h
  exact UnaryOp_ (thn (ha pins s σ H _ I h) (by rintro v s1 ⟨x, H1, I1, r1, q1⟩;exact ho pins s1 σ H1 x v Q I1 r1 q1))
theorem opI {f : Value → Value → Sem Value} {C : Int → Int → Prop} {g : Int → Int → Int}
    (rule : ∀ (i j : Int) (t u : Tok) (s : Shared) (Q : Value → Shared → Prop) (E : Value → Shared → Prop), C i j → Q (.int (g i j) s.toks) { s with toks := s.toks + 1 } → wpAny (model X.prog X.w) X.A (f (.int i t) (.int j u)) Q E s) :
    OpR X f (rI C fun i j => .int (g i j)) := by
  intro pins s σ H x y v u Q I rx ry h
  obtain ⟨i, j, rfl, rfl, hc, q⟩ := h
  obtain ⟨t, rfl⟩ := rx
  obtain ⟨t', rfl⟩ := ry
  exact rule i j t t' s _ _ hc ⟨.int (g i j), H, I.tok _, ⟨_, rfl⟩, q⟩
theorem opI0 {f : Value → Value → Sem Value} {g : Int → Int → Int}
    (rule : ∀ (i j : Int) (t u : Tok) (s : Shared) (Q : Value → Shared → Prop) (E : Value → Shared → Prop), Q (.int (g i j) s.toks) { s with toks := s.toks + 1 } → wpAny (model X.prog X.w) X.A (f (.int i t) (.int j u)) Q E s) :
    OpR X f (rI0 fun i j => .int (g i j)) := by
  intro pins s σ H x y v u Q I rx ry h
  obtain ⟨i, j, rfl, rfl, q⟩ := h
  obtain ⟨t, rfl⟩ := rx
  obtain ⟨t', rfl⟩ := ry
  exact rule i j t t' s _ _ ⟨.int (g i j), H, I.tok _, ⟨_, rfl⟩, q⟩
theorem opB0 {f : Value → Value → Sem Value} {g : Int → Int → Bool}
    (rule : ∀ (i j : Int) (t u : Tok) (s : Shared) (Q : Value → Shared → Prop) (E : Value → Shared → Prop), Q (.bool (g i j)) s → wpAny (model X.prog X.w) X.A (f (.int i t) (.int j u)) Q E s) :
    OpR X f (rI0 fun i j => .bl (g i j)) := by
  intro pins s σ H x y v u Q I rx ry h
  obtain ⟨i, j, rfl, rfl, q⟩ := h
  obtain ⟨t, rfl⟩ := rx
  obtain ⟨t', rfl⟩ := ry
  exact rule i j t t' s _ _ ⟨.bl (g i j), H, I, rfl, q⟩
def CDiv (i j : Int) : Prop := 0 < j ∧ j < 1073741824
def CPow (i j : Int) : Prop := 0 ≤ j ∧ j ≤ 1000000 ∧ i.natAbs < 2 ^ 64
def CMul (i j : Int) : Prop := (-(2 ^ 64) < i ∧ i < 2 ^ 64) ∨ (-(2 ^ 64) < j ∧ j < 2 ^ 64)
theorem CMul.ok {i j : Int} (h : CMul i j) : IntMulOk i j := by
  rcases h with ⟨h1, h2⟩ | ⟨h1, h2⟩
  · exact .of_left (intBits_le_64 h1 h2)
  · exact .of_right (intBits_le_64 h1 h2)
theorem op_add : OpR X (binaryOp .Add) (rI0 fun i j => .int (i + j)) := opI0 fun _ _ _ _ _ _ _ q => add_int q
theorem op_sub : OpR X (binaryOp .Sub) (rI0 fun i j => .int (i - j)) := opI0 fun _ _ _ _ _ _ _ q => sub_int q
theorem op_mul : OpR X (binaryOp .Mult) (rI CMul fun i j => .int (i * j)) := opI fun _ _ _ _ _ _ _ hc q => mul_int q hc.ok
theorem op_fdiv : OpR X (binaryOp .FloorDiv) (rI CDiv fun i j => .int (i / j)) := opI fun i j _ _ _ _ _ hc q => by
  have h1 : (0 : Int) < j := hc.1
  have h2 : j < 1073741824 := hc.2
  exact floordiv_int (by lia) (by rw [Int.fdiv_eq_ediv_of_nonneg i (by lia)]; exact q) (.inl (PyProof.noPylong_small (by lia)))
theorem op_mod : OpR X (binaryOp .Mod) (rI (fun _ j => 0 < j) fun i j => .int (i % j)) := opI fun i j _ _ _ _ _ hc q => by
  have h1 : (0 : Int) < j := hc
  exact mod_int' (by lia) (by rw [Int.fmod_eq_emod_of_nonneg i (by lia)]; exact q)
theorem op_pow : OpR X (binaryOp .Pow) (rI CPow fun i j => .int (i ^ j.toNat)) := opI fun _ _ _ _ _ _ _ hc q => pow_int_small hc.1 hc.2.1 hc.2.2 q
theorem unI {f : Value → Sem Value} {g : Int → Int}
    (rule : ∀ (i : Int) (t : Tok) (s : Shared) (Q : Value → Shared → Prop) (E : Value → Shared → Prop), Q (.int (g i) s.toks) { s with toks := s.toks + 1 } → wpAny (model X.prog X.w) X.A (f (.int i t)) Q E s) :
    UnR X f (rU fun i => .int (g i)) := by
  intro pins s σ H x v Q I rx h
  obtain ⟨i, rfl, q⟩ := h
  obtain ⟨t, rfl⟩ := rx
  exact rule i t s _ _ ⟨.int (g i), H, I.tok _, ⟨_, rfl⟩, q⟩
theorem un_neg : UnR X (unaryOp .USub) (rU fun i => .int (-i)) := unI fun _ _ _ _ _ q => neg_int q
end
theorem dec_int {i j : Int} : decide (V.int i = V.int j) = (i == j) := by
  rw [Bool.eq_iff_iff]
  simp
theorem dec_bl {i j : Bool} : decide (V.bl i = V.bl j) = (i == j) := by
  rw [Bool.eq_iff_iff]
  simp
theorem dec_str {i j : Str} : decide (V.str i = V.str j) = (i == j) := by
  rw [Bool.eq_iff_iff]
  simp
section
variable {X : Cx} {a b c : Expr} {ta tb tc : TE} {pos : Pos}
theorem fin_bl {pins : List (Addr × Obj)} {σ : St} {H : Hp} {s : Shared} {Q : VK} {k k' : Bool} (I : Inv X pins σ H s) (q : Q (.bl k) H) (e : k = k') : EP X pins σ Q (.bool k') s := by
  subst e
  exact ⟨.bl k, H, I, rfl, q⟩
theorem op_lt : OpR X (compareOp .Lt) (rI0 fun i j => .bl (decide (i < j))) := opB0 fun _ _ _ _ _ _ _ q => lt_int q
theorem op_le : OpR X (compareOp .LtE) (rI0 fun i j => .bl (decide (i ≤ j))) := opB0 fun _ _ _ _ _ _ _ q => le_int q
theorem op_gt : OpR X (compareOp .Gt) (rI0 fun i j => .bl (decide (j < i))) := opB0 fun _ _ _ _ _ _ _ q => gt_int q
theorem op_ge : OpR X (compareOp .GtE) (rI0 fun i j => .bl (decide (j ≤ i))) := opB0 fun _ _ _ _ _ _ _ q => ge_int q
theorem OpR.or {f : Value → Value → Sem Value} {r r' : R2} (h : OpR X f r) (h' : OpR X f r') : OpR X f (fun x y H Q => r x y H Q ∨ r' x y H Q) := by
  intro pins s σ H x y v u Q I rx ry q
  rcases q with q | q
  · exact h pins s σ H x y v u Q I rx ry q
  · exact h' pins s σ H x y v u Q I rx ry q
theorem nomark (b : Expr) {op : CmpOp} (h : op ≠ .In := by decide) (h2 : op ≠ .NotIn := by decide) : behindInMarks op b = false := by
  have e1 : (op == CmpOp.In) = false := by cases op <;> first | rfl | exact absurd rfl h
  have e2 : (op == CmpOp.NotIn) = false := by cases op <;> first | rfl | exact absurd rfl h2
  cases b <;> simp [behindInMarks, e1, e2]
theorem pe_cmpR {op : CmpOp} {r : R2} (ho : OpR X (compareOp op) r) (ha : PE X a ta) (hb : PE X b tb) (hm : behindInMarks op b = false) : PE X (.Compare a [op] [b] pos) (tOp r ta tb) := by
  intro pins s σ H Q I h
  exact wpAny_Compare1 (binT ha hb I h fun v u s2 x y H2 I2 rx ry q => ho pins s2 σ H2 x y v u Q I2 rx ry q) hm
def tTest (t : TE) : TT := fun σ H Q => t σ H fun x H' => ∃ k, x = .bl k ∧ Q k H'
theorem pt_cmpR {op : CmpOp} {r : R2} (ho : OpR X (compareOp op) r) (ha : PE X a ta) (hb : PE X b tb) (hm : behindInMarks op b = false) : PT X (.Compare a [op] [b] pos) (tTest (tOp r ta tb)) := by
  intro pins s σ H Q I h
  refine wpAny_isTrue_Compare1 (thn (ha pins s σ H _ I h) fun v s1 ⟨x, H1, I1, r1, q1⟩ => thn (hb pins s1 σ H1 _ I1 q1) fun u s2 ⟨y, H2, I2, r2, q2⟩ =>
    thn (ho pins s2 σ H2 x y v u _ I2 r1 r2 q2) fun c s3 ⟨z, H3, I3, r3, k, e, q3⟩ => ?_) hm
  subst e
  cases r3
  exact wpAny_truthy_bool ⟨H3, I3, q3⟩
def TruV (K : PySem.W.Frag) (x : V) (H : Hp) (k : Bool) : Prop :=
  match x with
  | .non => k = false
  | .bl b => k = b
  | .int i => k = (i != 0)
  | .str y => y.length ≤ sizeLine ∧ k = ((y.length : Int) != 0)
  | .byt y => y.size ≤ sizeLine ∧ k = ((y.size : Int) != 0)
  | .ref p => (∃ xs, SqL K H p xs ∧ k = !xs.isEmpty) ∨ (∃ xs, SqT K H p xs ∧ k = !xs.isEmpty) ∨ ∃ kvs, H p = some (.dK kvs) ∧ k = !kvs.isEmpty
  | _ => False
theorem isEmpty_kv {κ : Type} {kvs : List (κ × V)} {vs : List (κ × Value)} (r : KV kvs vs) : (!vs.isEmpty) = !kvs.isEmpty := by
  cases r <;> rfl
theorem isEmpty_of {xs : List V} {its : List Value} (r : Vals xs its) : (!its.toArray.isEmpty) = !xs.isEmpty := by
  cases r <;> simp
theorem line63 : (sizeLine : Nat) < 2 ^ 63 := by rw [sizeLine_eq]; decide
theorem tru_ok : TruR X (fun x H Q => ∃ k, TruV X.K x H k ∧ Q k H) := by
  intro pins s σ H x v Q I rx h
  obtain ⟨k, e, q⟩ := h
  have hl := line63
  have hs : sizeLine = 16777216 := sizeLine_eq
  cases x with
  | non =>
    cases rx
    have e' : k = false := e
    subst e'
    exact truthy_none ⟨H, I, q⟩
  | bl b =>
    cases rx
    have e' : k = b := e
    subst e'
    exact wpAny_truthy_bool ⟨H, I, q⟩
  | int i =>
    obtain ⟨t, rfl⟩ := rx
    have e' : k = (i != 0) := e
    subst e'
    exact PySem.P.truthy_int ⟨H, I, q⟩
  | str y =>
    obtain ⟨t, rfl⟩ := rx
    obtain ⟨hy, e'⟩ : y.length ≤ sizeLine ∧ k = ((y.length : Int) != 0) := e
    subst e'
    exact PySem.P.truthy_str (by lia) ⟨H, I.tok _, q⟩
  | byt y =>
    obtain ⟨t, rfl⟩ := rx
    obtain ⟨hy, e'⟩ : y.size ≤ sizeLine ∧ k = ((y.size : Int) != 0) := e
    subst e'
    exact PySem.W.truthy_bytes (by lia) ⟨H, I.tok _, q⟩
  | ref p =>
    cases rx
    have e' : (∃ xs, SqL X.K H p xs ∧ k = !xs.isEmpty) ∨ (∃ xs, SqT X.K H p xs ∧ k = !xs.isEmpty) ∨ ∃ kvs, H p = some (.dK kvs) ∧ k = !kvs.isEmpty := e
    rcases e' with ⟨xs, hx, e'⟩ | ⟨xs, hx, e'⟩ | ⟨kvs, hx, e'⟩
    · subst e'
      obtain ⟨its, r, pl, hz⟩ := I.list hx
      have hlen := r.length
      exact wpAny_truthy_list pl.isList (by simp only [List.size_toArray]; lia) ⟨H, I.tok _, by rw [isEmpty_of r]; exact q⟩
    · subst e'
      obtain ⟨its, r, pl, hz⟩ := I.tuple hx
      have hlen := r.length
      exact truthy_tuple pl (by simp only [List.size_toArray]; lia) ⟨H, I.tok _, by rw [isEmpty_of r]; exact q⟩
    · subst e'
      obtain ⟨hz, hS, vs, r, m⟩ : kvs.length ≤ sizeLine ∧ (p == sysModules) = false ∧ ∃ vs, KV kvs vs ∧ s.heap.DictOf (mixKind X.prog X.w) p vs := I.hok p _ hx
      have hlen : kvs.length = vs.length := Paired.length r
      exact wpAny_truthy_dict hS m (by lia) ⟨H, I.tok _, by rw [isEmpty_kv r]; exact q⟩
  | _ => exact (show False from e).elim
theorem op_add_str : OpR X (binaryOp .Add) (fun x y H Q => ∃ i j, x = .str i ∧ y = .str j ∧ i.length + j.length ≤ sizeLine ∧ Q (.str (i ++ j)) H) := by
  intro pins s σ H x y v u Q I rx ry h
  obtain ⟨i, j, rfl, rfl, hz, q⟩ := h
  obtain ⟨t, rfl⟩ := rx
  obtain ⟨t', rfl⟩ := ry
  exact add_str (fun t' tk => ⟨.str (i ++ j), H, I.tok _, ⟨_, rfl⟩, q⟩) hz
theorem vals1 {x : V} {us : List Value} (r : Vals [x] us) : ∃ u, us = [u] ∧ RelV x u := by
  cases r with
  | cons r1 r2 => cases r2; exact ⟨_, rfl, r1⟩
theorem vals2 {x y : V} {us : List Value} (r : Vals [x, y] us) : ∃ u w', us = [u, w'] ∧ RelV x u ∧ RelV y w' := by
  cases r with
  | cons r1 r2 =>
    cases r2 with
    | cons r3 r4 => cases r4; exact ⟨_, _, rfl, r1, r3⟩
theorem call_max2 (hc : X.calm = true) : CallR X (.builtin "max") (fun xs H Q => ∃ i j, xs = [.int i, .int j] ∧ Q (.int (if j > i then j else i)) H) := by
  intro pins s σ H xs us Q I r h
  obtain ⟨i, j, rfl, q⟩ := h
  obtain ⟨u, w', rfl, ⟨t, rfl⟩, ⟨t', rfl⟩⟩ := vals2 r
  refine max_two_ints (I.ok.hd hc) fun h' tk k => ⟨_, H, I.kept k, ?_, q⟩
  by_cases hj : j > i
  · rw [if_pos hj, if_pos hj]; exact ⟨_, rfl⟩
  · rw [if_neg hj, if_neg hj]; exact ⟨_, rfl⟩
theorem call_min2 (hc : X.calm = true) : CallR X (.builtin "min") (fun xs H Q => ∃ i j, xs = [.int i, .int j] ∧ Q (.int (if j < i then j else i)) H) := by
  intro pins s σ H xs us Q I r h
  obtain ⟨i, j, rfl, q⟩ := h
  obtain ⟨u, w', rfl, ⟨t, rfl⟩, ⟨t', rfl⟩⟩ := vals2 r
  refine min_two_ints (I.ok.hd hc) fun h' tk k => ⟨_, H, I.kept k, ?_, q⟩
  by_cases hj : j < i
  · rw [if_pos hj, if_pos hj]; exact ⟨_, rfl⟩
  · rw [if_neg hj, if_neg hj]; exact ⟨_, rfl⟩
theorem call_int1 : CallR X (.type "int") (fun xs H Q => (∃ i, xs = [.int i] ∧ Q (.int i) H) ∨ ∃ k, xs = [.bl k] ∧ Q (.int (if k then 1 else 0)) H) := by
  intro pins s σ H xs us Q I r h
  rcases h with ⟨i, rfl, q⟩ | ⟨k, rfl, q⟩
  · obtain ⟨u, rfl, t, rfl⟩ := vals1 r
    exact call_int_int ⟨.int i, H, I, ⟨_, rfl⟩, q⟩
  · obtain ⟨u, rfl, r1⟩ := vals1 r
    cases r1
    exact call_int_bool ⟨.int (if k then 1 else 0), H, I.tok _, ⟨_, rfl⟩, q⟩
def LenV (K : PySem.W.Frag) (x : V) (H : Hp) (n : Nat) : Prop :=
  match x with
  | .str y => y.length ≤ sizeLine ∧ n = y.length
  | .byt y => y.size ≤ sizeLine ∧ n = y.size
  | .ref p => (∃ xs, SqL K H p xs ∧ n = xs.length) ∨ ∃ xs, SqT K H p xs ∧ n = xs.length
  | _ => False
theorem call_len : CallR X (.builtin "len") (fun xs H Q => ∃ x n, xs = [x] ∧ LenV X.K x H n ∧ Q (.int n) H) := by
  intro pins s σ H xs us Q I r h
  obtain ⟨x, n, rfl, e, q⟩ := h
  obtain ⟨u, rfl, rx⟩ := vals1 r
  have hl := line63
  have hs : sizeLine = 16777216 := sizeLine_eq
  cases x with
  | str y =>
    obtain ⟨t, rfl⟩ := rx
    obtain ⟨hy, e'⟩ : y.length ≤ sizeLine ∧ n = y.length := e
    subst e'
    exact len_str (by lia) ⟨.int _, H, I.tok _, ⟨_, rfl⟩, q⟩
  | byt y =>
    obtain ⟨t, rfl⟩ := rx
    obtain ⟨hy, e'⟩ : y.size ≤ sizeLine ∧ n = y.size := e
    subst e'
    exact PySem.W.len_bytes (by lia) ⟨.int _, H, I.tok _, ⟨_, rfl⟩, q⟩
  | ref p =>
    cases rx
    have e' : (∃ xs, SqL X.K H p xs ∧ n = xs.length) ∨ ∃ xs, SqT X.K H p xs ∧ n = xs.length := e
    rcases e' with ⟨xs, hx, e'⟩ | ⟨xs, hx, e'⟩
    · subst e'
      obtain ⟨its, r', pl, hz⟩ := I.list hx
      have hlen := r'.length
      exact Calls.call_len_list pl.isList (by simp only [List.size_toArray]; lia) ⟨.int xs.length, H, I.tok _, ⟨_, by simp only [List.size_toArray]; rw [hlen]⟩, q⟩
    · subst e'
      obtain ⟨its, r', pl, hz⟩ := I.tuple hx
      have hlen := r'.length
      exact len_tuple pl (by simp only [List.size_toArray]; lia) ⟨.int xs.length, H, I.tok _, ⟨_, by simp only [List.size_toArray]; rw [hlen]⟩, q⟩
  | _ => exact (show False from e).elim
end
end L2
namespace L2
open PySem PySem.Spec PyProof.Rows
structure ObjM (h : Heap) (x dx C : Addr) (mA : Str → Option Value) : Prop where
  obj : h.get? x = some (PySem.W.instObj C dx)
  ns : h.Ns1 dx mA
  ne : dx ≠ x
set_option tactic.hygienic true in
theorem lookIn_ns {h : Heap} {dx : Addr} {mA : Str → Option Value} (n : h.Ns1 dx mA) : ∃ od, h.get? dx = some od ∧ ∀ name, PySem.W.lookIn name od = some (mA name) := by
  obtain ⟨o, es, ep, ho, hd, hk, _, hm⟩ := n
  refine ⟨o, ho, fun name => ?_⟩
  have e := hm name
  unfold nsFind findBy at e
  rw [← Array.find?_toList] at e
  unfold PySem.W.lookIn
  rw [hd]
  dsimp only
  split
  · rename_i y q
    rw [q] at e
    exact congrArg some e
  · rename_i q
    rw [q] at e
    have a : es.toList.any (·.refKey) = false := by
      rw [List.any_eq_false]
      intro y hy
      obtain ⟨z, t, hkey⟩ := hk y (Array.mem_toList_iff.mp hy)
      simp [DictEntry.refKey, hkey]
    have a' : ¬ es.toList.any (·.refKey) = true := by rw [a]; exact Bool.false_ne_true
    rw [if_neg a']
    exact congrArg some e
theorem ObjM.look {h : Heap} {x dx C : Addr} {mA : Str → Option Value} (I : ObjM h x dx C mA) : ∃ od, PySem.W.InstAt h x (PySem.W.instObj C dx) C (some od) ∧ ∀ name, PySem.W.lookIn name od = some (mA name) :=
  let ⟨od, ho, hl⟩ := lookIn_ns I.ns
  ⟨od, ⟨I.obj, rfl, rfl, ho⟩, hl⟩
section
variable {prog : Program} {w : World} {A : Around} {E : Value → Shared → Prop} {s : Shared} {K : PySem.W.Frag} {x dx C f : Addr} {mA : Str → Option Value} {name : Str} {v : Value}
theorem get_map {expr : Bool} {Q : Value → Shared → Prop} (X : K.In s.heap) (I : ObjM s.heap x dx C mA) (hg : PySem.W.plainGet K C name = true) (hh : PySem.W.hasDictIn K C = true)
    (ha : PySem.W.findIn K (.ref C) name = some none) (hv : mA name = some v) (hv' : PySem.W.handedIn v = true) (h : Q v { s with toks := s.toks + 1 }) :
    wpAny (model prog w) A (getAttr (.ref x) name expr) Q E s := by
  obtain ⟨od, J, hl⟩ := I.look
  exact PySem.W.get_value X J (PySem.W.plainGet_of hg).1 (PySem.W.findObj_own hh ha rfl (by rw [hl, hv])) hv' h
theorem get_meth {pl : Sem Bool} {Q : Value × List Value → Shared → Prop} (X : K.In s.heap) (I : ObjM s.heap x dx C mA) (hg : PySem.W.plainGet K C name = true)
    (hf : PySem.W.findIn K (.ref C) name = some (some (.ref f))) (ht : PySem.W.isFn K (.ref f) = true) (hv : mA name = none) (h : Q (.ref f, [.ref x]) s) :
    wpAny (model prog w) A (getMethod (.ref x) name pl) Q E s := by
  obtain ⟨od, J, hl⟩ := I.look
  exact PySem.W.method_fn X J (PySem.W.plainGet_of hg).1 (PySem.W.plainGet_of hg).2 hf (beq_iff_eq.mp ht) (by show (PySem.W.lookIn name od).map (·.isSome) = some false; rw [hl, hv]; rfl) h
theorem set_map {ns : List Str} {Q : Unit → Shared → Prop} (X : K.In s.heap) (I : ObjM s.heap x dx C mA)
    (hs : PySem.W.findIn K (.ref C) "__setattr__" = some (some (.builtin "object.__setattr__"))) (hp : PySem.W.plainOver K C = true) (ht : PySem.W.takerIn K C name = some none) (hh : PySem.W.hasDictIn K C = true)
    (hw : PySem.Within mA ns) (hsz : ns.length ≤ sizeLine)
    (h : ∀ h', ObjM h' x dx C (fun y => if y = name then some v else mA y) → Heap.SameBut dx s.heap h' → Q () { s with heap := h', toks := s.toks + 2 }) :
    wpAny (model prog w) A (setAttr (.ref x) name v) Q E s := by
  obtain ⟨od, J, hl⟩ := I.look
  refine PySem.W.set_plain X J hs (PySem.W.osa_open (s := { s with toks := s.toks + 1 }) (r := none) X J hp ht fun b => ?_)
  obtain ⟨cd, hc, hd'⟩ := PySem.W.any_some hh
  have hx : s.heap.get? x = some ⟨.ref C, some dx, .plain, #[]⟩ := I.obj
  refine wpAny_bind (wpAny_pure (wpAny_bind (wpAny_bind (wpAny_loadPart hx (wpAny_bind (PySem.W.Looks.here (s := { s with toks := s.toks + 1 }) (PySem.W.looks_clsIn X hc) ?_))))))
  rw [hd']
  refine wpAny_pure (a := some dx) (wpAny_bind (wpAny_pure (wpAny_bind ?_)))
  refine wpAny_nsSet1 (s := { s with toks := s.toks + 1 }) I.ns fun h' hn2 hs2 => ?_
  obtain ⟨oD, esD, epD, hoD, hdD, hcD⟩ := hn2.count (PySem.Within.cons name v hw)
  refine wpAny_bind (wpAny_lookBehind hoD (by rw [hdD]; exact pastItsLine_dict (Nat.le_trans hcD (by rw [List.length_cons]; lia))) ?_)
  exact wpAny_pure (h _ ⟨(hs2.2 _ (Ne.symm I.ne)).trans I.obj, hn2, I.ne⟩ hs2)
theorem make_map {R : Result → Shared → Prop} {vs : List Value} {kw : List (Str × Value)} (X : K.In s.heap) (hm : PySem.W.makesIn K C = true)
    (hi : PySem.W.findIn K (.ref C) "__init__" = some (some (.ref f))) (hf : PySem.W.typeIn K (.ref f) = some (.type "function"))
    (h : codeAny (model prog w) (A.under (.builtin "type.__call__" ⟨.ref C :: vs, kw⟩)) (.call (.ref f) ⟨.ref (s.heap.objs.size + 1) :: vs, kw⟩) (PySem.W.InitBack (s.heap.objs.size + 1) R)
      { s with heap := (s.heap.push PySem.W.emptyDict).push (PySem.W.instObj C s.heap.objs.size) }) :
    codeAny (model prog w) A (.call (.ref C) ⟨vs, kw⟩) R s := by
  obtain ⟨hh, g, d, t, os⟩ := s
  exact PySem.W.make_core (PySem.W.makes_of X hm) (PySem.W.looks_findIn X hi) (fun self => PySem.W.bind_fn X self hf) (.inl rfl) h
end
def putF (f : Str) (v : V) : List (Str × V) → List (Str × V)
  | [] => [(f, v)]
  | (g, x) :: r => if g = f then (g, v) :: r else (g, x) :: putF f v r
theorem lookup_putF (f g : Str) (v : V) : ∀ fs : List (Str × V), (putF f v fs).lookup g = if g = f then some v else fs.lookup g
  | [] => by
    show List.lookup g [(f, v)] = _
    by_cases h : g = f
    · have hb : (g == f) = true := beq_iff_eq.mpr h
      simp only [List.lookup, hb, if_pos h]
    · have hb : (g == f) = false := beq_eq_false_iff_ne.mpr h
      simp only [List.lookup, hb, if_neg h]
  | (k, x) :: r => by
    have ih := lookup_putF f g v r
    rw [show putF f v ((k, x) :: r) = (if k = f then (k, v) :: r else (k, x) :: putF f v r) from rfl]
    by_cases hk : k = f
    · rw [if_pos hk]
      by_cases h : g = k
      · have hb : (g == k) = true := beq_iff_eq.mpr h
        simp only [List.lookup, hb, if_pos (h.trans hk)]
      · have hb : (g == k) = false := beq_eq_false_iff_ne.mpr h
        simp only [List.lookup, hb, if_neg (fun e : g = f => h (e.trans hk.symm))]
    · rw [if_neg hk]
      by_cases h : g = k
      · have hb : (g == k) = true := beq_iff_eq.mpr h
        simp only [List.lookup, hb, if_neg (fun e : g = f => hk (h.symm.trans e))]
      · have hb : (g == k) = false := beq_eq_false_iff_ne.mpr h
        simp only [List.lookup, hb]
        exact ih
theorem keys_putF (f : Str) (v : V) : ∀ fs : List (Str × V), f ∈ (putF f v fs).map (·.1) ∧ ∀ g, g ∈ fs.map (·.1) → g ∈ (putF f v fs).map (·.1)
  | [] => ⟨by simp [putF], fun g h => by simp at h⟩
  | (k, x) :: r => by
    obtain ⟨i1, i2⟩ := keys_putF f v r
    rw [show putF f v ((k, x) :: r) = (if k = f then (k, v) :: r else (k, x) :: putF f v r) from rfl]
    by_cases hk : k = f
    · rw [if_pos hk]
      subst hk
      exact ⟨by simp, fun g h => by simpa using h⟩
    · rw [if_neg hk]
      refine ⟨?_, fun g h => ?_⟩
      · rw [List.map_cons]
        exact List.mem_cons_of_mem _ i1
      · rw [List.map_cons] at h ⊢
        rcases List.mem_cons.mp h with e | e
        · exact List.mem_cons.mpr (.inl e)
        · exact List.mem_cons_of_mem _ (i2 g e)
theorem length_putF (f : Str) (v : V) : ∀ fs : List (Str × V), (putF f v fs).length ≤ fs.length + 1
  | [] => by simp [putF]
  | (k, x) :: r => by
    have ih := length_putF f v r
    rw [show putF f v ((k, x) :: r) = (if k = f then (k, v) :: r else (k, x) :: putF f v r) from rfl]
    by_cases hk : k = f
    · rw [if_pos hk, List.length_cons, List.length_cons]; lia
    · rw [if_neg hk, List.length_cons, List.length_cons]; lia
theorem RelO.some_of {v : V} {o : Option Value} (r : RelO (some v) o) : ∃ u, o = some u ∧ RelV v u := by
  cases o with
  | none => exact (show False from r).elim
  | some u => exact ⟨u, rfl, r⟩
theorem RelO.none_of {o : Option Value} (r : RelO none o) : o = none := by
  cases o with
  | none => rfl
  | some u => exact (show False from r).elim
theorem handed_of {v : V} {u : Value} (r : RelV v u) : PySem.W.handedIn u = true := by
  cases v with
  | non => cases (show u = Value.none from r); rfl
  | bl b => cases (show u = Value.bool b from r); rfl
  | int i => obtain ⟨t, e⟩ := (show ∃ t, u = Value.int i t from r); cases e; rfl
  | str x => obtain ⟨t, e⟩ := (show ∃ t, u = Value.str x t from r); cases e; rfl
  | byt b => obtain ⟨t, e⟩ := (show ∃ t, u = Value.bytes b t from r); cases e; rfl
  | flt b => obtain ⟨t, e⟩ := (show ∃ t, u = Value.float b t from r); cases e; rfl
  | ref a => cases (show u = Value.ref a from r); rfl
  | ty n => cases (show u = Value.type n from r); rfl
section
variable {P : Program} {w : World} {H H' : Hp} {h h' : Heap} {a C dx : Addr} {fs fs' : List (Str × V)}
theorem ins_get (hok : HOk P w H h) (e : H a = some (.ins C dx fs)) : ∃ mA, ObjM h a dx C mA ∧ (∀ f, RelO (fs.lookup f) (mA f)) ∧ PySem.Within mA (fs.map (·.1)) ∧ fs.length ≤ 1000 ∧ H dx = some (.own a) := by
  obtain ⟨d, z, ne, ob, mA, n, r, q⟩ := (show ObjOk P w H h a (.ins C dx fs) from hok a _ e)
  exact ⟨mA, ⟨ob, n, ne⟩, r, q, z, d⟩
end
structure Cls (K : PySem.W.Frag) (C : Addr) : Prop where
  pg : PySem.W.plainGet K C Str.empty = true
  hd : PySem.W.hasDictIn K C = true
  po : PySem.W.plainOver K C = true
  sa : PySem.W.findIn K (.ref C) "__setattr__" = some (some (.builtin "object.__setattr__"))
theorem Cls.get {K : PySem.W.Frag} {C : Addr} (c : Cls K C) (f : Str) : PySem.W.plainGet K C f = true := c.pg
def NoAttr (K : PySem.W.Frag) (C : Addr) (f : Str) : Prop := PySem.W.findIn K (.ref C) f = some none
theorem NoAttr.taker {K : PySem.W.Frag} {C : Addr} {f : Str} (n : NoAttr K C f) : PySem.W.takerIn K C f = some none := by
  unfold PySem.W.takerIn
  rw [show PySem.W.findIn K (.ref C) f = some none from n]
  rfl
structure Con (K : PySem.W.Frag) (C : Addr) (f : Str) (v : V) (u : Value) : Prop where
  at_ : PySem.W.findIn K (.ref C) f = some (some u)
  rel : RelV v u
  get : PySem.W.specialIn K u "__get__" = some none
  cp : PySem.W.copiedNames.contains f = false
structure Meth (K : PySem.W.Frag) (C : Addr) (m : Str) (f : Addr) : Prop where
  at_ : PySem.W.findIn K (.ref C) m = some (some (.ref f))
  fn : PySem.W.isFn K (.ref f) = true
  kp : PySem.W.keepIn K (.ref f) = true
section
variable {X : Cx} {pins : List (Addr × Obj)} {σ : St} {H : Hp} {s : Shared} {a C dx : Addr} {fs : List (Str × V)} {f : Str} {v : V} {A : Around} {E : Value → Shared → Prop}
theorem getattr_ok {b : Bool} {Q : Value → Shared → Prop} (I : Inv X pins σ H s) (e : H a = some (.ins C dx fs)) (c : Cls X.K C) (n : NoAttr X.K C f) (l : fs.lookup f = some v)
    (h : ∀ u s', Inv X pins σ H s' → RelV v u → Q u s') : wpAny (model X.prog X.w) A (getAttr (.ref a) f b) Q E s := by
  obtain ⟨mA, O, r, _, _, _⟩ := ins_get I.hok e
  obtain ⟨u, hu, ru⟩ := RelO.some_of (v := v) (o := mA f) (by rw [← l]; exact r f)
  exact get_map I.kIn O (c.get f) c.hd n hu (handed_of ru) (h u _ (I.tok _) ru)
theorem getmeth_ok {m : Str} {g : Addr} {pl : Sem Bool} {Q : Value × List Value → Shared → Prop} (I : Inv X pins σ H s) (e : H a = some (.ins C dx fs)) (c : Cls X.K C) (k : Meth X.K C m g) (l : fs.lookup m = none)
    (h : Q (.ref g, [.ref a]) s) : wpAny (model X.prog X.w) A (getMethod (.ref a) m pl) Q E s := by
  obtain ⟨mA, O, r, _, _, _⟩ := ins_get I.hok e
  have hn : mA m = none := RelO.none_of (by rw [← l]; exact r m)
  exact get_meth I.kIn O (c.get m) k.at_ k.fn hn h
theorem setattr_ok {y : V} {u : Value} {Q : Unit → Shared → Prop} (I : Inv X pins σ H s) (e : H a = some (.ins C dx fs)) (c : Cls X.K C) (n : NoAttr X.K C f) (hl : fs.length < 1000) (ry : RelV y u)
    (h : ∀ s', Inv X pins σ (upd H a (.ins C dx (putF f y fs))) s' → Q () s') : wpAny (model X.prog X.w) A (setAttr (.ref a) f u) Q E s := by
  obtain ⟨mA, O, r, wi, _, ho⟩ := ins_get I.hok e
  have hz : (fs.map (·.1)).length ≤ sizeLine := by rw [List.length_map, sizeLine_eq]; lia
  refine set_map I.kIn O c.sa c.po n.taker c.hd wi hz fun h' O' sb => h _ ?_
  have hd : ∃ o, h'.get? dx = some o := let ⟨o, _, _, e', _⟩ := O'.ns; ⟨o, e'⟩
  refine I.write (x := a) (e := dx) (by rw [e]; exact True.intro) (.inr ho) (fun b q hb z => (sb.2 b hb).trans z) hd ?_
  refine ⟨by rw [upd_ne O.ne]; exact ho, ?_, O.ne, O'.obj, _, O'.ns, fun g => ?_, fun g hg => ?_⟩
  · have := length_putF f y fs; lia
  · show RelO ((putF f y fs).lookup g) (if g = f then some u else mA g)
    rw [lookup_putF]
    by_cases q : g = f
    · rw [if_pos q, if_pos q]; exact ry
    · rw [if_neg q, if_neg q]; exact r g
  · by_cases q : g = f
    · rw [q]; exact (keys_putF f y fs).1
    · refine (keys_putF f y fs).2 g (wi g fun z => hg ?_)
      show (if g = f then some u else mA g) = none
      rw [if_neg q]; exact z
theorem Inv.made (I : Inv X pins σ H s) : Inv X pins σ (upd (upd H s.heap.objs.size (.own (s.heap.objs.size + 1))) (s.heap.objs.size + 1) (.ins C s.heap.objs.size []))
    { s with heap := (s.heap.push PySem.W.emptyDict).push (PySem.W.instObj C s.heap.objs.size) } := by
  have e1 : (s.heap.push PySem.W.emptyDict).get? s.heap.objs.size = some PySem.W.emptyDict := Heap.get?_push_size s.heap rfl
  have e2 : ((s.heap.push PySem.W.emptyDict).push (PySem.W.instObj C s.heap.objs.size)).get? (s.heap.objs.size + 1) = some (PySem.W.instObj C s.heap.objs.size) := by
    have := Heap.get?_push_size (s.heap.push PySem.W.emptyDict) (o := PySem.W.instObj C s.heap.objs.size) rfl
    rwa [Heap.size_push] at this
  have e3 : (s.heap.push PySem.W.emptyDict).Ns s.heap.objs.size (fun _ => none) := ⟨PySem.W.emptyDict, #[], _, e1, rfl, (fun e he => absurd he (by simp)), fun _ => rfl⟩
  have I1 := I.laid (a := s.heap.objs.size) (o := .own (s.heap.objs.size + 1)) (h' := s.heap.push PySem.W.emptyDict) (t' := s.toks) (fun b u q => Heap.get?_push_of_some _ q) (Nat.le_refl _) ⟨_, e1⟩
  refine I1.laid (a := s.heap.objs.size + 1) (o := .ins C s.heap.objs.size []) (t' := s.toks) (fun b u q => Heap.get?_push_of_some _ q) (Nat.le_of_eq (Heap.size_push _ _)) ?_
  have ne : s.heap.objs.size ≠ s.heap.objs.size + 1 := Nat.ne_of_lt (Nat.lt_succ_self _)
  refine ⟨by rw [upd_ne ne, upd_same], Nat.zero_le _, ne, e2, fun _ => none, (Heap.Ns1.of_empty e3).at fun o q => Heap.get?_push_of_some _ q, fun _ => True.intro, fun y hy => absurd rfl hy⟩
theorem attr_of {prog : Program} {w : World} {env : Env} {e : Expr} {f : Str} {pos : Pos} {s : Shared} {Q : Value → Shared → Prop} (hb : attributeBase e f env (eval e env) = eval e env)
    (h : wpAny (model prog w) A (eval e env) (fun o s₁ => wpAny (model prog w) A (getAttr o f true) Q E s₁) E s) : wpAny (model prog w) A (eval (.Attribute e f pos) env) Q E s :=
  Attribute_any_ h (by rw [arm_eval_Attribute, hb])
end
def tFld (K : PySem.W.Frag) (ta : TE) (f : Str) : TE := fun σ H Q => ta σ H fun x H1 => ∃ a C dx fs v, x = .ref a ∧ H1 a = some (.ins C dx fs) ∧ Cls K C ∧ NoAttr K C f ∧ fs.lookup f = some v ∧ Q v H1
def sFld (K : PySem.W.Frag) (ta tv : TE) (f : Str) : TS := fun D σ H => tv σ H fun y H1 => ta σ H1 fun x H2 => ∃ a C dx fs, x = .ref a ∧ H2 a = some (.ins C dx fs) ∧ Cls K C ∧ NoAttr K C f ∧ fs.length < 1000 ∧
  D.nx σ (upd H2 a (.ins C dx (putF f y fs)))
def InOp (X : Cx) (op : Operator) (rd : V → V → Hp → VK → Prop) : Prop :=
  ∀ (pins : List (Addr × Obj)) (s : Shared) (σ : St) (H : Hp) (x y : V) (u v : Value) (Q : VK), Inv X pins σ H s → RelV x u → RelV y v → rd x y H Q → wpAny (model X.prog X.w) X.A (inplaceOp op u v) (EP X pins σ Q) X.xe s
def sFldAug (K : PySem.W.Frag) (ta tv : TE) (rd : V → V → Hp → VK → Prop) (f : Str) : TS := fun D σ H => ta σ H fun x H1 => ∃ a C dx fs v, x = .ref a ∧ H1 a = some (.ins C dx fs) ∧ Cls K C ∧ NoAttr K C f ∧ fs.lookup f = some v ∧
  tv σ H1 fun y H2 => rd v y H2 fun z H3 => ∃ dx' fs', H3 a = some (.ins C dx' fs') ∧ fs'.length < 1000 ∧ D.nx σ (upd H3 a (.ins C dx' (putF f z fs')))
section
variable {X : Cx} {o e value : Expr} {f : Str} {pos pos' tpos : Pos} {ta tv : TE}
theorem pe_fld (he : PE X e ta) (hb : attributeBase e f X.env (eval e X.env) = eval e X.env) : PE X (.Attribute e f pos) (tFld X.K ta f) := by
  intro pins s σ H Q I h
  refine attr_of hb (thn (he pins s σ H _ I h) ?_)
  rintro u s1 ⟨x, H1, I1, rx, a, C, dx, fs, v, ex, ea, c, n, l, q⟩
  subst ex
  obtain rfl : u = Value.ref a := rx
  exact getattr_ok I1 ea c n l fun u' s2 I2 ru => ⟨v, H1, I2, ru, q⟩
theorem ps_fld (ha : PE X o ta) (hv : PE X value tv) (hs : swapsWith value (some (.Attribute o f pos')) pos.line X.env = pure false) : PS X (.Assign [.Attribute o f pos'] value pos) (sFld X.K ta tv f) := by
  intro pins s σ H D I h
  refine plainObj_wpAny_Assign_Attribute (thn (hv pins s σ H _ I h) fun u s1 ⟨y, H1, I1, ry, q⟩ => thn (ha pins s1 σ H1 _ I1 q) ?_) hs
  rintro ov s2 ⟨x, H2, I2, rx, a, C, dx, fs, ex, ea, c, n, l, q2⟩
  subst ex
  obtain rfl : ov = Value.ref a := rx
  exact setattr_ok I2 ea c n l ry fun s3 I3 => ⟨σ, _, I3, q2⟩
theorem ps_fldaug {op : Operator} {rd : V → V → Hp → VK → Prop} (ha : PE X o ta) (hv : PE X value tv) (hop : InOp X op rd) : PS X (.AugAssign (.Attribute o f tpos) op value pos) (sFldAug X.K ta tv rd f) := by
  intro pins s σ H D I h
  refine wpAny_AugAssign_AttributeAny (thn (ha pins s σ H _ I h) ?_)
  rintro ov s1 ⟨x, H1, I1, rx, a, C, dx, fs, v, ex, ea, c, n, l, q⟩
  subst ex
  obtain rfl : ov = Value.ref a := rx
  refine getattr_ok I1 ea c n l fun u s2 I2 ru => thn (hv pins s2 σ H1 _ I2 q) fun w3 s3 ⟨y, H2, I3, ry, q3⟩ => thn (hop pins s3 σ H2 v y u w3 _ I3 ru ry q3) ?_
  rintro w4 s4 ⟨z, H3, I4, rz, dx', fs', ea', l', q4⟩
  exact setattr_ok I4 ea' c n l' rz fun s5 I5 => ⟨σ, _, I5, q4⟩
def rAdd : V → V → Hp → VK → Prop := fun x y H Q => ∃ i j, x = .int i ∧ y = .int j ∧ Q (.int (i + j)) H
theorem in_add : InOp X .Add rAdd := by
  rintro pins s σ H x y u v Q I rx ry ⟨i, j, rfl, rfl, q⟩
  obtain ⟨t, rfl⟩ := (show ∃ t, u = Value.int i t from rx)
  obtain ⟨t', rfl⟩ := (show ∃ t', v = Value.int j t' from ry)
  exact PyProof.Rows.iadd_int ⟨.int (i + j), H, I.tok _, ⟨_, rfl⟩, q⟩
theorem methcall_of {pl : Sem Bool} {m : Str} {apos : Pos} {args : List Expr} {pins : List (Addr × Obj)} {s : Shared} {σ : St} {H : Hp} {Q : Value → Shared → Prop} {te : TE} (he : PE X e te) (I : Inv X pins σ H s)
    (h : te σ H fun x H1 => ∃ a C dx fs g, x = .ref a ∧ H1 a = some (.ins C dx fs) ∧ Cls X.K C ∧ Meth X.K C m g ∧ fs.lookup m = none ∧
      ∀ s1, Inv X pins σ H1 s1 → wpAny (model X.prog X.w) X.A (callWith pos (.ref g) [.ref a] (backTo pos (starEach args X.env)) (backToKw pos (keywordEach [] X.env))) Q X.xe s1)
    (ht : eval (.Call (.Attribute e m apos) args [] pos) X.env = (do
      let ov ← eval e X.env
      standAt apos.atName
      let (f, first) ← holding [ov] (getMethod ov m pl)
      callWith pos f first (backTo pos (starEach args X.env)) (backToKw pos (keywordEach [] X.env)))) :
    wpAny (model X.prog X.w) X.A (eval (.Call (.Attribute e m apos) args [] pos) X.env) Q X.xe s := by
  refine PySem.W.methodCall_KW (pl := pl) (thn (he pins s σ H _ I h) ?_) ht
  rintro u s1 ⟨x, H1, I1, rx, a, C, dx, fs, g, ex, ea, c, k, l, q⟩
  subst ex
  obtain rfl : u = Value.ref a := rx
  exact getmeth_ok I1 ea c k l (q s1 I1)
end
section
variable {X : Cx} {pins : List (Addr × Obj)} {σ : St} {H : Hp} {s : Shared} {A : Around} {E : Value → Shared → Prop} {Q : Value → Shared → Prop} {c : Value} {b : Bool}
inductive TyOf (K : PySem.W.Frag) (H : Hp) : V → Value → Prop where
  | non : TyOf K H .non (.type "NoneType")
  | bl (x : Bool) : TyOf K H (.bl x) (.type "bool")
  | int (i : Int) : TyOf K H (.int i) (.type "int")
  | str (x : Str) : TyOf K H (.str x) (.type "str")
  | flt (x : UInt64) : TyOf K H (.flt x) (.type "float")
  | lst {a : Addr} {xs : List V} (e : H a = some (.lst xs)) : TyOf K H (.ref a) (.type "list")
  | frz {a : Addr} {o : Obj} {xs : List V} (e : H a = some (.frz o (.lst xs))) : TyOf K H (.ref a) (.type "list")
  | tup {a : Addr} {xs : List V} (e : H a = some (.tup xs)) : TyOf K H (.ref a) (.type "tuple")
  | dK {a : Addr} {kvs : List (Key × V)} (e : H a = some (.dK kvs)) : TyOf K H (.ref a) (.type "dict")
  | dT {a : Addr} {kvs : List (List Key × V)} (e : H a = some (.dT kvs)) : TyOf K H (.ref a) (.type "dict")
  | ins {a C dx : Addr} {fs : List (Str × V)} (e : H a = some (.ins C dx fs)) (cl : Cls K C) (ha : PySem.W.findIn K (.ref C) "__class__" = some (some (.builtin "object.__class__")))
      (hn : PySem.W.specialIn K (.builtin "object.__class__") "__get__" = some (some (.builtin "getset_descriptor.__get__"))) (htk : PySem.W.takesIn K (.builtin "object.__class__") = some true)
      (hm : PySem.W.mroIn K C (.type "object") = some true) : TyOf K H (.ref a) (.ref C)
theorem isinst_ok {x : V} {u t : Value} (I : Inv X pins σ H s) (rx : RelV x u) (ty : TyOf X.K H x t) (e : PySem.W.kitOne X.K t c = some b) (h : ∀ tk, Q (.bool b) { s with toks := tk }) :
    wpAny (model X.prog X.w) A (call (.builtin "isinstance") [u, c]) Q E s := by
  cases ty with
  | non => cases (show u = Value.none from rx); exact PySem.W.kia_one PySem.W.kitx_none I.kIn True.intro e (fun z => nomatch z) h
  | bl y => cases (show u = Value.bool y from rx); exact PySem.W.kia_one PySem.W.kitx_bool I.kIn True.intro e (fun z => nomatch z) h
  | int i => obtain ⟨t, q⟩ := (show ∃ t, u = Value.int i t from rx); cases q; exact PySem.W.kia_one PySem.W.kitx_int I.kIn True.intro e (fun z => nomatch z) h
  | str y => obtain ⟨t, q⟩ := (show ∃ t, u = Value.str y t from rx); cases q; exact PySem.W.kia_one PySem.W.kitx_str I.kIn True.intro e (fun z => nomatch z) h
  | flt y => obtain ⟨t, q⟩ := (show ∃ t, u = Value.float y t from rx); cases q; exact PySem.W.kia_one PySem.W.kitx_float I.kIn True.intro e (fun z => nomatch z) h
  | @lst a xs ea =>
    cases (show u = Value.ref a from rx)
    obtain ⟨_, _, n, _, h1⟩ := (show ObjOk X.prog X.w H s.heap a (.lst xs) from I.hok a _ ea)
    exact PySem.W.kia_one PySem.W.kitx_list I.kIn ⟨_, h1, rfl⟩ e (fun z => nomatch z) h
  | @frz a ob xs ea =>
    cases (show u = Value.ref a from rx)
    obtain ⟨_, _, _, n, _, h1⟩ := (show ObjOk X.prog X.w H s.heap a (.frz ob (.lst xs)) from I.hok a _ ea)
    exact PySem.W.kia_one PySem.W.kitx_list I.kIn ⟨_, h1, rfl⟩ e (fun z => nomatch z) h
  | @tup a xs ea =>
    cases (show u = Value.ref a from rx)
    obtain ⟨_, _, _, p⟩ := (show ObjOk X.prog X.w H s.heap a (.tup xs) from I.hok a _ ea)
    obtain ⟨o, h1, h2, _⟩ := p
    exact PySem.W.kia_one PySem.W.kitx_tuple I.kIn ⟨o, h1, h2⟩ e (fun z => nomatch z) h
  | @dK a kvs ea =>
    cases (show u = Value.ref a from rx)
    obtain ⟨_, _, vs, _, p⟩ := (show ObjOk X.prog X.w H s.heap a (.dK kvs) from I.hok a _ ea)
    obtain ⟨o, es, ep, h1, h2, _⟩ := p
    exact PySem.W.kia_one PySem.W.kitx_dict I.kIn ⟨o, h1, h2.1⟩ e (fun z => nomatch z) h
  | @dT a kvs ea =>
    cases (show u = Value.ref a from rx)
    obtain ⟨_, _, xs, _, o, es, ep, h1, h2, _⟩ := (show ObjOk X.prog X.w H s.heap a (.dT kvs) from I.hok a _ ea)
    exact PySem.W.kia_one PySem.W.kitx_dict I.kIn ⟨o, h1, h2.1⟩ e (fun z => nomatch z) h
  | @ins a C dx fs ea cl ha hn htk hm =>
    cases (show u = Value.ref a from rx)
    obtain ⟨mA, O, _⟩ := ins_get I.hok ea
    obtain ⟨od, J, _⟩ := O.look
    exact PySem.W.kia_one (PySem.W.kitx_own (cl.get _) cl.hd ha hn htk hm) I.kIn J e (fun z => nomatch z) h
end
end L2
namespace L2
open PySem PySem.Spec PyProof.Rows
structure Room (k : Nat) (A : Around) : Prop where
  hd : A.handled = none
  dp : A.depth + 3 * k + 5 < recursionLimit
  un : A.units + 16 * k + 200 < cLine
  gs : A.guards = some []
theorem Room.mono {j k : Nat} {A : Around} (r : Room k A) (h : j ≤ k) : Room j A := ⟨r.hd, by have := r.dp; lia, by have := r.un; lia, r.gs⟩
theorem Room.deeper {k : Nat} {A : Around} (r : Room (k + 1) A) (env : Env) : Room k (A.deeper env) :=
  ⟨r.hd, by have := r.dp; show A.depth + 1 + 3 * k + 5 < _; lia, by have := r.un; show A.units + 3 + 16 * k + 200 < _; lia, r.gs⟩
theorem Room.in1 {k : Nat} {A : Around} (r : Room (k + 1) A) : Room k A.in1 :=
  ⟨r.hd, by have := r.dp; show A.depth + 3 * k + 5 < _; lia, by have := r.un; show A.units + 1 + 16 * k + 200 < _; lia, r.gs⟩
theorem make_depth {A : Around} {C : Addr} {us : List Value} {kw : List (Str × Value)} : (A.under (.builtin "type.__call__" ⟨.ref C :: us, kw⟩)).depth = A.depth + 1 := by
  first | rfl | simp [Around.under, Code.weight, Code.isCreation, Code.isGuard, Code.isCaller, Code.frames, Code.isFrame, guardIds]
theorem make_units {A : Around} {C : Addr} {us : List Value} {kw : List (Str × Value)} : (A.under (.builtin "type.__call__" ⟨.ref C :: us, kw⟩)).units = A.units + 1 := by
  first | rfl | simp [Around.under, Code.cUnits, Code.frames, Code.isFrame]
theorem Room.make {k : Nat} {A : Around} (r : Room (k + 1) A) (C : Addr) (us : List Value) (kw : List (Str × Value)) : Room k (A.under (.builtin "type.__call__" ⟨.ref C :: us, kw⟩)) :=
  ⟨r.hd, by have := r.dp; rw [make_depth]; lia, by have := r.un; rw [make_units]; lia, by have := r.gs; simp [Around.under, Code.guards, Code.isGuard, guardIds, pushGuards, this]⟩
theorem Room.depth {k : Nat} {A : Around} (r : Room k A) : A.depth < recursionLimit := by have := r.dp; lia
theorem Room.units {k : Nat} {A : Around} (r : Room k A) : A.units + 64 < cLine := by have := r.un; lia
def tNil : TA := fun _ H Q => Q [] H
def tCons (ta : TE) (tr : TA) : TA := fun σ H Q => ta σ H fun x H1 => tr σ H1 fun xs H2 => Q (x :: xs) H2
section
variable {X : Cx} {e : Expr} {es : List Expr} {te : TE} {t : TA} {pos : Pos}
theorem pa_nil : PA X [] tNil := fun _ _ _ _ H Q I h => Calls.spliced_nil ⟨[], H, I, .nil, h⟩
theorem pa_cons (ha : PE X e te) (hr : PA X es t) (hs : starEach (e :: es) X.env = (false, eval e X.env) :: starEach es X.env := by rfl) : PA X (e :: es) (tCons te t) := by
  intro pos pins s σ H Q I h
  rw [hs]
  show wpAny _ _ (spliced ((false, eval e X.env) :: backTo pos (starEach es X.env))) _ _ s
  refine Calls.spliced_cons (thn (ha pins s σ H _ I h) ?_)
  rintro u s1 ⟨x, H1, I1, r1, q1⟩
  exact thn (hr pos pins s1 σ H1 _ I1 q1) (by rintro us s2 ⟨xs, H2, I2, r2, q2⟩;exact ⟨x :: xs, H2, I2, .cons r1 r2, q2⟩)
def tTup (t : TA) : TE := fun σ H Q => t σ H fun xs H1 => xs.length ≤ sizeLine ∧ ∀ p, H1 p = none → Q (.ref p) (upd H1 p (.tup xs))
def tLst (t : TA) : TE := fun σ H Q => t σ H fun xs H1 => xs.length ≤ sizeLine ∧ ∀ p, H1 p = none → Q (.ref p) (upd H1 p (.lst xs))
theorem pe_tup {x1} (h : PA X es t) : PE X (.Tuple es x1 pos) (tTup t) := by
  intro pins s σ H Q I hq
  refine wpAny_Tuple_spliced (thn (h pos pins s σ H _ I hq) fun us s1 ⟨xs, H1, I1, r, z, q⟩ => ⟨by rw [← r.length]; exact z, ?_⟩)
  have hf : H1 s1.heap.objs.size = none := I1.hok.fresh (Nat.le_refl _)
  refine ⟨.ref s1.heap.objs.size, upd H1 s1.heap.objs.size (.tup xs), I1.laid (t' := s1.toks) (fun b u e => Heap.get?_push_of_some _ e) (Nat.le_refl _) ?_, rfl, q _ hf⟩
  exact ⟨z, us, r, ⟨_, Heap.get?_push_size _ rfl, rfl, _, rfl⟩⟩
theorem pe_lst (h : PA X es t) : PE X (.List es pos) (tLst t) := by
  intro pins s σ H Q I hq
  refine wpAny_List_spliced (thn (h pos pins s σ H _ I hq) fun us s1 ⟨xs, H1, I1, r, z, q⟩ => ⟨by rw [← r.length]; exact z, ?_⟩)
  have hf : H1 s1.heap.objs.size = none := I1.hok.fresh (Nat.le_refl _)
  refine ⟨.ref s1.heap.objs.size, upd H1 s1.heap.objs.size (.lst xs), I1.laid (t' := s1.toks) (fun b u e => Heap.get?_push_of_some _ e) (Nat.le_refl _) ?_, rfl, q _ hf⟩
  exact ⟨z, us, 0, r, Heap.get?_push_size _ rfl⟩
end
abbrev Sp := List V → Hp → VK → XK → Prop
abbrev CXT := List Env → Hp → Shared → XK → Value → Shared → Prop
structure Env0 (P : Program) (w : World) (K : PySem.W.Frag) (mg : Str → Option Value) (base : Heap) (A : Around) (outer : List Env) (s : Shared) (H : Hp) : Prop where
  frames : A.frames = some outer
  mod : Mod K mg base
  bs : ∀ b o, base.get? b = some o → s.heap.get? b = some o ∧ H b = none
  bsz : base.objs.size ≤ s.heap.objs.size
  funs : s.heap.FunFrames base outer
  frf : ∀ b ∈ frs outer, H b = none
  hok : HOk P w H s.heap
  bare : AllBare s.gens
def CE (outer : List Env) (P : Program) (w : World) (H : Hp) (s : Shared) (Q : VK) (u : Value) (s' : Shared) : Prop :=
  ∃ v H', s'.os = s.os ∧ AllBare s'.gens ∧ Un (frs outer) [] H H' s.heap s'.heap ∧ HOk P w H' s'.heap ∧ RelV v u ∧ Q v H'
def CR (CX : CXT) (outer : List Env) (P : Program) (w : World) (H : Hp) (s : Shared) (Q : VK) (E : XK) (r : Result) (s' : Shared) : Prop :=
  match r with
  | .ok (.ret u) => CE outer P w H s Q u s'
  | .ok _ => False
  | .error e => CX outer H s E e s'
structure FnOk (P : Program) (w : World) (K : PySem.W.Frag) (mg : Str → Option Value) (base : Heap) (CX : CXT) (k : Nat) (f : Addr) (fd : FuncData) (ps : List Str) (sp : Sp) : Prop where
  len : ∀ vs H Q E, sp vs H Q E → vs.length = ps.length
  run : ∀ (A : Around) (outer : List Env) (s : Shared) (H : Hp) (args : Args) (us : List Value) (vs : List V) (Q : VK) (E : XK), Room k A → Env0 P w K mg base A outer s H → BindsTo s fd args (ps.zip us) → Vals vs us → sp vs H Q E →
    codeAny (model P w) A (.call (.ref f) args) (CR CX outer P w H s Q E) s
theorem FnOk.imp {P : Program} {w : World} {K : PySem.W.Frag} {mg : Str → Option Value} {base : Heap} {CX : CXT} {k : Nat} {f : Addr} {fd : FuncData} {ps : List Str} {sp sp' : Sp} (F : FnOk P w K mg base CX k f fd ps sp)
    (h : ∀ vs H Q E, sp' vs H Q E → sp vs H Q E) : FnOk P w K mg base CX k f fd ps sp' :=
  ⟨fun vs H Q E q => F.len vs H Q E (h _ _ _ _ q), fun A outer s H args us vs Q E hr he hb hv hs => F.run A outer s H args us vs Q E hr he hb hv (h _ _ _ _ hs)⟩
theorem Env0.make {P : Program} {w : World} {K : PySem.W.Frag} {mg : Str → Option Value} {base : Heap} {A : Around} {outer : List Env} {s : Shared} {H : Hp} (e : Env0 P w K mg base A outer s H) (C : Addr) (us : List Value) (kw : List (Str × Value)) :
    Env0 P w K mg base (A.under (.builtin "type.__call__" ⟨.ref C :: us, kw⟩)) outer s H := ⟨by first | exact e.frames | (simpa [Around.under, Code.envs, Code.isFrame, pushEnvs] using e.frames), e.mod, e.bs, e.bsz, e.funs, e.frf, e.hok, e.bare⟩
theorem Env0.in1 {P : Program} {w : World} {K : PySem.W.Frag} {mg : Str → Option Value} {base : Heap} {A : Around} {outer : List Env} {s : Shared} {H : Hp} (e : Env0 P w K mg base A outer s H) :
    Env0 P w K mg base A.in1 outer s H := ⟨e.frames, e.mod, e.bs, e.bsz, e.funs, e.frf, e.hok, e.bare⟩
section
variable {X : Cx} {pins : List (Addr × Obj)} {σ : St} {H : Hp} {s s' : Shared}
theorem Inv.env0 (I : Inv X pins σ H s) : Env0 X.prog X.w X.K X.mg X.base X.A X.stack s H :=
  ⟨I.ok.frames, I.ok.mod, I.bs, Nat.le_trans I.ok.bsz I.sz, I.stack, I.stkFree, I.hok, I.bare⟩
theorem Inv.after {Q : VK} {u : Value} (I : Inv X pins σ H s) (h : CE X.stack X.prog X.w H s Q u s') : EP X pins σ Q u s' := by
  obtain ⟨v, H', os, bare, un, hok, r, q⟩ := h
  obtain ⟨hh, g, d, t, os'⟩ := s'
  obtain rfl : os' = s.os := os
  exact ⟨v, H', I.call (h' := hh) (g' := g) (d' := d) (t' := t) (ch := []) un hok bare (fun b z => absurd z (by simp)), r, q⟩
end
def tCall (sp : Sp) (dvs : List V) (E : XK) (t : TA) : TE := fun σ H Q => t σ H fun vs H1 => sp (vs ++ dvs) H1 Q E
def tMeth (C : Addr) (m : Str) (sp : Sp) (dvs : List V) (E : XK) (ta : TE) (t : TA) : TE := fun σ H Q => ta σ H fun x H1 => ∃ a dx fs, x = .ref a ∧ H1 a = some (.ins C dx fs) ∧ fs.lookup m = none ∧
  t σ H1 fun vs H2 => sp (x :: (vs ++ dvs)) H2 Q E
def tMake (C : Addr) (sp : Sp) (dvs : List V) (E : XK) (t : TA) : TE := fun σ H Q => t σ H fun vs H1 => ∀ x dx, H1 x = none → H1 dx = none → dx ≠ x →
  sp (.ref x :: (vs ++ dvs)) (upd (upd H1 dx (.own x)) x (.ins C dx [])) (fun v H2 => v = .non ∧ Q (.ref x) H2) E
def Binds (K : PySem.W.Frag) (fd : FuncData) (ps : List Str) (ds : List Value) : Prop :=
  ∀ (s : Shared) (us : List Value), K.In s.heap → (us ++ ds).length = ps.length → BindsTo s fd ⟨us, []⟩ (ps.zip (us ++ ds))
theorem Binds.all {K : PySem.W.Frag} {fd : FuncData} {ps : List Str} (h : ∀ us : List Value, us.length = ps.length → bindArgs fd ⟨us, []⟩ = pure (ps.zip us)) : Binds K fd ps [] := fun s us _ hl => by
  rw [List.append_nil] at hl ⊢
  exact .of_eq (h us hl)
def Passes (CX : CXT) (X : Cx) (E : XK) : Prop := ∀ (pins : List (Addr × Obj)) (σ : St) (H : Hp) (s : Shared) (e : Value) (s' : Shared), Inv X pins σ H s → CX X.stack H s E e s' → X.xe e s'
section
variable {X : Cx} {CX : CXT} {k : Nat} {f C : Addr} {fd : FuncData} {ps : List Str} {sp : Sp} {dvs : List V} {ds : List Value} {E : XK} {x m : Str} {p pos apos : Pos} {e o : Expr} {es : List Expr} {ta : TE} {t : TA}
theorem run_fn {pins : List (Addr × Obj)} {σ : St} {H : Hp} {s : Shared} {Q : VK} {us : List Value} {vs : List V} (F : FnOk X.prog X.w X.K X.mg X.base CX k f fd ps sp) (hr : Room k X.A) (hb : Binds X.K fd ps ds) (hd : Vals dvs ds) (hx : Passes CX X E)
    (I : Inv X pins σ H s) (r : Vals vs us) (h : sp (vs ++ dvs) H Q E) : wpAny (model X.prog X.w) X.A (call (.ref f) us) (EP X pins σ Q) X.xe s := by
  have r2 : Vals (vs ++ dvs) (us ++ ds) := r.append hd
  have hl : (us ++ ds).length = ps.length := by rw [← r2.length]; exact F.len _ _ _ _ h
  refine wpAny_call (codeAny_mono (F.run X.A X.stack s H ⟨us, []⟩ (us ++ ds) (vs ++ dvs) Q E hr I.env0 (hb s us I.kIn hl) r2 h) fun r s' hq => ?_)
  cases r with
  | error e => exact hx pins σ H s e s' I hq
  | ok fl =>
    cases fl with
    | ret u => exact I.after hq
    | next => exact False.elim hq
    | brk => exact False.elim hq
    | cont => exact False.elim hq
theorem pe_call (F : FnOk X.prog X.w X.K X.mg X.base CX k f fd ps sp) (hr : Room k X.A) (hg : Gl X x) (hm : X.mg x = some (.ref f)) (hk : PySem.W.keepIn X.K (.ref f) = true) (hb : Binds X.K fd ps ds) (hd : Vals dvs ds) (hx : Passes CX X E)
    (ha : PA X (e :: es) t) (hdb : (x == ("__debug__" : Str)) = false := by decide) (he : starEach (e :: es) X.env = (false, eval e X.env) :: starEach es X.env := by rfl) (hpl : (backTo pos (starEach es X.env)).any (·.1) = false := by rfl) :
    PE X (.Call (.Name x p) (e :: es) [] pos) (tCall sp dvs E t) := by
  intro pins s σ H Q I h
  refine wpAny_Call_Name_kw (ld_glob I hg hm ?_ hdb)
  refine PySem.W.callWith_K (h₀ := X.base) I.ok.mod.kin hk (thn (ha pos pins s σ H _ I h) fun us s1 ⟨vs, H1, I1, r, q⟩ => ⟨I1.kIn, ?_⟩) he hpl
  exact run_fn F hr hb hd hx I1 r q
theorem pe_meth {pl : Sem Bool} (he : PE X o ta) (c : Cls X.K C) (hm : Meth X.K C m f) (F : FnOk X.prog X.w X.K X.mg X.base CX k f fd ps sp) (hr : Room k X.A) (hb : Binds X.K fd ps ds) (hd : Vals dvs ds) (hx : Passes CX X E) (ha : PA X (e :: es) t)
    (hst : starEach (e :: es) X.env = (false, eval e X.env) :: starEach es X.env := by rfl) (hpl : (backTo pos (starEach es X.env)).any (·.1) = false := by rfl)
    (ht : eval (.Call (.Attribute o m apos) (e :: es) [] pos) X.env = (do
      let ov ← eval o X.env
      standAt apos.atName
      let (f, first) ← holding [ov] (getMethod ov m pl)
      callWith pos f first (backTo pos (starEach (e :: es) X.env)) (backToKw pos (keywordEach [] X.env))) := by rfl) :
    PE X (.Call (.Attribute o m apos) (e :: es) [] pos) (tMeth C m sp dvs E ta t) := by
  intro pins s σ H Q I h
  refine PySem.W.methodCall_KW (pl := pl) (thn (he pins s σ H _ I h) ?_) ht
  rintro u s1 ⟨x, H1, I1, rx, a, dx, fs, ex, ea, l, q⟩
  subst ex
  obtain rfl : u = Value.ref a := rx
  refine getmeth_ok I1 ea c hm l ?_
  refine PySem.W.callWith_K (first := [.ref a]) (h₀ := X.base) I.ok.mod.kin hm.kp (thn (ha pos pins s1 σ H1 _ I1 q) fun us s2 ⟨vs, H2, I2, r, q2⟩ => ⟨I2.kIn, ?_⟩) hst hpl
  exact run_fn (us := .ref a :: us) (vs := .ref a :: vs) F hr hb hd hx I2 (.cons rfl r) q2
theorem pe_meth0 {pl : Sem Bool} (he : PE X o ta) (c : Cls X.K C) (hm : Meth X.K C m f) (F : FnOk X.prog X.w X.K X.mg X.base CX k f fd ps sp) (hr : Room k X.A) (hb : Binds X.K fd ps ds) (hd : Vals dvs ds) (hx : Passes CX X E)
    (ht : eval (.Call (.Attribute o m apos) [] [] pos) X.env = (do
      let ov ← eval o X.env
      standAt apos.atName
      let (f, first) ← holding [ov] (getMethod ov m pl)
      callWith pos f first (backTo pos (starEach [] X.env)) (backToKw pos (keywordEach [] X.env))) := by rfl) :
    PE X (.Call (.Attribute o m apos) [] [] pos) (tMeth C m sp dvs E ta tNil) := by
  intro pins s σ H Q I h
  refine PySem.W.methodCall_KW (pl := pl) (thn (he pins s σ H _ I h) ?_) ht
  rintro u s1 ⟨x, H1, I1, rx, a, dx, fs, ex, ea, l, q⟩
  subst ex
  obtain rfl : u = Value.ref a := rx
  refine getmeth_ok I1 ea c hm l ?_
  exact PySem.W.callWith_K0 (first := [.ref a]) I1.kIn hm.kp (run_fn (us := [.ref a]) (vs := [.ref a]) F hr hb hd hx I1 (.cons rfl .nil) q)
structure Mk (K : PySem.W.Frag) (C f : Addr) : Prop where
  makes : PySem.W.makesIn K C = true
  init : PySem.W.findIn K (.ref C) "__init__" = some (some (.ref f))
  fn : PySem.W.isFn K (.ref f) = true
  kp : PySem.W.keepIn K (.ref C) = true
theorem run_make {pins : List (Addr × Obj)} {σ : St} {H : Hp} {s : Shared} {Q : VK} {us : List Value} {vs : List V} (M : Mk X.K C f) (F : FnOk X.prog X.w X.K X.mg X.base CX k f fd ps sp) (hr : Room (k + 1) X.A) (hb : Binds X.K fd ps ds) (hd : Vals dvs ds)
    (hx : Passes CX X E) (I : Inv X pins σ H s) (r : Vals vs us)
    (h : ∀ x dx, H x = none → H dx = none → dx ≠ x → sp (.ref x :: (vs ++ dvs)) (upd (upd H dx (.own x)) x (.ins C dx [])) (fun v H2 => v = .non ∧ Q (.ref x) H2) E) :
    wpAny (model X.prog X.w) X.A (call (.ref C) us) (EP X pins σ Q) X.xe s := by
  have hq := h (s.heap.objs.size + 1) s.heap.objs.size (I.hok.fresh (Nat.le_succ _)) (I.hok.fresh (Nat.le_refl _)) (Nat.ne_of_lt (Nat.lt_succ_self _))
  have I2 := Inv.made (C := C) I
  have r2 : Vals (V.ref (s.heap.objs.size + 1) :: (vs ++ dvs)) (Value.ref (s.heap.objs.size + 1) :: (us ++ ds)) := .cons rfl (r.append hd)
  have hl : (Value.ref (s.heap.objs.size + 1) :: us ++ ds).length = ps.length := by
    have e := r2.length
    rw [F.len _ _ _ _ hq] at e
    exact e.symm
  refine wpAny_call (make_map (f := f) I.kIn M.makes M.init (beq_iff_eq.mp M.fn) (codeAny_mono (F.run _ X.stack _ _ ⟨Value.ref (s.heap.objs.size + 1) :: us, []⟩ (Value.ref (s.heap.objs.size + 1) :: (us ++ ds)) _ _ E (hr.make C us [])
    (I2.env0.make C us []) (hb _ (Value.ref (s.heap.objs.size + 1) :: us) I2.kIn hl) r2 hq) fun r s' hq' => ?_))
  cases r with
  | error e => exact hx pins σ _ _ e s' I2 hq'
  | ok fl =>
    cases fl with
    | ret u =>
      obtain ⟨v, H', I3, rv, ev, q3⟩ := I2.after hq'
      subst ev
      exact ⟨rv, ⟨V.ref (s.heap.objs.size + 1), H', I3, rfl, q3⟩⟩
    | next => exact False.elim hq'
    | brk => exact False.elim hq'
    | cont => exact False.elim hq'
theorem pe_make (M : Mk X.K C f) (F : FnOk X.prog X.w X.K X.mg X.base CX k f fd ps sp) (hr : Room (k + 1) X.A) (hg : Gl X x) (hm : X.mg x = some (.ref C)) (hb : Binds X.K fd ps ds) (hd : Vals dvs ds) (hx : Passes CX X E)
    (ha : PA X (e :: es) t) (hdb : (x == ("__debug__" : Str)) = false := by decide) (he : starEach (e :: es) X.env = (false, eval e X.env) :: starEach es X.env := by rfl) (hpl : (backTo pos (starEach es X.env)).any (·.1) = false := by rfl) :
    PE X (.Call (.Name x p) (e :: es) [] pos) (tMake C sp dvs E t) := by
  intro pins s σ H Q I h
  refine wpAny_Call_Name_kw (ld_glob I hg hm ?_ hdb)
  refine PySem.W.callWith_K (h₀ := X.base) I.ok.mod.kin M.kp (thn (ha pos pins s σ H _ I h) fun us s1 ⟨vs, H1, I1, r, q⟩ => ⟨I1.kIn, ?_⟩) he hpl
  exact run_make M F hr hb hd hx I1 r q
end
section
variable {X : Cx} {CX : CXT} {k : Nat} {f C : Addr} {fd : FuncData} {ps ks : List Str} {sp : Sp} {E : XK} {x m : Str} {p pos apos kpos : Pos} {e o : Expr} {es : List Expr} {kws : List Keyword} {te ta : TE} {t tk : TA} {nm : Option Str}
structure KBinds (K : PySem.W.Frag) (fd : FuncData) (ps ks : List Str) (g : List Value → List Value → List Value) (gV : List V → List V → List V) : Prop where
  to : ∀ (s : Shared) (us ws : List Value), K.In s.heap → (g us ws).length = ps.length → BindsTo s fd ⟨us, ks.zip ws⟩ (ps.zip (g us ws))
  rel : ∀ {vs : List V} {us : List Value} {zs : List V} {ws : List Value}, Vals vs us → Vals zs ws → Vals (gV vs zs) (g us ws)
variable {g : List Value → List Value → List Value} {gV : List V → List V → List V}
end
structure FnScope (N P : List Str) (sc : Scope) : Prop where
  kind : sc.kind = .function
  co : sc.isCoroutine = false
  gen : sc.isGenerator = false
  nd : N.Nodup
  pre : N.take P.length = P
  par : ∀ x ∈ P, sc.names.lookup x = some .local ∨ sc.names.lookup x = some .cell
  nofree : ∀ y ∈ sc.names, y.2 ≠ .free
theorem bindL_out {kindOf : Str → Option NameKind} {x : Str} : ∀ {binds : List (Str × Value)} {m : Str → Option Value}, (∀ v, (x, v) ∉ binds) → bindL kindOf binds m x = m x
  | [], _, _ => rfl
  | (n, v) :: r, m, h => by
    unfold bindL
    rw [bindL_out fun w hw => h w (List.mem_cons_of_mem _ hw)]
    split
    · have : x ≠ n := by rintro rfl; exact h v List.mem_cons_self
      simp [this]
    · rfl
theorem bindC_out {kindOf : Str → Option NameKind} {x : Str} : ∀ {binds : List (Str × Value)} {m : Str → Option Value}, (∀ v, (x, v) ∉ binds) → bindC kindOf binds m x = m x
  | [], _, _ => rfl
  | (n, v) :: r, m, h => by
    unfold bindC
    rw [bindC_out fun w hw => h w (List.mem_cons_of_mem _ hw)]
    split
    · rfl
    · have : x ≠ n := by rintro rfl; exact h v List.mem_cons_self
      simp [this]
theorem bindL_get {kindOf : Str → Option NameKind} {x : Str} {v : Value} : ∀ {P : List Str} {vs : List Value} {i : Nat} {m : Str → Option Value}, P.Nodup → P[i]? = some x → vs[i]? = some v → kindOf x = some .local →
    bindL kindOf (P.zip vs) m x = some v
  | [], _, _, _, _, h, _, _ => by simp at h
  | _ :: _, [], _, _, _, _, h, _ => by simp at h
  | p :: P, w :: vs, 0, m, nd, h1, h2, hk => by
    simp at h1 h2; subst h1; subst h2
    show bindL kindOf ((p, w) :: P.zip vs) m p = _
    unfold bindL
    rw [bindL_out fun v hv => (List.nodup_cons.mp nd).1 (List.of_mem_zip hv).1, if_pos hk]
    simp
  | p :: P, w :: vs, i + 1, m, nd, h1, h2, hk => by
    show bindL kindOf ((p, w) :: P.zip vs) m x = _
    unfold bindL
    exact bindL_get (i := i) (List.nodup_cons.mp nd).2 (by simpa using h1) (by simpa using h2) hk
theorem bindC_get {kindOf : Str → Option NameKind} {x : Str} {v : Value} : ∀ {P : List Str} {vs : List Value} {i : Nat} {m : Str → Option Value}, P.Nodup → P[i]? = some x → vs[i]? = some v → kindOf x ≠ some .local →
    bindC kindOf (P.zip vs) m x = some v
  | [], _, _, _, _, h, _, _ => by simp at h
  | _ :: _, [], _, _, _, _, h, _ => by simp at h
  | p :: P, w :: vs, 0, m, nd, h1, h2, hk => by
    simp at h1 h2; subst h1; subst h2
    show bindC kindOf ((p, w) :: P.zip vs) m p = _
    unfold bindC
    rw [bindC_out fun v hv => (List.nodup_cons.mp nd).1 (List.of_mem_zip hv).1, if_neg hk]
    simp
  | p :: P, w :: vs, i + 1, m, nd, h1, h2, hk => by
    show bindC kindOf ((p, w) :: P.zip vs) m x = _
    unfold bindC
    exact bindC_get (i := i) (List.nodup_cons.mp nd).2 (by simpa using h1) (by simpa using h2) hk
def start (N : List Str) (vs : List V) : St := vs.map some ++ List.replicate (N.length - vs.length) none
def cxOf (CX : CXT) (P : Program) (w : World) (K : PySem.W.Frag) (mg : Str → Option Value) (base : Heap) (N : List Str) (qual : Str) (scope : Scope) (f : Addr) (cd : Value) (A : Around) (outer : List Env) (s : Shared) (H : Hp) (E : XK) : Cx where
  prog := P
  w := w
  K := K
  mg := mg
  base := base
  A := A.deeper (envOfC qual scope s.heap.objs.size f cd)
  N := N
  s₀ := s
  H₀ := H
  env := envOfC qual scope s.heap.objs.size f cd
  outer := outer
  stack := envOfC qual scope s.heap.objs.size f cd :: outer
  ex := []
  calm := true
  fn := fun _ => true
  pn := []
  xe := fun e s' => wpAny (model P w) (A.deeper (envOfC qual scope s.heap.objs.size f cd)) (leaving (envOfC qual scope s.heap.objs.size f cd) e) (fun _ s'' => CX outer H s E e s'') (fun e' s'' => CX outer H s E e' s'') s'
theorem cell_has {sc : Scope} {n : Nat} {x : Str} (h : sc.names.lookup x = some .cell) : ∃ c, (cellsFrom n sc.names []).lookup x = some c := by
  have q := PySem.W.cellsFrom_some sc.names n [] (.inl h)
  exact Option.isSome_iff_exists.mp q
theorem inv_start {CX : CXT} {P : Program} {w : World} {K : PySem.W.Frag} {mg : Str → Option Value} {base : Heap} {N ps : List Str} {qual : Str} {scope : Scope} {f : Addr} {cd : Value} {A : Around} {outer : List Env} {s s1 : Shared} {H : Hp} {E : XK} {us : List Value} {vs : List V}
    (S : FnScope N ps scope) (hd : A.handled = none) (e0 : Env0 P w K mg base A outer s H) (hl : vs.length = ps.length) (r : Vals vs us)
    (x : InCallC s s.heap.objs.size (bindL (envOfC qual scope s.heap.objs.size f cd).kindOf (ps.zip us) fun _ => none) (cellsFrom (s.heap.objs.size + 1) scope.names []) (bindC (envOfC qual scope s.heap.objs.size f cd).kindOf (ps.zip us) fun _ => none) s1) :
    Inv (cxOf CX P w K mg base N qual scope f cd A outer s H E) [] (start N vs) H s1 := by
  have hpl : ps.length ≤ N.length := by have := congrArg List.length S.pre; rw [List.length_take] at this; lia
  obtain ⟨h1, tk, rfl, hk⟩ := x.done
  have noA : ∀ b : Addr, b ∉ (cxOf CX P w K mg base N qual scope f cd A outer s H E).ex := fun b z => absurd (show b ∈ ([] : List Addr) from z) (by simp)
  refine ⟨⟨e0.mod, S.kind, rfl, rfl, Nat.le_refl _, fun y z c h1 h2 => ?_, fun y hy => ?_, fun y c _ h => ?_, fun _ => hd, Around.frames_deeper e0.frames, .inr ⟨rfl, rfl⟩, fun b z => absurd z (noA b), e0.bs, e0.bsz, fun b _ _ => noA b, fun b z => absurd z (noA b), e0.funs, e0.frf⟩,
    rfl, e0.bare, Un.kept hk, ⟨_, x.toInCall.ns, fun i y v h1 h2 h3 => ?_⟩, fun y c h => ⟨_, x.cell y c h⟩, e0.hok.fresh (Nat.le_refl _), fun y c h => ?_, fun p hp => absurd (show p ∈ ([] : List (Addr × Obj)) from hp) (by simp), e0.hok.kept hk, ?_⟩
  · exact name_of_addr x.apart (PySem.mem_of_lookup h1) (PySem.mem_of_lookup h2)
  · have hy : scope.names.lookup y = some .cell ∨ scope.names.lookup y = some .free := hy
    rcases hy with hy | hy
    · exact cell_has hy
    · exact absurd rfl (S.nofree _ (PySem.mem_of_lookup hy))
  · exact Nat.le_of_lt (x.above y c (PySem.mem_of_lookup h))
  · have hi : i < vs.length := by
      unfold start at h2
      by_cases hi : i < vs.length
      · exact hi
      · rw [List.getElem?_append_right (by simpa using hi)] at h2
        rw [List.getElem?_replicate] at h2
        split at h2 <;> cases h2
    have ha : vs[i]? = some v := by
      unfold start at h2
      rw [List.getElem?_append_left (by simpa using hi), List.getElem?_map] at h2
      cases e : vs[i]? with
      | none => rw [e] at h2; cases h2
      | some a => rw [e] at h2; cases h2; rfl
    obtain ⟨u, hu, rv⟩ := r.get ha
    have hp : ps[i]? = some y := by
      rw [← S.pre, List.getElem?_take_of_lt (by lia)]; exact h1
    have ndP : ps.Nodup := by rw [← S.pre]; exact S.nd.sublist (List.take_sublist _ _)
    refine ⟨u, rv, ?_⟩
    rcases S.par y (List.mem_of_getElem? hp) with k | k
    · exact .inl ⟨k, bindL_get ndP hp hu k⟩
    · obtain ⟨c, e⟩ := cell_has (n := s.heap.objs.size + 1) k
      refine .inr ⟨.inl k, c, e, ?_⟩
      have q := x.cell y c e
      rw [bindC_get ndP hp hu (by show scope.names.lookup y ≠ _; rw [k]; decide)] at q
      exact q
  · exact e0.hok.fresh (Nat.le_of_lt (x.above y c (PySem.mem_of_lookup h)))
  · unfold start
    show _ = N.length
    rw [List.length_append, List.length_map, List.length_replicate]
    lia
theorem fn_of {CX : CXT} {P : Program} {w : World} {K : PySem.W.Frag} {mg : Str → Option Value} {base : Heap} {k : Nat} {f : Addr} {name qual : Str} {params : Arguments} {body : List Stmt} {scope : Scope} {dV kV doc pm cdv ct oc : Value} {an od : Option Addr}
    {osl : Array (Option Value)} {N ps : List Str} {sp : Sp} (lk : K.lookup f = some ⟨oc, od, .func (PySem.W.fnOf name qual params body scope dV kV doc pm an cdv ct), osl⟩) (hcd : PySem.W.codeIn K cdv qual = true) (S : FnScope N ps scope)
    (len : ∀ vs H Q E, sp vs H Q E → vs.length = ps.length)
    (hbody : ∀ (A : Around) (outer : List Env) (s : Shared) (H : Hp) (vs : List V) (Q : VK) (E : XK), Room k (A.deeper (envOfC qual scope s.heap.objs.size f cdv)) → sp vs H Q E →
      ∃ t, PSs (cxOf CX P w K mg base N qual scope f cdv A outer s H E) body t ∧ t { nx := fun _ H' => Q .non H', rt := Q } (start N vs) H) :
    FnOk P w K mg base CX (k + 1) f (PySem.W.fnOf name qual params body scope dV kV doc pm an cdv ct) ps sp := by
  refine ⟨len, fun A outer s H args us vs Q E hr e0 hb r hsp => ?_⟩
  have hl := len _ _ _ _ hsp
  have KX : K.In s.heap := e0.mod.kin.keeps fun b o e => (e0.bs b o e).1
  have lim : s.heap.NoLimit := e0.mod.nolimit.keeps fun b o e => (e0.bs b o e).1
  have hkind : ∀ y ∈ ps.zip us, scope.names.lookup y.1 = some .local ∨ (scope.names.lookup y.1 = some .cell ∧ ((cellsFrom (s.heap.objs.size + 1) scope.names []).lookup y.1).isSome = true) := by
    rintro ⟨n, v⟩ hy
    rcases S.par n (List.of_mem_zip hy).1 with q | q
    · exact .inl q
    · exact .inr ⟨q, PySem.W.cellsFrom_some _ _ _ (.inl q)⟩
  refine codeAny_call_function hr.depth (KX _ _ lk) rfl S.co S.gen rfl (PySem.W.codeRec_of KX hcd) (hb _ _ _ _ ?_)
  refine wpAny_newFunctionEnv_cells S.kind hkind fun env he s1 x => ?_
  subst he
  refine ⟨lim.keeps x.toInCall.keep, codeAny_func ?_⟩
  obtain ⟨t, ht, hq⟩ := hbody A outer s H vs Q E (hr.deeper _) hsp
  have I : Inv (cxOf CX P w K mg base N qual scope f cdv A outer s H E) [] (start N vs) H s1 := inv_start S hr.hd e0 hl r x
  refine wpAny_mono (ht [] s1 (start N vs) H _ I hq) (fun fl s' hs => ?_) fun e s' hs => hs
  have fin : ∀ {σ' : St} {H' : Hp} {v : V} {u : Value}, Inv (cxOf CX P w K mg base N qual scope f cdv A outer s H E) [] σ' H' s' → RelV v u → Q v H' → CE outer P w H s Q u s' :=
    fun {σ' H' v u} J rv q => ⟨v, H', J.os, J.bare, J.base, J.hok, rv, q⟩
  cases fl with
  | ret u =>
    obtain ⟨v, σ', H', J, rv, q⟩ := hs
    exact fin J rv q
  | next =>
    obtain ⟨σ', H', J, q⟩ := hs
    exact fin (v := V.non) (u := Value.none) J rfl q
  | brk =>
    obtain ⟨_, _, _, q⟩ := hs
    exact False.elim q
  | cont =>
    obtain ⟨_, _, _, q⟩ := hs
    exact False.elim q
end L2
namespace L2
open PySem PySem.Spec PyProof.Rows
section
variable {X : Cx} {x : Str} {p pos : Pos} {e : Expr} {es : List Expr} {t : TA} {id T : String} {r : List V → Hp → VK → Prop}
def tCB (r : List V → Hp → VK → Prop) (t : TA) : TE := fun σ H Q => t σ H fun vs H1 => r vs H1 Q
theorem pe_callB (hc : CallR X (.builtin id) r) (hg : Gl X x) (hm : X.mg x = none) (hv : bootBuiltins x = some (.builtin id)) (ha : PA X (e :: es) t) (hn : x ≠ "__name__" := by decide) (hdb : (x == ("__debug__" : Str)) = false := by decide)
    (he : starEach (e :: es) X.env = (false, eval e X.env) :: starEach es X.env := by rfl) (hpl : (backTo pos (starEach es X.env)).any (·.1) = false := by rfl) : PE X (.Call (.Name x p) (e :: es) [] pos) (tCB r t) := by
  intro pins s σ H Q I h
  refine wpAny_Call_Name_kw (ld_blt I hg hm hv ?_ hn hdb)
  exact PyProof.Rows.callWith_builtin1 (thn (ha pos pins s σ H _ I h) (by rintro us s1 ⟨vs, H1, I1, r1, q1⟩;exact hc pins s1 σ H1 vs us Q I1 r1 q1)) he hpl
theorem pe_callTy (hc : CallR X (.type T) r) (hg : Gl X x) (hm : X.mg x = none) (hv : bootBuiltins x = some (.type T)) (ha : PA X (e :: es) t) (hn : x ≠ "__name__" := by decide) (hdb : (x == ("__debug__" : Str)) = false := by decide)
    (he : starEach (e :: es) X.env = (false, eval e X.env) :: starEach es X.env := by rfl) (hpl : (backTo pos (starEach es X.env)).any (·.1) = false := by rfl) : PE X (.Call (.Name x p) (e :: es) [] pos) (tCB r t) := by
  intro pins s σ H Q I h
  refine wpAny_Call_Name_kw (ld_blt I hg hm hv ?_ hn hdb)
  exact PyProof.Rows.callWith_type1 (thn (ha pos pins s σ H _ I h) (by rintro us s1 ⟨vs, H1, I1, r1, q1⟩;exact hc pins s1 σ H1 vs us Q I1 r1 q1)) he hpl
end
end L2
namespace HT
open PySem PyProof.Rows
section
open PySem.SeqAt
open PySem.AutoSeq1 (wpAny_loadPart')
open PySem.MeetsSeq PySem.MeetsSeq2 PySem.MeetsSeq3
end
section
variable {prog : Program} {w : World} {A : Around} {E : Value → Shared → Prop} {s : Shared}
theorem cat_tup {t b : Addr} {vs ws : List Value} {Q : Value → Shared → Prop} (ht : IsTup s.heap t vs.toArray) (hb : IsTup s.heap b ws.toArray) (hv : vs ≠ [])
    (h1 : ws = [] → Q (.ref t) s) (h2 : ws ≠ [] → Q (.ref s.heap.objs.size) { s with heap := s.heap.push { cls := .type "tuple", data := .seq (vs ++ ws).toArray } })
    (hsz : vs.length + ws.length ≤ sizeLine) : wpAny (model prog w) A (binaryOp .Add (.ref t) (.ref b)) Q E s := by
  obtain ⟨⟨cls, dd, data, sl⟩, ho, hc, n, hd⟩ := id ht
  obtain ⟨⟨cls2, dd2, data2, sl2⟩, ho2, hc2, n2, hd2⟩ := id hb
  simp only at hc hd hc2 hd2
  subst hc hd hc2 hd2
  have e : vs.toArray ++ ws.toArray = (vs ++ ws).toArray := by simp
  by_cases hw : ws = []
  · exact concat_meets ⟨_, ho, rfl⟩ ⟨_, ho2, rfl⟩ noFill_tuple_add seq_tuple_add PySem.F.slot_tuple_add PySem.F.entry_tuple_add (PySem.F.args_tuple_add_2 _ _)
      (tuple_addW1 t b vs.toArray ws.toArray n n2 dd dd2 sl sl2 (by simpa using hv) (by simp [hw])) ⟨ho, ho2, h1 hw⟩
  · refine concat_meets ⟨_, ho, rfl⟩ ⟨_, ho2, rfl⟩ noFill_tuple_add seq_tuple_add PySem.F.slot_tuple_add PySem.F.entry_tuple_add (PySem.F.args_tuple_add_2 _ _)
      (tuple_addW2 t b vs.toArray ws.toArray n n2 dd dd2 sl sl2 (by simpa using hv) (by simpa using hw) (by rw [List.size_toArray, List.size_toArray]; exact hsz)) ⟨ho, ho2, ?_⟩
    rw [e]
    exact h2 hw
def sIx (n d : Nat) : Option Int → Nat
  | none => d
  | some v => if v < 0 then (v + (n : Int)).toNat else min v.toNat n
theorem sIx_le (n d : Nat) (hd : d ≤ n) (o : Option Int) : sIx n d o ≤ n := by
  cases o with
  | none => exact hd
  | some v =>
    show (if v < 0 then (v + (n : Int)).toNat else min v.toNat n) ≤ n
    by_cases hv : v < 0
    · rw [if_pos hv]; lia
    · rw [if_neg hv]; exact Nat.min_le_right _ _
theorem clip_eq (v : Int) (n d : Nat) : (if v < 0 then max (v + (n : Int)) 0 else min v (n : Int)) = ((sIx n d (some v) : Nat) : Int) := by
  show (if v < 0 then max (v + (n : Int)) 0 else min v (n : Int)) = (((if v < 0 then (v + (n : Int)).toNat else min v.toNat n) : Nat) : Int)
  by_cases hv : v < 0
  · simp only [if_pos hv]; lia
  · simp only [if_neg hv]; lia
theorem adjust_gen (lo hi : Option Int) (n : Nat) : Builtin.Slice.sliceAdjust lo hi 1 (n : Int) = (((sIx n 0 lo : Nat) : Int), ((sIx n n hi : Nat) : Int)) := by
  have h1 : ¬ ((1 : Int) < 0) := by lia
  unfold Builtin.Slice.sliceAdjust
  simp only [h1, if_false]
  refine Prod.ext ?_ ?_
  · cases lo with
    | none => rfl
    | some v => exact clip_eq v n 0
  · cases hi with
    | none => rfl
    | some v => exact clip_eq v n n
theorem places_gen (i j : Nat) : Builtin.Slice.slicePlaces (i : Int) (j : Int) 1 = j - i := by
  unfold Builtin.Slice.slicePlaces
  have h1 : (1 : Int) > 0 := by lia
  simp only [h1, if_true, Int.ediv_one]
  split <;> lia
theorem slicePart_ {v : Value} {o : Option Int} {Q : Option Int → Shared → Prop} (p : IsPart v o) (h : Q o s) : wpAny (model prog w) A (Builtin.Slice.slicePartIndex v) Q E s := by
  cases p with
  | none => exact slicePart_none h
  | int i t => exact slicePart_int h
theorem sliceApplied_gen {sl : Addr} {vl vu : Value} {lo hi : Option Int} {n : Nat} {Q : Int × Int × Nat → Shared → Prop} (hs : s.heap.IsSliceOf sl vl vu .none) (pl : IsPart vl lo) (pu : IsPart vu hi)
    (h : Q (((sIx n 0 lo : Nat) : Int), 1, sIx n n hi - sIx n 0 lo) s) : wpAny (model prog w) A (Builtin.Slice.sliceApplied (.ref sl) (pure (n : Int))) Q E s := by
  obtain ⟨os, hos, hcs, hds⟩ := id hs
  unfold Builtin.Slice.sliceApplied Builtin.Slice.sliceFields
  refine wpAny_bind (wpAny_bind (wpAny_field hos hds (x := vl) rfl (wpAny_bind (wpAny_field hos hds (x := vu) rfl (wpAny_bind (wpAny_field hos hds (x := .none) rfl (wpAny_pure ?_)))))))
  refine wpAny_bind (slicePart_none ?_)
  show wpAny _ _ (if ((1 : Int) == 0) = true then _ else _) _ _ s
  rw [if_neg (by decide)]
  refine wpAny_bind (slicePart_ pl (wpAny_bind (slicePart_ pu (wpAny_bind (wpAny_pure ?_)))))
  show wpAny _ _ (match Builtin.Slice.sliceAdjust lo hi 1 (n : Int) with | (lo, hi) => pure (lo, (1 : Int), Builtin.Slice.slicePlaces lo hi 1)) _ _ s
  rw [adjust_gen lo hi n]
  show wpAny _ _ (pure (((sIx n 0 lo : Nat) : Int), (1 : Int), Builtin.Slice.slicePlaces ((sIx n 0 lo : Nat) : Int) ((sIx n n hi : Nat) : Int) 1)) _ _ s
  rw [places_gen]
  exact wpAny_pure h
theorem pick_gen (xs : Array Value) (i k : Nat) : ((List.range k).filterMap fun (m : Nat) => xs[((i : Int) + (m : Int) * 1).toNat]?).toArray = ((xs.toList.drop i).take k).toArray := by
  have e : (fun (m : Nat) => xs[((i : Int) + (m : Int) * 1).toNat]?) = fun m => xs[i + m]? := by
    funext m
    have : ((i : Int) + (m : Int) * 1).toNat = i + m := by lia
    rw [this]
  rw [e]
  have := pick_run xs i k
  rw [List.filterMap_map] at this
  have e2 : ((fun x => xs[x]?) ∘ fun x => i + x) = fun m => xs[i + m]? := rfl
  rw [e2] at this
  rw [this]
theorem getItem_tuple_cut {t sl : Addr} {items : Array Value} {vl vu : Value} {lo hi : Option Int} {Q : Value → Shared → Prop} (ht : IsTup s.heap t items) (hs : s.heap.IsSliceOf sl vl vu .none) (pl : IsPart vl lo) (pu : IsPart vu hi)
    (hw : ¬ (sIx items.size 0 lo = 0 ∧ sIx items.size items.size hi = items.size))
    (h : Q (.ref s.heap.objs.size) { s with heap := s.heap.push { cls := .type "tuple", data := .seq ((items.toList.drop (sIx items.size 0 lo)).take (sIx items.size items.size hi - sIx items.size 0 lo)).toArray } })
    (hsz : items.size ≤ sizeLine) : wpAny (model prog w) A (getItem (.ref t) (.ref sl)) Q E s := by
  have htake : sizeOk (.seq ((items.toList.drop (sIx items.size 0 lo)).take (sIx items.size items.size hi - sIx items.size 0 lo)).toArray) := by
    show ((items.toList.drop (sIx items.size 0 lo)).take (sIx items.size items.size hi - sIx items.size 0 lo)).toArray.size ≤ sizeLine
    rw [List.size_toArray, List.length_take, List.length_drop, Array.length_toList]
    lia
  have hj : sIx items.size items.size hi ≤ items.size := sIx_le _ _ (Nat.le_refl _) hi
  obtain ⟨os, hos, hcs, hds⟩ := id hs
  have hTs : s.TypeIs (.ref sl) "slice" := ⟨os, hos, hcs⟩
  unfold getItem
  try with_reducible refine wpAny_holding ?_
  first | refine wpAny_bind (wpAny_pure ?_) | skip
  refine wpAny_bind (wpAny_sequenceKey ht.typeIs (by decide) ?_)
  refine wpAny_bind (wpAny_callSpecial?_slot (name := Str.ofString "__getitem__") ht.typeIs PyProof.Rows.slot_tuple_getitem
    (wpAny_call_entry PyProof.Rows.slot_tuple_getitem ht.typeIs entry_tuple_getitem ?_ (args_tuple_getitem _ _)))
  show wpAny _ _ (Builtin.Tuple.tupleItemsOf (.ref t) >>= _) _ _ s
  refine wpAny_bind (tupleItemsOf_ ht ?_)
  refine wpAny_bind (wpAny_typeOf hTs ?_)
  rw [if_pos (by decide)]
  refine wpAny_bind (sliceApplied_gen hs pl pu ?_)
  have hno : ¬ ((((sIx items.size 0 lo : Nat) : Int) == 0 && (1 : Int) == 1 && (sIx items.size items.size hi - sIx items.size 0 lo) == items.size) = true) := by
    intro q
    rw [Bool.and_eq_true, Bool.and_eq_true] at q
    have q1 : ((sIx items.size 0 lo : Nat) : Int) = 0 := eq_of_beq q.1.1
    have q2 : sIx items.size items.size hi - sIx items.size 0 lo = items.size := eq_of_beq q.2
    exact hw ⟨by lia, by lia⟩
  show wpAny _ _ (if (((sIx items.size 0 lo : Nat) : Int) == 0 && (1 : Int) == 1 && (sIx items.size items.size hi - sIx items.size 0 lo) == items.size) = true then _ else _) _ _ s
  rw [if_neg hno, pick_gen]
  first
    | exact wpAny_bind (m := Builtin.Tuple.tupleExact _) (wpAny_newObj_type (wpAny_pure ⟨_, rfl, wpAny_pure h⟩) htake)
    | exact wpAny_bind (m := Builtin.Tuple.tupleExact _) (wpAny_newObj_type (wpAny_bind (wpAny_pure (wpAny_pure ⟨_, rfl, wpAny_pure h⟩))) htake)
    | exact wpAny_bind (wpAny_bind (m := Builtin.Tuple.tupleExact _) (wpAny_newObj_type (wpAny_pure (wpAny_pure ⟨_, rfl, wpAny_pure h⟩)) htake))
    | exact wpAny_bind (wpAny_bind (m := Builtin.Tuple.tupleExact _) (wpAny_newObj_type (wpAny_pure ⟨_, rfl, wpAny_pure h⟩) htake))
end
end HT
namespace L2
open PySem PySem.Spec PyProof.Rows
abbrev TO := St → Hp → (Option Int → Hp → Prop) → Prop
def PO (X : Cx) (e : Option Expr) (t : TO) : Prop :=
  ∀ (pins : List (Addr × Obj)) (s : Shared) (σ : St) (H : Hp) (Q : Option Int → Hp → Prop), Inv X pins σ H s → t σ H Q →
    wpAny (model X.prog X.w) X.A (evalPart e X.env) (fun u s' => ∃ o H', Inv X pins σ H' s' ∧ IsPart u o ∧ Q o H') X.xe s
def tPart (t : TE) : TO := fun σ H Q => t σ H fun x H1 => ∃ i, x = .int i ∧ Q (some i) H1
section
variable {X : Cx} {e : Expr} {te : TE} {lo hi : Option Expr} {tl th : TO} {pos p2 : Pos}
theorem po_some (h : PE X e te) : PO X (some e) (tPart te) := by
  intro pins s σ H Q I hw
  rw [evalPart_some]
  refine thn (h pins s σ H _ I hw) ?_
  rintro u s1 ⟨x, H1, I1, r1, q1⟩
  obtain ⟨i, rfl, q⟩ := q1
  obtain ⟨t, rfl⟩ := r1
  exact ⟨some i, H1, I1, .int i t, q⟩
def SlR (X : Cx) (r : V → Option Int → Option Int → Hp → VK → Prop) : Prop :=
  ∀ (pins : List (Addr × Obj)) (s : Shared) (σ : St) (H : Hp) (x : V) (v vl vu : Value) (lo hi : Option Int) (sl : Addr) (Q : VK), Inv X pins σ H s → RelV x v → s.heap.IsSliceOf sl vl vu .none → IsPart vl lo → IsPart vu hi → r x lo hi H Q →
    ∃ T id, typeLookup (.type T) "__getitem__" = pure (some (.builtin id)) ∧ s.TypeIs v T ∧ wpAny (model X.prog X.w) X.A (getItem v (.ref sl)) (EP X pins σ Q) X.xe s
theorem SlR.or {r r' : V → Option Int → Option Int → Hp → VK → Prop} (h : SlR X r) (h' : SlR X r') : SlR X (fun x lo hi H Q => r x lo hi H Q ∨ r' x lo hi H Q) := by
  intro pins s σ H x v vl vu lo hi sl Q I rx hs pl pu q
  rcases q with q | q
  · exact h pins s σ H x v vl vu lo hi sl Q I rx hs pl pu q
  · exact h' pins s σ H x v vl vu lo hi sl Q I rx hs pl pu q
def tSl (r : V → Option Int → Option Int → Hp → VK → Prop) (te : TE) (tl th : TO) : TE := fun σ H Q => te σ H fun x H1 => tl σ H1 fun l H2 => th σ H2 fun u H3 => r x l u H3 Q
theorem pe_slice {r : V → Option Int → Option Int → Hp → VK → Prop} (hr : SlR X r) (he : PE X e te) (hl : PO X lo tl) (hu : PO X hi th) : PE X (.Subscript e (.Slice lo hi none p2) pos) (tSl r te tl th) := by
  intro pins s σ H Q I h
  refine Subscript_ (thn (he pins s σ H _ I h) ?_)
  rintro v s1 ⟨x, H1, I1, r1, q1⟩
  refine wpAny_Slice (thn (hl pins s1 σ H1 _ I1 q1) fun vl s2 ⟨l, H2, I2, pl, q2⟩ => thn (hu pins s2 σ H2 _ I2 q2) ?_)
  rintro vu s3 ⟨u, H3, I3, pu, q3⟩
  rw [evalPart_none]
  refine wpAny_pure ?_
  have I4 : Inv X pins σ H3 { s3 with heap := s3.heap.push { cls := .type "slice", data := .fields #[vl, vu, .none] } } := I3.kept (t' := s3.toks) fun b ob q => Heap.get?_push_of_some _ q
  obtain ⟨T, id, hT, ht, hg⟩ := hr pins { s3 with heap := s3.heap.push { cls := .type "slice", data := .fields #[vl, vu, .none] } } σ H3 x v vl vu l u s3.heap.objs.size Q I4 r1 (Heap.IsSliceOf.new ..) pl pu q3
  show wpAny (model X.prog X.w) X.A (subscriptTail e (.Slice lo hi none p2) v (.ref s3.heap.objs.size)) (EP X pins σ Q) X.xe { s3 with heap := s3.heap.push { cls := .type "slice", data := .fields #[vl, vu, .none] } }
  exact tail_any (ops := [.ref s3.heap.objs.size, v]) ht hT hg (by with_unfolding_all rfl)
def cutV (xs : List V) (lo hi : Option Int) : List V := (xs.drop (HT.sIx xs.length 0 lo)).take (HT.sIx xs.length xs.length hi - HT.sIx xs.length 0 lo)
theorem cutV_length (xs : List V) (lo hi : Option Int) : (cutV xs lo hi).length ≤ xs.length := by
  unfold cutV
  rw [List.length_take, List.length_drop]
  lia
def rSlT (K : PySem.W.Frag) : V → Option Int → Option Int → Hp → VK → Prop := fun x lo hi H Q => ∃ a xs, x = .ref a ∧ SqT K H a xs ∧
  ¬ (HT.sIx xs.length 0 lo = 0 ∧ HT.sIx xs.length xs.length hi = xs.length) ∧ ∀ p, H p = none → Q (.ref p) (upd H p (.tup (cutV xs lo hi)))
theorem sl_tup : SlR X (rSlT X.K) := by
  intro pins s σ H x v vl vu lo hi sl Q I rx hs pl pu h
  obtain ⟨a, xs, rfl, hx, hw, q⟩ := h
  cases rx
  obtain ⟨its, r, ht, hz⟩ := I.tuple hx
  have hlen : its.toArray.size = xs.length := by rw [List.size_toArray]; exact r.length.symm
  refine ⟨"tuple", _, PyProof.Rows.slot_tuple_getitem.lookup, ht.typeIs, ?_⟩
  refine HT.getItem_tuple_cut ht hs pl pu (by rw [hlen]; exact hw) ?_ (by rw [hlen]; exact hz)
  rw [hlen]
  refine ⟨.ref s.heap.objs.size, _, I.laid (t' := s.toks) (o := .tup (cutV xs lo hi)) (fun b ob q => Heap.get?_push_of_some _ q) (Nat.le_refl _) ?_, rfl, q _ (I.hok.fresh (Nat.le_refl _))⟩
  exact ⟨Nat.le_trans (cutV_length xs lo hi) hz, _, (r.drop (HT.sIx xs.length 0 lo)).take (HT.sIx xs.length xs.length hi - HT.sIx xs.length 0 lo), IsTup.new _ _⟩
def rCatT (K : PySem.W.Frag) : R2 := fun x y H Q => ∃ a b xs ys, x = .ref a ∧ y = .ref b ∧ SqT K H a xs ∧ SqT K H b ys ∧ xs ≠ [] ∧ xs.length + ys.length ≤ sizeLine ∧
  (ys = [] → Q (.ref a) H) ∧ (ys ≠ [] → ∀ p, H p = none → Q (.ref p) (upd H p (.tup (xs ++ ys))))
theorem Vals.nil_iff {xs : List V} {us : List Value} (r : Vals xs us) : us = [] ↔ xs = [] := by
  cases r with
  | nil => simp
  | cons _ _ => simp
theorem op_catT : OpR X (binaryOp .Add) (rCatT X.K) := by
  intro pins s σ H x y v u Q I rx ry h
  obtain ⟨a, b, xs, ys, rfl, rfl, ha, hb, hx, hz, q1, q2⟩ := h
  cases rx
  cases ry
  obtain ⟨its, r1, p1, _⟩ := I.tuple ha
  obtain ⟨its2, r2, p2, _⟩ := I.tuple hb
  refine HT.cat_tup p1 p2 (fun z => hx (r1.nil_iff.mp z)) (fun z => ⟨.ref a, H, I, rfl, q1 (r2.nil_iff.mp z)⟩) (fun z => ?_) (by rw [← r1.length, ← r2.length]; exact hz)
  refine ⟨.ref s.heap.objs.size, _, I.laid (t' := s.toks) (o := .tup (xs ++ ys)) (fun b ob q => Heap.get?_push_of_some _ q) (Nat.le_refl _) ?_, rfl, q2 (fun w => z (r2.nil_iff.mpr w)) _ (I.hok.fresh (Nat.le_refl _))⟩
  exact ⟨by rw [List.length_append]; exact hz, _, r1.append r2, IsTup.new _ _⟩
end
end L2
namespace L2
open PySem PySem.Spec PyProof.Rows
def ixN (n : Nat) (i : Int) : Option Nat := if 0 ≤ i then (if i < n then some i.toNat else none) else if -(n : Int) ≤ i then some (i + n).toNat else none
def atI {α : Type} (xs : List α) (i : Int) : Option α := (ixN xs.length i).bind fun j => xs[j]?
theorem ixN_seq {n : Nat} {i : Int} {j : Nat} (h : ixN n i = some j) : seqIndex? i n = some j ∧ j < n ∧ -(n : Int) ≤ i ∧ i < n := by
  unfold ixN at h
  by_cases h0 : 0 ≤ i
  · rw [if_pos h0] at h
    by_cases h1 : i < n
    · rw [if_pos h1] at h
      have e : i.toNat = j := Option.some.inj h
      exact ⟨by rw [seqIndex_of h0 h1, e], by lia, by lia, h1⟩
    · rw [if_neg h1] at h; cases h
  · rw [if_neg h0] at h
    by_cases h1 : -(n : Int) ≤ i
    · rw [if_pos h1] at h
      have e : (i + n).toNat = j := Option.some.inj h
      exact ⟨by rw [seqIndex_neg (by lia) h1, e], by lia, h1, by lia⟩
    · rw [if_neg h1] at h; cases h
theorem atI_get {α : Type} {xs : List α} {i : Int} {v : α} (h : atI xs i = some v) : ∃ j, seqIndex? i xs.length = some j ∧ xs[j]? = some v ∧ j < xs.length ∧ -(xs.length : Int) ≤ i ∧ i < xs.length := by
  unfold atI at h
  cases e : ixN xs.length i with
  | none => rw [e] at h; cases h
  | some j =>
    rw [e] at h
    obtain ⟨h1, h2, h3, h4⟩ := ixN_seq e
    exact ⟨j, h1, h, h2, h3, h4⟩
theorem atI_nat {α : Type} {xs : List α} {j : Nat} {v : α} (h : xs[j]? = some v) : atI xs (j : Int) = some v := by
  have hj : j < xs.length := (List.getElem?_eq_some_iff.mp h).1
  have e : ixN xs.length (j : Int) = some j := by
    unfold ixN
    rw [if_pos (by lia), if_pos (by lia)]; simp
  unfold atI; rw [e]; exact h
theorem atI_last {α : Type} (xs : List α) (v : α) : atI (xs ++ [v]) (-1) = some v := by
  have hl : (xs ++ [v]).length = xs.length + 1 := by simp
  have e : ixN (xs ++ [v]).length (-1) = some xs.length := by
    unfold ixN
    rw [hl, if_neg (by decide), if_pos (by lia)]
    congr 1
    lia
  unfold atI
  rw [e]
  show (xs ++ [v])[xs.length]? = some v
  simp
def PlainIx (b : Expr) : Prop := ∀ o i, subscripted b false o i = operate [o, i] (getItem o i)
def IxR (X : Cx) (r : R2) : Prop :=
  ∀ (value slice : Expr) (pins : List (Addr × Obj)) (s : Shared) (σ : St) (H : Hp) (x y : V) (v u : Value) (Q : VK), Inv X pins σ H s → RelV x v → RelV y u → r x y H Q →
    subscripted slice false v u = operate [v, u] (getItem v u) → wpAny (model X.prog X.w) X.A (subscriptTail value slice v u) (EP X pins σ Q) X.xe s
def MtR (X : Cx) (id : String) (r : V → List V → Hp → VK → Prop) : Prop :=
  ∀ (pins : List (Addr × Obj)) (s : Shared) (σ : St) (H : Hp) (x : V) (xs : List V) (v : Value) (us : List Value) (Q : VK), Inv X pins σ H s → RelV x v → Vals xs us → r x xs H Q →
    wpAny (model X.prog X.w) X.A (call (.builtin id) (v :: us)) (EP X pins σ Q) X.xe s
section
variable {X : Cx} {a b : Expr} {ta tb : TE} {pos : Pos}
theorem IxR.or {r r' : R2} (h : IxR X r) (h' : IxR X r') : IxR X (fun x y H Q => r x y H Q ∨ r' x y H Q) := by
  intro value slice pins s σ H x y v u Q I rx ry q hs
  rcases q with q | q
  · exact h value slice pins s σ H x y v u Q I rx ry q hs
  · exact h' value slice pins s σ H x y v u Q I rx ry q hs
theorem MtR.or {id : String} {r r' : V → List V → Hp → VK → Prop} (h : MtR X id r) (h' : MtR X id r') : MtR X id (fun x xs H Q => r x xs H Q ∨ r' x xs H Q) := by
  intro pins s σ H x xs v us Q I rx rs q
  rcases q with q | q
  · exact h pins s σ H x xs v us Q I rx rs q
  · exact h' pins s σ H x xs v us Q I rx rs q
theorem pe_ix {r : R2} (hr : IxR X r) (ha : PE X a ta) (hb : PE X b tb) (hs : PlainIx b) : PE X (.Subscript a b pos) (tOp r ta tb) := by
  intro pins s σ H Q I h
  exact Subscript_ (binT ha hb I h fun v u s2 x y H2 I2 rx ry q => hr a b pins s2 σ H2 x y v u Q I2 rx ry q (hs _ _))
def rIxL (K : PySem.W.Frag) : R2 := fun x y H Q => ∃ p xs i v, x = .ref p ∧ y = .int i ∧ SqL K H p xs ∧ atI xs i = some v ∧ Q v H
def rIxT (K : PySem.W.Frag) : R2 := fun x y H Q => ∃ p xs i v, x = .ref p ∧ y = .int i ∧ SqT K H p xs ∧ atI xs i = some v ∧ Q v H
def rIxS : R2 := fun x y H Q => ∃ z i c, x = .str z ∧ y = .int i ∧ z.length ≤ sizeLine ∧ atI z.cps.toList i = some c ∧ Q (.str ⟨#[c]⟩) H
theorem ix_list : IxR X (rIxL X.K) := by
  intro value slice pins s σ H x y v u Q I rx ry h hs
  obtain ⟨p, xs, i, z, rfl, rfl, hq, he, q⟩ := h
  cases rx
  obtain ⟨t, rfl⟩ := ry
  obtain ⟨its, r, pl, hz⟩ := I.list hq
  obtain ⟨j, h1, h2, h3, h4, h5⟩ := atI_get he
  obtain ⟨w, ew, rw'⟩ := r.get h2
  have hl := r.length
  have hn := line63
  have fin : EP X pins σ Q w s := ⟨z, H, I, rw', q⟩
  by_cases h0 : 0 ≤ i
  · have hj : i.toNat = j := by
      rw [seqIndex_of h0 h5] at h1
      exact Option.some.inj h1
    exact item_listR pl.isList h0 (by lia) (by rw [hj]; simpa using ew) fin hs
  · have hj : (i + (its.toArray.size : Int)).toNat = j := by
      rw [seqIndex_neg (by lia) h4] at h1
      rw [List.size_toArray, ← hl]
      exact Option.some.inj h1
    exact subscriptTail_builtinR (x := w) pl.isList.typeIs slot_list_getitem.lookup
      (wpAny_getItem_list_neg (Q := fun r s' => r = w ∧ EP X pins σ Q r s') pl.isList (by lia) (by rw [List.size_toArray] <;> lia) (by lia) (by rw [hj]; simpa using ew) ⟨rfl, fin⟩) hs
theorem ix_tup : IxR X (rIxT X.K) := by
  intro value slice pins s σ H x y v u Q I rx ry h hs
  obtain ⟨p, xs, i, z, rfl, rfl, hq, he, q⟩ := h
  cases rx
  obtain ⟨t, rfl⟩ := ry
  obtain ⟨its, r, pl, hz⟩ := I.tuple hq
  obtain ⟨j, h1, h2, h3, h4, h5⟩ := atI_get he
  obtain ⟨w, ew, rw'⟩ := r.get h2
  have hl := r.length
  have hn := line63
  have fin : EP X pins σ Q w s := ⟨z, H, I, rw', q⟩
  exact subscriptTail_builtinR (x := w) pl.typeIs slot_tuple_getitem.lookup
    (getItem_tuple (j := j) (Q := fun r s' => r = w ∧ EP X pins σ Q r s') pl (by lia) (by lia) (by rw [List.size_toArray, ← hl]; exact h1) (by simpa using ew) ⟨rfl, fin⟩) hs
theorem ix_str : IxR X rIxS := by
  intro value slice pins s σ H x y v u Q I rx ry h hs
  obtain ⟨z, i, c, rfl, rfl, hz, he, q⟩ := h
  obtain ⟨t, rfl⟩ := rx
  obtain ⟨t', rfl⟩ := ry
  obtain ⟨j, h1, h2, h3, h4, h5⟩ := atI_get he
  have hl : z.cps.toList.length = z.length := by simp [Str.length]
  rw [hl] at h1 h4 h5
  have hn := line63
  exact tail_any (typeIs_str s z t) slot_str_getitem.lookup (getItem_str (c := c) (by
    have e1 : decide (i < -(2 ^ 63 : Int)) = false := decide_eq_false (by lia)
    have e2 : decide (i ≥ 2 ^ 63) = false := decide_eq_false (by lia)
    rw [e1, e2, Bool.or_false]) (by rw [h1]; simpa using h2) ⟨.str ⟨#[c]⟩, H, I.tok _, ⟨_, rfl⟩, q⟩) hs
def rIx (K : PySem.W.Frag) : R2 := fun x y H Q => rIxL K x y H Q ∨ rIxT K x y H Q ∨ rIxS x y H Q
theorem ix_seq : IxR X (rIx X.K) := ix_list.or (ix_tup.or ix_str)
theorem Inv.lst {pins : List (Addr × Obj)} {σ : St} {H : Hp} {s : Shared} {p : Addr} {xs : List V} (I : Inv X pins σ H s) (h : H p = some (.lst xs)) :
    ∃ (its : List Value) (n : Nat), Vals xs its ∧ s.heap.get? p = some { cls := .type "list", data := .seq its.toArray n } ∧ xs.length ≤ sizeLine := by
  obtain ⟨z, its, n, r, e⟩ := I.hok p _ h
  exact ⟨its, n, r, e, z⟩
theorem slice_bounds (lo hi : Option Int) (n : Nat) : (sliceBounds lo hi none n).1 = ((HT.sIx n 0 lo : Nat) : Int) ∧ (sliceBounds lo hi none n).2.1 = ((HT.sIx n n hi : Nat) : Int) ∧ (sliceBounds lo hi none n).2.2 = 1 := by
  refine ⟨?_, ?_, rfl⟩
  · cases lo with
    | none => simp [sliceBounds, HT.sIx]
    | some i =>
      simp only [sliceBounds, HT.sIx, Option.getD_none, show (1 : Int) > 0 by decide, if_true]
      by_cases h : i < 0
      · simp only [h, if_true] <;> lia
      · simp only [h, if_false] <;> lia
  · cases hi with
    | none => simp [sliceBounds, HT.sIx]
    | some i =>
      simp only [sliceBounds, HT.sIx, Option.getD_none, show (1 : Int) > 0 by decide, if_true]
      by_cases h : i < 0
      · simp only [h, if_true] <;> lia
      · simp only [h, if_false] <;> lia
theorem slicePick_cut (its : List Value) (lo hi : Option Int) : slicePick its.toArray lo hi none = ((its.drop (HT.sIx its.length 0 lo)).take (HT.sIx its.length its.length hi - HT.sIx its.length 0 lo)).toArray := by
  obtain ⟨h1, h2, h3⟩ := slice_bounds lo hi its.toArray.size
  unfold slicePick
  rw [h1, h2, h3]
  simp only [sliceRange_one, pick_run, List.size_toArray] <;> rfl
def rSlL (K : PySem.W.Frag) : V → Option Int → Option Int → Hp → VK → Prop := fun x lo hi H Q => ∃ a xs, x = .ref a ∧ SqL K H a xs ∧ ∀ p, H p = none → Q (.ref p) (upd H p (.lst (cutV xs lo hi)))
theorem sl_list : SlR X (rSlL X.K) := by
  intro pins s σ H x v vl vu lo hi sl Q I rx hs pl pu h
  obtain ⟨a, xs, rfl, hx, q⟩ := h
  cases rx
  obtain ⟨its, r, ht, hz⟩ := I.list hx
  have hlen := r.length
  refine ⟨"list", _, slot_list_getitem.lookup, ht.isList.typeIs, ?_⟩
  refine wpAny_getItem_list_slice ht.isList hs pl pu .none (by simp) ?_ (by rw [List.size_toArray] <;> lia)
  rw [slicePick_cut, ← hlen]
  refine ⟨.ref s.heap.objs.size, _, I.laid (t' := s.toks) (o := .lst (cutV xs lo hi)) (fun b ob q => Heap.get?_push_of_some _ q) (Nat.le_refl _) ?_, rfl, q _ (I.hok.fresh (Nat.le_refl _))⟩
  exact ⟨Nat.le_trans (cutV_length xs lo hi) hz, _, 0, (r.drop (HT.sIx xs.length 0 lo)).take (HT.sIx xs.length xs.length hi - HT.sIx xs.length 0 lo), Heap.get?_push_size _ rfl⟩
def flatV : V → Bool
  | .non => true
  | .bl _ => true
  | .int _ => true
  | .str _ => true
  | _ => false
theorem call_len_seq : CallR X (.builtin "len") (fun xs H Q => ∃ p ys, xs = [.ref p] ∧ (SqL X.K H p ys ∨ SqT X.K H p ys) ∧ Q (.int ys.length) H) := by
  intro pins s σ H xs us Q I r h
  obtain ⟨p, ys, rfl, hq, q⟩ := h
  obtain ⟨u, rfl, rx⟩ := vals1 r
  cases rx
  have hn := line63
  rcases hq with hq | hq
  · obtain ⟨its, r', pl, hz⟩ := I.list hq
    have hlen := r'.length
    exact Calls.call_len_list pl.isList (by simp only [List.size_toArray] <;> lia) ⟨.int ys.length, H, I.tok _, ⟨s.toks + 1, by rw [List.size_toArray, hlen]⟩, q⟩
  · obtain ⟨its, r', pl, hz⟩ := I.tuple hq
    have hlen := r'.length
    exact len_tuple pl (by simp only [List.size_toArray] <;> lia) ⟨.int ys.length, H, I.tok _, ⟨s.toks + 1, by rw [List.size_toArray, hlen]⟩, q⟩
theorem CallR.or {f : Value} {r r' : List V → Hp → VK → Prop} (h : CallR X f r) (h' : CallR X f r') : CallR X f (fun xs H Q => r xs H Q ∨ r' xs H Q) := by
  intro pins s σ H xs us Q I rs q
  rcases q with q | q
  · exact h pins s σ H xs us Q I rs q
  · exact h' pins s σ H xs us Q I rs q
theorem call_list_of : CallR X (.type "list") (fun xs H Q => ∃ p ys, xs = [.ref p] ∧ (SqL X.K H p ys ∨ SqT X.K H p ys) ∧ ∀ l, H l = none → Q (.ref l) (upd H l (.lst ys))) := by
  intro pins s σ H xs us Q I r h
  obtain ⟨p, ys, rfl, hq, q⟩ := h
  obtain ⟨u, rfl, rx⟩ := vals1 r
  cases rx
  have fin : ∀ (its : List Value), Vals ys its → ys.length ≤ sizeLine → ∀ (h' : Heap) (c' : Nat), (∀ b o', s.heap.get? b = some o' → h'.get? b = some o') →
      h'.get? s.heap.objs.size = some { cls := .type "list", dict := none, data := .seq its.toArray c', slots := #[] } → EP X pins σ Q (.ref s.heap.objs.size) { s with heap := h' } := fun its r' hz h' c' kp e =>
    ⟨.ref s.heap.objs.size, _, I.laid (t' := s.toks) kp (Nat.le_refl _) (show ObjOk X.prog X.w _ h' _ (.lst ys) from ⟨hz, its, c', r', e⟩), rfl, q _ (I.hok.fresh (Nat.le_refl _))⟩
  rcases hq with hq | hq
  · obtain ⟨its, r', pl, hz⟩ := I.list hq
    have hlen := r'.length
    obtain ⟨o, ho, hc, n, hd⟩ := pl.isList
    exact call_list_seq p (.inl rfl) ho hc hd (fun h' c' kp e => fin its r' hz h' c' kp e) (by simp only [List.size_toArray] <;> lia)
  · obtain ⟨its, r', pl, hz⟩ := I.tuple hq
    have hlen := r'.length
    obtain ⟨o, ho, hc, n, hd⟩ := pl
    exact call_list_seq p (.inr rfl) ho hc hd (fun h' c' kp e => fin its r' hz h' c' kp e) (by simp only [List.size_toArray] <;> lia)
def tyV (K : PySem.W.Frag) (T : String) (x : V) (H : Hp) : Prop := match x with
  | .str _ => T = "str"
  | .int _ => T = "int"
  | .ref p => (T = "list" ∧ ∃ xs, SqL K H p xs) ∨ (T = "tuple" ∧ ∃ o, K.lookup p = some o ∧ o.cls = .type "tuple" ∧ o.dict = none) ∨
      (T = "dict" ∧ ((∃ kvs, H p = some (.dK kvs)) ∨ ∃ kvs, H p = some (.dT kvs))) ∨ (T = "set" ∧ ∃ S n, H p = some (.set S n))
  | _ => False
theorem tyV_is {pins : List (Addr × Obj)} {σ : St} {H : Hp} {s : Shared} {T : String} {x : V} {v : Value} (I : Inv X pins σ H s) (r : RelV x v) (ty : tyV X.K T x H) :
    s.TypeIs v T ∧ ∀ a, v = .ref a → ∃ ob, s.heap.get? a = some ob ∧ ob.dict = none := by
  cases x with
  | str z =>
    obtain ⟨t, rfl⟩ := r
    cases (show T = "str" from ty)
    exact ⟨typeIs_str s z t, fun _ e => nomatch e⟩
  | int i =>
    obtain ⟨t, rfl⟩ := r
    cases (show T = "int" from ty)
    exact ⟨typeIs_int s i t, fun _ e => nomatch e⟩
  | ref p =>
    cases r
    rcases ty with ⟨rfl, xs, hq⟩ | ⟨rfl, o, hk, hc, hd⟩ | ⟨rfl, hk⟩ | ⟨rfl, S, n, hk⟩
    · obtain ⟨its, _, pl, _⟩ := I.list hq
      refine ⟨pl.isList.typeIs, fun a e => ?_⟩
      cases e
      obtain ⟨o, n, e, c, hd, _⟩ := pl
      exact ⟨o, e, hd⟩
    · refine ⟨⟨o, I.kIn p o hk, hc⟩, fun a e => ?_⟩
      cases e
      exact ⟨o, I.kIn _ o hk, hd⟩
    · have z : ∃ o, s.heap.get? p = some o ∧ o.ExactDict := by
        rcases hk with ⟨kvs, hk⟩ | ⟨kvs, hk⟩
        · obtain ⟨_, _, _, _, o, _, _, e, ex, _⟩ := I.hok p _ hk
          exact ⟨o, e, ex⟩
        · obtain ⟨_, _, _, _, o, _, _, e, ex, _⟩ := I.hok p _ hk
          exact ⟨o, e, ex⟩
      obtain ⟨o, e, ex⟩ := z
      refine ⟨⟨o, e, ex.1⟩, fun a e2 => ?_⟩
      cases e2
      exact ⟨o, e, ex.2.1⟩
    · obtain ⟨o, _, _, _, e, ex, _⟩ := I.hok p _ hk
      refine ⟨⟨o, e, ex.1⟩, fun a e2 => ?_⟩
      cases e2
      exact ⟨o, e, ex.2.1⟩
  | _ => exact False.elim ty
def tBM0 (K : PySem.W.Frag) (T : String) (r : V → List V → Hp → VK → Prop) (to : TE) : TE := fun σ H Q => to σ H fun x H1 => tyV K T x H1 ∧ r x [] H1 Q
def tBM (K : PySem.W.Frag) (T : String) (r : V → List V → Hp → VK → Prop) (to : TE) (t : TA) : TE := fun σ H Q => to σ H fun x H1 => tyV K T x H1 ∧ t σ H1 fun xs H2 => r x xs H2 Q
variable {o e : Expr} {es : List Expr} {to : TE} {t : TA} {name : Str} {apos cpos : Pos} {T id : String} {r : V → List V → Hp → VK → Prop}
theorem pe_bm0 (pa : PlainAttrs T) (slot : Slot T name id) (hty : typeOf (.builtin id) = pure (.type "method_descriptor")) (hm : MtR X id r) (ho : PE X o to)
    (hbase : attributeBase o name X.env (eval o X.env) = eval o X.env := by rfl) (hline : (apos.endLine == cpos.line) = true := by rfl) : PE X (.Call (.Attribute o name apos) [] [] cpos) (tBM0 X.K T r to) := by
  intro pins s σ H Q I h
  refine wpAny_Call_method0_late hbase hline (thn (ho pins s σ H _ I h) ?_)
  rintro v s1 ⟨x, H1, I1, r1, ty, q1⟩
  obtain ⟨h1, h2⟩ := tyV_is I1 r1 ty
  exact ⟨T, id, pa, slot, hty, h1, h2, Calls.callWith_builtin rfl (PySem.evalArgs_none (hm pins s1 σ H1 x [] v [] Q I1 r1 .nil q1))⟩
theorem pe_bm (pa : PlainAttrs T) (slot : Slot T name id) (hty : typeOf (.builtin id) = pure (.type "method_descriptor")) (hm : MtR X id r) (ho : PE X o to) (ha : PA X (e :: es) t)
    (hbase : attributeBase o name X.env (eval o X.env) = eval o X.env := by rfl)
    (hfew : ((backTo cpos (starEach (e :: es) X.env)).all (fun x => !x.1) && (backToKw cpos (keywordEach [] X.env)).all (fun x => x.1.isSome)
      && decide ((e :: es).length + ([] : List Keyword).length + (if ([] : List Keyword).isEmpty then 0 else 1) < 30)) = true := by rfl)
    (hline : (apos.endLine == cpos.line) = true := by rfl) (hs : starEach (e :: es) X.env = (false, eval e X.env) :: starEach es X.env := by rfl) (hplain : (backTo cpos (starEach es X.env)).any (·.1) = false := by rfl) :
    PE X (.Call (.Attribute o name apos) (e :: es) [] cpos) (tBM X.K T r to t) := by
  intro pins s σ H Q I h
  refine wpAny_Call_method_late hbase hfew hline rfl (thn (ho pins s σ H _ I h) ?_)
  rintro v s1 ⟨x, H1, I1, r1, ty, q1⟩
  obtain ⟨h1, h2⟩ := tyV_is I1 r1 ty
  refine ⟨T, id, pa, slot, hty, h1, h2, ?_⟩
  have hA := ha cpos pins s1 σ H1 _ I1 q1
  rw [hs] at hA ⊢
  refine Calls.callWith_builtin (by show (false || (backTo cpos (starEach es X.env)).any (·.1)) = false; rw [hplain] <;> rfl) (Calls.evalArgs_plain ?_)
  exact thn hA (by rintro us s2 ⟨vs, H2, I2, r2, q2⟩;exact hm pins s2 σ H2 x vs v us Q I2 r1 r2 q2)
end
end L2
namespace L2
open PySem PySem.Spec PyProof.Rows
def MtM (X : Cx) (id : String) (r : V → List V → Hp → VK → Prop) : Prop :=
  ∀ (pins : List (Addr × Obj)) (s : Shared) (σ : St) (H : Hp) (x : V) (xs : List V) (v : Value) (us : List Value) (Q : VK), Inv X pins σ H s → RelV x v → Vals xs us → r x xs H Q →
    wpAny (model X.prog X.w) X.A (call (.builtin id) (v :: us)) (EP X pins σ Q) X.xe s
theorem Vals.one : ∀ {x : V} {us : List Value}, Vals [x] us → ∃ u, us = [u] ∧ RelV x u
  | _, _, .cons r .nil => ⟨_, rfl, r⟩
theorem Vals.reverse {xs : List V} {us : List Value} (h : Vals xs us) : Vals xs.reverse us.reverse := by
  induction h with
  | nil => exact .nil
  | cons r t ih => rw [List.reverse_cons, List.reverse_cons]; exact Vals.append ih (.cons r .nil)
theorem Vals.rep {xs : List V} {us : List Value} (h : Vals xs us) : ∀ k : Nat, Vals (List.replicate k xs).flatten (List.replicate k us).flatten
  | 0 => .nil
  | k + 1 => by
    rw [List.replicate_succ, List.replicate_succ, List.flatten_cons, List.flatten_cons]
    exact Vals.append h (Vals.rep h k)
theorem foldl_rep (its : List Value) : ∀ (k : Nat) (acc : List Value),
    List.foldl (fun x1 x2 => x1 ++ x2) acc.toArray (List.replicate k its.toArray) = (acc ++ (List.replicate k its).flatten).toArray
  | 0, acc => by simp
  | k + 1, acc => by
    have e : acc.toArray ++ its.toArray = (acc ++ its).toArray := by simp
    have e2 : (acc ++ its) ++ (List.replicate k its).flatten = acc ++ (List.replicate (k + 1) its).flatten := by
      rw [List.replicate_succ, List.flatten_cons, List.append_assoc]
    rw [← e2, ← foldl_rep its k (acc ++ its), ← e, List.replicate_succ, List.foldl_cons]
section
variable {X : Cx} {pins : List (Addr × Obj)} {σ : St} {H : Hp} {s : Shared} {l b : Addr} {xs ys zs : List V}
theorem Inv.lset {its its' : List Value} {n : Nat} {f : Array Value → Array Value} {t' : Nat} (I : Inv X pins σ H s) (hH : H l = some (.lst xs))
    (e : s.heap.get? l = some { cls := .type "list", data := .seq its.toArray n }) (hf : f its.toArray = its'.toArray) (hv : Vals ys its') (hz : ys.length ≤ sizeLine) :
    Inv X pins σ (upd H l (.lst ys)) { s with heap := s.heap.update l (Obj.mapSeq f), toks := t' } := by
  have q := PySem.IsL.update e f
  rw [hf] at q
  refine I.write (x := l) (e := l) (by rw [hH]; exact trivial) (.inl rfl) (fun b' u hb hu => (Heap.get?_update_other s.heap (Obj.mapSeq f) (Ne.symm hb)).trans hu) ⟨_, q⟩ ?_
  exact ⟨hz, its', _, hv, q⟩
theorem Inv.lnew {its : List Value} {t' : Nat} (I : Inv X pins σ H s) (hv : Vals ys its) (hz : ys.length ≤ sizeLine) :
    Inv X pins σ (upd H s.heap.objs.size (.lst ys)) { s with heap := s.heap.push { cls := .type "list", data := .seq its.toArray }, toks := t' } :=
  I.laid (fun _ _ q => Heap.get?_push_of_some _ q) (Nat.le_refl _) ⟨hz, its, 0, hv, Heap.get?_push_size _ rfl⟩
theorem Inv.fresh (I : Inv X pins σ H s) : H s.heap.objs.size = none := I.hok.fresh (Nat.le_refl _)
theorem Inv.lstM (I : Inv X pins σ H s) (hH : H l = some (.lst xs)) : xs.length ≤ sizeLine ∧ ∃ (its : List Value) (n : Nat), Vals xs its ∧ xs.length = its.length ∧ s.heap.get? l = some { cls := .type "list", data := .seq its.toArray n } := by
  obtain ⟨z, its, n, r, e⟩ := I.hok l _ hH
  exact ⟨z, its, n, r, r.length, e⟩
theorem notLongL {n : Nat} (h : n ≤ sizeLine) : Builtin.List.listTooLong n = false := by
  unfold Builtin.List.listTooLong
  exact decide_eq_false (by lia)
end
section
variable {X : Cx}
def rAppend : V → List V → Hp → VK → Prop := fun x vs H Q => ∃ l xs y, x = .ref l ∧ vs = [y] ∧ H l = some (.lst xs) ∧ xs.length < sizeLine ∧ Q .non (upd H l (.lst (xs ++ [y])))
theorem mt_append : MtM X "list.append" rAppend := by
  intro pins s σ H x vs v us Q I rx rv h
  obtain ⟨l, xs, y, rfl, rfl, hH, hz, q⟩ := h
  cases rx
  obtain ⟨u, rfl, ru⟩ := rv.one
  obtain ⟨z, its, n, r, hl, e⟩ := I.lstM hH
  refine call_meets F.slot_list_append ⟨_, e, rfl⟩ F.entry_list_append (F.args_list_append_2 _ _) (PySem.list_append l its.toArray n u (by rw [List.size_toArray]; lia)) ⟨e, ?_⟩
  refine ⟨.non, _, I.lset (its' := its ++ [u]) hH e (by simp) (r.append (.cons ru .nil)) ?_, rfl, q⟩
  rw [List.length_append, List.length_singleton]
  lia
def rExtend : V → List V → Hp → VK → Prop := fun x vs H Q => ∃ l b xs zs, x = .ref l ∧ vs = [.ref b] ∧ H l = some (.lst xs) ∧ H b = some (.lst zs) ∧ xs.length + zs.length ≤ sizeLine ∧ Q .non (upd H l (.lst (xs ++ zs)))
theorem mt_extend : MtM X "list.extend" rExtend := by
  intro pins s σ H x vs v us Q I rx rv h
  obtain ⟨l, b, xs, zs, rfl, rfl, hH, hB, hz, q⟩ := h
  cases rx
  obtain ⟨u, rfl, ru⟩ := rv.one
  cases ru
  obtain ⟨z, its, n, r, hl, e⟩ := I.lstM hH
  obtain ⟨z2, its2, n2, r2, hl2, e2⟩ := I.lstM hB
  have hsz : its.toArray.size + its2.toArray.size ≤ sizeLine := by rw [List.size_toArray, List.size_toArray]; lia
  have hlong : ¬ (!its.toArray.isEmpty && Builtin.List.listTooLong (its.toArray.size + its2.toArray.size)) = true := by
    rw [notLongL hsz, Bool.and_false]
    exact Bool.false_ne_true
  refine call_meets F.slot_list_extend ⟨_, e, rfl⟩ F.entry_list_extend (F.args_list_extend_2 _ _)
    (AutoSeq1.list_extend_list_list_0 l its.toArray n b its2.toArray n2 hlong (by rw [List.size_toArray]; lia) (by lia)) ⟨e, e2, ?_⟩
  refine ⟨.non, _, I.lset (its' := its ++ its2) hH e (by simp) (r.append r2) ?_, rfl, q⟩
  rw [List.length_append]
  lia
def rCat : R2 := fun x y H Q => ∃ l b xs zs, x = .ref l ∧ y = .ref b ∧ H l = some (.lst xs) ∧ H b = some (.lst zs) ∧ xs.length + zs.length ≤ sizeLine ∧ ∀ p, H p = none → Q (.ref p) (upd H p (.lst (xs ++ zs)))
theorem op_cat : OpR X (binaryOp .Add) rCat := by
  intro pins s σ H x y v u Q I rx ry h
  obtain ⟨l, b, xs, zs, rfl, rfl, hH, hB, hz, q⟩ := h
  cases rx
  cases ry
  obtain ⟨z, its, n, r, hl, e⟩ := I.lstM hH
  obtain ⟨z2, its2, n2, r2, hl2, e2⟩ := I.lstM hB
  refine PySem.P.add_list e e2 ?_ (by rw [List.size_toArray, List.size_toArray]; lia)
  have ea : its.toArray ++ its2.toArray = (its ++ its2).toArray := by simp
  rw [ea]
  exact ⟨.ref _, _, I.lnew (t' := s.toks) (r.append r2) (by rw [List.length_append]; lia), rfl, q _ I.fresh⟩
def rRep : R2 := fun x y H Q => ∃ l k xs, x = .ref l ∧ y = .int k ∧ H l = some (.lst xs) ∧ -(2 ^ 63) ≤ k ∧ k < 2 ^ 63 ∧ xs.length * k.toNat ≤ sizeLine ∧
  ∀ p, H p = none → Q (.ref p) (upd H p (.lst (List.replicate k.toNat xs).flatten))
theorem len_rep {α : Type} (xs : List α) (k : Nat) : (List.replicate k xs).flatten.length = k * xs.length := by
  induction k with
  | zero => simp
  | succ k ih => rw [List.replicate_succ, List.flatten_cons, List.length_append, ih, Nat.succ_mul, Nat.add_comm]
theorem op_rep : OpR X (binaryOp .Mult) rRep := by
  intro pins s σ H x y v u Q I rx ry h
  obtain ⟨l, k, xs, rfl, rfl, hH, h1, h2, hz, q⟩ := h
  cases rx
  obtain ⟨t, rfl⟩ := ry
  obtain ⟨z, its, n, r, hl, e⟩ := I.lstM hH
  have hlen : its.toArray.size * k.toNat ≤ sizeLine := by rw [List.size_toArray, ← hl]; exact hz
  have hcap : ¬ its.toArray.size * k.toNat > (2 ^ 63 - 1) / 8 := by
    have : (sizeLine : Nat) ≤ (2 ^ 63 - 1) / 8 := by decide
    lia
  have hfit : ¬ (!Builtin.List.listFitsIndex k) = true := by
    rw [fitsIndex_both h1 h2]
    exact Bool.false_ne_true
  have hlong : ¬ Builtin.List.listTooLong (its.toArray.size * k.toNat) = true := by
    rw [notLongL hlen]
    exact Bool.false_ne_true
  have hnew : List.foldl (fun x1 x2 => x1 ++ x2) #[] (List.replicate (if its.toArray.isEmpty = true then 0 else k.toNat) its.toArray) = (List.replicate k.toNat its).flatten.toArray := by
    have f0 : ∀ m : Nat, List.foldl (fun x1 x2 => x1 ++ x2) #[] (List.replicate m its.toArray) = (List.replicate m its).flatten.toArray := fun m => by
      have := foldl_rep its m []
      rw [List.nil_append] at this
      exact this
    rw [f0]
    cases its with
    | nil => simp
    | cons a r' => rw [if_neg (by simp)]
  refine wpAny_binaryOp_repeat_ref (T := "list") (U := "int") (by decide) ⟨_, e, rfl⟩ (fun s' => typeIs_int s' k t) noFill_list_mul F.fills_int_mul F.slot_int_rmul repeat_list F.slot_int_index.lookup
    (call_meets F.slot_int_rmul (typeIs_int s k t) F.entry_int_rmul (F.args_int_rmul_2 _ _) (int___rmul___int_list k t l its.toArray n)
      ⟨e, rfl, ⟨_, e, rfl⟩, call_meets F.slot_list_mul ⟨_, e, rfl⟩ F.entry_list_mul (F.args_list_mul_2 _ _) (AutoListH.list___mul___list_int_3 l its.toArray n k t hfit hcap hlong) ⟨e, ?_⟩⟩)
  rw [hnew]
  exact ⟨.ref _, _, I.lnew (t' := s.toks) (r.rep k.toNat) (by rw [len_rep, Nat.mul_comm]; exact hz), rfl, q _ I.fresh⟩
end
section
variable {prog : Program} {w : World} {A : Around} {E : Value → Shared → Prop} {s : Shared}
end
section
variable {X : Cx}
end
end L2
namespace Att
open PySem PySem.W PySem.Calls PyProof.Rows
theorem ints_of_wellAll {P : Params} {h : Heap} : ∀ (ns : List Int) (vs : List Value), WellAll P h vs (ns.map WData.int) → IntsAre vs ns := by
  intro ns
  induction ns with
  | nil =>
    intro vs w
    rw [List.map_nil] at w
    cases w
    exact .nil
  | cons n ns ih =>
    intro vs w
    rw [List.map_cons] at w
    cases w with
    | cons a b =>
      cases a
      exact .cons _ _ (ih _ b)
theorem script_of {l : OpenLaw} {n : Nat} (hn : l.most = some n) {P : Params} {h : Heap} {args : List WData} {vals : List Value}
    (hpre : l.row.toRowW.claim.pre args = true) (hwl : WellAll P h vals args) :
    ∃ a vs ns, vals = [Value.ref a] ∧ args = [WData.list (ns.map WData.int)] ∧ h.get? a = some { cls := .type "list", data := .seq vs.toArray } ∧ IntsAre vs ns ∧ ns.length ≤ n := by
  have hsh : WShape.hasAll [] args [.list .int] = true := (pre_splitW hpre).1
  have hc : l.pre.holds [] { args := args } = true := (pre_splitW hpre).2
  obtain ⟨d, r, rfl, h1, h2⟩ := hasAllW_cons hsh
  obtain rfl := hasAllW_nil h2
  obtain ⟨xs, rfl, h3⟩ := hasW_list h1
  obtain ⟨ns, rfl⟩ := items_int h3
  have hlen : ns.length ≤ n := by
    unfold OpenLaw.pre at hc
    have h4 : (WTm.not (.lt (.lit (.int (n : Int))) (.len (.arg 0)))).holds [] { args := [.list (ns.map .int)] } = true := by
      have h4 := (holds_andW hc).1
      rw [hn] at h4
      exact h4
    have h5 := condW_of h4 (w_not (w_lt w_lit (w_len_list (w_arg rfl))))
    rw [List.length_map] at h5
    refine Nat.le_of_not_lt fun q => ?_
    have q' : (n : Int) < ((ns.length : Nat) : Int) := by lia
    first
      | (rw [decide_eq_true q'] at h5; exact absurd h5 (by decide))
      | (simp at h5; lia)
  cases hwl with
  | cons w1 w2 =>
    cases w2
    cases w1 with
    | list ho hall => exact ⟨_, _, ns, rfl, rfl, ho, ints_of_wellAll ns _ hall, hlen⟩
theorem post_true (l : OpenLaw) (args : List WData) : l.row.toRowW.claim.post args (.bool true) args = true :=
  postW_of (r := l.row.toRowW) (X := (true == true))
    (show WShape.has [] (.bool true) .bool = true by first | rfl | decide | simp [WShape.has, WShape.arms, WShape.armsAll])
    (show (WTm.eq .res (.lit (.bool true))).value [] { args := args, res := some (.bool true), after := args } = some (.bool (true == true)) from w_eq_bool (w_res rfl) w_lit) rfl
theorem attach_call {l : OpenLaw} {n : Nat} {q : Program} {loose : List Str} {XP : (Str → Option Value) → Heap → Prop} {YP : World → Heap → Prop} {d : DefRec}
    (hn : l.most = some n) (hdf : d.params.defaults = [])
    (call : ∀ (w : World) (s₀ s₁ : Shared) (mg mb : Str → Option Value) (fa : Addr) (o : Obj) (pm cd doc : Value) (a : Addr) (vs : List Value) (ns : List Int),
      Ground q loose [] XP w s₀ mg mb s₁.heap → YP w s₁.heap →
      s₁.heap.get? fa = some o → o.data = .func (docDef d.name d.params d.body d.scope pm cd doc) → s₁.heap.CodeRec cd d.name → mg d.name = some (.ref fa) →
      s₁.heap.get? a = some { cls := .type "list", data := .seq vs.toArray } → IntsAre vs ns → ns.length ≤ n → s₁.gens = #[] →
      codeAny (model l.prog w) callerA (.call (.ref fa) ⟨[.ref a], []⟩) (fun r s' => r = .ok (.ret (.bool true)) ∧ OldK s₁.heap s'.heap ∧ s'.os = s₁.os ∧ AllBare s'.gens) s₁) :
    WalkO q loose XP YP l.row.toRowW d [] (fun f vs => PySem.call f vs) := by
  intro w s₀ s₁ mg mb G Y fa o pm cd doc dV kV ho hd hcd hD hmg hg args vals as hpre hlay hrd hwl hlo
  obtain rfl : dV = .none := Dflts.none hD hdf
  obtain rfl : kV = .none := Dflts.noKw hD
  obtain ⟨a, vs, ns, rfl, rfl, hobj, hints, hlen⟩ := script_of hn hpre hwl
  refine enter_call (codeAny_mono (call w s₀ s₁ mg mb fa o pm cd doc a vs ns G Y ho (fd_plain hd) hcd hmg hobj hints hlen hg) fun r s' hq => ?_)
  obtain ⟨rfl, h2, h3, h4⟩ := hq
  exact ⟨.inl ⟨.bool true, .bool true, [], rfl, fun _ => rfl, .bool true, post_true l _, fun _ => ⟨List.Pairwise.nil, fun _ hm => (nomatch hm)⟩⟩, h2, h3, h4⟩
section
variable {prog : Program} {w : World} {A : Around} {E : Value → Shared → Prop} {s : Shared} {K : Frag}
end
end Att
namespace L2
open PySem PySem.Spec PyProof.Rows
theorem vals_ints : ∀ {vs : List Value} {ns : List Int}, IntsAre vs ns → Vals (ns.map V.int) vs
  | _, _, .nil => .nil
  | _, _, .cons n t h => .cons ⟨t, rfl⟩ (vals_ints h)
def Only (H : Hp) : Prop := ∀ b, H b = none ∨ ∃ o xs, H b = some (.frz o (.lst xs))
theorem law_call {P : Program} {w : World} {K : PySem.W.Frag} {mg mb : Str → Option Value} {CX : CXT} {k : Nat} {fa a : Addr} {fd : FuncData} {x : Str} {sp : Sp} {s₁ : Shared} {vs : List Value} {ns : List Int}
    (KX : K.In s₁.heap) (hns : s₁.heap.Ns mainGlobals mg) (hb : s₁.heap.Ns builtinsNs mb) (hbb : ∀ x : Str, x ≠ "__name__" → mb x = bootBuiltins x) (hlim : s₁.heap.NoLimit) (hg : s₁.gens = #[])
    (ha : s₁.heap.get? a = some { cls := .type "list", data := .seq vs.toArray }) (hi : IntsAre vs ns) (hl : ns.length ≤ sizeLine) (hr : Room k callerA)
    (F : ∀ base : Heap, K.In base → base.Ns mainGlobals mg → FnOk P w K mg base CX k fa fd [x] sp) (hbind : ∀ (s : Shared) (u : Value), BindsTo s fd ⟨[u], []⟩ [(x, u)])
    (hsp : ∀ H : Hp, Only H → SqL K H a (ns.map V.int) → sp [.ref a] H (fun v _ => v = .bl true) fun _ _ _ => False)
    (hCX : ∀ H e s', CX [] H s₁ (fun _ _ _ => False) e s' → False) :
    codeAny (model P w) callerA (.call (.ref fa) ⟨[.ref a], []⟩) (fun r s' => r = .ok (.ret (.bool true)) ∧ OldK s₁.heap s'.heap ∧ s'.os = s₁.os ∧ AllBare s'.gens) s₁ := by
  have rv := vals_ints hi
  have lenV := hi.length
  have core : ∀ H : Hp, Only H → SqL K H a (ns.map V.int) → HOk P w H s₁.heap → (∀ b, H b ≠ none → b = a) → (H a ≠ none → K.lookup a = none) →
      codeAny (model P w) callerA (.call (.ref fa) ⟨[.ref a], []⟩) (fun r s' => r = .ok (.ret (.bool true)) ∧ OldK s₁.heap s'.heap ∧ s'.os = s₁.os ∧ AllBare s'.gens) s₁ := by
    intro H hO hS hok hA hK
    have base_of : ∀ {b : Addr} {o : Obj}, s₁.heap.get? b = some o → H b = none → (hidT s₁.heap H).get? b = some o := fun e n => hidT_get e n
    have noA : ∀ {b : Addr} {o : Obj} {es : Array DictEntry} {ep : Nat}, s₁.heap.get? b = some o → o.data = .dict es ep → H b = none := fun {b o es ep} e d => by
      cases q : H b with
      | none => rfl
      | some u =>
        have e' : b = a := hA b (by rw [q]; simp)
        subst e'
        rw [ha] at e; cases e
        have d' : Data.seq vs.toArray _ = Data.dict es ep := d
        cases d'
    have nsK : ∀ {b : Addr} {m : Str → Option Value}, s₁.heap.Ns b m → (hidT s₁.heap H).Ns b m := fun {b m} ⟨o, es, ep, e, d, r⟩ => ⟨o, es, ep, base_of e (noA e d), d, r⟩
    have hKb : K.In (hidT s₁.heap H) := fun b o e => base_of (KX b o e) (by
      cases q : H b with
      | none => rfl
      | some u =>
        have e' : b = a := hA b (by rw [q]; simp)
        subst e'
        rw [hK (by rw [q]; simp)] at e; cases e)
    have hM : Mod K mg (hidT s₁.heap H) := ⟨hKb, nsK hns, ⟨mb, nsK hb, hbb⟩, let ⟨mc, h1, h2⟩ := hlim; ⟨mc, nsK h1, h2⟩⟩
    have e0 : Env0 P w K mg (hidT s₁.heap H) callerA [] s₁ H := ⟨rfl, hM, fun b o e => of_hidT e, Nat.le_of_eq (hidT_size _ _), trivial, fun b hb => absurd (show b ∈ ([] : List Addr) from hb) (by simp), hok, .of_eq hg⟩
    refine codeAny_mono ((F _ hKb (nsK hns)).run callerA [] s₁ H ⟨[.ref a], []⟩ [.ref a] [.ref a] _ _ hr e0 (hbind s₁ (.ref a)) (.cons rfl .nil) (hsp H hO hS)) fun r s' h => ?_
    cases r with
    | error e => exact (hCX H e s' h).elim
    | ok fl =>
      cases fl with
      | next => exact False.elim h
      | brk => exact False.elim h
      | cont => exact False.elim h
      | ret u =>
        obtain ⟨v, H', os, bare, un, hok', r', q⟩ := h
        have q' : v = .bl true := q
        subst q'
        obtain rfl : u = Value.bool true := r'
        refine ⟨rfl, OldK.of_keep fun b o e => ?_, os, bare⟩
        cases q : H b with
        | none => exact un.keep b o e q (by intro z; exact absurd (show b ∈ ([] : List Addr) from z) (by simp)) (by simp)
        | some u =>
          rcases hO b with z | ⟨ob, xs, z⟩
          · rw [q] at z; cases z
          · have z2 := un.frzs b ob _ z
            obtain ⟨e1, _⟩ := hok b _ z
            obtain ⟨e2, _⟩ := hok' b _ z2
            rw [e] at e1; cases e1
            exact e2
  cases hk : K.lookup a with
  | some o =>
    have e := KX a o hk
    rw [ha] at e
    cases e
    refine core (fun _ => none) (fun _ => .inl rfl) (.inr ⟨_, vs.toArray, _, hk, rfl, rfl, rfl, by rw [List.size_toArray, lenV]; exact hl, by simpa using rv⟩) (fun b u z => by have z' : (none : Option HO) = some u := z; cases z') (fun b z => absurd rfl z) fun z => absurd rfl z
  | none =>
    refine core (fun b => if b = a then some (.frz { cls := .type "list", data := .seq vs.toArray } (.lst (ns.map V.int))) else none) (fun b => ?_) (.inl (.inr ⟨{ cls := .type "list", data := .seq vs.toArray }, if_pos rfl⟩)) (fun b u z => ?_) (fun b z => ?_) fun _ => hk
    · by_cases hb : b = a
      · exact .inr ⟨_, _, if_pos hb⟩
      · exact .inl (if_neg hb)
    · by_cases hb : b = a
      · have z' := (if_pos hb).symm.trans z
        cases z'
        subst hb
        exact ⟨ha, by rw [List.length_map]; exact hl, vs, _, rv, ha⟩
      · have z' := (if_neg hb).symm.trans z
        cases z'
    · by_cases hb : b = a
      · exact hb
      · exact absurd (if_neg hb) z
end L2
namespace L2
open PySem PySem.Spec PyProof.Rows
theorem walk_of {l : PySem.W.OpenLaw} {n k : Nat} {q : Program} {loose : List Str} {XP : (Str → Option Value) → Heap → Prop} {YP : World → Heap → Prop} {d : DefRec} {K : Params → PySem.W.Frag} {CX : World → CXT} {sp : World → Sp} {x : Str}
    (hn : l.most = some n) (hn2 : n ≤ sizeLine) (hdf : d.params.defaults = []) (hr : Room k callerA)
    (hY : ∀ (w : World) (h : Heap), YP w h → (K w.params).In h)
    (F : ∀ (w : World) (mg : Str → Option Value) (fa : Addr) (h : Heap), (K w.params).In h → h.Ns mainGlobals mg → mg d.name = some (.ref fa) →
      ∃ fd : FuncData, (∀ (s : Shared) (u : Value), BindsTo s fd ⟨[u], []⟩ [(x, u)]) ∧
        ∀ base : Heap, (K w.params).In base → base.Ns mainGlobals mg → FnOk l.prog w (K w.params) mg base (CX w) k fa fd [x] (sp w))
    (hsp : ∀ (w : World) (H : Hp) (a : Addr) (ns : List Int), ns.length ≤ n → Only H → SqL (K w.params) H a (ns.map V.int) → sp w [.ref a] H (fun v _ => v = .bl true) fun _ _ _ => False)
    (hCX : ∀ (w : World) (H : Hp) (s : Shared) (e : Value) (s' : Shared), CX w [] H s (fun _ _ _ => False) e s' → False) :
    PySem.W.WalkO q loose XP YP l.row.toRowW d [] (fun f vs => PySem.call f vs) := by
  refine Att.attach_call hn hdf fun w s₀ s₁ mg mb fa o pm cd doc a vs ns G Y ho hd hcd hmg hobj hints hlen hg => ?_
  have KX := hY w _ Y
  obtain ⟨fd, hb, hF⟩ := F w mg fa _ KX G.T.g hmg
  exact law_call KX G.T.g G.T.b G.T.builtins G.T.nolimit hg hobj hints (Nat.le_trans hlen hn2) hr hF hb (fun H hO hS => hsp w H a ns hlen hO hS) fun H e s' => hCX w H s₁ e s'
theorem walk_ofK {l : PySem.W.OpenLaw} {n k : Nat} {q : Program} {loose : List Str} {XP : (Str → Option Value) → Heap → Prop} {YP : World → Heap → Prop} {d : DefRec} {K : Params → PySem.W.Frag} {CX : CXT} {sp : PySem.W.Frag → Sp} {x : Str}
    (hn : l.most = some n) (hn2 : n ≤ sizeLine) (hdf : d.params.defaults = []) (hr : Room k callerA)
    (hY : ∀ (w : World) (h : Heap), YP w h → (K w.params).In h)
    (F : ∀ (w : World) (mg : Str → Option Value) (fa : Addr) (h : Heap), (K w.params).In h → h.Ns mainGlobals mg → mg d.name = some (.ref fa) →
      ∃ fd : FuncData, (∀ (s : Shared) (u : Value), BindsTo s fd ⟨[u], []⟩ [(x, u)]) ∧
        ∀ base : Heap, (K w.params).In base → base.Ns mainGlobals mg → FnOk l.prog w (K w.params) mg base CX k fa fd [x] (sp (K w.params)))
    (hsp : ∀ (K : PySem.W.Frag) (H : Hp) (a : Addr) (ns : List Int), ns.length ≤ n → Only H → SqL K H a (ns.map V.int) → sp K [.ref a] H (fun v _ => v = .bl true) fun _ _ _ => False)
    (hCX : ∀ (H : Hp) (s : Shared) (e : Value) (s' : Shared), CX [] H s (fun _ _ _ => False) e s' → False) :
    PySem.W.WalkO q loose XP YP l.row.toRowW d [] (fun f vs => PySem.call f vs) :=
  walk_of (K := K) (CX := fun _ => CX) (sp := fun w => sp (K w.params)) hn hn2 hdf hr hY F (fun w H a ns h1 h2 h3 => hsp (K w.params) H a ns h1 h2 h3) fun _ H s e s' => hCX H s e s'
end L2
namespace L2
open PySem PySem.Spec PyProof.Rows
def inClass (s : Stmt) (j : Nat) : Stmt := match s with
  | .ClassDef _ _ _ body _ _ _ _ _ _ _ => body.getD j (.Pass ⟨0, 0, 0, 0⟩)
  | _ => .Pass ⟨0, 0, 0, 0⟩
def defArgs (s : Stmt) : Arguments := match s with
  | .FunctionDef _ a _ _ _ _ _ _ _ _ => a
  | _ => { posonlyargs := [], args := [], vararg := none, kwonlyargs := [], kw_defaults := [], kwarg := none, defaults := [] }
def defBody (s : Stmt) : List Stmt := match s with
  | .FunctionDef _ _ b _ _ _ _ _ _ _ => b
  | _ => []
def defScope (s : Stmt) : Scope := match s with
  | .FunctionDef _ _ _ _ _ _ sc _ _ _ => sc
  | _ => { kind := .function, names := [], isGenerator := false, isCoroutine := false }
abbrev CX0 : CXT := fun _ _ _ _ _ _ => False
abbrev E0 : XK := fun _ _ _ => False
theorem pass0 {X : Cx} : Passes CX0 X E0 := fun _ _ _ _ _ _ _ h => h.elim
structure Fun (K : PySem.W.Frag) (x qual : Str) (st : Stmt) (f : Addr) (fd : FuncData) : Prop where
  ex : ∃ (oc : Value) (od : Option Addr) (kV doc pm : Value) (an : Option Addr) (cdv ct : Value) (osl : Array (Option Value)),
    fd = PySem.W.fnOf x qual (defArgs st) (defBody st) (defScope st) .none kV doc pm an cdv ct ∧ K.lookup f = some ⟨oc, od, .func fd, osl⟩ ∧ PySem.W.codeIn K cdv qual = true
  kp : PySem.W.keepIn K (.ref f) = true
section
variable {P : Program} {w : World} {K : PySem.W.Frag} {mg : Str → Option Value} {base : Heap}
theorem Fun.ok {x qual : Str} {st : Stmt} {f : Addr} {fd : FuncData} {N ps : List Str} {k : Nat} {sp : Sp} (F : Fun K x qual st f fd) (S : FnScope N ps (defScope st)) (len : ∀ vs H Q E, sp vs H Q E → vs.length = ps.length)
    (hbody : ∀ (cdv : Value) (A : Around) (outer : List Env) (s : Shared) (H : Hp) (vs : List V) (Q : VK) (E : XK), Room k (A.deeper (envOfC qual (defScope st) s.heap.objs.size f cdv)) → sp vs H Q E →
      ∃ t, PSs (cxOf CX0 P w K mg base N qual (defScope st) f cdv A outer s H E).nox (defBody st) t ∧ t { nx := fun _ H' => Q .non H', rt := Q } (start N vs) H) : FnOk P w K mg base CX0 (k + 1) f fd ps sp := by
  obtain ⟨oc, od, kV, doc, pm, an, cdv, ct, osl, rfl, lk, hcd⟩ := F.ex
  refine fn_of lk hcd S len fun A outer s H vs Q E hr hsp => ?_
  obtain ⟨t, h, q⟩ := hbody cdv A outer s H vs Q E hr hsp
  exact ⟨t, h.nox, q⟩
theorem Fun.binds {x qual : Str} {st : Stmt} {f : Addr} {fd : FuncData} {ps : List Str} (F : Fun K x qual st f fd)
    (h : ∀ (kV doc pm : Value) (an : Option Addr) (cdv ct : Value) (us : List Value), us.length = ps.length → bindArgs (PySem.W.fnOf x qual (defArgs st) (defBody st) (defScope st) .none kV doc pm an cdv ct) ⟨us, []⟩ = pure (ps.zip us)) : Binds K fd ps [] := by
  obtain ⟨oc, od, kV, doc, pm, an, cdv, ct, osl, rfl, lk, hcd⟩ := F.ex
  exact .all (h kV doc pm an cdv ct)
theorem fun_mk {x qual : Str} {st : Stmt} {f : Addr} {oc : Value} {od an : Option Addr} {osl : Array (Option Value)} {kV doc pm cdv ct : Value} (l : K.lookup f = some ⟨oc, od, .func (PySem.W.fnOf x qual (defArgs st) (defBody st) (defScope st) .none kV doc pm an cdv ct), osl⟩)
    (c : PySem.W.codeIn K cdv qual = true) (k : PySem.W.keepIn K (.ref f) = true) : Fun K x qual st f (PySem.W.fnOf x qual (defArgs st) (defBody st) (defScope st) .none kV doc pm an cdv ct) := ⟨⟨oc, od, kV, doc, pm, an, cdv, ct, osl, rfl, l, c⟩, k⟩
end
theorem hu_of {A : Around} {k : Nat} (hr : Room k A) : A.units + 1 < cLine := Nat.lt_of_le_of_lt (Nat.add_le_add_left (by decide : 1 ≤ 64) _) hr.units
theorem small1000 {n : Nat} (h : n ≤ 1000) : n < sizeLine := Nat.lt_of_le_of_lt h (by decide)
section
variable {X : Cx}
theorem pv (i : Nat) {x : Str} {pos : Pos} (hN : X.N[i]? = some x := by rfl) (hv : Vis X.env.scope x := by first | exact Or.inl rfl | exact Or.inr (Or.inl rfl) | exact Or.inr (Or.inr rfl)) (hd : (x == ("__debug__" : Str)) = false := by decide)
    (hcd : (x == ("__classdict__" : Str)) = false := by decide) : PE X (.Name x pos) (tVar i) := pe_var hN hv hd hcd
end
theorem iteF {A B : Prop} (h : B) : if false = true then A else B := by
  rw [if_neg Bool.false_ne_true]
  exact h
theorem iteT {A B : Prop} (h : A) : if true = true then A else B := by
  rw [if_pos rfl]
  exact h
theorem ite2 {c A B : Prop} [Decidable c] (h1 : c → A) (h2 : ¬ c → B) : if c then A else B := by
  by_cases h : c
  · rw [if_pos h]
    exact h1 h
  · rw [if_neg h]
    exact h2 h
def Same (H H' : Hp) : Prop := ∀ b o, H b = some o → H' b = some o
theorem Same.refl (H : Hp) : Same H H := fun _ _ h => h
theorem Same.trans {H H1 H2 : Hp} (a : Same H H1) (b : Same H1 H2) : Same H H2 := fun c o h => b c o (a c o h)
theorem Same.free {H H' : Hp} (e : Same H H') {l : Addr} (h : H' l = Option.none) : H l = Option.none := by
  cases q : H l with
  | none => rfl
  | some o =>
    rw [e l o q] at h
    cases h
theorem Same.seq {K : PySem.W.Frag} {H H' : Hp} {a : Addr} {xs : List V} (e : Same H H') (h : SqL K H a xs) : SqL K H' a xs := by
  rcases h with (h | ⟨o, h⟩) | h
  · exact .inl (.inl (e _ _ h))
  · exact .inl (.inr ⟨o, e _ _ h⟩)
  · exact .inr h
end L2
namespace L2
open PySem PySem.Spec PyProof.Rows
def blk (X : Cx) (scope : Scope) (N' : List Str) (cl : List (Str × Addr)) (fp : List Addr) (C : Addr) (s : Shared) (H : Hp) : Cx :=
  { X with N := N', s₀ := s, H₀ := H, env := compEnvC scope cl C X.env, outer := X.stack, stack := X.stack, ex := fp, fn := fun _ => false, pn := [], xe := fun _ _ => False }
def compScB (sc0 : Scope) (N0 : List Str) (scope : Scope) (N' : List Str) (fr : List (Option Nat)) : Bool :=
  decide (scope.kind = .function) && scope.names.all (fun y => decide (y.2 ≠ .cell)) && scope.names.all (fun y => decide (y.2 = .local → scope.names.lookup y.1 = some .local)) &&
  scope.names.all (fun y => decide (y.2 = .free → (sc0.names.lookup y.1 = some .cell ∨ sc0.names.lookup y.1 = some .free))) && decide (fr.length = N'.length) &&
  (List.range N'.length).all (fun i => match fr[i]?, N'[i]? with
    | some (some j), some x => decide (N0[j]? = some x) && decide (scope.names.lookup x = some .free) && decide (sc0.names.lookup x = some .cell ∨ sc0.names.lookup x = some .free)
    | _, _ => true)
structure CompSc (sc0 : Scope) (N0 : List Str) (scope : Scope) (N' : List Str) (fr : List (Option Nat)) : Prop where
  kind : scope.kind = .function
  nocell : ∀ y ∈ scope.names, y.2 ≠ .cell
  names : ∀ y ∈ scope.names, y.2 = .local → scope.names.lookup y.1 = some .local
  frees : ∀ y ∈ scope.names, y.2 = .free → (sc0.names.lookup y.1 = some .cell ∨ sc0.names.lookup y.1 = some .free)
  len : fr.length = N'.length
  fix : ∀ (i j : Nat) (x : Str), fr[i]? = some (some j) → N'[i]? = some x → N0[j]? = some x ∧ scope.names.lookup x = some .free ∧ (sc0.names.lookup x = some .cell ∨ sc0.names.lookup x = some .free)
theorem compSc_of {sc0 : Scope} {N0 : List Str} {scope : Scope} {N' : List Str} {fr : List (Option Nat)} (h : compScB sc0 N0 scope N' fr = true) : CompSc sc0 N0 scope N' fr := by
  unfold compScB at h
  rw [Bool.and_eq_true, Bool.and_eq_true, Bool.and_eq_true, Bool.and_eq_true, Bool.and_eq_true] at h
  obtain ⟨⟨⟨⟨⟨h1, h2⟩, h3⟩, h4⟩, h5⟩, h6⟩ := h
  refine ⟨of_decide_eq_true h1, fun y hy => of_decide_eq_true (List.all_eq_true.mp h2 y hy), fun y hy => of_decide_eq_true (List.all_eq_true.mp h3 y hy), fun y hy => of_decide_eq_true (List.all_eq_true.mp h4 y hy), of_decide_eq_true h5, fun i j x e1 e2 => ?_⟩
  have hi : i < N'.length := (List.getElem?_eq_some_iff.mp e2).1
  have q := List.all_eq_true.mp h6 i (List.mem_range.mpr hi)
  rw [e1, e2] at q
  dsimp only at q
  rw [Bool.and_eq_true, Bool.and_eq_true] at q
  exact ⟨of_decide_eq_true q.1.1, of_decide_eq_true q.1.2, of_decide_eq_true q.2⟩
def clo (env : Env) : List (Str × NameKind) → List (Str × Addr) → List (Str × Addr)
  | [], cs => cs
  | (n, k) :: r, cs => if k = .free then clo env r ((n, (env.cells.lookup n).getD 0) :: cs) else clo env r cs
theorem mem_of_lookup {α : Type} : ∀ {l : List (Str × α)} {x : Str} {v : α}, l.lookup x = some v → (x, v) ∈ l
  | [], _, _, h => by simp at h
  | (y, w) :: r, x, v, h => by
    cases hx : x == y with
    | true =>
      simp only [List.lookup_cons, hx] at h
      cases h
      rw [beq_iff_eq.mp hx]
      exact List.mem_cons_self
    | false =>
      simp only [List.lookup_cons, hx] at h
      exact List.mem_cons_of_mem _ (mem_of_lookup h)
theorem clo_mem {env : Env} : ∀ {l : List (Str × NameKind)} {cs : List (Str × Addr)} {p : Str × Addr}, p ∈ clo env l cs → p ∈ cs ∨ (∃ y ∈ l, y.2 = .free ∧ p = (y.1, (env.cells.lookup y.1).getD 0))
  | [], _, _, h => .inl h
  | (n, k) :: r, cs, p, h => by
    unfold clo at h
    by_cases hk : k = .free
    · rw [if_pos hk] at h
      rcases clo_mem h with q | ⟨y, hy, e1, e2⟩
      · rcases List.mem_cons.mp q with q | q
        · exact .inr ⟨(n, k), List.mem_cons_self, hk, q⟩
        · exact .inl q
      · exact .inr ⟨y, List.mem_cons_of_mem _ hy, e1, e2⟩
    · rw [if_neg hk] at h
      rcases clo_mem h with q | ⟨y, hy, e1, e2⟩
      · exact .inl q
      · exact .inr ⟨y, List.mem_cons_of_mem _ hy, e1, e2⟩
theorem clo_keep {env : Env} : ∀ {l : List (Str × NameKind)} {cs : List (Str × Addr)} {p : Str × Addr}, p ∈ cs → p ∈ clo env l cs
  | [], _, _, h => h
  | (n, k) :: r, cs, p, h => by
    unfold clo
    by_cases hk : k = .free
    · rw [if_pos hk]; exact clo_keep (List.mem_cons_of_mem _ h)
    · rw [if_neg hk]; exact clo_keep h
theorem clo_has {env : Env} : ∀ {l : List (Str × NameKind)} {cs : List (Str × Addr)} {x : Str}, (x, NameKind.free) ∈ l → (x, (env.cells.lookup x).getD 0) ∈ clo env l cs
  | [], _, _, h => nomatch h
  | (n, k) :: r, cs, x, h => by
    unfold clo
    rcases List.mem_cons.mp h with q | q
    · cases q
      rw [if_pos rfl]
      exact clo_keep List.mem_cons_self
    · by_cases hk : k = .free
      · rw [if_pos hk]; exact clo_has q
      · rw [if_neg hk]; exact clo_has q
theorem lookup_of_mem {α : Type} : ∀ {l : List (Str × α)} {x : Str} {v : α}, (x, v) ∈ l → ∃ w, l.lookup x = some w
  | [], _, _, h => nomatch h
  | (y, w) :: r, x, v, h => by
    cases hx : x == y with
    | true => exact ⟨w, by simp [List.lookup_cons, hx]⟩
    | false =>
      rcases List.mem_cons.mp h with q | q
      · cases q
        simp at hx
      · obtain ⟨w', e⟩ := lookup_of_mem q
        exact ⟨w', by simp [List.lookup_cons, hx, e]⟩
theorem closure_go {env : Env} : ∀ (l : List (Str × NameKind)) (cs : List (Str × Addr)), (∀ y ∈ l, y.2 = .free → ∃ c, env.cells.lookup y.1 = some c) →
    (forIn l cs fun (x : Str × NameKind) (r : List (Str × Addr)) => (if (x.2 == NameKind.free) = true then do let a ← cellOf env x.1; pure (ForInStep.yield ((x.1, a) :: r)) else pure (ForInStep.yield r) : Sem (ForInStep (List (Str × Addr))))) = pure (clo env l cs)
  | [], cs, _ => rfl
  | (n, k) :: r, cs, h => by
    rw [List.forIn_cons]
    by_cases hk : k = .free
    · subst hk
      obtain ⟨c, e⟩ := h (n, .free) List.mem_cons_self rfl
      have hc : cellOf env n = pure c := by unfold cellOf; rw [e]
      have ih := closure_go r ((n, c) :: cs) fun y hy => h y (List.mem_cons_of_mem _ hy)
      simp only [beq_self_eq_true, if_true, hc]
      unfold clo
      rw [if_pos rfl, e]
      exact ih
    · have hb : (k == NameKind.free) = false := by simpa using hk
      have ih := closure_go r cs fun y hy => h y (List.mem_cons_of_mem _ hy)
      simp only [hb, Bool.false_eq_true, if_false]
      unfold clo
      rw [if_neg hk]
      exact ih
theorem closure_ok {scope : Scope} {env : Env} (h : ∀ y ∈ scope.names, y.2 = .free → ∃ c, env.cells.lookup y.1 = some c) : closureFor scope env = pure (clo env scope.names []) := by
  unfold closureFor
  have := closure_go scope.names [] h
  first
    | (rw [this]; rfl)
    | (refine Eq.trans ?_ this; rfl)
    | (simp only [this]; rfl)
theorem clo_sub {env : Env} {l : List (Str × NameKind)} (h : ∀ y ∈ l, y.2 = .free → ∃ c, env.cells.lookup y.1 = some c) {x : Str} {c : Addr} (e : (clo env l []).lookup x = some c) : env.cells.lookup x = some c := by
  rcases clo_mem (mem_of_lookup e) with q | ⟨y, hy, e1, e2⟩
  · exact nomatch q
  · obtain ⟨c', ec⟩ := h y hy e1
    have e3 : x = y.1 := congrArg Prod.fst e2
    have e4 : c = (env.cells.lookup y.1).getD 0 := congrArg Prod.snd e2
    rw [ec] at e4
    rw [e3, ec, e4]
    rfl
theorem relabel_free {scope : Scope} {env : Env} {x : Str} : scope.names.lookup x = some .free → (relabel scope env).names.lookup x = some .cell ∨ (relabel scope env).names.lookup x = some .free := by
  show scope.names.lookup x = some .free → (scope.names.map _).lookup x = _ ∨ (scope.names.map _).lookup x = _
  induction scope.names with
  | nil => intro h; simp at h
  | cons p r ih =>
    intro h
    obtain ⟨n, k⟩ := p
    rw [List.map_cons]
    cases hx : x == n with
    | true =>
      simp only [List.lookup_cons, hx] at h
      cases h
      dsimp only
      split
      · exact .inl (by simp [List.lookup_cons, hx])
      · exact .inr (by simp [List.lookup_cons, hx])
    | false =>
      simp only [List.lookup_cons, hx] at h
      dsimp only
      split <;> (simp only [List.lookup_cons, hx]; exact ih h)
theorem relabel_back {scope : Scope} {env : Env} {x : Str} (nc : ∀ y ∈ scope.names, y.2 ≠ .cell) : ((relabel scope env).names.lookup x = some .cell ∨ (relabel scope env).names.lookup x = some .free) → scope.names.lookup x = some .free := by
  show ((scope.names.map _).lookup x = _ ∨ (scope.names.map _).lookup x = _) → _
  revert nc
  induction scope.names with
  | nil => intro _ h; simp at h
  | cons p r ih =>
    intro nc h
    obtain ⟨n, k⟩ := p
    rw [List.map_cons] at h
    have ih' := ih (fun y hy => nc y (List.mem_cons_of_mem _ hy))
    cases hx : x == n with
    | true =>
      simp only [List.lookup_cons, hx]
      dsimp only at h
      by_cases hc : (k == NameKind.free && env.scope.kind == .function && env.kindOf n == some .cell) = true
      · simp only [Bool.and_eq_true] at hc
        have : k = .free := by simpa using hc.1.1
        rw [this]
      · rw [if_neg hc] at h
        simp only [List.lookup_cons, hx] at h
        rcases h with h | h
        · cases h; exact absurd rfl (nc (n, .cell) List.mem_cons_self)
        · exact h
    | false =>
      simp only [List.lookup_cons, hx]
      dsimp only at h
      refine ih' ?_
      by_cases hc : (k == NameKind.free && env.scope.kind == .function && env.kindOf n == some .cell) = true
      · rw [if_pos hc] at h
        simpa only [List.lookup_cons, hx] using h
      · rw [if_neg hc] at h
        simpa only [List.lookup_cons, hx] using h
theorem Un.but {fs ex : List Addr} {H H' : Hp} {h h1 h2 : Heap} {C : Addr} (u : Un fs ex H H' h h1) (sb : Heap.SameBut C h1 h2) (hC : h.objs.size ≤ C) : Un fs ex H H' h h2 := by
  have ne : ∀ b o, h.get? b = some o → b ≠ C := fun b o e => Nat.ne_of_lt (Nat.lt_of_lt_of_le (Heap.lt_size e) hC)
  refine ⟨fun b o e n hb hx => (sb.2 b (ne b o e)).trans (u.keep b o e n hb hx), fun b o e n hb hx => ?_, u.free, fun b o e hx => ?_, u.tups, u.frzs, u.tbls⟩
  · obtain ⟨sl, q⟩ := u.slot b o e n hb hx
    exact ⟨sl, (sb.2 b (ne b o e)).trans q⟩
  · obtain ⟨o', q⟩ := u.there b o e hx
    exact ⟨o', (sb.2 b (ne b o e)).trans q⟩
theorem HOk.but {P : Program} {w : World} {H : Hp} {h1 h2 : Heap} {C : Addr} (x : HOk P w H h1) (hC : H C = none) (sb : Heap.SameBut C h1 h2) : HOk P w H h2 := fun b ob e => by
  refine (x b ob e).stay (fun c w' hc q => (sb.2 c ?_).trans q) (fun _ q => q) fun _ _ q => q
  rintro rfl
  rcases hc with rfl | hc
  · rw [hC] at e; cases e
  · rw [hC] at hc; cases hc
def frSt (fr : List (Option Nat)) (σ : St) : St := fr.map fun o => match o with | none => none | some j => (σ[j]?).getD none
theorem frSt_get {fr : List (Option Nat)} {σ : St} {i : Nat} {v : V} (e : (frSt fr σ)[i]? = some (some v)) : ∃ j, fr[i]? = some (some j) ∧ σ[j]? = some (some v) := by
  unfold frSt at e
  rw [List.getElem?_map] at e
  cases q : fr[i]? with
  | none => rw [q] at e; cases e
  | some o =>
    rw [q] at e
    cases o with
    | none => cases e
    | some j =>
      refine ⟨j, rfl, ?_⟩
      have e' : (σ[j]?).getD none = some v := Option.some.inj e
      cases r : σ[j]? with
      | none => rw [r] at e'; cases e'
      | some y => rw [r] at e'; rw [← e']; rfl
section
variable {X : Cx} {pins : List (Addr × Obj)} {σ : St} {H : Hp} {s : Shared}
theorem blk_ok {scope : Scope} {N' : List Str} {fr : List (Option Nat)} {fp : List Addr} (I : Inv X pins σ H s) (S : CompSc X.env.scope X.N scope N' fr) (hf : ∀ b ∈ fp, FpOk X pins H b) (ho : ∀ b ∈ fp, ∃ o, s.heap.get? b = some o) :
    (blk X scope N' (clo X.env scope.names []) fp s.heap.objs.size s H).Ok := by
  have has : ∀ y ∈ scope.names, y.2 = .free → ∃ c, X.env.cells.lookup y.1 = some c := fun y hy hk => I.ok.has y.1 (S.frees y hy hk)
  refine ⟨I.ok.mod, S.kind, I.ok.glob, I.ok.blt, Nat.le_refl _, fun x y c e1 e2 => I.ok.inj x y c (clo_sub has e1) (clo_sub has e2), fun x hx => ?_, fun x c hx => (nomatch hx), I.ok.hd, I.ok.frames, .inl rfl, fun b hb => ⟨?_, fun x c e => (hf b hb).2.2.2.2.1 x c (clo_sub has e)⟩, I.bs, Nat.le_trans I.ok.bsz I.sz, fun b o e hb => ?_, fun b hb hz => ?_, I.stack, I.stkFree⟩
  · have q := relabel_back (env := X.env) S.nocell (x := x) hx
    exact lookup_of_mem (clo_has (mem_of_lookup q))
  · obtain ⟨o, e⟩ := ho b hb
    exact Nat.ne_of_lt (Heap.lt_size e)
  · rcases (hf b hb).2.2.2.1 with z | z
    · exact I.ok.noex b o e z
    · exact absurd (Nat.lt_of_lt_of_le (Heap.lt_size e) (Nat.le_trans I.ok.bsz z)) (Nat.lt_irrefl _)
  · rcases List.mem_cons.mp (I.stkSub b hz) with z | z
    · exact (hf b hb).2.1 z
    · exact (hf b hb).2.2.1 z
theorem blk_start {scope : Scope} {N' : List Str} {fr : List (Option Nat)} {fp : List Addr} {h₁ : Heap} {m₁ : Str → Option Value} {tk : Nat} (I : Inv X pins σ H s) (S : CompSc X.env.scope X.N scope N' fr) (hf : ∀ b ∈ fp, FpOk X pins H b) (ho : ∀ b ∈ fp, ∃ o, s.heap.get? b = some o)
    (hn : h₁.Ns s.heap.objs.size m₁) (hk : ∀ b o, s.heap.get? b = some o → h₁.get? b = some o) :
    Inv (blk X scope N' (clo X.env scope.names []) fp s.heap.objs.size s H) [] (frSt fr σ) H { s with heap := h₁, toks := tk } := by
  have has : ∀ y ∈ scope.names, y.2 = .free → ∃ c, X.env.cells.lookup y.1 = some c := fun y hy hk => I.ok.has y.1 (S.frees y hy hk)
  have cellK : ∀ c v, s.heap.IsCell c v → h₁.IsCell c v := by rintro c v ⟨o, e, d⟩;exact ⟨o, hk c o e, d⟩
  refine ⟨blk_ok I S hf ho, rfl, I.bare, Un.kept hk, ⟨m₁, hn, fun i x v e1 e2 e3 => ?_⟩, fun x c e => ?_, I.hok.fresh (Nat.le_refl _), fun x c e => I.freeC x c (clo_sub has e), fun p hp => (nomatch hp), I.hok.kept hk, ?_⟩
  · obtain ⟨j, q1, q2⟩ := frSt_get e2
    obtain ⟨z1, z2, z3⟩ := S.fix i j x q1 e1
    obtain ⟨m, hm, hl⟩ := I.loc
    obtain ⟨u, ru, lk⟩ := hl j x v z1 q2 (.inr z3)
    refine ⟨u, ru, .inr ⟨relabel_free (env := X.env) z2, ?_⟩⟩
    rcases lk with ⟨k, _⟩ | ⟨k, c, e, z⟩
    · have k' : X.env.scope.names.lookup x = some .local := k
      rcases z3 with z3 | z3 <;> (rw [z3] at k'; cases k')
    · obtain ⟨c', ec⟩ := lookup_of_mem (clo_has (env := X.env) (cs := []) (mem_of_lookup z2))
      have := clo_sub has ec
      rw [e] at this
      cases this
      exact ⟨c, ec, cellK c _ z⟩
  · obtain ⟨v, z⟩ := I.cell x c (clo_sub has e)
    exact ⟨v, cellK c v z⟩
  · show (frSt fr σ).length = N'.length
    unfold frSt
    rw [List.length_map]
    exact S.len
end
def PIfs (X : Cx) (ifs : List Expr) (t : TT) : Prop :=
  ∀ (pins : List (Addr × Obj)) (s : Shared) (σ : St) (H : Hp) (Q : Bool → Hp → Prop), Inv X pins σ H s → t σ H Q →
    wpAny (model X.prog X.w) X.A (forIn ifs true fun c r => if r = true then do let ok ← isTrue c X.env (eval c X.env); pure (ForInStep.yield ok) else pure (ForInStep.yield r)) (TP X pins σ Q) X.xe s
def tTrue : TT := fun _ H Q => Q true H
theorem pifs_nil {X : Cx} : PIfs X [] tTrue := fun _ _ _ H _ I h => wpAny_tests_nil ⟨H, I, h⟩
theorem pifs_one {X : Cx} {c : Expr} {t : TT} (h : PT X c t) : PIfs X [c] t := fun pins s σ H Q I q => wpAny_tests_one (h pins s σ H Q I q)
section
variable {prog : Program} {w : World} {A : Around} {R : Result → Shared → Prop} {s : Shared}
theorem compLoop_go {elt target iter : Expr} {ifs : List Expr} {scope : Scope} {pos : Pos} {it acc : Value} {env : Env} (I : Nat → Shared → Prop)
    (turn : ∀ n s, I n s → wpAny (model prog w) A (pyNext it) (fun r s₁ => match r with
      | none => R (.ok .next) s₁
      | some v => wpAny (model prog w) A (letOwnedTupleGo target it v) (fun _ s₁' => wpAny (model prog w) A (assign target env v) (fun _ s₂ =>
          wpAny (model prog w) A (forIn ifs true fun c r => if r = true then do let ok ← isTrue c env (eval c env); pure (ForInStep.yield ok) else pure (ForInStep.yield r)) (fun ok s₃ =>
            if ok = true then wpAny (model prog w) A (eval elt env) (fun x s₄ =>
              wpAny (model prog w) A (call (.builtin "list.append") [acc, x]) (fun _ s₅ => ∃ m, m < n ∧ I m s₅) (fun _ _ => False) s₄) (fun _ _ => False) s₃
            else ∃ m, m < n ∧ I m s₃) (fun _ _ => False) s₂) (fun _ _ => False) s₁') (fun _ _ => False) s₁) (fun _ _ => False) s)
    (n : Nat) (h : I n s) :
    codeAny (model prog w) A (.compLoop (.ListComp elt [⟨target, iter, ifs, 0⟩] scope pos) 0 it acc env) R s := by
  refine codeAny_loop rfl I (fun n s hI => ?_) n h
  show wpAny _ A ((compTurn (.ListComp elt [⟨target, iter, ifs, 0⟩] scope pos) 0 it acc env).onRaise (fun x => do noteFrame x env; theTreesLotGoes x)) _ _ s
  refine wpAny_noted ?_
  rw [compTurn_list]
  refine wpAny_mono (E := fun _ _ => False) ?_ (fun _ _ q => q) (fun _ _ f => f.elim)
  refine wpAny_bind (wpAny_standAt (wpAny_bind (wpAny_mono (turn n s hI) (fun r s₁ h₁ => ?_) fun _ _ h' => h')))
  cases r with
  | none => exact wpAny_pure h₁
  | some v =>
    refine wpAny_bind (wpAny_mono h₁ (fun _ s₁' h₁' => ?_) fun _ _ h' => h')
    refine wpAny_bind (wpAny_mono h₁' (fun _ s₂ h₂ => wpAny_bind (wpAny_mono h₂ (fun ok s₃ h₃ => ?_) fun _ _ h' => h')) fun _ _ h' => h')
    cases ok with
    | false => exact wpAny_pure ⟨rfl, h₃⟩
    | true =>
      exact wpAny_bind (wpAny_bind (wpAny_mono h₃ (fun x s₄ h₄ => wpAny_bind (wpAny_mono h₄ (fun _ s₅ h₅ => wpAny_pure (wpAny_pure ⟨rfl, h₅⟩)) fun _ _ h' => h')) fun _ _ h' => h'))
end
def LcW (J : It) (D : Addr) (g : TG) (tc : TT) (te : TE) (Q : Hp → Prop) (σ0 : St) (H0 : Hp) : Prop :=
  ∃ W : Nat → Nat → List V → St → Hp → Prop, (∃ m, W 0 m [] σ0 H0) ∧ ∀ i m ys σ H, W i m ys σ H →
    ((J.stop i H ∧ Q H) ∨ (J.go i H ∧ ∃ N : List V → St → Hp → Prop, (∀ ys' σ' H', N ys' σ' H' → ∃ m', m' < m ∧ W (i + 1) m' ys' σ' H') ∧ ∀ x H', J.yld i H x H' → g x σ H' fun σ2 H2 => tc σ2 H2 fun b H3 =>
      if b = true then te σ2 H3 fun v H4 => H4 D = some (.lst ys) ∧ ys.length < sizeLine ∧ N (ys ++ [v]) σ2 (upd H4 D (.lst (ys ++ [v])))
      else N ys σ2 H3))
def tLC (wi : TI) (fr : List (Option Nat)) (g : TG) (tc : TT) (te : TE) : TE := fun σ H Q => wi σ H fun J H1 => ∀ D, H1 D = none → LcW J D g tc te (Q (.ref D)) (frSt fr σ) (upd H1 D (.lst []))
theorem blk_loop {X : Cx} {tg iter elt : Expr} {ifs : List Expr} {scope : Scope} {pos : Pos} {g : TG} {tc : TT} {te : TE} {fp : List Addr} {it D : Addr} {tn : Nat → Heap → Prop} {J : It} {Q : Hp → Prop} {σ0 : St} {H0 : Hp} {s : Shared} {R : Result → Shared → Prop}
    (hxe : X.xe = fun _ _ => False) (hc : X.calm = true) (hpn : X.pn = []) (hex : X.ex = fp) (hg : PG X tg g) (ht : PIfs X ifs tc) (he : PE X elt te) (T : Turn X.prog X.w X.K tg J fp it tn)
    (hf : ∀ b ∈ fp, b ≠ X.env.locals ∧ b ∉ X.fs ∧ ∀ x c, X.env.cells.lookup x = some c → c ≠ b) (hW : LcW J D g tc te Q σ0 H0) (B : Inv X [] σ0 H0 s) (st : tn 0 s.heap) (fr : ∀ b ∈ fp, H0 b = none)
    (fin : ∀ σ H s', Inv X [] σ H s' → Q H → R (.ok .next) s') :
    codeAny (model X.prog X.w) X.A (.compLoop (.ListComp elt [⟨tg, iter, ifs, 0⟩] scope pos) 0 (.ref it) (.ref D) X.env) R s := by
  obtain ⟨W, ⟨m0, w0⟩, turn⟩ := hW
  have stat : ∀ {H' : Hp}, (∀ b ∈ fp, H' b = none) → ∀ b ∈ fp, FpOk X [] H' b := fun {H'} hn b hb =>
    ⟨hn b hb, (hf b hb).1, (hf b hb).2.1, .inl (by rw [hex]; exact hb), (hf b hb).2.2, fun p hp => by rw [hpn] at hp; exact nomatch hp⟩
  refine compLoop_go (fun n s' => ∃ i ys σ' H', Inv X [] σ' H' s' ∧ tn i s'.heap ∧ (∀ b ∈ fp, H' b = none) ∧ W i n ys σ' H') ?_ m0 ⟨0, [], σ0, H0, B, st, fr, w0⟩
  rintro n s3 ⟨i, ys, σ3, H3, I3, st3, fr3, w3⟩
  rcases turn i n ys σ3 H3 w3 with ⟨stop, qn⟩ | ⟨go, N, hN, step⟩
  · refine thn (T.done X rfl rfl rfl hc i [] s3 σ3 H3 _ I3 (stat fr3) st3 stop) ?_
    rintro r s4 ⟨hr, I4⟩
    subst hr
    exact fin σ3 H3 s4 I4 qn
  · refine thn (T.item X rfl rfl rfl hc i [] s3 σ3 H3 _ I3 (stat fr3) st3 go) ?_
    rintro r s4 ⟨u, hr, h4⟩
    subst hr
    refine thn h4 ?_
    rintro _ s5 ⟨x, H5, I5, r5, y5, st5, fr5⟩
    have I5' := I5.pinned (stat fr5) (T.obj _ _ st5)
    have q1 := hg _ s5 σ3 H5 x u _ I5' r5 (step x H5 y5)
    rw [hxe] at q1
    refine thn q1 ?_
    rintro _ s6 ⟨σ6, H6, I6, q6⟩
    have q2 := ht _ s6 σ6 H6 _ I6 q6
    rw [hxe] at q2
    refine thn q2 ?_
    rintro ok s7 ⟨H7, I7, q7⟩
    have again : ∀ {ys' : List V} {σ8 : St} {H8 : Hp} {s8 : Shared}, Inv X ([] ++ pinsAt fp s5.heap) σ8 H8 s8 → N ys' σ8 H8 → ∃ m, m < n ∧ ∃ i ys σ' H', Inv X [] σ' H' s8 ∧ tn i s8.heap ∧ (∀ b ∈ fp, H' b = none) ∧ W i m ys σ' H' := fun {ys' σ8 H8 s8} I8 n8 => by
      obtain ⟨m', hm, w8⟩ := hN ys' σ8 H8 n8
      refine ⟨m', hm, i + 1, ys', σ8, H8, I8.unpinned, T.keep _ _ _ st5 fun b hb o e => (I8.pin (b, o) (List.mem_append_right _ (List.mem_append_right _ (mem_pinsAt hb e)))).1, fun b hb => ?_, w8⟩
      obtain ⟨o, e, d⟩ := T.obj _ _ st5 b hb
      exact (I8.pin (b, o) (List.mem_append_right _ (List.mem_append_right _ (mem_pinsAt hb e)))).2.1
    cases ok with
    | false => exact again I7 q7
    | true =>
      have q3 := he _ s7 σ6 H7 _ I7 q7
      rw [hxe] at q3
      show wpAny _ _ (eval elt X.env) _ _ s7
      refine thn q3 ?_
      rintro xv s8 ⟨v, H8, I8, r8, hD8, hz8, n8⟩
      have q4 := mt_append (X := X) _ s8 σ6 H8 (.ref D) [v] (.ref D) [xv] (fun _ H9 => N (ys ++ [v]) σ6 H9) I8 rfl (.cons r8 .nil) ⟨D, ys, v, rfl, rfl, hD8, hz8, n8⟩
      rw [hxe] at q4
      refine thn q4 ?_
      rintro _ s9 ⟨_, H9, I9, _, n9⟩
      exact again I9 n9
section
variable {X : Cx} {tg iter elt : Expr} {ifs : List Expr} {scope : Scope} {pos : Pos} {wi : TI} {g : TG} {tc : TT} {te : TE}
theorem blk_run {pins : List (Addr × Obj)} {σ : St} {H2 : Hp} {s2 : Shared} {it : Addr} {fp : List Addr} {tn : Nat → Heap → Prop} {J : It} {Q : Addr → Hp → Prop} {N' : List Str} {fr : List (Option Nat)} {RR : Value → Addr → Result → Shared → Prop}
    (hc : X.calm = true) (S : CompSc X.env.scope X.N scope N' fr)
    (hg : ∀ cl fp C s H, PG (blk X scope N' cl fp C s H) tg g) (ht : ∀ cl fp C s H, PIfs (blk X scope N' cl fp C s H) ifs tc) (he : ∀ cl fp C s H, PE (blk X scope N' cl fp C s H) elt te)
    (I2 : Inv X pins σ H2 s2) (T : Turn X.prog X.w X.K tg J fp it tn) (st2 : tn 0 s2.heap) (f2 : ∀ b ∈ fp, FpOk X pins H2 b)
    (h : ∀ D, H2 D = none → LcW J D g tc te (Q D) (frSt fr σ) (upd H2 D (.lst [])))
    (fin : ∀ D C s' m' H', s2.heap.objs.size ≤ C → C ≠ D → H' C = none → s'.heap.Ns C m' → (∀ h', Heap.SameBut C s'.heap h' → Inv X pins σ H' { s' with heap := h' }) → Q D H' → RR (.ref D) C (.ok .next) s') {E : Value → Shared → Prop} :
    wpAny (model X.prog X.w) X.A (newList []) (fun acc s₃ => wpAny (model X.prog X.w) X.A (newFunctionEnv scope X.env.globals (clo X.env scope.names []) [] X.env.qual none .none (some X.env)) (fun cenv s₄ =>
      codeAny (model X.prog X.w) X.A (.compStart (.ListComp elt [⟨tg, iter, ifs, 0⟩] scope pos) 0 (.ref it) acc { cenv with scope := relabel scope X.env }) (RR acc cenv.locals) s₄) E s₃) E s2 := by
  refine wpAny_newObj_type (wpAny_newFunctionEnv S.nocell (by intro y hy; simp at hy) (fun h₁ hns₁ hsb₁ => ?_) S.kind)
  dsimp only at hns₁ hsb₁ ⊢
  have hD : H2 s2.heap.objs.size = none := I2.hok.fresh (Nat.le_refl _)
  have I3 : Inv X pins σ (upd H2 s2.heap.objs.size (.lst [])) { s2 with heap := s2.heap.push { cls := .type "list", dict := none, data := .seq ([] : List Value).toArray }, toks := s2.toks } := I2.lnew (its := []) .nil (Nat.zero_le _)
  generalize hH2 : s2.heap.push { cls := .type "list", dict := none, data := .seq ([] : List Value).toArray } = HH at hns₁ hsb₁ I3 ⊢
  have hC : HH.objs.size = s2.heap.objs.size + 1 := by rw [← hH2, Heap.size_push]
  have old : ∀ b o, HH.get? b = some o → h₁.get? b = some o := fun b o e => hsb₁.extBut b o (Nat.ne_of_lt (Heap.lt_size e)) (Heap.get?_push_of_some _ e)
  have old2 : ∀ b o, s2.heap.get? b = some o → HH.get? b = some o := fun b o e => hH2 ▸ Heap.get?_push_of_some _ e
  have ofp : ∀ b ∈ fp, ∃ o, s2.heap.get? b = some o := fun b hb => by
    obtain ⟨o, e, _⟩ := T.obj _ _ st2 b hb
    exact ⟨o, e⟩
  have neD : ∀ b ∈ fp, b ≠ s2.heap.objs.size := fun b hb => by
    obtain ⟨o, e⟩ := ofp b hb
    exact Nat.ne_of_lt (Heap.lt_size e)
  have f3 : ∀ b ∈ fp, FpOk X pins (upd H2 s2.heap.objs.size (.lst [])) b := fun b hb => ⟨by rw [upd_ne (neD b hb)]; exact (f2 b hb).1, (f2 b hb).2⟩
  have ofp3 : ∀ b ∈ fp, ∃ o, HH.get? b = some o := fun b hb => by
    obtain ⟨o, e⟩ := ofp b hb
    exact ⟨o, old2 b o e⟩
  have B := blk_start (h₁ := h₁) (tk := s2.toks + ([] : List (Str × Value)).length) I3 S f3 ofp3 hns₁ old
  have st1 : tn 0 h₁ := T.keep _ _ _ st2 fun b hb o e => old b o (old2 b o e)
  have loop : codeAny (model X.prog X.w) X.A (.compLoop (.ListComp elt [⟨tg, iter, ifs, 0⟩] scope pos) 0 (.ref it) (.ref s2.heap.objs.size) (compEnvC scope (clo X.env scope.names []) HH.objs.size X.env))
      (RR (.ref s2.heap.objs.size) HH.objs.size) { s2 with heap := h₁, toks := s2.toks + ([] : List (Str × Value)).length } := by
    refine blk_loop (X := blk X scope N' (clo X.env scope.names []) fp HH.objs.size { s2 with heap := HH, toks := s2.toks } (upd H2 s2.heap.objs.size (.lst []))) (fp := fp) rfl hc rfl rfl (hg _ _ _ _ _) (ht _ _ _ _ _) (he _ _ _ _ _) T
      (fun b hb => ⟨(B.ok.exf b hb).1, B.ok.exfs b hb, (B.ok.exf b hb).2⟩) (h _ hD) B st1 (fun b hb => (f3 b hb).1) fun σ4 H4 s4 I4 q4 => ?_
    obtain ⟨m4, hn4, _⟩ := I4.loc
    refine fin _ HH.objs.size s4 m4 H4 (by rw [hC]; exact Nat.le_succ _) (by rw [hC]; exact Nat.succ_ne_self _) I4.free hn4 (fun h' sb => ?_) q4
    have u4 : Un (frs X.stack) fp (upd H2 s2.heap.objs.size (.lst [])) H4 HH s4.heap := I4.base
    exact I3.call' (s' := { s4 with heap := h' }) I4.os (u4.but sb (Nat.le_refl _)) (I4.hok.but I4.free sb) I4.bare fun b hb => ⟨(f2 b hb).2.2.2.1, (f2 b hb).2.1, (f2 b hb).2.2.2.2.1, (f2 b hb).2.2.2.2.2⟩
  exact codeAny_compStart_list loop (T.self _ 0 _ _ _ st1 loop)
theorem pe_lc (N' : List Str) (fr : List (Option Nat)) (hc : X.calm = true) (hi : PI X tg iter wi)
    (hg : ∀ cl fp C s H, PG (blk X scope N' cl fp C s H) tg g) (ht : ∀ cl fp C s H, PIfs (blk X scope N' cl fp C s H) ifs tc) (he : ∀ cl fp C s H, PE (blk X scope N' cl fp C s H) elt te)
    {sc0 : Scope} {N0 : List Str} (hsc : X.env.scope = sc0 := by rfl) (hN : X.N = N0 := by rfl) (hok : compScB sc0 N0 scope N' fr = true := by decide +kernel) (hs : ∀ x, foldedSetIterable iter X.env x = pure x := by intro _; rfl) :
    PE X (.ListComp elt [⟨tg, iter, ifs, 0⟩] scope pos) (tLC wi fr g tc te) := by
  intro pins s σ H Q I h
  have S : CompSc X.env.scope X.N scope N' fr := by rw [hsc, hN]; exact compSc_of hok
  have has : ∀ y ∈ scope.names, y.2 = .free → ∃ c, X.env.cells.lookup y.1 = some c := fun y hy hk => I.ok.has y.1 (S.frees y hy hk)
  rw [eval_ListComp]
  refine wpAny_comprehension_free (use := none) rfl hs (closure_ok has) S.kind S.names (thn (hi pins s σ H _ I h) fun v s1 h1 => thn h1 fun itv s2 h2 => ?_)
  obtain ⟨it, fp, tn, J, H2, rfl, I2, T, st2, f2, w2⟩ := h2
  refine blk_run (Q := fun D => Q (.ref D)) (RR := fun acc C => compPost (model X.prog X.w) X.A X.xe none (EP X pins σ Q) acc C) hc S hg ht he I2 T st2 f2 w2 fun D C s' m' H' h1 h2 h3 h4 h5 q => ?_
  exact ⟨m', h4, fun h' sb => ⟨.ref D, H', h5 h' sb, rfl, q⟩⟩
def tSetLC (i : Nat) (t : TE) : TS := fun D σ H => t σ H fun v H1 => D.nx (σ.set i (some v)) H1
theorem ps_setLC {i : Nat} {y : Str} {py spos : Pos} (hNd : X.N.Nodup) (hy : X.N[i]? = some y) (hly : Loc X.env.scope y) (N' : List Str) (fr : List (Option Nat)) (hc : X.calm = true) (hi : PI X tg iter wi)
    (hg : ∀ cl fp C s H, PG (blk X scope N' cl fp C s H) tg g) (ht : ∀ cl fp C s H, PIfs (blk X scope N' cl fp C s H) ifs tc) (he : ∀ cl fp C s H, PE (blk X scope N' cl fp C s H) elt te)
    {sc0 : Scope} {N0 : List Str} (hsw : swapsWith (.ListComp elt [⟨tg, iter, ifs, 0⟩] scope pos) (some (.Name y py)) spos.line X.env = pure true := by rfl)
    (hsc : X.env.scope = sc0 := by rfl) (hN : X.N = N0 := by rfl) (hok : compScB sc0 N0 scope N' fr = true := by decide +kernel) (hs : ∀ x, foldedSetIterable iter X.env x = pure x := by intro _; rfl)
    (hf : X.fn y = true ∨ X.env.scope.names.lookup y = some .local := by first | exact .inl rfl | exact .inr rfl) :
    PS X (.Assign [.Name y py] (.ListComp elt [⟨tg, iter, ifs, 0⟩] scope pos) spos) (tSetLC i (tLC wi fr g tc te)) := by
  intro pins s σ H D I h
  have S : CompSc X.env.scope X.N scope N' fr := by rw [hsc, hN]; exact compSc_of hok
  have has : ∀ y ∈ scope.names, y.2 = .free → ∃ c, X.env.cells.lookup y.1 = some c := fun y hy hk => I.ok.has y.1 (S.frees y hy hk)
  rw [exec_Assign_Name_used _ _ _ _ hsw]
  refine wpAny_bind (wpAny_standAt (wpAny_bind ?_))
  show wpAny _ X.A (do let _ ← comprehension (.ListComp elt [⟨tg, iter, ifs, 0⟩] scope pos) scope X.env _ (newList []) false (eval iter X.env) (some (assign (.Name y py) X.env))) _ _ s
  refine wpAny_bind (wpAny_mono (wpAny_comprehension_free (use := some (assign (.Name y py) X.env)) (Q := fun _ s' => SP X pins D .next s') rfl hs (closure_ok has) S.kind S.names
    (thn (hi pins s σ H _ I h) fun v s1 h1 => thn h1 fun itv s2 h2 => ?_)) (fun _ s' hq => wpAny_pure (wpAny_pure hq)) fun _ _ e => e)
  obtain ⟨it, fp, tn, J, H2, rfl, I2, T, st2, f2, w2⟩ := h2
  refine blk_run (Q := fun B H1 => D.nx (σ.set i (some (.ref B))) H1) (RR := fun acc C => compPost (model X.prog X.w) X.A X.xe (some (assign (.Name y py) X.env)) (fun _ s' => SP X pins D .next s') acc C) hc S hg ht he I2 T st2 f2 w2 fun B C s' m' H' h1 h2 h3 h4 h5 q => ?_
  have I5 : Inv X pins σ H' { s' with heap := s'.heap } := h5 s'.heap (.refl ..)
  show wpAny _ X.A (assign (.Name y py) X.env (.ref B)) _ _ s'
  refine wpAny_assign_Name (store_ok2 (v := .ref B) I5 hNd hy hly rfl ?_ hf)
  rintro s6 I6 ⟨a, sb, ha⟩
  have nL : C ≠ X.env.locals := Nat.ne_of_gt (Nat.lt_of_lt_of_le I2.lt h1)
  have nC : ∀ x c, X.env.cells.lookup x = some c → c ≠ C := fun x c e => by
    obtain ⟨v, o, ho, _⟩ := I2.cell x c e
    exact Nat.ne_of_lt (Nat.lt_of_lt_of_le (Heap.lt_size ho) h1)
  have nP : ∀ p ∈ X.pn ++ pins, p.1 ≠ C := fun p hp => by
    have e := (I2.pin p hp).1
    exact Nat.ne_of_lt (Nat.lt_of_lt_of_le (Heap.lt_size e) h1)
  have na : a ≠ C := by
    rcases ha with e | e
    · rw [e]; exact nL.symm
    · exact nC _ _ e
  refine ⟨m', h4.sameBut sb (Ne.symm na), fun h' sb' => ⟨σ.set i (some (.ref B)), H', ?_, q⟩⟩
  exact I6.turned (t' := s6.toks) (fun b o hb e => (sb'.2 b hb).trans e) h3 nL (.inr (Nat.le_trans I2.sz h1)) nC nP
end
end L2
namespace L2
open PySem PySem.Spec PyProof.Rows
section
variable {X : Cx}
def rLen (K : PySem.W.Frag) : List V → Hp → VK → Prop := fun xs H Q => ∃ x n, xs = [x] ∧ LenV K x H n ∧ Q (.int n) H
theorem call_lenK : CallR X (.builtin "len") (rLen X.K) := call_len
theorem small_len {n : Nat} (h : n ≤ 1000) : n ≤ sizeLine := Nat.le_of_lt (small1000 h)
def stepV {α : Type} (xs : List α) (lo hi st : Option Int) : List α := (sliceRange (sliceBounds lo hi st xs.length).1 (sliceBounds lo hi st xs.length).2.1 (sliceBounds lo hi st xs.length).2.2).filterMap (fun j => xs[j]?)
inductive EqT (K : PySem.W.Frag) (H : Hp) : Nat → V → V → Prop where
  | sc {n : Nat} {x : V} (f : flatV x = true) : EqT K H n x x
  | rf {n : Nat} {a : Addr} : EqT K H n (.ref a) (.ref a)
  | tup {n : Nat} {a b : Addr} {xs ys : List V} (h1 : SqT K H a xs) (h2 : SqT K H b ys) (hl : xs.length = ys.length) (h : ∀ (i : Nat) (x y : V), xs[i]? = some x → ys[i]? = some y → EqT K H n x y) : EqT K H (n + 1) (.ref a) (.ref b)
  | lst {n : Nat} {a b : Addr} {xs ys : List V} (h1 : SqL K H a xs) (h2 : SqL K H b ys) (hl : xs.length = ys.length) (h : ∀ (i : Nat) (x y : V), xs[i]? = some x → ys[i]? = some y → EqT K H n x y) : EqT K H (n + 1) (.ref a) (.ref b)
end
end L2
namespace WS
abbrev S3 := Int × Int × Int
def mx (i j : Int) : Int := if j > i then j else i
def above1 (b : S3) (L : Int) : Int := b.2.2 * mx 0 (b.2.1 - mx b.1 L)
def above (bs : List S3) (L : Int) : Int := (bs.map fun b => above1 b L).sum
def hotB (hs : List S3) : List S3 := hs.map fun x => (x.2.1, x.1, x.2.2)
def coldB (g : Int) (cs : List S3) : List S3 := cs.map fun x => (x.1 + g, x.2.1 + g, x.2.2)
def lackF (g : Int) (hs cs : List S3) (L : Int) : Int := above (coldB g cs) L - above (hotB hs) L
structure HotOk (x : S3) : Prop where
  lo : 0 ≤ x.2.1
  lt : x.2.1 < x.1
  hi : x.1 ≤ 200
  r0 : 1 ≤ x.2.2
  r1 : x.2.2 ≤ 1000000000
structure ColdOk (x : S3) : Prop where
  lo : 0 ≤ x.1
  lt : x.1 < x.2.1
  hi : x.2.1 ≤ 200
  r0 : 1 ≤ x.2.2
  r1 : x.2.2 ≤ 1000000000
end WS
namespace L2
open PySem PySem.Spec PyProof.Rows
structure Fn (P : Program) (w : World) (K : PySem.W.Frag) (mg : Str → Option Value) (base : Heap) (x : Str) (k : Nat) (ps : List Str) (sp : Sp) : Prop where
  ex : ∃ f fd, FnOk P w K mg base CX0 k f fd ps sp ∧ mg x = some (.ref f) ∧ PySem.W.keepIn K (.ref f) = true ∧ Binds K fd ps []
theorem pe_fn {X : Cx} {x : Str} {k : Nat} {ps : List Str} {sp : Sp} {p pos : Pos} {e : Expr} {es : List Expr} {t : TA} (F : Fn X.prog X.w X.K X.mg X.base x k ps sp) (hr : Room k X.A) (hg : Gl X x) (ha : PA X (e :: es) t)
    (hdb : (x == ("__debug__" : Str)) = false := by decide) (he : starEach (e :: es) X.env = (false, eval e X.env) :: starEach es X.env := by rfl) (hpl : (backTo pos (starEach es X.env)).any (·.1) = false := by rfl) :
    PE X (.Call (.Name x p) (e :: es) [] pos) (tCall sp [] E0 t) := by
  obtain ⟨f, fd, G, hm, hk, hb⟩ := F.ex
  exact pe_call G hr hg hm hk hb .nil pass0 ha hdb he hpl
theorem fn_mk {P : Program} {w : World} {K : PySem.W.Frag} {mg : Str → Option Value} {base : Heap} {x qual : Str} {st : Stmt} {f : Addr} {fd : FuncData} {k : Nat} {ps : List Str} {sp : Sp} (F : Fun K x qual st f fd) (hm : mg x = some (.ref f)) (hb : Binds K fd ps []) (ok : FnOk P w K mg base CX0 k f fd ps sp) :
    Fn P w K mg base x k ps sp := ⟨f, fd, ok, hm, F.kp, hb⟩
theorem same_new {H : Hp} {a : Addr} {o : HO} (h : H a = none) : Same H (upd H a o) := fun b u e => by
  rw [upd_ne (ne_of_none e h)]; exact e
theorem Same.upd {H H' : Hp} {a : Addr} {o : HO} (s : Same H H') (h : H a = none) : Same H (upd H' a o) := fun b u e => by
  rw [upd_ne (ne_of_none e h)]; exact s b u e
end L2
namespace WS
open PySem L2
def Tups (H H' : Hp) : Prop := ∀ b xs, H b = some (.tup xs) → H' b = some (.tup xs)
theorem Tups.of {H H' : Hp} (s : Same H H') : Tups H H' := fun b xs e => s b _ e
theorem paired_get {α β : Type} {F : α → β → Prop} : ∀ {l : List α} {r : List β} {i : Nat} {a : α}, Paired F l r → l[i]? = some a → ∃ b, r[i]? = some b ∧ F a b
  | _, _, _, _, .nil, e => by simp at e
  | _, _, 0, _, .cons h _, e => by simp at e; subst e; exact ⟨_, rfl, h⟩
  | _, _, i + 1, a, .cons _ t, e => by
    obtain ⟨b, h1, h2⟩ := paired_get (i := i) (a := a) t (by simpa using e)
    exact ⟨b, by simpa using h1, h2⟩
theorem take_snoc {α : Type} {l : List α} {i : Nat} {x : α} (e : l[i]? = some x) : l.take (i + 1) = l.take i ++ [x] := by
  rw [List.take_add_one, e]; rfl
end WS
namespace L2
open PySem PySem.Spec PyProof.Rows
section
variable {X : Cx}
abbrev TJ := St → Hp → Str → (Str → Hp → Prop) → Prop
def PJ (X : Cx) (es : List Expr) (t : TJ) : Prop :=
  ∀ (pins : List (Addr × Obj)) (s : Shared) (σ : St) (H : Hp) (acc : Str) (R : Str → Hp → Prop), Inv X pins σ H s → t σ H acc R →
    Joins (model X.prog X.w) X.A X.xe (evalEach es X.env) acc (fun out s1 => ∃ H', Inv X pins σ H' s1 ∧ R out H') s
def jNil : TJ := fun _ H acc R => R acc H
def jStr (x : Str) (t : TJ) : TJ := fun σ H acc R => (acc ++ x).length ≤ sizeLine ∧ t σ H (acc ++ x) R
def ShownV (v : V) (y : Str) : Prop := (v = .str y ∧ y.length ≤ sizeLine) ∨ ∃ i : Int, v = .int i ∧ i.natAbs.log2 < 1920 ∧ y = toString i
def jVal (te : TE) (t : TJ) : TJ := fun σ H acc R => te σ H fun v H1 => ∃ y, ShownV v y ∧ (acc ++ y).length ≤ sizeLine ∧ t σ H1 (acc ++ y) R
theorem pj_nil : PJ X [] jNil := fun _ _ _ H _ _ I h => ⟨H, I, h⟩
theorem pj_str {x : Str} {j pos} {es : List Expr} {t : TJ} (h : PJ X es t) : PJ X (.Constant (.str x) j pos :: es) (jStr x t) := by
  intro pins s σ H acc R I q
  show wpAny _ _ (eval (.Constant (.str x) j pos) X.env) _ _ s
  refine thn (pe_str (X := X) (x := x) (j := j) (pos := pos) pins s σ H (fun v H1 => v = .str x ∧ H1 = H) I ⟨rfl, rfl⟩) ?_
  rintro v s1 ⟨y, H1, I1, r1, e1, e2⟩
  subst e1
  subst e2
  obtain ⟨t', rfl⟩ := r1
  exact ⟨x, t', rfl, q.1, h pins s1 σ _ _ R I1 q.2⟩
theorem pj_val {value : Expr} {pos : Pos} {te : TE} {es : List Expr} {t : TJ} (hv : PE X value te) (h : PJ X es t) : PJ X (.FormattedValue value (-1) none pos :: es) (jVal te t) := by
  intro pins s σ H acc R I q
  show wpAny _ _ (eval (.FormattedValue value (-1) none pos) X.env) _ _ s
  refine wpAny_FormattedValue_plain (thn (hv pins s σ H _ I q) ?_)
  rintro v s1 ⟨x, H1, I1, r1, y, sh, hz, q1⟩
  rcases sh with ⟨rfl, hy⟩ | ⟨i, rfl, hi, rfl⟩
  · obtain ⟨t', rfl⟩ := r1
    exact wpAny_formatField_str ⟨y, _, rfl, hz, h pins s1 σ H1 _ R I1 q1⟩ ⟨y, _, rfl, hz, h pins _ σ H1 _ R (I1.tok _) q1⟩ hy
  · obtain ⟨t', rfl⟩ := r1
    exact wpAny_formatField_int hi ⟨_, _, rfl, hz, h pins _ σ H1 _ R (I1.tok _) q1⟩
def tJoin (t : TJ) : TE := fun σ H Q => t σ H Str.empty fun out H1 => out.length ≤ sizeLine ∧ Q (.str out) H1
theorem joins_mono {M : Model} {A : Around} {E : Value → Shared → Prop} : ∀ {l : List (Sem Value)} {acc : Str} {Q Q' : Str → Shared → Prop} {s : Shared}, (∀ o s, Q o s → Q' o s) → Joins M A E l acc Q s → Joins M A E l acc Q' s
  | [], _, _, _, _, h, q => h _ _ q
  | _ :: _, _, _, _, _, h, q => wpAny_mono q (by rintro v s1 ⟨y, t, e, z, r⟩;exact ⟨y, t, e, z, joins_mono h r⟩) fun _ _ x => x
theorem pe_join {v1 v2 : Expr} {rest : List Expr} {pos : Pos} {t : TJ} (h : PJ X (v1 :: v2 :: rest) t) : PE X (.JoinedStr (v1 :: v2 :: rest) pos) (tJoin t) := by
  intro pins s σ H Q I q
  refine wpAny_JoinedStr (joins_mono ?_ (h pins s σ H Str.empty _ I q))
  rintro o s1 ⟨H1, I1, z, q1⟩
  exact ⟨z, .str o, H1, I1.tok _, ⟨_, rfl⟩, q1⟩
theorem pe_gI {x : Str} {i : Int} {pos : Pos} (hg : Gl X x) (h : ∃ t, X.mg x = some (.int i t)) (hd : (x == ("__debug__" : Str)) = false := by decide) : PE X (.Name x pos) (tC (.int i)) := by
  obtain ⟨t, e⟩ := h
  exact pe_glob hg e ⟨t, rfl⟩ hd
end
end L2
namespace L2
open PySem PySem.Spec PyProof.Rows
section
variable {X : Cx} {pins : List (Addr × Obj)} {σ : St} {H : Hp} {s : Shared} {h' : Heap}
end
section
variable {X : Cx}
section
variable {prog : Program} {w : World} {A : Around} {E : Value → Shared → Prop} {s : Shared}
theorem draw_list {it t : Addr} {items : Array Value} (hne : t ≠ it) : ∀ (n i : Nat) (s : Shared) (Q : List Value → Shared → Prop), s.heap.IsListIter it t i → s.heap.IsList t items → i + n ≤ items.size →
    (∀ h', h'.IsListIter it t (i + n) → Heap.SameBut it s.heap h' → Q ((items.toList.drop i).take n) { s with heap := h' }) → wpAny (model prog w) A (draw (.ref it) n) Q E s
  | 0, i, s, Q, hit, _, _, hQ => by
    show wpAny _ _ (pure []) Q E s
    exact wpAny_pure (by simpa using hQ s.heap hit (Heap.SameBut.refl ..))
  | n + 1, i, s, Q, hit, ht, hle, hQ => by
    have hlt : i < items.size := by lia
    show wpAny _ _ (pyNext (.ref it) >>= _) Q E s
    refine wpAny_bind (wpAny_pyNext_list_item hit ht (x := items[i]) (by simp [hlt]) fun h₁ hit₁ hs₁ => ?_)
    refine wpAny_bind (wpAny_holding (draw_list hne n (i + 1) _ _ hit₁ (ht.extBut hs₁.extBut hne) (by lia) fun h₂ hit₂ hs₂ => wpAny_pure ?_))
    have hd : items.toList.drop i = items[i] :: items.toList.drop (i + 1) := by simp [List.drop_eq_getElem_cons, hlt]
    have := hQ h₂ (by rw [show i + (n + 1) = i + 1 + n by lia]; exact hit₂) (hs₁.trans hs₂)
    rw [hd, List.take_succ_cons] at this
    exact this
theorem unpackItems_list {t : Addr} {items : Array Value} {Q : List Value → Shared → Prop} (hh : A.handled = none) (ht : s.heap.IsList t items)
    (hQ : ∀ h', Heap.ExtBut s.heap.objs.size s.heap h' → Q items.toList { s with heap := h' }) : wpAny (model prog w) A (unpackItems (.ref t) items.size none) Q E s := by
  have hlt : t ≠ s.heap.objs.size := by obtain ⟨o, ho, _⟩ := ht; exact Nat.ne_of_lt (Heap.lt_size ho)
  unfold unpackItems
  refine wpAny_bind ?_
  unfold notIterableAtAll
  refine wpAny_bind (wpAny_specialOf ht.typeIs slot_list_iter.lookup ?_)
  refine wpAny_pure ?_
  simp only [Bool.false_eq_true, if_false]
  refine wpAny_bind (wpAny_holding (wpAny_pyIter_list ht ?_))
  refine wpAny_bind (wpAny_holding (draw_list hlt items.size 0 _ _ ⟨_, Heap.get?_push_size _ rfl, rfl, rfl⟩ (ht.at fun o e => Heap.get?_push_of_some _ e) (by lia) fun h₁ hit₁ hs₁ => ?_))
  have hall : List.take items.size (List.drop 0 items.toList) = items.toList := by
    rw [List.drop_zero]; exact List.take_of_length_le (by simp)
  rw [hall]
  rw [if_neg (by simp)]
  have ht₁ : h₁.IsList t items := (ht.at fun o e => Heap.get?_push_of_some _ e).extBut hs₁.extBut hlt
  refine wpAny_bind (wpAny_holding (wpAny_pyNext_list_end hh hit₁ ht₁ (by simp) fun h₂ he₂ => ?_))
  simp only [Option.isSome_none, Bool.false_eq_true, if_false]
  refine wpAny_pure (hQ h₂ fun b o hb e => he₂ b o hb (hs₁.extBut b o hb (Heap.get?_push_of_some _ e)))
theorem assign_Tuple_list {env : Env} {elts : List Expr} {x1} {pos : Pos} {t : Addr} {items : Array Value} {Q : Unit → Shared → Prop} (hh : A.handled = none) (ht : s.heap.IsList t items)
    (hn : (assignEach elts env).length = items.size) (hstar : (assignEach elts env).findIdx? (·.1) = none)
    (h : ∀ h', Heap.ExtBut s.heap.objs.size s.heap h' → wpAny (model prog w) A (assignInOrder ((assignEach elts env).map (·.2)) items.toList) Q E { s with heap := h' }) :
    wpAny (model prog w) A (assign (.Tuple elts x1 pos) env (.ref t)) Q E s := by
  rw [assign_Tuple]
  refine wpAny_bind (wpAny_standAt ?_)
  unfold unpack
  rw [hn, hstar]
  exact wpAny_bind (wpAny_holding (unpackItems_list hh ht h))
end
def gSeq (K : PySem.W.Frag) (n : Nat) (t : TGs) : TG := fun v σ H Q => ∃ a xs, v = .ref a ∧ (SqT K H a xs ∨ SqL K H a xs) ∧ xs.length = n ∧ t xs σ H Q
theorem pg_seq {es : List Expr} {k : Nat} {t : TGs} {n : Nat} {pos : Pos} (hc : X.calm = true) (h : PGs X es t)
    (hn : (assignEach es X.env).length = n := by rfl) (hst : (assignEach es X.env).findIdx? (·.1) = none := by rfl) : PG X (.Tuple es k pos) (gSeq X.K n t) := by
  intro pins s σ H v u Q I r hw
  obtain ⟨a, xs, e1, hq, hl, hw⟩ := hw
  subst e1
  cases r
  rcases hq with hq | hq
  · obtain ⟨its, rv, ht, hz⟩ := I.tuple hq
    refine assign_Tuple_tuple (I.ok.hd hc) ht (by simp [hn, ← hl, rv.length]) hst fun h' hx => ?_
    have I1 : Inv X pins σ H { s with heap := h' } := I.kept (t' := s.toks) fun b o e => hx b o (Nat.ne_of_lt (Heap.lt_size e)) e
    exact h pins _ σ H xs _ Q I1 (by simpa using rv) hw
  · obtain ⟨its, rv, ht, hz⟩ := I.list hq
    refine assign_Tuple_list (I.ok.hd hc) ht.isList (by simp [hn, ← hl, rv.length]) hst fun h' hx => ?_
    have I1 : Inv X pins σ H { s with heap := h' } := I.kept (t' := s.toks) fun b o e => hx b o (Nat.ne_of_lt (Heap.lt_size e)) e
    exact h pins _ σ H xs _ Q I1 (by simpa using rv) hw
end
end L2
namespace DL
open PySem L2
inductive Ext where
  | any
  | dki (kvs : List (Int × Int × Int × Int))
  | dks (kvs : List (Str × Int))
  | rws (n : Int) (hs cs : List (Int × Int × Int × Int))
  | obj (C : Addr) (g : Int) (hs cs : List (Int × Int × Int × Int)) (n : Int)
inductive D where
  | non | bl (b : Bool) | int (i : Int) | str (x : Str) | tup (xs : List D) | lst (xs : List D) | scr (ns : List Int)
  | dct (kvs : List ((Int × Int) × Int))
  | sen (ks : List (List Int))
  | ext (x : Ext)
def E3 (G : Hp) (e : Key × V) (p : Int × Int × Int × Int) : Prop := e.1 = Sum.inl p.1 ∧ ∃ t, e.2 = .ref t ∧ G t = some (.tup [.int p.2.1, .int p.2.2.1, .int p.2.2.2])
def flds (g : Int) (b c : Addr) (n : Int) : List (Str × V) := [("gap", .int g), ("hots", .ref b), ("colds", .ref c), ("spent", .int n)]
def DkiAt (G H : Hp) (a : Addr) (kvs : List (Int × Int × Int × Int)) : Prop := ∃ es, H a = some (.dK es) ∧ Paired (E3 G) es kvs
def PrAt (H : Hp) (v : V) (p : Int × Int × Int × Int) : Prop := ∃ q t, v = .ref q ∧ H q = some (.tup [.int p.1, .ref t]) ∧ H t = some (.tup [.int p.2.1, .int p.2.2.1, .int p.2.2.2])
abbrev PrsAt (H : Hp) : List V → List (Int × Int × Int × Int) → Prop := Paired (PrAt H)
theorem PrsAt.on {H H2 : Hp} {vs : List V} {l : List (Int × Int × Int × Int)} (h : PrsAt H vs l) (kt : ∀ t xs, H t = some (.tup xs) → H2 t = some (.tup xs)) : PrsAt H2 vs l :=
  Paired.imp' (by rintro _ _ ⟨q, t, e, h1, h2⟩;exact ⟨q, t, e, kt _ _ h1, kt _ _ h2⟩) h
def LsAt (H : Hp) (y : Addr) (l : List (Int × Int × Int × Int)) : Prop := ∃ vs, H y = some (.lst vs) ∧ PrsAt H vs l
theorem LsAt.on {H H2 : Hp} {y : Addr} {l : List (Int × Int × Int × Int)} (h : LsAt H y l) (kb : ∀ o, H y = some o → H2 y = some o) (kt : ∀ t xs, H t = some (.tup xs) → H2 t = some (.tup xs)) : LsAt H2 y l := by
  obtain ⟨vs, e, p⟩ := h
  exact ⟨vs, kb _ e, PrsAt.on p kt⟩
abbrev rowsO (lh lk : Addr) (n : Int) : HO := .dK [(Sum.inr ("hot" : Str), .ref lh), (Sum.inr ("cold" : Str), .ref lk), (Sum.inr ("last" : Str), .int n)]
def ExtAt (G H : Hp) (a : Addr) : Ext → Prop
  | .any => True
  | .dki kvs => DkiAt G H a kvs
  | .dks kvs => H a = some (.dK (kvs.map fun p => (Sum.inr p.1, V.int p.2)))
  | .rws n hs cs => ∃ lh lk, G a = some (rowsO lh lk n) ∧ LsAt G lh hs ∧ LsAt G lk cs
  | .obj C g hs cs n => ∃ dx b c, H a = some (.ins C dx (flds g b c n)) ∧ DkiAt G H b hs ∧ DkiAt G H c cs
theorem E3.mono {G G' : Hp} {e : Key × V} {p : Int × Int × Int × Int} (s : Same G G') (h : E3 G e p) : E3 G' e p := by
  obtain ⟨h1, t, h2, h3⟩ := h
  exact ⟨h1, t, h2, s _ _ h3⟩
theorem DkiAt.mono {G G' H H' : Hp} {a : Addr} {kvs : List (Int × Int × Int × Int)} (s : Same G G') (k : ∀ o, H a = some o → H' a = some o) (h : DkiAt G H a kvs) : DkiAt G' H' a kvs := by
  obtain ⟨es, h1, h2⟩ := h
  exact ⟨es, k _ h1, Paired.imp' (fun _ _ => E3.mono s) h2⟩
theorem ExtAt.mono {G G' : Hp} {a : Addr} {x : Ext} (s : Same G G') (h : ExtAt G G a x) : ExtAt G' G' a x := by
  cases x with
  | any => trivial
  | dki kvs => exact DkiAt.mono s (s a) h
  | dks kvs => exact s _ _ h
  | rws n hs cs =>
    obtain ⟨lh, lk, h1, h2, h3⟩ := h
    exact ⟨lh, lk, s _ _ h1, h2.on (fun o e => s _ _ e) fun t xs e => s _ _ e, h3.on (fun o e => s _ _ e) fun t xs e => s _ _ e⟩
  | obj C g hs cs n =>
    obtain ⟨dx, b, c, h1, h2, h3⟩ := h
    exact ⟨dx, b, c, s _ _ h1, h2.mono s (s b), h3.mono s (s c)⟩
def ExtOwn (G H : Hp) (a : Addr) : Ext → Prop
  | .dki kvs => DkiAt G H a kvs
  | .dks kvs => H a = some (.dK (kvs.map fun p => (Sum.inr p.1, V.int p.2)))
  | _ => False
theorem ExtOwn.stay {G H G' H' : Hp} {a : Addr} {x : Ext} (h : ExtOwn G H a x) (s : Same G G') (k : ∀ o, H a = some o → H' a = some o) : ExtOwn G' H' a x := by
  cases x with
  | dki kvs => exact DkiAt.mono s k h
  | dks kvs => exact k _ h
  | any => exact h.elim
  | obj _ _ _ _ _ => exact h.elim
  | rws _ _ _ => exact h.elim
theorem ExtOwn.obj {G H : Hp} {a : Addr} {x : Ext} (h : ExtOwn G H a x) : ∃ es, H a = some (.dK es) := by
  cases x with
  | dki kvs => obtain ⟨es, h, _⟩ := h; exact ⟨es, h⟩
  | dks kvs => exact ⟨_, h⟩
  | any => exact h.elim
  | obj _ _ _ _ _ => exact h.elim
  | rws _ _ _ => exact h.elim
theorem ExtOwn.at {G H G2 : Hp} {a : Addr} {x : Ext} (h : ExtOwn G H a x) (s : Same G G2) (k : ∀ o, H a = some o → G2 a = some o) : ExtAt G2 G2 a x := by
  cases x with
  | dki kvs => exact DkiAt.mono s k h
  | dks kvs => exact k _ h
  | any => exact h.elim
  | obj _ _ _ _ _ => exact h.elim
  | rws _ _ _ => exact h.elim
def encS (ks : List (List Int)) : List (List Key × V) := ks.map fun k => (k.map Sum.inl, V.bl true)
def encD (kvs : List ((Int × Int) × Int)) : List (List Key × V) := kvs.map fun p => ([Sum.inl p.1.1, Sum.inl p.1.2], V.int p.2)
inductive Rep (K : PySem.W.Frag) (G : Hp) : V → D → Prop where
  | non : Rep K G .non .non
  | bl (b : Bool) : Rep K G (.bl b) (.bl b)
  | int (i : Int) : Rep K G (.int i) (.int i)
  | str (x : Str) : Rep K G (.str x) (.str x)
  | tup {a : Addr} {vs : List V} {ds : List D} (h : G a = some (.tup vs)) (l : vs.length = ds.length) (r : ∀ (i : Nat) (v : V) (d : D), vs[i]? = some v → ds[i]? = some d → Rep K G v d) : Rep K G (.ref a) (.tup ds)
  | scr {a : Addr} {ns : List Int} (h : SqL K G a (ns.map V.int)) : Rep K G (.ref a) (.scr ns)
  | dct {a : Addr} {kvs : List ((Int × Int) × Int)} (h : Rd G a (.dT (encD kvs))) : Rep K G (.ref a) (.dct kvs)
  | sen {a : Addr} {ks : List (List Int)} (h : Rd G a (.dT (encS ks))) : Rep K G (.ref a) (.sen ks)
  | ext {a : Addr} {x : Ext} (h : ExtAt G G a x) : Rep K G (.ref a) (.ext x)
  | lst {a : Addr} {vs : List V} {ds : List D} (h : G a = some (.lst vs)) (l : vs.length = ds.length) (r : ∀ (i : Nat) (v : V) (d : D), vs[i]? = some v → ds[i]? = some d → Rep K G v d) : Rep K G (.ref a) (.lst ds)
abbrev Reps (K : PySem.W.Frag) (G : Hp) : List V → List D → Prop := Paired (Rep K G)
theorem paired_of {α β : Type} {F : α → β → Prop} : ∀ {l : List α} {r : List β}, l.length = r.length → (∀ (i : Nat) (a : α) (b : β), l[i]? = some a → r[i]? = some b → F a b) → Paired F l r
  | [], [], _, _ => .nil
  | a :: l, b :: r, e, h => .cons (h 0 a b rfl rfl) (paired_of (by simpa using e) fun i x y h1 h2 => h (i + 1) x y (by simpa using h1) (by simpa using h2))
theorem paired_at {α β : Type} {F : α → β → Prop} : ∀ {l : List α} {r : List β}, Paired F l r → ∀ (i : Nat) (a : α) (b : β), l[i]? = some a → r[i]? = some b → F a b
  | _, _, .nil, _, _, _, h, _ => by simp at h
  | _, _, .cons h _, 0, _, _, h1, h2 => by simp at h1 h2; subst h1; subst h2; exact h
  | _, _, .cons _ t, i + 1, a, b, h1, h2 => paired_at t i a b (by simpa using h1) (by simpa using h2)
theorem paired_get' {α β : Type} {F : α → β → Prop} : ∀ {l : List α} {r : List β} {i : Nat} {b : β}, Paired F l r → r[i]? = some b → ∃ a, l[i]? = some a ∧ F a b
  | _, _, _, _, .nil, e => by simp at e
  | _, _, 0, _, .cons h _, e => by simp at e; subst e; exact ⟨_, rfl, h⟩
  | _, _, i + 1, b, .cons _ t, e => by
    obtain ⟨a, h1, h2⟩ := paired_get' (i := i) (b := b) t (by simpa using e)
    exact ⟨a, by simpa using h1, h2⟩
section
variable {K : PySem.W.Frag} {G G' H H' : Hp} {v : V} {d : D} {ds : List D} {vs : List V}
theorem Rep.tup' {a : Addr} (h : G a = some (.tup vs)) (r : Reps K G vs ds) : Rep K G (.ref a) (.tup ds) := .tup h (Paired.length r) (paired_at r)
theorem Rep.lst' {a : Addr} (h : G a = some (.lst vs)) (r : Reps K G vs ds) : Rep K G (.ref a) (.lst ds) := .lst h (Paired.length r) (paired_at r)
theorem Rep.tup_inv (h : Rep K G v (.tup ds)) : ∃ a vs, v = .ref a ∧ SqT K G a vs ∧ Reps K G vs ds := by
  cases h with | tup h l r => exact ⟨_, _, rfl, .inl (.inl h), paired_of l r⟩
theorem Rep.tup_st (h : Rep K G v (.tup ds)) : ∃ a vs, v = .ref a ∧ G a = some (.tup vs) ∧ Reps K G vs ds := by
  cases h with | tup h l r => exact ⟨_, _, rfl, h, paired_of l r⟩
theorem Rep.lst_inv (h : Rep K G v (.lst ds)) : ∃ a vs, v = .ref a ∧ G a = some (.lst vs) ∧ Reps K G vs ds := by
  cases h with | lst h l r => exact ⟨_, _, rfl, h, paired_of l r⟩
theorem Rep.int_inv {i : Int} (h : Rep K G v (.int i)) : v = .int i := by cases h; rfl
theorem Rep.bl_inv {b : Bool} (h : Rep K G v (.bl b)) : v = .bl b := by cases h; rfl
theorem Rep.str_inv {x : Str} (h : Rep K G v (.str x)) : v = .str x := by cases h; rfl
theorem Rep.non_inv (h : Rep K G v .non) : v = .non := by cases h; rfl
theorem rd_same {a : Addr} {u : HO} (e : Same G G') (h : Rd G a u) : Rd G' a u := h.elim (fun z => .inl (e _ _ z)) fun ⟨o, z⟩ => .inr ⟨o, e _ _ z⟩
theorem same_seqT {a : Addr} {xs : List V} (e : Same G G') (h : SqT K G a xs) : SqT K G' a xs := by
  rcases h with (h | ⟨o, h⟩) | h
  · exact .inl (.inl (e _ _ h))
  · exact .inl (.inr ⟨o, e _ _ h⟩)
  · exact .inr h
theorem Rep.mono (s : Same G G') (h : Rep K G v d) : Rep K G' v d := by
  induction h with
  | non => exact .non
  | bl b => exact .bl b
  | int i => exact .int i
  | str x => exact .str x
  | tup h l r ih => exact .tup (s _ _ h) l ih
  | lst h l r ih => exact .lst (s _ _ h) l ih
  | scr h => exact .scr (s.seq h)
  | dct h => exact .dct (rd_same s h)
  | sen h => exact .sen (rd_same s h)
  | ext h => exact .ext (h.mono s)
theorem Reps.mono (s : Same G G') (h : Reps K G vs ds) : Reps K G' vs ds := Paired.imp' (fun _ _ => Rep.mono s) h
def D.sc : D → Bool
  | .tup _ => false
  | .lst _ => false
  | .scr _ => false
  | .dct _ => false
  | .sen _ => false
  | .ext _ => false
  | _ => true
theorem Rep.sc (h : Rep K G v d) (e : d.sc = true) : Rep K G' v d := by
  cases h with
  | non => exact .non
  | bl b => exact .bl b
  | int i => exact .int i
  | str x => exact .str x
  | tup h l r => cases e
  | lst h l r => cases e
  | scr h => cases e
  | dct h => cases e
  | sen h => cases e
  | ext h => cases e
end
inductive Ct where
  | tup | lst
  | obj (C : Addr) (g n : Int)
  | wk (g : Int)
  | fnd (x : Str) (p : Int)
inductive B where
  | p (d : D) | o (d : D) | n (t : Ct) (ds : List D)
def Ct.own : Ct → Bool
  | .lst => true
  | .obj _ _ _ => true
  | _ => false
def objV2 (C : Addr) (g n : Int) (hs : List (Int × Int × Int × Int)) : D → D
  | .ext (.dki cs) => .ext (.obj C g hs cs n)
  | _ => .ext .any
def objV1 (C : Addr) (g n : Int) (b : D) : D → D
  | .ext (.dki hs) => objV2 C g n hs b
  | _ => .ext .any
def objV (C : Addr) (g n : Int) : List D → D
  | [a, b] => objV1 C g n b a
  | _ => .ext .any
def wkV (g : Int) : List D → D
  | [x, y] => .tup [.int g, x, y]
  | _ => .ext .any
def fndV (x : Str) (p : Int) : List D → D
  | [a, b, c] => .tup [.str x, .tup [a, b], .int p, c]
  | _ => .ext .any
def Ct.val : Ct → List D → D
  | .tup => .tup
  | .lst => .lst
  | .obj C g n => objV C g n
  | .wk g => wkV g
  | .fnd x p => fndV x p
def Ct.at (t : Ct) (H : Hp) (a : Addr) (as : List Addr) : Prop := match t with
  | .tup => H a = some (.tup (as.map V.ref))
  | .lst => H a = some (.lst (as.map V.ref))
  | .obj C g n => ∃ dx b c, as = [b, c] ∧ H a = some (.ins C dx (flds g b c n))
  | .wk g => ∃ b c, as = [b, c] ∧ H a = some (.tup [.int g, .ref b, .ref c])
  | .fnd x p => ∃ b c e t, as = [b, c, e] ∧ H a = some (.tup [.str x, .ref t, .int p, .ref e]) ∧ H t = some (.tup [.ref b, .ref c])
theorem Ct.at_mono {t : Ct} {H H' : Hp} {a : Addr} {as : List Addr} (s : Same H H') (h : t.at H a as) : t.at H' a as := by
  cases t with
  | tup => exact s _ _ h
  | lst => exact s _ _ h
  | obj C g n => obtain ⟨dx, b, c, e, h⟩ := h; exact ⟨dx, b, c, e, s _ _ h⟩
  | wk g => obtain ⟨b, c, e, h⟩ := h; exact ⟨b, c, e, s _ _ h⟩
  | fnd x p => obtain ⟨b, c, e, t, h1, h2, h3⟩ := h; exact ⟨b, c, e, t, h1, s _ _ h2, s _ _ h3⟩
theorem Ct.at_own {t : Ct} {H H' : Hp} {a : Addr} {as : List Addr} (o : t.own = true) (s : ∀ o, H a = some o → H' a = some o) (h : t.at H a as) : t.at H' a as := by
  cases t with
  | tup => cases o
  | lst => exact s _ h
  | obj C g n => obtain ⟨dx, b, c, e, h⟩ := h; exact ⟨dx, b, c, e, s _ h⟩
  | wk g => cases o
  | fnd x p => cases o
theorem Ct.at_chg {t : Ct} {H : Hp} {a : Addr} {as : List Addr} (o : t.own = true) (h : t.at H a as) : ∃ o, H a = some o ∧ ∀ xs, o ≠ .tup xs := by
  cases t with
  | tup => cases o
  | lst => exact ⟨_, h, fun _ z => nomatch z⟩
  | obj C g n => obtain ⟨dx, b, c, e, h⟩ := h; exact ⟨_, h, fun _ z => nomatch z⟩
  | wk g => cases o
  | fnd x p => cases o
set_option tactic.hygienic true in
theorem Ct.rep {K : PySem.W.Frag} {t : Ct} {G : Hp} {a : Addr} {as : List Addr} {ds : List D} (h : t.at G a as) (r : Reps K G (as.map V.ref) ds) : Rep K G (.ref a) (t.val ds) := by
  cases t with
  | tup => exact Rep.tup' h r
  | lst => exact Rep.lst' h r
  | obj C g n =>
    obtain ⟨dx, b, c, rfl, h⟩ := h
    cases r with
    | cons r1 r => cases r with
      | cons r2 r =>
        cases r
        rename_i d1 d2
        show Rep K G (.ref a) (objV1 C g n d2 d1)
        cases r1 with
        | @ext _ e1 r1 => cases e1 with
          | dki hs => cases r2 with
            | @ext _ e2 r2 => cases e2 with
              | dki cs => exact .ext ⟨dx, b, c, h, r1, r2⟩
              | _ => exact .ext trivial
            | _ => exact .ext trivial
          | _ => exact .ext trivial
        | _ => exact .ext trivial
  | wk g =>
    obtain ⟨b, c, rfl, h⟩ := h
    cases r with
    | cons r1 r => cases r with
      | cons r2 r => cases r; exact Rep.tup' h (.cons (.int _) (.cons r1 (.cons r2 .nil)))
  | fnd x p =>
    obtain ⟨b, c, e, t, rfl, h, h'⟩ := h
    cases r with
    | cons r1 r => cases r with
      | cons r2 r => cases r with
        | cons r3 r => cases r; exact Rep.tup' h (.cons (.str _) (.cons (Rep.tup' h' (.cons r1 (.cons r2 .nil))) (.cons (.int _) (.cons r3 .nil))))
def B.val : B → D
  | .p d => d
  | .o d => d
  | .n t ds => t.val ds
def Ct.On (t : Ct) (F : Prop) (G H : Hp) (a : Addr) (as : List Addr) : Prop := match t.own with
  | true => F ∧ G a = none ∧ a ∉ as ∧ t.at H a as
  | false => t.at G a as
theorem Ct.On.imp {t : Ct} {F F' : Prop} {G H G' H' : Hp} {a : Addr} {as : List Addr} (h : t.On F G H a as) (s : Same G G') (k : F → G a = none → (∃ o, H a = some o ∧ ∀ xs, o ≠ .tup xs) → F' ∧ G' a = none ∧ ∀ o, H a = some o → H' a = some o) : t.On F' G' H' a as := by
  unfold Ct.On at h ⊢
  cases e : t.own with
  | true =>
    rw [e] at h
    obtain ⟨f, g, n, q⟩ := h
    obtain ⟨k1, k2, k3⟩ := k f g (Ct.at_chg e q)
    exact ⟨k1, k2, n, Ct.at_own e k3 q⟩
  | false =>
    rw [e] at h
    exact Ct.at_mono s h
abbrev DEnv := List (Option B)
def dget : DEnv → Nat → Option B
  | [], _ => none
  | b :: _, 0 => b
  | _ :: r, n + 1 => dget r n
def dput : DEnv → Nat → B → DEnv
  | [], _, _ => []
  | _ :: r, 0, b => some b :: r
  | c :: r, n + 1, b => c :: dput r n b
def frz1 : Option B → Option B
  | none => none
  | some b => some (.p b.val)
def frz : DEnv → DEnv
  | [] => []
  | c :: r => frz1 c :: frz r
theorem dput_len (b : B) : ∀ (ρ : DEnv) (i : Nat), (dput ρ i b).length = ρ.length
  | [], _ => rfl
  | _ :: _, 0 => rfl
  | _ :: r, n + 1 => by show (dput r n b).length + 1 = r.length + 1; rw [dput_len b r n]
theorem frz_len : ∀ (ρ : DEnv), (frz ρ).length = ρ.length
  | [] => rfl
  | _ :: r => by show (frz r).length + 1 = _; rw [frz_len r]; rfl
theorem dget_put {b : B} : ∀ {ρ : DEnv} {i j : Nat} {c : B}, dget (dput ρ i b) j = some c → (i = j ∧ j < ρ.length ∧ c = b) ∨ (i ≠ j ∧ dget ρ j = some c)
  | [], _, _, _, h => by cases h
  | _ :: _, 0, 0, _, h => .inl ⟨rfl, Nat.succ_pos _, (Option.some.inj h).symm⟩
  | _ :: _, 0, j + 1, _, h => .inr ⟨Nat.succ_ne_zero j |>.symm, h⟩
  | _ :: _, i + 1, 0, _, h => .inr ⟨Nat.succ_ne_zero i, h⟩
  | _ :: r, i + 1, j + 1, _, h => by
    rcases dget_put (ρ := r) (i := i) (j := j) h with ⟨h1, h2, h3⟩ | ⟨h1, h2⟩
    · exact .inl ⟨by rw [h1], Nat.succ_lt_succ h2, h3⟩
    · exact .inr ⟨fun e => h1 (Nat.succ.inj e), h2⟩
theorem dget_frz : ∀ {ρ : DEnv} {i : Nat} {c : B}, dget (frz ρ) i = some c → ∃ b, dget ρ i = some b ∧ c = .p b.val
  | [], _, _, h => by cases h
  | none :: _, 0, _, h => by cases h
  | some b :: _, 0, _, h => ⟨b, rfl, (Option.some.inj h).symm⟩
  | _ :: r, i + 1, _, h => dget_frz (ρ := r) h
def OwnAt (K : PySem.W.Frag) (G H : Hp) (a : Addr) (d : D) : Prop := G a = none ∧ match d with
  | .lst ds => ∃ vs, H a = some (.lst vs) ∧ Reps K G vs ds
  | .dct kvs => H a = some (.dT (encD kvs))
  | .sen ks => H a = some (.dT (encS ks))
  | .ext x => ExtOwn G H a x
  | _ => False
def Chg (H : Hp) (a : Addr) : Prop := ∃ o, H a = some o ∧ ∀ xs, o ≠ .tup xs
theorem Chg.there {H : Hp} {a : Addr} (h : Chg H a) : H a ≠ none := by obtain ⟨o, e, _⟩ := h; rw [e]; simp
structure Wd (H0 G0 H G : Hp) : Prop where
  hh : Same H0 H
  gg : Same G0 G
  gh : Same G H
  old : ∀ a, Chg H0 a → G a = G0 a
theorem Wd.refl {H G : Hp} (s : Same G H) : Wd H G H G := ⟨Same.refl _, Same.refl _, s, fun _ _ => rfl⟩
theorem Wd.trans {H0 G0 H1 G1 H2 G2 : Hp} (a : Wd H0 G0 H1 G1) (b : Wd H1 G1 H2 G2) : Wd H0 G0 H2 G2 :=
  ⟨a.hh.trans b.hh, a.gg.trans b.gg, b.gh, fun x h => by
    have h1 : Chg H1 x := by obtain ⟨o, e, n⟩ := h; exact ⟨o, a.hh _ _ e, n⟩
    rw [b.old x h1, a.old x h]⟩
theorem Wd.new {H0 G0 H G : Hp} {p : Addr} {o : HO} (w : Wd H0 G0 H G) (h : H p = none) : Wd H0 G0 (upd H p o) (upd G p o) :=
  ⟨w.hh.upd (w.hh.free h), w.gg.upd (w.gg.free (w.gh.free h)), fun b u e => by
    by_cases z : b = p
    · subst z; rw [upd_same] at e ⊢; exact e
    · rw [upd_ne z] at e ⊢; exact w.gh b u e, fun a ha => by
    have z : a ≠ p := fun e => ha.there (e ▸ w.hh.free h)
    rw [upd_ne z, w.old a ha]⟩
theorem Wd.own {H0 G0 H G : Hp} {p : Addr} {o : HO} (w : Wd H0 G0 H G) (h0 : H0 p = none) (h : G p = none) : Wd H0 G0 (upd H p o) G :=
  ⟨w.hh.upd h0, w.gg, w.gh.upd h, w.old⟩
theorem OwnAt.rep {K : PySem.W.Frag} {G H G2 : Hp} {a : Addr} {d : D} (h : OwnAt K G H a d) (s : Same G G2) (e : ∀ o, H a = some o → G2 a = some o) : Rep K G2 (.ref a) d := by
  obtain ⟨g, k⟩ := h
  cases d with
  | lst ds =>
    obtain ⟨vs, e', r⟩ := k
    exact Rep.lst' (e _ e') (Reps.mono s r)
  | dct kvs => exact .dct (.inl (e _ k))
  | sen kvs => exact .sen (.inl (e _ k))
  | ext x => exact .ext (ExtOwn.at k s e)
  | non => exact k.elim
  | bl _ => exact k.elim
  | int _ => exact k.elim
  | str _ => exact k.elim
  | tup _ => exact k.elim
  | scr _ => exact k.elim
def BRes (K : PySem.W.Frag) (H G' H' : Hp) (v : V) : B → Prop
  | .p d => Rep K G' v d
  | .o d => ∃ a, v = .ref a ∧ H a = none ∧ OwnAt K G' H' a d
  | .n t ds => ∃ a as, v = .ref a ∧ as.Nodup ∧ Paired (fun x d => H x = none ∧ OwnAt K G' H' x d) as ds ∧ t.On (H a = none) G' H' a as
theorem BRes.ahead {K : PySem.W.Frag} {H0 H G' H' : Hp} {v : V} {b : B} (s : Same H0 H) (h : BRes K H G' H' v b) : BRes K H0 G' H' v b := by
  cases b with
  | p d => exact h
  | o d => obtain ⟨a, e, n, o⟩ := h; exact ⟨a, e, s.free n, o⟩
  | n t ds =>
    obtain ⟨a, as, e, nd, pr, q⟩ := h
    exact ⟨a, as, e, nd, Paired.imp' (fun _ _ z => ⟨s.free z.1, z.2⟩) pr, q.imp (Same.refl _) fun f g _ => ⟨s.free f, g, fun _ z => z⟩⟩
theorem Wd.all {H G H' G' : Hp} (w : Wd H G H' G') : ∃ G2, Wd H G H' G2 ∧ Same G' G2 ∧ ∀ a, H a = none → G' a = none → G2 a = H' a := by
  classical
  have sG : Same G' (fun a => if H a = none ∧ G' a = none then H' a else G' a) := fun a o h => by
    show (if _ then H' a else G' a) = _
    rw [if_neg fun q => by rw [q.2] at h; cases h]
    exact h
  refine ⟨fun a => if H a = none ∧ G' a = none then H' a else G' a, ⟨w.hh, w.gg.trans sG, fun a o h => ?_, fun a h => ?_⟩, sG, fun a h1 h2 => if_pos ⟨h1, h2⟩⟩
  · have h' : (if H a = none ∧ G' a = none then H' a else G' a) = some o := h
    split at h'
    · exact h'
    · exact w.gh _ _ h'
  · show (if H a = none ∧ G' a = none then H' a else G' a) = _
    rw [if_neg fun q => h.there q.1]
    exact w.old a h
theorem BRes.give {K : PySem.W.Frag} {H G H' G' : Hp} {v : V} {b : B} (w : Wd H G H' G') (h : BRes K H G' H' v b) : ∃ G2, Wd H G H' G2 ∧ Rep K G2 v b.val := by
  cases b with
  | p d => exact ⟨G', w, h⟩
  | n t ds =>
    obtain ⟨a, as, rfl, nd, pr, q⟩ := h
    obtain ⟨G2, w2, s2, k2⟩ := w.all
    have qa : t.at G2 a as := by
      unfold Ct.On at q
      cases e : t.own with
      | true =>
        rw [e] at q
        exact Ct.at_own e (fun o z => by rw [k2 _ q.1 q.2.1]; exact z) q.2.2.2
      | false =>
        rw [e] at q
        exact Ct.at_mono s2 q
    refine ⟨G2, w2, Ct.rep qa ?_⟩
    clear q nd qa
    induction pr with
    | nil => exact .nil
    | cons f _ ih => exact .cons (f.2.rep s2 fun o z => by rw [k2 _ f.1 f.2.1]; exact z) ih
  | o d =>
    obtain ⟨a, rfl, n, k⟩ := h
    obtain ⟨G2, w2, s2, k2⟩ := w.all
    exact ⟨G2, w2, k.rep s2 fun o z => by rw [k2 _ n k.1]; exact z⟩
abbrev DT := DEnv → (B → Prop) → Prop
abbrev DTT := DEnv → (Bool → Prop) → Prop
abbrev DTA := DEnv → (List D → Prop) → Prop
def RepE (K : PySem.W.Frag) (G : Hp) (σ : St) (ρ : DEnv) : Prop := ∀ i d, dget ρ i = some (.p d) → ∃ v, σ[i]? = some (some v) ∧ Rep K G v d
theorem RepE.mono {K : PySem.W.Frag} {G G' : Hp} {σ : St} {ρ : DEnv} (s : Same G G') (h : RepE K G σ ρ) : RepE K G' σ ρ := fun i d e => by
  obtain ⟨v, h1, h2⟩ := h i d e
  exact ⟨v, h1, h2.mono s⟩
def cE (K : PySem.W.Frag) (t : DT) : TE := fun σ H Q => ∃ (G : Hp) (ρ : DEnv) (P : B → Prop), Same G H ∧ RepE K G σ ρ ∧ t ρ P ∧ ∀ b v H' G', P b → Wd H G H' G' → BRes K H G' H' v b → Q v H'
def cT (K : PySem.W.Frag) (t : DTT) : TT := fun σ H Q => ∃ (G : Hp) (ρ : DEnv) (P : Bool → Prop), Same G H ∧ RepE K G σ ρ ∧ t ρ P ∧ ∀ b H' G', P b → Wd H G H' G' → Q b H'
def cA (K : PySem.W.Frag) (n : Nat) (t : DTA) : TA := fun σ H Q => ∃ (G : Hp) (ρ : DEnv) (P : List D → Prop), Same G H ∧ RepE K G σ ρ ∧ t ρ P ∧ ∀ ds vs H' G', P ds → ds.length = n → Wd H G H' G' → Reps K G' vs ds → Q vs H'
structure DE (X : Cx) (e : Expr) (t : DT) : Prop where
  pe : PE X e (cE X.K t)
structure DTe (X : Cx) (e : Expr) (t : DTT) : Prop where
  pt : PT X e (cT X.K t)
structure DW (X : Cx) (e : Expr) (t : DTT) : Prop where
  pw : PW X e (cT X.K t)
structure DA (X : Cx) (es : List Expr) (t : DTA) : Prop where
  pa : PA X es (cA X.K es.length t)
theorem PE.imp {X : Cx} {e : Expr} {t t' : TE} (h : PE X e t) (i : ∀ σ H Q, t' σ H Q → t σ H Q) : PE X e t' := fun pins s σ H Q I q => h pins s σ H Q I (i σ H Q q)
theorem PT.imp {X : Cx} {e : Expr} {t t' : TT} (h : PT X e t) (i : ∀ σ H Q, t' σ H Q → t σ H Q) : PT X e t' := fun pins s σ H Q I q => h pins s σ H Q I (i σ H Q q)
theorem PW.imp {X : Cx} {e : Expr} {t t' : TT} (h : PW X e t) (i : ∀ σ H Q, t' σ H Q → t σ H Q) : PW X e t' := fun wh pins s σ H Q I q => h wh pins s σ H Q I (i σ H Q q)
theorem PA.imp {X : Cx} {es : List Expr} {t t' : TA} (h : PA X es t) (i : ∀ σ H Q, t' σ H Q → t σ H Q) : PA X es t' := fun pos pins s σ H Q I q => h pos pins s σ H Q I (i σ H Q q)
theorem PS.imp {X : Cx} {st : Stmt} {t t' : TS} (h : PS X st t) (i : ∀ D σ H, t' D σ H → t D σ H) : PS X st t' := fun pins s σ H D I q => h pins s σ H D I (i D σ H q)
theorem PSs.imp {X : Cx} {st : List Stmt} {t t' : TS} (h : PSs X st t) (i : ∀ D σ H, t' D σ H → t D σ H) : PSs X st t' := fun pins s σ H D I q => h pins s σ H D I (i D σ H q)
theorem DE.of {X : Cx} {e : Expr} {t : TE} {t' : DT} (h : PE X e t) (i : ∀ σ H Q, cE X.K t' σ H Q → t σ H Q) : DE X e t' := ⟨PE.imp h i⟩
theorem DTe.of {X : Cx} {e : Expr} {t : TT} {t' : DTT} (h : PT X e t) (i : ∀ σ H Q, cT X.K t' σ H Q → t σ H Q) : DTe X e t' := ⟨PT.imp h i⟩
theorem DW.of {X : Cx} {e : Expr} {t : TT} {t' : DTT} (h : PW X e t) (i : ∀ σ H Q, cT X.K t' σ H Q → t σ H Q) : DW X e t' := ⟨PW.imp h i⟩
theorem DA.of {X : Cx} {es : List Expr} {t : TA} {t' : DTA} (h : PA X es t) (i : ∀ σ H Q, cA X.K es.length t' σ H Q → t σ H Q) : DA X es t' := ⟨PA.imp h i⟩
section
variable {X : Cx} {a b e : Expr} {ta tb te : DT} {pos : Pos}
def dVar (i : Nat) : DT := fun ρ Q => match dget ρ i with
  | some (.p d) => Q (.p d)
  | _ => False
set_option tactic.hygienic true in
theorem dv (i : Nat) {x : Str} (hN : X.N[i]? = some x := by rfl) (hv : Vis X.env.scope x := by first | exact Or.inl rfl | exact Or.inr (Or.inl rfl) | exact Or.inr (Or.inr rfl)) (hd : (x == ("__debug__" : Str)) = false := by decide)
    (hcd : (x == ("__classdict__" : Str)) = false := by decide) : DE X (.Name x pos) (dVar i) :=
  DE.of (pe_var hN hv hd hcd)<|by
    rintro σ H Q ⟨G, ρ, P, s, r, h, k⟩
    unfold dVar at h
    split at h
    · rename_i d e
      obtain ⟨v, h1, h2⟩ := r _ _ e
      exact ⟨v, h1, k _ v H G h (Wd.refl s) h2⟩
    · exact h.elim
def dC (d : D) : DT := fun _ Q => Q (.p d)
def CRep (K : PySem.W.Frag) (v : V) (d : D) : Prop := ∀ G, Rep K G v d
theorem de_c {v : V} {d : D} (h : PE X e (tC v)) (r : CRep X.K v d) : DE X e (dC d) :=
  DE.of h (by rintro σ H Q ⟨G, ρ, P, s, _, h, k⟩;exact k _ v H G h (Wd.refl s) (r G))
theorem de_int {i : Int} {j} : DE X (.Constant (.int i) j pos) (dC (.int i)) := de_c pe_int fun _ => .int i
theorem de_str {x : Str} {j} : DE X (.Constant (.str x) j pos) (dC (.str x)) := de_c pe_str fun _ => .str x
theorem go_on {K : PySem.W.Frag} {H G H1 G1 : Hp} {P : B → Prop} {Q : VK} (k : ∀ b v H' G', P b → Wd H G H' G' → BRes K H G' H' v b → Q v H') (w : Wd H G H1 G1) : ∀ b v H' G', P b → Wd H1 G1 H' G' → BRes K H1 G' H' v b → Q v H' :=
  fun b v H' G' p w' r => k b v H' G' p (w.trans w') (r.ahead w.hh)
abbrev D2 := D → D → (B → Prop) → Prop
def OpD (X : Cx) (f : Value → Value → Sem Value) (r : D2) : Prop := ∃ rv : R2, OpR X f rv ∧
  ∀ (H G : Hp) (x y : V) (dx dy : D) (P : B → Prop) (Q : VK), Same G H → Rep X.K G x dx → Rep X.K G y dy → r dx dy P → (∀ b v H' G', P b → Wd H G H' G' → BRes X.K H G' H' v b → Q v H') → rv x y H Q
def dOp (r : D2) (ta tb : DT) : DT := fun ρ Q => ta ρ fun x => tb ρ fun y => r x.val y.val Q
theorem cE_two {K : PySem.W.Frag} {ta tb : DT} {r : D2} {rv : R2} (hr : ∀ (H G : Hp) (x y : V) (dx dy : D) (P : B → Prop) (Q : VK), Same G H → Rep K G x dx → Rep K G y dy → r dx dy P → (∀ b v H' G', P b → Wd H G H' G' → BRes K H G' H' v b → Q v H') → rv x y H Q)
    (σ : St) (H : Hp) (Q : VK) : cE K (dOp r ta tb) σ H Q → tOp rv (cE K ta) (cE K tb) σ H Q := by
  rintro ⟨G, ρ, P, s, re, h, k⟩
  refine ⟨G, ρ, _, s, re, h, fun b v H1 G1 p1 w1 r1 => ?_⟩
  obtain ⟨G1', w1', r1'⟩ := r1.give w1
  refine ⟨G1', ρ, _, w1'.gh, re.mono w1'.gg, p1, fun b2 v2 H2 G2 p2 w2 r2 => ?_⟩
  obtain ⟨G2', w2', r2'⟩ := r2.give w2
  exact hr H2 G2' v v2 b.val b2.val P Q w2'.gh (r1'.mono w2'.gg) r2' p2 (go_on k (w1'.trans w2'))
theorem de_op {op : Operator} {r : D2} (ho : OpD X (binaryOp op) r) (ha : DE X a ta) (hb : DE X b tb) : DE X (.BinOp a op b pos) (dOp r ta tb) := by
  obtain ⟨rv, h1, h2⟩ := ho
  exact DE.of (pe_op h1 ha.pe hb.pe) (cE_two h2)
theorem de_cmp {op : CmpOp} {r : D2} (ho : OpD X (compareOp op) r) (ha : DE X a ta) (hb : DE X b tb) (hm : behindInMarks op b = false) : DE X (.Compare a [op] [b] pos) (dOp r ta tb) := by
  obtain ⟨rv, h1, h2⟩ := ho
  exact DE.of (pe_cmpR h1 ha.pe hb.pe hm) (cE_two h2)
def dI (g : Int → Int → D) : D2 := fun x y Q => match x, y with
  | .int i, .int j => Q (.p (g i j))
  | _, _ => False
def dIC (C : Int → Int → Prop) (g : Int → Int → D) : D2 := fun x y Q => match x, y with
  | .int i, .int j => C i j ∧ Q (.p (g i j))
  | _, _ => False
theorem opd_I {f : Value → Value → Sem Value} {g : Int → Int → D} {gv : Int → Int → V} (h : OpR X f (rI0 gv)) (hg : ∀ i j, CRep X.K (gv i j) (g i j)) : OpD X f (dI g) := by
  refine ⟨_, h, fun H G x y dx dy P Q s rx ry hr k => ?_⟩
  unfold dI at hr
  split at hr
  · cases rx; cases ry
    exact ⟨_, _, rfl, rfl, k _ _ H G hr (Wd.refl s) (hg _ _ _)⟩
  · exact hr.elim
theorem opd_IC {f : Value → Value → Sem Value} {C : Int → Int → Prop} {g : Int → Int → D} {gv : Int → Int → V} (h : OpR X f (rI C gv)) (hg : ∀ i j, CRep X.K (gv i j) (g i j)) : OpD X f (dIC C g) := by
  refine ⟨_, h, fun H G x y dx dy P Q s rx ry hr k => ?_⟩
  unfold dIC at hr
  split at hr
  · cases rx; cases ry
    exact ⟨_, _, rfl, rfl, hr.1, k _ _ H G hr.2 (Wd.refl s) (hg _ _ _)⟩
  · exact hr.elim
theorem od_sub : OpD X (binaryOp .Sub) (dI fun i j => .int (i - j)) := opd_I op_sub fun _ _ _ => .int _
theorem od_fdiv : OpD X (binaryOp .FloorDiv) (dIC CDiv fun i j => .int (i / j)) := opd_IC op_fdiv fun _ _ _ => .int _
theorem od_mod : OpD X (binaryOp .Mod) (dIC (fun _ j => 0 < j) fun i j => .int (i % j)) := opd_IC op_mod fun _ _ _ => .int _
theorem od_pow : OpD X (binaryOp .Pow) (dIC CPow fun i j => .int (i ^ j.toNat)) := opd_IC op_pow fun _ _ _ => .int _
theorem od_lt : OpD X (compareOp .Lt) (dI fun i j => .bl (decide (i < j))) := opd_I op_lt fun _ _ _ => .bl _
theorem od_le : OpD X (compareOp .LtE) (dI fun i j => .bl (decide (i ≤ j))) := opd_I op_le fun _ _ _ => .bl _
theorem od_gt : OpD X (compareOp .Gt) (dI fun i j => .bl (decide (j < i))) := opd_I op_gt fun _ _ _ => .bl _
theorem od_ge : OpD X (compareOp .GtE) (dI fun i j => .bl (decide (j ≤ i))) := opd_I op_ge fun _ _ _ => .bl _
def dEqS : D2 := fun x y Q => match x, y with
  | .int i, .int j => Q (.p (.bl (decide (i = j))))
  | .str i, .str j => Q (.p (.bl (decide (i = j))))
  | .bl i, .bl j => Q (.p (.bl (decide (i = j))))
  | _, _ => False
def dNeS : D2 := fun x y Q => match x, y with
  | .int i, .int j => Q (.p (.bl (!decide (i = j))))
  | .str i, .str j => Q (.p (.bl (!decide (i = j))))
  | .bl i, .bl j => Q (.p (.bl (!decide (i = j))))
  | _, _ => False
theorem decV {α : Type} [DecidableEq α] {f : α → V} (hf : ∀ a b, f a = f b → a = b) (i j : α) : decide (f i = f j) = decide (i = j) := by
  by_cases h : i = j
  · rw [h, decide_eq_true rfl, decide_eq_true rfl]
  · rw [decide_eq_false h, decide_eq_false fun e => h (hf _ _ e)]
def kin : V → V → Bool
  | .int _, .int _ => true
  | .str _, .str _ => true
  | .bl _, .bl _ => true
  | _, _ => false
def rEqK : R2 := fun x y H Q => kin x y = true ∧ Q (.bl (decide (x = y))) H
def rNeK : R2 := fun x y H Q => kin x y = true ∧ Q (.bl (!decide (x = y))) H
inductive Kin : V → V → Prop
  | int (i j : Int) : Kin (.int i) (.int j)
  | str (i j : Str) : Kin (.str i) (.str j)
  | bl (i j : Bool) : Kin (.bl i) (.bl j)
theorem kin_is {x y : V} (h : kin x y = true) : Kin x y := by
  cases x with
  | int i => cases y with
    | int j => exact .int i j
    | _ => cases h
  | str i => cases y with
    | str j => exact .str i j
    | _ => cases h
  | bl i => cases y with
    | bl j => exact .bl i j
    | _ => cases h
  | _ => cases h
theorem op_eqK : OpR X (compareOp .Eq) rEqK := by
  intro pins s σ H x y v u Q I rx ry h
  obtain ⟨hs, q⟩ := h
  cases kin_is hs with
  | int i j => obtain ⟨t, rfl⟩ := rx; obtain ⟨t', rfl⟩ := ry; exact PyProof.Rows.eq_int (fin_bl I q dec_int)
  | str i j => obtain ⟨t, rfl⟩ := rx; obtain ⟨t', rfl⟩ := ry; exact PyProof.Rows.eq_str (fin_bl I q dec_str)
  | bl i j => cases rx; cases ry; exact PyProof.Rows.eq_bool (fin_bl I q dec_bl)
theorem op_neK : OpR X (compareOp .NotEq) rNeK := by
  intro pins s σ H x y v u Q I rx ry h
  obtain ⟨hs, q⟩ := h
  cases kin_is hs with
  | int i j => obtain ⟨t, rfl⟩ := rx; obtain ⟨t', rfl⟩ := ry; exact PyProof.Rows.ne_int (fin_bl I q (congrArg not dec_int))
  | str i j => obtain ⟨t, rfl⟩ := rx; obtain ⟨t', rfl⟩ := ry; exact PyProof.Rows.ne_str (fin_bl I q (congrArg not dec_str))
  | bl i j => cases rx; cases ry; exact PyProof.Rows.ne_bool (fin_bl I q (congrArg not dec_bl))
inductive KinD : D → D → Prop
  | int (i j : Int) : KinD (.int i) (.int j)
  | str (i j : Str) : KinD (.str i) (.str j)
  | bl (i j : Bool) : KinD (.bl i) (.bl j)
theorem dEqS_kin {x y : D} {Q : B → Prop} (h : dEqS x y Q) : KinD x y := by
  cases x with
  | int i => cases y with
    | int j => exact .int i j
    | _ => exact (show False from h).elim
  | str i => cases y with
    | str j => exact .str i j
    | _ => exact (show False from h).elim
  | bl i => cases y with
    | bl j => exact .bl i j
    | _ => exact (show False from h).elim
  | _ => exact (show False from h).elim
theorem od_eq : OpD X (compareOp .Eq) dEqS := by
  refine ⟨_, op_eqK, fun H G x y dx dy P Q s rx ry hr k => ?_⟩
  cases dEqS_kin hr with
  | int i j => rw [rx.int_inv, ry.int_inv]; exact ⟨rfl, by rw [decV (fun _ _ e => V.int.inj e)]; exact k _ _ H G hr (Wd.refl s) (.bl _)⟩
  | str i j => rw [rx.str_inv, ry.str_inv]; exact ⟨rfl, by rw [decV (fun _ _ e => V.str.inj e)]; exact k _ _ H G hr (Wd.refl s) (.bl _)⟩
  | bl i j => rw [rx.bl_inv, ry.bl_inv]; exact ⟨rfl, by rw [decV (fun _ _ e => V.bl.inj e)]; exact k _ _ H G hr (Wd.refl s) (.bl _)⟩
theorem od_ne : OpD X (compareOp .NotEq) dNeS := by
  refine ⟨_, op_neK, fun H G x y dx dy P Q s rx ry hr k => ?_⟩
  have h0 : dEqS dx dy (fun _ => True) := by
    cases dx with
    | int i => cases dy with
      | int j => trivial
      | _ => exact hr
    | str i => cases dy with
      | str j => trivial
      | _ => exact hr
    | bl i => cases dy with
      | bl j => trivial
      | _ => exact hr
    | _ => exact hr
  cases dEqS_kin h0 with
  | int i j => rw [rx.int_inv, ry.int_inv]; exact ⟨rfl, by rw [decV (fun _ _ e => V.int.inj e)]; exact k _ _ H G hr (Wd.refl s) (.bl _)⟩
  | str i j => rw [rx.str_inv, ry.str_inv]; exact ⟨rfl, by rw [decV (fun _ _ e => V.str.inj e)]; exact k _ _ H G hr (Wd.refl s) (.bl _)⟩
  | bl i j => rw [rx.bl_inv, ry.bl_inv]; exact ⟨rfl, by rw [decV (fun _ _ e => V.bl.inj e)]; exact k _ _ H G hr (Wd.refl s) (.bl _)⟩
def dIsN : D2 := fun x y Q => match y with
  | .non => Q (.p (.bl (match x with | .non => true | _ => false)))
  | _ => False
def dNotN : D2 := fun x y Q => match y with
  | .non => Q (.p (.bl (match x with | .non => false | _ => true)))
  | _ => False
def dUn (r : D → (B → Prop) → Prop) (ta : DT) : DT := fun ρ Q => ta ρ fun x => r x.val Q
def dNeg : D → (B → Prop) → Prop := fun x Q => match x with
  | .int i => Q (.p (.int (-i)))
  | _ => False
set_option tactic.hygienic true in
theorem de_neg (ha : DE X a ta) : DE X (.UnaryOp .USub a pos) (dUn dNeg ta) :=
  DE.of (pe_un un_neg ha.pe)<|by
    rintro σ H Q ⟨G, ρ, P, s, re, h, k⟩
    refine ⟨G, ρ, _, s, re, h, fun b v H1 G1 p1 w1 r1 => ?_⟩
    obtain ⟨G1', w1', r1'⟩ := r1.give w1
    unfold dNeg at p1
    split at p1
    · rename_i i e
      rw [e] at r1'
      cases r1'
      exact ⟨_, rfl, k _ _ H1 G1' p1 w1' (.int _)⟩
    · exact p1.elim
def dNotV (ta : DT) : DT := fun ρ Q => ta ρ fun x => match x.val with
  | .bl c => Q (.p (.bl (!c)))
  | _ => False
theorem bres_bl {K : PySem.W.Frag} {H G H' G' : Hp} {v : V} {b : B} {c : Bool} (w : Wd H G H' G') (r : BRes K H G' H' v b) (e : b.val = .bl c) : v = .bl c := by
  obtain ⟨G1, _, r1⟩ := r.give w
  rw [e] at r1
  exact r1.bl_inv
set_option tactic.hygienic true in
theorem de_not (ha : DE X a ta) : DE X (.UnaryOp .Not a pos) (dNotV ta) :=
  DE.of (pe_not ha.pe)<|by
    rintro σ H Q ⟨G, ρ, P, s, re, h, k⟩
    refine ⟨G, ρ, _, s, re, h, fun b v H1 G1 p1 w1 r1 => ?_⟩
    split at p1
    · rename_i c e
      exact ⟨c, bres_bl w1 r1 e, k _ _ H1 G1 p1 w1 (.bl _)⟩
    · exact p1.elim
def dAndV (ta tb : DT) : DT := fun ρ Q => ta ρ fun x => match x.val with
  | .bl c => (c = true → tb ρ Q) ∧ (c = false → Q (.p (.bl false)))
  | _ => False
def dOrV (ta tb : DT) : DT := fun ρ Q => ta ρ fun x => match x.val with
  | .bl c => (c = true → Q (.p (.bl true))) ∧ (c = false → tb ρ Q)
  | _ => False
theorem de_one {op} {t : DT} (h : DE X a t) : DE X (.BoolOp op [a] pos) t := ⟨pe_one h.pe⟩
set_option tactic.hygienic true in
theorem de_and {rest : List Expr} (ha : DE X a ta) (hb : DE X (.BoolOp .And (b :: rest) pos) tb) : DE X (.BoolOp .And (a :: b :: rest) pos) (dAndV ta tb) :=
  DE.of (pe_and ha.pe hb.pe)<|by
    rintro σ H Q ⟨G, ρ, P, s, re, h, k⟩
    refine ⟨G, ρ, _, s, re, h, fun b v H1 G1 p1 w1 r1 => ?_⟩
    split at p1
    · rename_i c e
      refine ⟨c, bres_bl w1 r1 e, ?_⟩
      cases c with
      | true => exact iteT ⟨G1, ρ, P, w1.gh, re.mono w1.gg, p1.1 rfl, go_on k w1⟩
      | false => exact iteF (k _ _ H1 G1 (p1.2 rfl) w1 (.bl _))
    · exact p1.elim
def dTst (t : DT) : DTT := fun ρ P => t ρ fun x => match x.val with
  | .bl c => P c
  | _ => False
set_option tactic.hygienic true in
theorem dt_cmp {op : CmpOp} {r : D2} (ho : OpD X (compareOp op) r) (ha : DE X a ta) (hb : DE X b tb) (hm : behindInMarks op b = false) : DTe X (.Compare a [op] [b] pos) (dTst (dOp r ta tb)) := by
  obtain ⟨rv, h1, h2⟩ := ho
  refine DTe.of (pt_cmpR h1 ha.pe hb.pe hm) ?_
  rintro σ H Q ⟨G, ρ, P, s, re, h, k⟩
  refine cE_two h2 σ H _ ⟨G, ρ, _, s, re, h, fun b v H1 G1 p1 w1 r1 => ?_⟩
  split at p1
  · rename_i c e
    exact ⟨c, bres_bl w1 r1 e, k _ H1 G1 p1 w1⟩
  · exact p1.elim
set_option tactic.hygienic true in
theorem dt_val (ha : DE X a ta) (he : ∀ whole, isTrue a X.env whole = (do let v ← whole; standAt a.pos; holding [v] (truthy v)) := by intro _; rfl) : DTe X a (dTst ta) :=
  DTe.of (pt_val ha.pe he)<|by
    rintro σ H Q ⟨G, ρ, P, s, re, h, k⟩
    refine ⟨G, ρ, _, s, re, h, fun b v H1 G1 p1 w1 r1 => ?_⟩
    split at p1
    · rename_i c e
      exact ⟨c, bres_bl w1 r1 e, k _ H1 G1 p1 w1⟩
    · exact p1.elim
def dNot (t : DTT) : DTT := fun ρ P => t ρ fun c => P (!c)
theorem dt_not {t : DTT} (ha : DTe X a t) : DTe X (.UnaryOp .Not a pos) (dNot t) :=
  DTe.of (pt_not ha.pt) (by rintro σ H Q ⟨G, ρ, P, s, re, h, k⟩;exact ⟨G, ρ, _, s, re, h, fun b H1 G1 p1 w1 => k _ H1 G1 p1 w1⟩)
def dAnd (t u : DTT) : DTT := fun ρ P => t ρ fun c => (c = true → u ρ P) ∧ (c = false → P false)
def dOr (t u : DTT) : DTT := fun ρ P => t ρ fun c => (c = true → P true) ∧ (c = false → u ρ P)
theorem go_onT {K : PySem.W.Frag} {H G H1 G1 : Hp} {P : Bool → Prop} {Q : Bool → Hp → Prop} (k : ∀ b H' G', P b → Wd H G H' G' → Q b H') (w : Wd H G H1 G1) : ∀ b H' G', P b → Wd H1 G1 H' G' → Q b H' :=
  fun b H' G' p w' => k b H' G' p (w.trans w')
theorem cT_and {K : PySem.W.Frag} {t u : DTT} (σ : St) (H : Hp) (Q : Bool → Hp → Prop) : cT K (dAnd t u) σ H Q → tAnd (cT K t) (cT K u) σ H Q := by
  rintro ⟨G, ρ, P, s, re, h, k⟩
  refine ⟨G, ρ, _, s, re, h, fun c H1 G1 p1 w1 => ?_⟩
  cases c with
  | true => exact iteT ⟨G1, ρ, P, w1.gh, re.mono w1.gg, p1.1 rfl, go_onT (K := K) k w1⟩
  | false => exact iteF (k _ H1 G1 (p1.2 rfl) w1)
theorem cT_or {K : PySem.W.Frag} {t u : DTT} (σ : St) (H : Hp) (Q : Bool → Hp → Prop) : cT K (dOr t u) σ H Q → tOr (cT K t) (cT K u) σ H Q := by
  rintro ⟨G, ρ, P, s, re, h, k⟩
  refine ⟨G, ρ, _, s, re, h, fun c H1 G1 p1 w1 => ?_⟩
  cases c with
  | true => exact iteT (k _ H1 G1 (p1.1 rfl) w1)
  | false => exact iteF ⟨G1, ρ, P, w1.gh, re.mono w1.gg, p1.2 rfl, go_onT (K := K) k w1⟩
end
end DL
namespace DL
open PySem L2
section
variable {X : Cx} {a b c e : Expr} {ta tb tc te : DT} {pos : Pos} {es : List Expr}
def dIfE (t : DTT) (ta tb : DT) : DT := fun ρ Q => t ρ fun c => (c = true → ta ρ Q) ∧ (c = false → tb ρ Q)
def dChain (r r' : D2) (ta tb tc : DT) : DT := fun ρ Q => ta ρ fun x => tb ρ fun y => r x.val y.val fun z => match z.val with
  | .bl c => (c = true → tc ρ fun w => r' y.val w.val Q) ∧ (c = false → Q (.p (.bl false)))
  | _ => False
theorem dw_and1 {t : DTT} (ha : DTe X a t) : DW X (.BoolOp .And [a] pos) t := ⟨pw_and1 ha.pt⟩
theorem dw_or1 {t : DTT} (ha : DTe X a t) : DW X (.BoolOp .Or [a] pos) t := ⟨pw_or1 ha.pt⟩
theorem dw_and {t u : DTT} {rest : List Expr} (ha : DTe X a t) (hb : DW X (.BoolOp .And (b :: rest) pos) u) : DW X (.BoolOp .And (a :: b :: rest) pos) (dAnd t u) := DW.of (pw_and ha.pt hb.pw) cT_and
theorem dw_or {t u : DTT} {rest : List Expr} (ha : DTe X a t) (hb : DW X (.BoolOp .Or (b :: rest) pos) u) : DW X (.BoolOp .Or (a :: b :: rest) pos) (dOr t u) := DW.of (pw_or ha.pt hb.pw) cT_or
theorem DW.dt {t : DTT} (h : DW X e t) : DTe X e t := ⟨PW.pt h.pw⟩
def dNil : DTA := fun _ P => P []
def dCons (te : DT) (t : DTA) : DTA := fun ρ P => te ρ fun b => t ρ fun ds => P (b.val :: ds)
theorem da_nil : DA X [] dNil := DA.of pa_nil fun σ H Q ⟨G, ρ, P, s, re, h, k⟩ => k [] [] H G h rfl (Wd.refl s) .nil
theorem da_cons {t : DTA} (ha : DE X e te) (hr : DA X es t) (hs : starEach (e :: es) X.env = (false, eval e X.env) :: starEach es X.env := by rfl) : DA X (e :: es) (dCons te t) :=
  DA.of (pa_cons ha.pe hr.pa hs)<|by
    rintro σ H Q ⟨G, ρ, P, s, re, h, k⟩
    refine ⟨G, ρ, _, s, re, h, fun b v H1 G1 p1 w1 r1 => ?_⟩
    obtain ⟨G1', w1', r1'⟩ := r1.give w1
    refine ⟨G1', ρ, _, w1'.gh, re.mono w1'.gg, p1, fun ds vs H2 G2 p2 l2 w2 r2 => ?_⟩
    exact k _ _ H2 G2 p2 (by show ds.length + 1 = es.length + 1; rw [l2]) (w1'.trans w2) (.cons (r1'.mono w2.gg) r2)
def dTup (t : DTA) : DT := fun ρ Q => t ρ fun ds => Q (.p (.tup ds))
def dLst (t : DTA) : DT := fun ρ Q => t ρ fun ds => Q (.o (.lst ds))
theorem own_new {K : PySem.W.Frag} {H G H1 G1 : Hp} {vs : List V} {ds : List D} {p : Addr} (w : Wd H G H1 G1) (hp : H1 p = none) (r : Reps K G1 vs ds) : Wd H G (upd H1 p (.lst vs)) G1 ∧ BRes K H G1 (upd H1 p (.lst vs)) (.ref p) (.o (.lst ds)) :=
  ⟨w.own (w.hh.free hp) (w.gh.free hp), p, rfl, w.hh.free hp, w.gh.free hp, vs, upd_same, r⟩
theorem tup_new {K : PySem.W.Frag} {H G H1 G1 : Hp} {vs : List V} {ds : List D} {p : Addr} (w : Wd H G H1 G1) (hp : H1 p = none) (r : Reps K G1 vs ds) : Wd H G (upd H1 p (.tup vs)) (upd G1 p (.tup vs)) ∧ BRes K H (upd G1 p (.tup vs)) (upd H1 p (.tup vs)) (.ref p) (.p (.tup ds)) :=
  ⟨w.new hp, Rep.tup' upd_same (Reps.mono (same_new (w.gh.free hp)) r)⟩
theorem de_tup {t : DTA} {x1} (h : DA X es t) (hn : es.length ≤ 1000 := by exact Nat.le_of_ble_eq_true rfl) : DE X (.Tuple es x1 pos) (dTup t) :=
  DE.of (pe_tup h.pa)<|by
    rintro σ H Q ⟨G, ρ, P, s, re, h, k⟩
    refine ⟨G, ρ, _, s, re, h, fun ds vs H1 G1 p1 l1 w1 r1 => ⟨small_len (by rw [Paired.length r1, l1]; exact hn), fun p hp => ?_⟩⟩
    obtain ⟨w2, r2⟩ := tup_new w1 hp r1
    exact k _ _ _ _ p1 w2 r2
theorem de_lst {t : DTA} (h : DA X es t) (hn : es.length ≤ 1000 := by exact Nat.le_of_ble_eq_true rfl) : DE X (.List es pos) (dLst t) :=
  DE.of (pe_lst h.pa)<|by
    rintro σ H Q ⟨G, ρ, P, s, re, h, k⟩
    refine ⟨G, ρ, _, s, re, h, fun ds vs H1 G1 p1 l1 w1 r1 => ⟨small_len (by rw [Paired.length r1, l1]; exact hn), fun p hp => ?_⟩⟩
    obtain ⟨w2, r2⟩ := own_new w1 hp r1
    exact k _ _ _ _ p1 w2 r2
abbrev DR := List D → (B → Prop) → Prop
def spD (K : PySem.W.Frag) (R : DR) : Sp := fun vs H Q _ => ∃ (ds : List D) (G : Hp) (P : B → Prop), Same G H ∧ Reps K G vs ds ∧ R ds P ∧ ∀ b v H' G', P b → Wd H G H' G' → BRes K H G' H' v b → Q v H'
abbrev FnD (P : Program) (w : World) (K : PySem.W.Frag) (mg : Str → Option Value) (base : Heap) (x : Str) (k : Nat) (ps : List Str) (R : DR) : Prop := Fn P w K mg base x k ps (spD K R)
def dCall (R : DR) (t : DTA) : DT := fun ρ Q => t ρ fun ds => R ds Q
theorem de_fn {x : Str} {k : Nat} {ps : List Str} {R : DR} {p : Pos} {t : DTA} (F : FnD X.prog X.w X.K X.mg X.base x k ps R) (hr : Room k X.A) (hg : Gl X x) (ha : DA X (e :: es) t)
    (hdb : (x == ("__debug__" : Str)) = false := by decide) (he : starEach (e :: es) X.env = (false, eval e X.env) :: starEach es X.env := by rfl) (hpl : (backTo pos (starEach es X.env)).any (·.1) = false := by rfl) :
    DE X (.Call (.Name x p) (e :: es) [] pos) (dCall R t) :=
  DE.of (pe_fn F hr hg ha.pa hdb he hpl)<|by
    rintro σ H Q ⟨G, ρ, P, s, re, h, k⟩
    refine ⟨G, ρ, _, s, re, h, fun ds vs H1 G1 p1 l1 w1 r1 => ?_⟩
    show spD X.K R (vs ++ []) H1 Q E0
    rw [List.append_nil]
    exact ⟨ds, G1, P, w1.gh, r1, p1, go_on k w1⟩
def CallD (X : Cx) (f : Value) (r : DR) : Prop := ∃ rv, CallR X f rv ∧ ∀ (H G : Hp) (vs : List V) (ds : List D) (P : B → Prop) (Q : VK), Same G H → Reps X.K G vs ds → r ds P → (∀ b v H' G', P b → Wd H G H' G' → BRes X.K H G' H' v b → Q v H') → rv vs H Q
def dCB (r : DR) (t : DTA) : DT := fun ρ Q => t ρ fun ds => r ds Q
theorem cE_cb {K : PySem.W.Frag} {n : Nat} {t : DTA} {r : DR} {rv : List V → Hp → VK → Prop} (hr : ∀ (H G : Hp) (vs : List V) (ds : List D) (P : B → Prop) (Q : VK), Same G H → Reps K G vs ds → r ds P → (∀ b v H' G', P b → Wd H G H' G' → BRes K H G' H' v b → Q v H') → rv vs H Q)
    (σ : St) (H : Hp) (Q : VK) : cE K (dCB r t) σ H Q → tCB rv (cA K n t) σ H Q := by
  rintro ⟨G, ρ, P, s, re, h, k⟩
  exact ⟨G, ρ, _, s, re, h, fun ds vs H1 G1 p1 l1 w1 r1 => hr H1 G1 vs ds P Q w1.gh r1 p1 (go_on k w1)⟩
theorem de_callB {id : String} {x : Str} {p : Pos} {t : DTA} {r : DR} (hc : CallD X (.builtin id) r) (hg : Gl X x) (hm : X.mg x = none) (hv : bootBuiltins x = some (.builtin id)) (ha : DA X (e :: es) t) (hn : x ≠ "__name__" := by decide) (hdb : (x == ("__debug__" : Str)) = false := by decide)
    (he : starEach (e :: es) X.env = (false, eval e X.env) :: starEach es X.env := by rfl) (hpl : (backTo pos (starEach es X.env)).any (·.1) = false := by rfl) : DE X (.Call (.Name x p) (e :: es) [] pos) (dCB r t) := by
  obtain ⟨rv, h1, h2⟩ := hc
  exact DE.of (pe_callB h1 hg hm hv ha.pa hn hdb he hpl) (cE_cb h2)
theorem de_callTy {T : String} {x : Str} {p : Pos} {t : DTA} {r : DR} (hc : CallD X (.type T) r) (hg : Gl X x) (hm : X.mg x = none) (hv : bootBuiltins x = some (.type T)) (ha : DA X (e :: es) t) (hn : x ≠ "__name__" := by decide) (hdb : (x == ("__debug__" : Str)) = false := by decide)
    (he : starEach (e :: es) X.env = (false, eval e X.env) :: starEach es X.env := by rfl) (hpl : (backTo pos (starEach es X.env)).any (·.1) = false := by rfl) : DE X (.Call (.Name x p) (e :: es) [] pos) (dCB r t) := by
  obtain ⟨rv, h1, h2⟩ := hc
  exact DE.of (pe_callTy h1 hg hm hv ha.pa hn hdb he hpl) (cE_cb h2)
theorem reps1 {K : PySem.W.Frag} {G : Hp} {vs : List V} {d : D} (h : Reps K G vs [d]) : ∃ v, vs = [v] ∧ Rep K G v d := by
  cases h with | cons h t => cases t; exact ⟨_, rfl, h⟩
theorem reps2 {K : PySem.W.Frag} {G : Hp} {vs : List V} {d d' : D} (h : Reps K G vs [d, d']) : ∃ v v', vs = [v, v'] ∧ Rep K G v d ∧ Rep K G v' d' := by
  cases h with | cons h t => obtain ⟨v', rfl, h'⟩ := reps1 t; exact ⟨_, _, rfl, h, h'⟩
theorem reps_ints {K : PySem.W.Frag} {G : Hp} : ∀ {ns : List Int} {vs : List V}, Reps K G vs (ns.map D.int) → vs = ns.map V.int
  | [], _, h => by cases h; rfl
  | n :: ns, _, h => by cases h with | cons h t => rw [h.int_inv, reps_ints t]; rfl
theorem ints_reps {K : PySem.W.Frag} {G : Hp} : ∀ (ns : List Int), Reps K G (ns.map V.int) (ns.map D.int)
  | [] => .nil
  | n :: ns => .cons (.int n) (ints_reps ns)
def dLen : DR := fun ds P => match ds with
  | [.lst xs] => P (.p (.int xs.length))
  | [.tup xs] => P (.p (.int xs.length))
  | [.scr ns] => P (.p (.int ns.length))
  | [.str x] => x.length ≤ sizeLine ∧ P (.p (.int x.length))
  | _ => False
theorem cd_len : CallD X (.builtin "len") dLen := by
  refine ⟨_, call_lenK, fun H G vs ds P Q s r h k => ?_⟩
  cases r with
  | nil => exact (show False from h).elim
  | cons r1 rt => cases rt with
    | cons _ _ => cases r1 <;> exact (show False from h).elim
    | nil => cases r1 with
      | @lst a us xs e l rr => exact ⟨_, us.length, rfl, .inl ⟨us, SqL.of (s _ _ e), rfl⟩, by rw [l]; exact k _ _ H G h (Wd.refl s) (.int _)⟩
      | @tup a us xs e l rr => exact ⟨_, us.length, rfl, .inr ⟨us, same_seqT s (.inl (.inl e)), rfl⟩, by rw [l]; exact k _ _ H G h (Wd.refl s) (.int _)⟩
      | @scr a ns e => exact ⟨_, ns.length, rfl, .inl ⟨_, s.seq e, by simp⟩, k _ _ H G h (Wd.refl s) (.int _)⟩
      | str x => exact ⟨_, x.length, rfl, ⟨h.1, rfl⟩, k _ _ H G h.2 (Wd.refl s) (.int _)⟩
      | _ => exact (show False from h).elim
def dSum : DR := fun ds P => match ds with
  | [.lst xs] => ∃ ns : List Int, xs = ns.map D.int ∧ P (.p (.int ns.sum))
  | _ => False
def dII (g : Int → Int → Int) : DR := fun ds P => match ds with
  | [.int i, .int j] => P (.p (.int (g i j)))
  | _ => False
theorem cd_II {f : Value} {g : Int → Int → Int} (h : CallR X f (fun xs H Q => ∃ i j, xs = [.int i, .int j] ∧ Q (.int (g i j)) H)) : CallD X f (dII g) := by
  refine ⟨_, h, fun H G vs ds P Q s r h k => ?_⟩
  obtain ⟨i, j, rfl, h⟩ : ∃ i j, ds = [.int i, .int j] ∧ P (.p (.int (g i j))) := by
    unfold dII at h
    split at h
    · exact ⟨_, _, rfl, h⟩
    · exact h.elim
  obtain ⟨v, v', rfl, r1, r2⟩ := reps2 r
  rw [r1.int_inv, r2.int_inv]
  exact ⟨_, _, rfl, k _ _ H G h (Wd.refl s) (.int _)⟩
theorem cd_max2 (hc : X.calm = true) : CallD X (.builtin "max") (dII fun i j => if j > i then j else i) := cd_II (call_max2 hc)
theorem cd_min2 (hc : X.calm = true) : CallD X (.builtin "min") (dII fun i j => if j < i then j else i) := cd_II (call_min2 hc)
def dAbs : DR := fun ds P => match ds with
  | [.int i] => P (.p (.int (if i < 0 then -i else i)))
  | _ => False
def dInt : DR := fun ds P => match ds with
  | [.int i] => P (.p (.int i))
  | [.bl c] => P (.p (.int (if c then 1 else 0)))
  | _ => False
theorem cd_int : CallD X (.type "int") dInt := by
  refine ⟨_, call_int1, fun H G vs ds P Q s r h k => ?_⟩
  cases r with
  | nil => exact (show False from h).elim
  | cons r1 rt => cases rt with
    | cons _ _ => cases r1 <;> exact (show False from h).elim
    | nil => cases r1 with
      | int i => exact .inl ⟨_, rfl, k _ _ H G h (Wd.refl s) (.int _)⟩
      | bl c => exact .inr ⟨_, rfl, k _ _ H G h (Wd.refl s) (.int _)⟩
      | _ => exact (show False from h).elim
def dCopy : DR := fun ds P => match ds with
  | [.lst xs] => P (.o (.lst xs))
  | [.tup xs] => P (.o (.lst xs))
  | [.scr ns] => P (.o (.lst (ns.map D.int)))
  | _ => False
def tyD : D → String
  | .non => "NoneType"
  | .bl _ => "bool"
  | .int _ => "int"
  | .str _ => "str"
  | .tup _ => "tuple"
  | .lst _ => "list"
  | .scr _ => "list"
  | .dct _ => "dict"
  | .sen _ => "dict"
  | .ext _ => "dict"
def isD (T : String) (d : D) : Bool := match T with
  | "int" => (match d with | .int _ => true | .bl _ => true | _ => false)
  | "bool" => (match d with | .bl _ => true | _ => false)
  | "str" => (match d with | .str _ => true | _ => false)
  | "tuple" => (match d with | .tup _ => true | _ => false)
  | "list" => (match d with | .lst _ => true | .scr _ => true | _ => false)
  | _ => false
def dIx : D2 := fun x y Q => match x, y with
  | .lst xs, .int i => ∃ d, atI xs i = some d ∧ Q (.p d)
  | .tup xs, .int i => ∃ d, atI xs i = some d ∧ Q (.p d)
  | .scr ns, .int i => ∃ n, atI ns i = some n ∧ Q (.p (.int n))
  | .str z, .int i => ∃ c, z.length ≤ sizeLine ∧ atI z.cps.toList i = some c ∧ Q (.p (.str ⟨#[c]⟩))
  | _, _ => False
theorem atI_rep {K : PySem.W.Frag} {G : Hp} {vs : List V} {ds : List D} {i : Int} {d : D} (r : Reps K G vs ds) (h : atI ds i = some d) : ∃ v, atI vs i = some v ∧ Rep K G v d := by
  unfold atI at *
  rw [Paired.length r]
  cases e : ixN ds.length i with
  | none => rw [e] at h; cases h
  | some j =>
    rw [e] at h
    exact paired_get' r h
theorem atI_map {α β : Type} (f : α → β) {xs : List α} {i : Int} {x : α} (h : atI xs i = some x) : atI (xs.map f) i = some (f x) := by
  unfold atI at *
  rw [List.length_map]
  cases e : ixN xs.length i with
  | none => rw [e] at h; cases h
  | some j =>
    rw [e] at h
    have h' : xs[j]? = some x := h
    show (xs.map f)[j]? = _
    rw [List.getElem?_map, h']
    rfl
inductive IxC : D → D → (B → Prop) → Prop
  | lst {xs : List D} {i : Int} {d : D} {Q : B → Prop} (h1 : atI xs i = some d) (h2 : Q (.p d)) : IxC (.lst xs) (.int i) Q
  | tup {xs : List D} {i : Int} {d : D} {Q : B → Prop} (h1 : atI xs i = some d) (h2 : Q (.p d)) : IxC (.tup xs) (.int i) Q
  | scr {ns : List Int} {i n : Int} {Q : B → Prop} (h1 : atI ns i = some n) (h2 : Q (.p (.int n))) : IxC (.scr ns) (.int i) Q
  | str {z : Str} {i : Int} {c : Nat} {Q : B → Prop} (h0 : z.length ≤ sizeLine) (h1 : atI z.cps.toList i = some c) (h2 : Q (.p (.str ⟨#[c]⟩))) : IxC (.str z) (.int i) Q
theorem ix_c {x y : D} {Q : B → Prop} (h : dIx x y Q) : IxC x y Q := by
  cases x with
  | lst xs => cases y with
    | int i => obtain ⟨d, h1, h2⟩ := h; exact .lst h1 h2
    | _ => exact (show False from h).elim
  | tup xs => cases y with
    | int i => obtain ⟨d, h1, h2⟩ := h; exact .tup h1 h2
    | _ => exact (show False from h).elim
  | scr xs => cases y with
    | int i => obtain ⟨d, h1, h2⟩ := h; exact .scr h1 h2
    | _ => exact (show False from h).elim
  | str xs => cases y with
    | int i => obtain ⟨c, h0, h1, h2⟩ := h; exact .str h0 h1 h2
    | _ => exact (show False from h).elim
  | _ => exact (show False from h).elim
theorem de_ix (ha : DE X a ta) (hb : DE X b tb) (hs : PlainIx b := by exact fun _ _ => rfl) : DE X (.Subscript a b pos) (dOp dIx ta tb) :=
  DE.of (pe_ix ix_seq ha.pe hb.pe hs) (cE_two fun H G x y dx dy P Q s rx ry h k => by
    cases ix_c h with
    | lst h1 h2 =>
      obtain ⟨a, us, rfl, e, rr⟩ := rx.lst_inv
      obtain ⟨v, h3, h4⟩ := atI_rep rr h1
      rw [ry.int_inv]
      exact .inl ⟨a, us, _, v, rfl, rfl, SqL.of (s _ _ e), h3, k _ _ H G h2 (Wd.refl s) h4⟩
    | tup h1 h2 =>
      obtain ⟨a, us, rfl, e, rr⟩ := rx.tup_inv
      obtain ⟨v, h3, h4⟩ := atI_rep rr h1
      rw [ry.int_inv]
      exact .inr (.inl ⟨a, us, _, v, rfl, rfl, same_seqT s e, h3, k _ _ H G h2 (Wd.refl s) h4⟩)
    | @scr ns i n _ h1 h2 =>
      rw [ry.int_inv]
      cases rx with
      | scr e => exact .inl ⟨_, _, _, .int n, rfl, rfl, s.seq e, atI_map _ h1, k _ _ H G h2 (Wd.refl s) (.int _)⟩
    | @str z i c _ h0 h1 h2 =>
      rw [rx.str_inv, ry.int_inv]
      exact .inr (.inr ⟨_, _, c, rfl, rfl, h0, h1, k _ _ H G h2 (Wd.refl s) (.str _)⟩))
abbrev DTO := DEnv → (Option Int → Prop) → Prop
def cO (K : PySem.W.Frag) (t : DTO) : TO := fun σ H Q => ∃ (G : Hp) (ρ : DEnv) (P : Option Int → Prop), Same G H ∧ RepE K G σ ρ ∧ t ρ P ∧ ∀ o H' G', P o → Wd H G H' G' → Q o H'
structure DO (X : Cx) (e : Option Expr) (t : DTO) : Prop where
  po : PO X e (cO X.K t)
def dNoPart : DTO := fun _ P => P none
def dPart (t : DT) : DTO := fun ρ P => t ρ fun b => match b.val with
  | .int i => P (some i)
  | _ => False
theorem bres_int {K : PySem.W.Frag} {H G H' G' : Hp} {v : V} {b : B} {c : Int} (w : Wd H G H' G') (r : BRes K H G' H' v b) (e : b.val = .int c) : v = .int c := by
  obtain ⟨G1, _, r1⟩ := r.give w
  rw [e] at r1
  exact r1.int_inv
theorem PO.imp {e : Option Expr} {t t' : TO} (h : PO X e t) (i : ∀ σ H Q, t' σ H Q → t σ H Q) : PO X e t' := fun pins s σ H Q I q => h pins s σ H Q I (i σ H Q q)
theorem DO.of {e : Option Expr} {t : TO} {t' : DTO} (h : PO X e t) (i : ∀ σ H Q, cO X.K t' σ H Q → t σ H Q) : DO X e t' := ⟨PO.imp h i⟩
set_option tactic.hygienic true in
theorem do_some (he : DE X e te) : DO X (some e) (dPart te) := DO.of (po_some he.pe)<|by
  rintro σ H Q ⟨G, ρ, P, s, re, h, k⟩
  refine ⟨G, ρ, _, s, re, h, fun b v H1 G1 p1 w1 r1 => ?_⟩
  split at p1
  · rename_i i e
    exact ⟨i, bres_int w1 r1 e, k _ H1 G1 p1 w1⟩
  · exact p1.elim
def cutL {α : Type} (xs : List α) (lo hi : Option Int) : List α := (xs.drop (HT.sIx xs.length 0 lo)).take (HT.sIx xs.length xs.length hi - HT.sIx xs.length 0 lo)
theorem paired_drop {α β : Type} {F : α → β → Prop} : ∀ {l : List α} {r : List β} (n : Nat), Paired F l r → Paired F (l.drop n) (r.drop n)
  | _, _, 0, h => h
  | _, _, n + 1, .nil => by rw [List.drop_nil, List.drop_nil]; exact .nil
  | _, _, n + 1, .cons _ t => paired_drop n t
theorem paired_take {α β : Type} {F : α → β → Prop} : ∀ {l : List α} {r : List β} (n : Nat), Paired F l r → Paired F (l.take n) (r.take n)
  | _, _, 0, h => by rw [List.take_zero, List.take_zero]; exact .nil
  | _, _, n + 1, .nil => by rw [List.take_nil, List.take_nil]; exact .nil
  | _, _, n + 1, .cons h t => .cons h (paired_take n t)
theorem reps_cut {K : PySem.W.Frag} {G : Hp} {vs : List V} {ds : List D} (r : Reps K G vs ds) (lo hi : Option Int) : Reps K G (cutV vs lo hi) (cutL ds lo hi) := by
  unfold cutV cutL
  rw [Paired.length r]
  exact paired_take _ (paired_drop _ r)
def dSl (te : DT) (tl th : DTO) : DT := fun ρ Q => te ρ fun b => tl ρ fun lo => th ρ fun hi => match b.val with
  | .lst xs => Q (.o (.lst (cutL xs lo hi)))
  | .scr ns => Q (.o (.lst ((cutL ns lo hi).map D.int)))
  | .tup xs => ¬ (HT.sIx xs.length 0 lo = 0 ∧ HT.sIx xs.length xs.length hi = xs.length) ∧ Q (.p (.tup (cutL xs lo hi)))
  | _ => False
theorem cutV_map {α : Type} (f : α → V) (xs : List α) (lo hi : Option Int) : cutV (xs.map f) lo hi = (cutL xs lo hi).map f := by
  unfold cutV cutL
  rw [List.length_map, List.map_take, List.map_drop]
set_option tactic.hygienic true in
theorem de_slice {lo hi : Option Expr} {tl th : DTO} {p2 : Pos} (he : DE X e te) (hl : DO X lo tl) (hu : DO X hi th) : DE X (.Subscript e (.Slice lo hi none p2) pos) (dSl te tl th) :=
  DE.of (pe_slice (sl_list.or sl_tup) he.pe hl.po hu.po)<|by
    rintro σ H Q ⟨G, ρ, P, s, re, h, k⟩
    refine ⟨G, ρ, _, s, re, h, fun b v H1 G1 p1 w1 r1 => ?_⟩
    obtain ⟨G1', w1', r1'⟩ := r1.give w1
    refine ⟨G1', ρ, _, w1'.gh, re.mono w1'.gg, p1, fun l H2 G2 p2 w2 => ?_⟩
    have w12 := w1'.trans w2
    refine ⟨G2, ρ, _, w2.gh, re.mono w12.gg, p2, fun u H3 G3 p3 w3 => ?_⟩
    have w13 := w12.trans w3
    have r3 := r1'.mono (w2.trans w3).gg
    split at p3
    · rename_i xs e
      rw [e] at r3
      obtain ⟨a, us, rfl, e, rr⟩ := r3.lst_inv
      refine .inl ⟨a, us, rfl, SqL.of (w3.gh _ _ e), fun p hp => ?_⟩
      obtain ⟨w4, r4⟩ := own_new w13 hp (reps_cut rr l u)
      exact k _ _ _ _ p3 w4 r4
    · rename_i ns e
      rw [e] at r3
      cases r3 with
      | scr e =>
        refine .inl ⟨_, _, rfl, w3.gh.seq e, fun p hp => ?_⟩
        rw [cutV_map]
        obtain ⟨w4, r4⟩ := own_new w13 hp (ints_reps (K := X.K) (cutL ns l u))
        exact k _ _ _ _ p3 w4 r4
    · rename_i xs e
      rw [e] at r3
      obtain ⟨a, us, rfl, e, rr⟩ := r3.tup_inv
      refine .inr ⟨a, us, rfl, same_seqT w3.gh e, by rw [Paired.length rr]; exact p3.1, fun p hp => ?_⟩
      obtain ⟨w4, r4⟩ := tup_new w13 hp (reps_cut rr l u)
      exact k _ _ _ _ p3.2 w4 r4
    · exact p3.elim
def dSlS (te : DT) (tl th ts : DTO) : DT := fun ρ Q => te ρ fun b => tl ρ fun lo => th ρ fun hi => ts ρ fun st => st ≠ some 0 ∧ match b.val with
  | .lst xs => Q (.o (.lst (stepV xs lo hi st)))
  | .scr ns => Q (.o (.lst ((stepV ns lo hi st).map D.int)))
  | _ => False
def dAdd : D2 := fun x y Q => match x, y with
  | .int i, .int j => Q (.p (.int (i + j)))
  | .lst xs, .lst ys => xs.length + ys.length ≤ sizeLine ∧ Q (.o (.lst (xs ++ ys)))
  | .str x, .str y => x.length + y.length ≤ sizeLine ∧ Q (.p (.str (x ++ y)))
  | .tup xs, .tup ys => xs ≠ [] ∧ ys ≠ [] ∧ xs.length + ys.length ≤ sizeLine ∧ Q (.p (.tup (xs ++ ys)))
  | _, _ => False
theorem OpR.or {f : Value → Value → Sem Value} {r r' : R2} (h : OpR X f r) (h' : OpR X f r') : OpR X f (fun x y H Q => r x y H Q ∨ r' x y H Q) := by
  intro pins s σ H x y v u Q I rx ry q
  rcases q with q | q
  · exact h pins s σ H x y v u Q I rx ry q
  · exact h' pins s σ H x y v u Q I rx ry q
theorem paired_app {α β : Type} {F : α → β → Prop} : ∀ {l l' : List α} {r r' : List β}, Paired F l r → Paired F l' r' → Paired F (l ++ l') (r ++ r')
  | _, _, _, _, .nil, h => h
  | _, _, _, _, .cons h t, h' => .cons h (paired_app t h')
inductive AddC : D → D → (B → Prop) → Prop
  | int {i j : Int} {Q : B → Prop} (h : Q (.p (.int (i + j)))) : AddC (.int i) (.int j) Q
  | lst {xs ys : List D} {Q : B → Prop} (h1 : xs.length + ys.length ≤ sizeLine) (h2 : Q (.o (.lst (xs ++ ys)))) : AddC (.lst xs) (.lst ys) Q
  | str {x y : Str} {Q : B → Prop} (h1 : x.length + y.length ≤ sizeLine) (h2 : Q (.p (.str (x ++ y)))) : AddC (.str x) (.str y) Q
  | tup {xs ys : List D} {Q : B → Prop} (h1 : xs ≠ []) (h2 : ys ≠ []) (h3 : xs.length + ys.length ≤ sizeLine) (h4 : Q (.p (.tup (xs ++ ys)))) : AddC (.tup xs) (.tup ys) Q
theorem add_c {x y : D} {Q : B → Prop} (h : dAdd x y Q) : AddC x y Q := by
  cases x with
  | int i => cases y with
    | int j => exact .int h
    | _ => exact (show False from h).elim
  | lst xs => cases y with
    | lst ys => exact .lst h.1 h.2
    | _ => exact (show False from h).elim
  | str x => cases y with
    | str y => exact .str h.1 h.2
    | _ => exact (show False from h).elim
  | tup xs => cases y with
    | tup ys => exact .tup h.1 h.2.1 h.2.2.1 h.2.2.2
    | _ => exact (show False from h).elim
  | _ => exact (show False from h).elim
theorem od_plus : OpD X (binaryOp .Add) dAdd := by
  refine ⟨_, op_add.or (op_cat.or (op_add_str.or op_catT)), fun H G x y dx dy P Q s rx ry h k => ?_⟩
  cases add_c h with
  | int h =>
    rw [rx.int_inv, ry.int_inv]
    exact .inl ⟨_, _, rfl, rfl, k _ _ H G h (Wd.refl s) (.int _)⟩
  | lst h1 h2 =>
    obtain ⟨a, us, rfl, e, rr⟩ := rx.lst_inv
    obtain ⟨a', us', rfl, e', rr'⟩ := ry.lst_inv
    refine .inr (.inl ⟨a, a', us, us', rfl, rfl, s _ _ e, s _ _ e', by rw [Paired.length rr, Paired.length rr']; exact h1, fun p hp => ?_⟩)
    obtain ⟨w2, r2⟩ := own_new (Wd.refl s) hp (paired_app rr rr')
    exact k _ _ _ _ h2 w2 r2
  | str h1 h2 =>
    rw [rx.str_inv, ry.str_inv]
    exact .inr (.inr (.inl ⟨_, _, rfl, rfl, h1, k _ _ H G h2 (Wd.refl s) (.str _)⟩))
  | tup h1 h2 h3 h4 =>
    obtain ⟨a, us, rfl, e, rr⟩ := rx.tup_inv
    obtain ⟨a', us', rfl, e', rr'⟩ := ry.tup_inv
    refine .inr (.inr (.inr ⟨a, a', us, us', rfl, rfl, same_seqT s e, same_seqT s e', fun z => ?_, by rw [Paired.length rr, Paired.length rr']; exact h3, fun z => ?_, fun _ p hp => ?_⟩))
    · subst z; cases rr; exact h1 rfl
    · subst z; cases rr'; exact (h2 rfl).elim
    · obtain ⟨w2, r2⟩ := tup_new (Wd.refl s) hp (paired_app rr rr')
      exact k _ _ _ _ h4 w2 r2
def dMul : D2 := fun x y Q => match x, y with
  | .int i, .int j => CMul i j ∧ Q (.p (.int (i * j)))
  | .lst xs, .int k => (-(2 ^ 63) ≤ k ∧ k < 2 ^ 63) ∧ xs.length * k.toNat ≤ sizeLine ∧ Q (.o (.lst (List.replicate k.toNat xs).flatten))
  | _, _ => False
theorem reps_rep {K : PySem.W.Frag} {G : Hp} {vs : List V} {ds : List D} (r : Reps K G vs ds) : ∀ n : Nat, Reps K G (List.replicate n vs).flatten (List.replicate n ds).flatten
  | 0 => .nil
  | n + 1 => by
    rw [List.replicate_succ, List.replicate_succ, List.flatten_cons, List.flatten_cons]
    exact paired_app r (reps_rep r n)
inductive MulC : D → D → (B → Prop) → Prop
  | int {i j : Int} {Q : B → Prop} (h1 : CMul i j) (h2 : Q (.p (.int (i * j)))) : MulC (.int i) (.int j) Q
  | lst {xs : List D} {k : Int} {Q : B → Prop} (h1 : -(2 ^ 63) ≤ k) (h2 : k < 2 ^ 63) (h3 : xs.length * k.toNat ≤ sizeLine) (h4 : Q (.o (.lst (List.replicate k.toNat xs).flatten))) : MulC (.lst xs) (.int k) Q
theorem mul_c {x y : D} {Q : B → Prop} (h : dMul x y Q) : MulC x y Q := by
  cases x with
  | int i => cases y with
    | int j => exact .int h.1 h.2
    | _ => exact (show False from h).elim
  | lst xs => cases y with
    | int k => exact .lst h.1.1 h.1.2 h.2.1 h.2.2
    | _ => exact (show False from h).elim
  | _ => exact (show False from h).elim
theorem od_times : OpD X (binaryOp .Mult) dMul := by
  refine ⟨_, op_mul.or op_rep, fun H G x y dx dy P Q s rx ry h k => ?_⟩
  cases mul_c h with
  | int h1 h2 =>
    rw [rx.int_inv, ry.int_inv]
    exact .inl ⟨_, _, rfl, rfl, h1, k _ _ H G h2 (Wd.refl s) (.int _)⟩
  | lst h1 h2 h3 h4 =>
    obtain ⟨a, us, rfl, e, rr⟩ := rx.lst_inv
    rw [ry.int_inv]
    refine .inr ⟨a, _, us, rfl, rfl, s _ _ e, h1, h2, by rw [Paired.length rr]; exact h3, fun p hp => ?_⟩
    obtain ⟨w2, r2⟩ := own_new (Wd.refl s) hp (reps_rep rr _)
    exact k _ _ _ _ h4 w2 r2
end
end DL
namespace DL
open PySem L2
mutual
def peq : D → D → Bool
  | .non, .non => true
  | .bl a, .bl b => a == b
  | .bl a, .int b => (if a then 1 else 0) == b
  | .int a, .bl b => a == (if b then 1 else 0)
  | .int a, .int b => a == b
  | .str a, .str b => a == b
  | .tup xs, .tup ys => peqs xs ys
  | .lst xs, .lst ys => peqs xs ys
  | _, _ => false
def peqs : List D → List D → Bool
  | [], [] => true
  | x :: xs, y :: ys => peq x y && peqs xs ys
  | _, _ => false
end
mutual
def dep : D → Nat
  | .tup xs => deps xs + 1
  | .lst xs => deps xs + 1
  | _ => 0
def deps : List D → Nat
  | [] => 0
  | x :: xs => max (dep x) (deps xs)
end
mutual
def nos : D → Bool
  | .tup xs => noss xs
  | .lst xs => noss xs
  | .scr _ => false
  | .dct _ => false
  | .sen _ => false
  | .ext _ => false
  | _ => true
def noss : List D → Bool
  | [] => true
  | x :: xs => nos x && noss xs
end
theorem nos_tup (xs : List D) : nos (.tup xs) = noss xs := by rw [nos]
theorem nos_lst (xs : List D) : nos (.lst xs) = noss xs := by rw [nos]
theorem nos_int (i : Int) : nos (.int i) = true := by unfold nos; rfl
theorem noss_nil : noss [] = true := by rw [noss]
theorem noss_cons (x : D) (xs : List D) : noss (x :: xs) = (nos x && noss xs) := by rw [noss]
theorem dep_tup (xs : List D) : dep (.tup xs) = deps xs + 1 := by rw [dep]
theorem dep_lst (xs : List D) : dep (.lst xs) = deps xs + 1 := by rw [dep]
theorem dep_int (i : Int) : dep (.int i) = 0 := by unfold dep; rfl
theorem deps_nil : deps [] = 0 := by rw [deps]
theorem deps_cons (x : D) (xs : List D) : deps (x :: xs) = max (dep x) (deps xs) := by rw [deps]
theorem deps_get : ∀ {xs : List D} {i : Nat} {x : D}, xs[i]? = some x → dep x ≤ deps xs
  | [], _, _, h => by simp at h
  | y :: xs, 0, x, h => by simp at h; subst h; unfold deps; exact Nat.le_max_left _ _
  | y :: xs, i + 1, x, h => by
    have := deps_get (xs := xs) (i := i) (x := x) (by simpa using h)
    unfold deps
    exact Nat.le_trans this (Nat.le_max_right _ _)
theorem all_succ (n : Nat) (f : Nat → Bool) : (List.range (n + 1)).all f = (f 0 && (List.range n).all fun i => f (i + 1)) := by
  rw [List.range_succ_eq_map, List.all_cons, List.all_map]
  rfl
theorem peqs_all : ∀ (xs ys : List D), peqs xs ys = ((List.range (min xs.length ys.length)).all (fun i => match xs[i]?, ys[i]? with | some x, some y => peq x y | _, _ => true) && xs.length == ys.length)
  | [], [] => by unfold peqs; rfl
  | [], y :: ys => by unfold peqs; simp
  | x :: xs, [] => by unfold peqs; simp
  | x :: xs, y :: ys => by
    unfold peqs
    rw [peqs_all xs ys]
    have : min (x :: xs).length (y :: ys).length = min xs.length ys.length + 1 := by simp only [List.length_cons]; lia
    rw [this, all_succ]
    simp only [List.getElem?_cons_zero, List.getElem?_cons_succ, List.length_cons, Bool.and_assoc]
    congr 2
    simp
def eqAtI (xs ys : List D) (i : Nat) : Bool := match xs[i]?, ys[i]? with | some x, some y => peq x y | _, _ => true
section
variable {X : Cx} {pins : List (Addr × Obj)} {σ : St} {H G : Hp} {s : Shared}
theorem items_eqAt {A : Around} {us us' : List Value} {vs vs' : List V} {ds ds' : List D} (r1 : Vals vs us) (r2 : Vals vs' us') (k1 : Reps X.K G vs ds) (k2 : Reps X.K G vs' ds')
    (ih : ∀ (i : Nat) (d d' : D) (x y : V) (u v : Value), ds[i]? = some d → ds'[i]? = some d' → Rep X.K G x d → Rep X.K G y d' → RelV x u → RelV y v → SeqAt.EqAt A s u v (peq d d')) :
    ∀ j (h1 : j < us.toArray.size) (h2 : j < us'.toArray.size), SeqAt.EqAt A s us.toArray[j] us'.toArray[j] (eqAtI ds ds' j) := fun j q1 q2 => by
  have q1' : j < us.length := by simpa using q1
  have q2' : j < us'.length := by simpa using q2
  have l1 := r1.length
  have l2 := r2.length
  have e1 : vs[j]? = some vs[j] := List.getElem?_eq_getElem (by lia)
  have e2 : vs'[j]? = some vs'[j] := List.getElem?_eq_getElem (by lia)
  obtain ⟨u1, g1, s1⟩ := r1.get e1
  obtain ⟨u2, g2, s2⟩ := r2.get e2
  obtain ⟨d1, f1, t1⟩ := WS.paired_get k1 e1
  obtain ⟨d2, f2, t2⟩ := WS.paired_get k2 e2
  have z1 : us.toArray[j] = u1 := by rw [List.getElem?_eq_getElem q1'] at g1; simpa using Option.some.inj g1
  have z2 : us'.toArray[j] = u2 := by rw [List.getElem?_eq_getElem q2'] at g2; simpa using Option.some.inj g2
  rw [z1, z2]
  unfold eqAtI
  rw [f1, f2]
  exact ih j d1 d2 _ _ _ _ f1 f2 t1 t2 s1 s2
theorem peqs_tup (xs ys : List D) : peqs xs ys = ((List.range (min xs.length ys.length)).all (eqAtI xs ys) && xs.length == ys.length) := peqs_all xs ys
theorem peqs_lst {xs ys : List D} (h : xs.length = ys.length) : peqs xs ys = (List.range xs.length).all (eqAtI xs ys) := by
  rw [peqs_tup, h]
  simp
theorem peqs_len {xs ys : List D} (h : xs.length ≠ ys.length) : peqs xs ys = false := by
  rw [peqs_tup]
  have : (xs.length == ys.length) = false := by simpa using h
  rw [this, Bool.and_false]
theorem sz {vs : List V} {us : List Value} {ds : List D} (r : Vals vs us) (k : Reps X.K G vs ds) : us.toArray.size = ds.length := by
  rw [List.size_toArray, ← r.length, Paired.length k]
mutual
theorem peq_refl : ∀ d : D, nos d = true → peq d d = true
  | .non, _ => by unfold peq; rfl
  | .bl a, _ => by unfold peq; simp
  | .int a, _ => by unfold peq; simp
  | .str a, _ => by unfold peq; simp
  | .tup xs, h => by unfold peq; unfold nos at h; exact peqs_refl' xs h
  | .lst xs, h => by unfold peq; unfold nos at h; exact peqs_refl' xs h
  | .scr _, h => by unfold nos at h; cases h
  | .dct _, h => by unfold nos at h; cases h
  | .sen _, h => by unfold nos at h; cases h
  | .ext _, h => by unfold nos at h; cases h
theorem peqs_refl' : ∀ ds : List D, noss ds = true → peqs ds ds = true
  | [], _ => by unfold peqs; rfl
  | d :: ds, h => by
    unfold noss at h
    have h' := Bool.and_eq_true _ _ ▸ h
    unfold peqs
    rw [peq_refl d h'.1, peqs_refl' ds h'.2]
    rfl
end
inductive Alk : D → D → Prop
  | non : Alk .non .non
  | bl (a b : Bool) : Alk (.bl a) (.bl b)
  | int (a b : Int) : Alk (.int a) (.int b)
  | str (a b : Str) : Alk (.str a) (.str b)
  | tup {xs ys : List D} (h : ∀ (i : Nat) (x y : D), xs[i]? = some x → ys[i]? = some y → Alk x y) : Alk (.tup xs) (.tup ys)
  | lst {xs ys : List D} (h : ∀ (i : Nat) (x y : D), xs[i]? = some x → ys[i]? = some y → Alk x y) : Alk (.lst xs) (.lst ys)
mutual
theorem Alk.refl : ∀ d : D, nos d = true → Alk d d
  | .non, _ => .non
  | .bl a, _ => .bl a a
  | .int a, _ => .int a a
  | .str a, _ => .str a a
  | .tup xs, h => .tup (Alk.refls xs (by unfold nos at h; exact h))
  | .lst xs, h => .lst (Alk.refls xs (by unfold nos at h; exact h))
  | .scr _, h => by unfold nos at h; cases h
  | .dct _, h => by unfold nos at h; cases h
  | .sen _, h => by unfold nos at h; cases h
  | .ext _, h => by unfold nos at h; cases h
theorem Alk.refls : ∀ ds : List D, noss ds = true → ∀ (i : Nat) (x y : D), ds[i]? = some x → ds[i]? = some y → Alk x y
  | [], _, _, _, _, e, _ => by simp at e
  | d :: ds, h, 0, x, y, e1, e2 => by
    unfold noss at h
    cases e1; cases e2
    exact Alk.refl d (Bool.and_eq_true _ _ ▸ h).1
  | d :: ds, h, i + 1, x, y, e1, e2 => by
    unfold noss at h
    exact Alk.refls ds (Bool.and_eq_true _ _ ▸ h).2 i x y e1 e2
end
theorem same_items {vs : List V} {ds ds' : List D} (k1 : Reps X.K G vs ds) (k2 : Reps X.K G vs ds') (ih : ∀ (i : Nat) (d d' : D), ds[i]? = some d → ds'[i]? = some d' → ∀ {x : V}, Rep X.K G x d → Rep X.K G x d' → peq d d' = true) : peqs ds ds' = true := by
  rw [peqs_lst ((Paired.length k1).symm.trans (Paired.length k2)), List.all_eq_true]
  intro i hi
  have hi' : i < vs.length := by rw [Paired.length k1]; exact List.mem_range.mp hi
  obtain ⟨d1, f1, t1⟩ := WS.paired_get k1 (List.getElem?_eq_getElem hi')
  obtain ⟨d2, f2, t2⟩ := WS.paired_get k2 (List.getElem?_eq_getElem hi')
  unfold eqAtI
  rw [f1, f2]
  exact ih i d1 d2 f1 f2 t1 t2
theorem Alk.same {dx dy : D} (a : Alk dx dy) : ∀ {x : V}, Rep X.K G x dx → Rep X.K G x dy → peq dx dy = true := by
  induction a with
  | non => intro x _ _; unfold peq; rfl
  | bl a b => intro x r1 r2; rw [r1.bl_inv] at r2; cases r2.bl_inv; unfold peq; simp
  | int a b => intro x r1 r2; rw [r1.int_inv] at r2; cases r2.int_inv; unfold peq; simp
  | str a b => intro x r1 r2; rw [r1.str_inv] at r2; cases r2.str_inv; unfold peq; simp
  | tup _ ih =>
    intro x r1 r2
    obtain ⟨a, vs, rfl, e, k1⟩ := r1.tup_st
    obtain ⟨a', vs', z, e', k2⟩ := r2.tup_st
    cases z
    rw [e] at e'
    cases e'
    unfold peq
    exact same_items k1 k2 ih
  | lst _ ih =>
    intro x r1 r2
    obtain ⟨a, vs, rfl, e, k1⟩ := r1.lst_inv
    obtain ⟨a', vs', z, e', k2⟩ := r2.lst_inv
    cases z
    rw [e] at e'
    cases e'
    unfold peq
    exact same_items k1 k2 ih
structure Cmp (A : Around) (s : Shared) (u v : Value) (b : Bool) : Prop where
  i : SeqAt.EqAt A s u v b
  e : SeqAt.RcAt A s u v b
  n : SeqAt.RcNeAt A s u v (!b)
theorem cmp_D (I : Inv X pins σ H s) (sG : Same G H) {dx dy : D} (al : Alk dx dy) : ∀ {x y : V} {u v : Value} {A : Around}, Rep X.K G x dx → Rep X.K G y dy → RelV x u → RelV y v → A.units + dep dx < cLine → Cmp A s u v (peq dx dy) := by
  induction al with
  | non => intro x y u v A rx ry ru rv _; cases rx.non_inv; cases ry.non_inv; cases ru; cases rv; unfold peq; exact ⟨SeqAt.EqAt.same _, SeqAt.RcAt.none_none, SeqAt.RcNeAt.none_none⟩
  | bl a b => intro x y u v A rx ry ru rv _; cases rx.bl_inv; cases ry.bl_inv; cases ru; cases rv; unfold peq; exact ⟨SeqAt.EqAt.bool_bool a b, SeqAt.RcAt.bool_bool a b, SeqAt.RcNeAt.bool_bool a b⟩
  | int a b => intro x y u v A rx ry ru rv _; cases rx.int_inv; cases ry.int_inv; obtain ⟨t, rfl⟩ := ru; obtain ⟨t', rfl⟩ := rv; unfold peq; exact ⟨SeqAt.EqAt.int_int a t b t', SeqAt.RcAt.int_int a t b t', SeqAt.RcNeAt.int_int a t b t'⟩
  | str a b => intro x y u v A rx ry ru rv _; cases rx.str_inv; cases ry.str_inv; obtain ⟨t, rfl⟩ := ru; obtain ⟨t', rfl⟩ := rv; unfold peq; exact ⟨SeqAt.EqAt.str_str a t b t', SeqAt.RcAt.str_str a t b t', SeqAt.RcNeAt.str_str a t b t'⟩
  | @tup ds ds' al ih =>
    intro x y u v A rx ry ru rv hu
    obtain ⟨a, vs, rfl, e1, k1⟩ := rx.tup_st
    obtain ⟨a', vs', rfl, e2, k2⟩ := ry.tup_st
    cases ru; cases rv
    obtain ⟨is, r1, t1, _⟩ := I.tuple (same_seqT sG (.inl (.inl e1)))
    obtain ⟨is2, r2, t2, _⟩ := I.tuple (same_seqT sG (.inl (.inl e2)))
    have hu0 : A.units < cLine := by lia
    rw [dep_tup] at hu
    have it := items_eqAt (A := A.in1) (s := s) (X := X) (G := G) r1 r2 k1 k2 fun i d d' x y u v f1 f2 w1 w2 w3 w4 => (ih i d d' f1 f2 (A := A.in1) w1 w2 w3 w4 (by have := deps_get f1; show A.units + 1 + dep d < cLine; lia)).i
    have key := SeqAt.RcAt.tuples (A := A) (s := s) (e := eqAtI ds ds') t1 t2 hu0 it
    have key' := SeqAt.RcNeAt.tuples (A := A) (s := s) (e := eqAtI ds ds') t1 t2 hu0 it
    rw [sz r1 k1, sz r2 k2, ← peqs_tup] at key key'
    refine ⟨?_, by unfold peq; exact key, by unfold peq; exact key'⟩
    by_cases hab : a = a'
    · subst hab
      rw [Alk.same (.tup al) rx ry]
      exact SeqAt.EqAt.same _
    · unfold peq
      exact SeqAt.EqAt.of_refs hab key
  | @lst ds ds' al ih =>
    intro x y u v A rx ry ru rv hu
    obtain ⟨a, vs, rfl, e1, k1⟩ := rx.lst_inv
    obtain ⟨a', vs', rfl, e2, k2⟩ := ry.lst_inv
    cases ru; cases rv
    obtain ⟨is, r1, t1, _⟩ := I.list (SqL.of (sG _ _ e1))
    obtain ⟨is2, r2, t2, _⟩ := I.list (SqL.of (sG _ _ e2))
    have hu0 : A.units < cLine := by lia
    rw [dep_lst] at hu
    have key : SeqAt.RcAt A s (.ref a) (.ref a') (peqs ds ds') ∧ SeqAt.RcNeAt A s (.ref a) (.ref a') (!(peqs ds ds')) := by
      by_cases hlen : ds.length = ds'.length
      · have it := items_eqAt (A := A.in1) (s := s) (X := X) (G := G) r1 r2 k1 k2 fun i d d' x y u v f1 f2 w1 w2 w3 w4 => (ih i d d' f1 f2 (A := A.in1) w1 w2 w3 w4 (by have := deps_get f1; show A.units + 1 + dep d < cLine; lia)).i
        have e0 : is.toArray.size = is2.toArray.size := by rw [sz r1 k1, sz r2 k2]; exact hlen
        have key := SeqAt.RcAt.lists (A := A) (s := s) (e := eqAtI ds ds') t1.isList t2.isList e0 hu0 it
        have key' := SeqAt.RcNeAt.lists (A := A) (s := s) (e := eqAtI ds ds') t1.isList t2.isList e0 hu0 it
        rw [sz r1 k1, ← peqs_lst hlen] at key key'
        exact ⟨key, key'⟩
      · rw [peqs_len hlen]
        have e0 : (is.toArray.size != is2.toArray.size) = true := by rw [sz r1 k1, sz r2 k2]; simpa using hlen
        exact ⟨SeqAt.RcAt.lists_lengths t1.isList t2.isList e0 hu0, SeqAt.RcNeAt.lists_lengths t1.isList t2.isList e0 hu0⟩
    refine ⟨?_, by unfold peq; exact key.1, by unfold peq; exact key.2⟩
    by_cases hab : a = a'
    · subst hab
      rw [Alk.same (.lst al) rx ry]
      exact SeqAt.EqAt.same _
    · unfold peq
      exact SeqAt.EqAt.of_refs hab key.1
def rEqD (K : PySem.W.Frag) (u : Nat) (neg : Bool) : R2 := fun x y H Q => ∃ G dx dy, Same G H ∧ Rep K G x dx ∧ Rep K G y dy ∧ Alk dx dy ∧ u + dep dx < cLine ∧ Q (.bl (if neg then !(peq dx dy) else peq dx dy)) H
theorem op_eqD : OpR X (compareOp .Eq) (rEqD X.K X.A.units false) := by
  intro pins s σ H x y v u Q I rx ry h
  obtain ⟨G, dx, dy, sG, r1, r2, al, hu, q⟩ := h
  exact (cmp_D I sG al r1 r2 rx ry hu).e _ _ _ _ ⟨.bl _, H, I, rfl, q⟩
theorem op_neD : OpR X (compareOp .NotEq) (rEqD X.K X.A.units true) := by
  intro pins s σ H x y v u Q I rx ry h
  obtain ⟨G, dx, dy, sG, r1, r2, al, hu, q⟩ := h
  exact (cmp_D I sG al r1 r2 rx ry hu).n _ _ _ _ ⟨.bl _, H, I, rfl, q⟩
def dEq : D2 := fun x y Q => (Alk x y ∧ dep x ≤ 60) ∧ Q (.p (.bl (peq x y)))
def dNe : D2 := fun x y Q => (Alk x y ∧ dep x ≤ 60) ∧ Q (.p (.bl (!(peq x y))))
theorem od_eqD {k : Nat} (hr : Room k X.A) : OpD X (compareOp .Eq) dEq :=
  ⟨_, op_eqD, by rintro H G x y dx dy P Q s rx ry ⟨⟨h1, h3⟩, h4⟩ c;exact ⟨G, dx, dy, s, rx, ry, h1, by have := hr.units; lia, c _ _ H G h4 (Wd.refl s) (.bl _)⟩⟩
theorem od_neD {k : Nat} (hr : Room k X.A) : OpD X (compareOp .NotEq) dNe :=
  ⟨_, op_neD, by rintro H G x y dx dy P Q s rx ry ⟨⟨h1, h3⟩, h4⟩ c;exact ⟨G, dx, dy, s, rx, ry, h1, by have := hr.units; lia, c _ _ H G h4 (Wd.refl s) (.bl _)⟩⟩
end
end DL
namespace DL
open PySem L2
section
variable {X : Cx} {a b c e : Expr} {ta tb tc te : DT} {pos : Pos} {es : List Expr}
def D.told : D → Bool
  | .ext _ => false
  | _ => true
theorem kit_tab {K : PySem.W.Frag} {T : String} (h : T = "int" ∨ T = "bool" ∨ T = "str" ∨ T = "tuple" ∨ T = "list") (d : D) : PySem.W.kitOne K (.type (tyD d)) (.type T) = some (isD T d) := by
  rcases h with rfl | rfl | rfl | rfl | rfl <;> cases d <;> rfl
theorem call_isinstD : CallR X (.builtin "isinstance") (fun xs H Q => ∃ G x d T, xs = [x, .ty T] ∧ Same G H ∧ Rep X.K G x d ∧ d.told = true ∧ (T = "int" ∨ T = "bool" ∨ T = "str" ∨ T = "tuple" ∨ T = "list") ∧ Q (.bl (isD T d)) H) := by
  intro pins s σ H xs us Q I r h
  obtain ⟨G, x, d, T, rfl, sG, rx, hd, hT, q⟩ := h
  obtain ⟨u, w', rfl, ru, rw'⟩ := vals2 r
  cases (show w' = Value.type T from rw')
  have e := kit_tab (K := X.K) hT d
  have fin : ∀ tk, EP X pins σ Q (.bool (isD T d)) { s with toks := tk } := fun tk => ⟨.bl _, H, I.tok tk, rfl, q⟩
  cases rx with
  | non => exact isinst_ok I ru .non e fin
  | bl b => exact isinst_ok I ru (.bl b) e fin
  | int i => exact isinst_ok I ru (.int i) e fin
  | str z => exact isinst_ok I ru (.str z) e fin
  | @tup a vs ds h l r =>
    cases ru
    obtain ⟨is, r1, ⟨o, h1, h2, _⟩, z1⟩ := I.tuple (same_seqT sG (.inl (.inl h)))
    exact PySem.W.kia_one PySem.W.kitx_tuple I.kIn ⟨o, h1, h2⟩ e (fun z => nomatch z) fin
  | @lst a vs ds h l r =>
    cases ru
    obtain ⟨is, r1, t1, z1⟩ := I.list (SqL.of (sG _ _ h))
    obtain ⟨o, h1, h2, _⟩ := t1.isList
    exact PySem.W.kia_one PySem.W.kitx_list I.kIn ⟨o, h1, h2⟩ e (fun z => nomatch z) fin
  | @dct a kvs h =>
    cases ru
    obtain ⟨_, _, _, _, o, _, _, h1, h2, _⟩ := Rd.ok (rd_same sG h) I.hok
    exact PySem.W.kia_one PySem.W.kitx_dict I.kIn ⟨o, h1, h2.1⟩ e (fun z => nomatch z) fin
  | @sen a kvs h =>
    cases ru
    obtain ⟨_, _, _, _, o, _, _, h1, h2, _⟩ := Rd.ok (rd_same sG h) I.hok
    exact PySem.W.kia_one PySem.W.kitx_dict I.kIn ⟨o, h1, h2.1⟩ e (fun z => nomatch z) fin
  | ext h => cases hd
  | @scr a ns h =>
    cases ru
    obtain ⟨is, r1, t1, z1⟩ := I.list (sG.seq h)
    obtain ⟨o, h1, h2, _⟩ := t1.isList
    exact PySem.W.kia_one PySem.W.kitx_list I.kIn ⟨o, h1, h2⟩ e (fun z => nomatch z) fin
def isiD (T : String) (d : D) (Q : B → Prop) : Prop := match d with
  | .ext _ => False
  | d => Q (.p (.bl (isD T d)))
def dIsi (T : String) (te : DT) : DT := fun ρ Q => te ρ fun b => isiD T b.val Q
theorem isiD_is {T : String} {d : D} {Q : B → Prop} (h : isiD T d Q) : d.told = true ∧ Q (.p (.bl (isD T d))) := by
  cases d with
  | ext _ => exact h.elim
  | _ => exact ⟨rfl, h⟩
theorem de_isi {T : String} {p : Pos} {e2 : Expr} (hT : T = "int" ∨ T = "bool" ∨ T = "str" ∨ T = "tuple" ∨ T = "list") (hg : Gl X "isinstance") (hm : X.mg "isinstance" = none) (he : DE X e te) (h2 : PE X e2 (tC (.ty T)))
    (hs : starEach (e :: [e2]) X.env = (false, eval e X.env) :: starEach [e2] X.env := by rfl) (hs2 : starEach (e2 :: []) X.env = (false, eval e2 X.env) :: starEach [] X.env := by rfl) (hpl : (backTo pos (starEach [e2] X.env)).any (·.1) = false := by rfl) : DE X (.Call (.Name "isinstance" p) [e, e2] [] pos) (dIsi T te) :=
  DE.of (pe_callB call_isinstD hg hm PyProof.Rows.boot_isinstance (pa_cons he.pe (pa_cons h2 pa_nil hs2) hs) (he := hs) (hpl := hpl))<|by
    rintro σ H Q ⟨G, ρ, P, s, re, h, k⟩
    refine ⟨G, ρ, _, s, re, h, fun b v H1 G1 p1 w1 r1 => ?_⟩
    obtain ⟨G1', w1', r1'⟩ := r1.give w1
    obtain ⟨p0, p1⟩ := isiD_is p1
    exact ⟨G1', v, b.val, T, rfl, w1'.gh, r1', p0, hT, k _ _ H1 G1' p1 w1' (.bl _)⟩
end
inductive Tg where
  | n (i : Nat) | t (is : List Nat)
def gNames : List Nat → TGs
  | [] => gNil
  | i :: is => gCons (gName i) (gNames is)
def Tg.v (K : PySem.W.Frag) : Tg → TG
  | .n i => gName i
  | .t is => gSeq K is.length (gNames is)
def putN : List Nat → List D → DEnv → (DEnv → Prop) → Prop
  | [], [], ρ, P => P ρ
  | i :: is, d :: ds, ρ, P => putN is ds (dput ρ i (.p d)) P
  | _, _, _, _ => False
def Tg.d : Tg → D → DEnv → (DEnv → Prop) → Prop
  | .n i, d, ρ, P => P (dput ρ i (.p d))
  | .t is, .tup ds, ρ, P => putN is ds ρ P
  | .t is, .lst ds, ρ, P => putN is ds ρ P
  | .t _, _, _, _ => False
def Tg.is : Tg → List Nat
  | .n i => [i]
  | .t is => is
def NestAt (K : PySem.W.Frag) (H0 G H : Hp) (w : Addr → Nat) (i : Nat) (a : Addr) (t : Ct) (dss : List D) : Prop := ∃ as : List Addr, as.Nodup ∧ Paired (fun x ds => H0 x = none ∧ w x = i ∧ OwnAt K G H x ds) as dss ∧ t.On (H0 a = none ∧ w a = i) G H a as
structure EnvW (K : PySem.W.Frag) (H0 G H : Hp) (w : Addr → Nat) (σ : St) (ρ : DEnv) : Prop where
  len : σ.length = ρ.length
  p : ∀ i d, dget ρ i = some (.p d) → ∃ v, σ[i]? = some (some v) ∧ Rep K G v d
  o : ∀ i d, dget ρ i = some (.o d) → ∃ a, σ[i]? = some (some (.ref a)) ∧ H0 a = none ∧ w a = i ∧ OwnAt K G H a d
  n : ∀ i t dss, dget ρ i = some (.n t dss) → ∃ a, σ[i]? = some (some (.ref a)) ∧ NestAt K H0 G H w i a t dss
def EnvO (K : PySem.W.Frag) (H0 G H : Hp) (σ : St) (ρ : DEnv) : Prop := ∃ w, EnvW K H0 G H w σ ρ
section
variable {K : PySem.W.Frag} {H0 G H : Hp} {σ : St} {ρ : DEnv}
theorem EnvO.p (h : EnvO K H0 G H σ ρ) : ∀ i d, dget ρ i = some (.p d) → ∃ v, σ[i]? = some (some v) ∧ Rep K G v d := by obtain ⟨w, h⟩ := h; exact h.p
theorem EnvO.o (h : EnvO K H0 G H σ ρ) : ∀ i d, dget ρ i = some (.o d) → ∃ a, σ[i]? = some (some (.ref a)) ∧ H0 a = none ∧ OwnAt K G H a d := by
  obtain ⟨w, h⟩ := h
  intro i d e
  obtain ⟨a, h1, h2, _, h3⟩ := h.o i d e
  exact ⟨a, h1, h2, h3⟩
theorem EnvO.only (l : σ.length = ρ.length) (hp : RepE K G σ ρ) (h : ∀ i b, dget ρ i = some b → ∃ d, b = .p d) : EnvO K H0 G H σ ρ := by
  refine ⟨fun _ => 0, l, hp, fun i d e => ?_, fun i t dss e => ?_⟩
  · obtain ⟨_, q⟩ := h i _ e; cases q
  · obtain ⟨_, q⟩ := h i _ e; cases q
end
theorem OwnAt.stay {K : PySem.W.Frag} {G H G' H' : Hp} {a : Addr} {d : D} (h : OwnAt K G H a d) (hg : Same G G') (hn : G' a = none) (hh : ∀ o, H a = some o → H' a = some o) : OwnAt K G' H' a d := by
  obtain ⟨h1, h2⟩ := h
  refine ⟨hn, ?_⟩
  cases d with
  | lst ds => obtain ⟨vs, e, r⟩ := h2; exact ⟨vs, hh _ e, Reps.mono hg r⟩
  | non => exact h2
  | bl _ => exact h2
  | int _ => exact h2
  | str _ => exact h2
  | tup _ => exact h2
  | scr _ => exact h2
  | dct kvs => exact hh _ h2
  | sen kvs => exact hh _ h2
  | ext x => exact ExtOwn.stay h2 hg hh
theorem OwnAt.chg {K : PySem.W.Frag} {G H : Hp} {a : Addr} {d : D} (h : OwnAt K G H a d) : Chg H a := by
  obtain ⟨h1, h2⟩ := h
  cases d with
  | lst ds => obtain ⟨vs, e, r⟩ := h2; exact ⟨_, e, fun _ z => nomatch z⟩
  | non => exact h2.elim
  | bl _ => exact h2.elim
  | int _ => exact h2.elim
  | str _ => exact h2.elim
  | tup _ => exact h2.elim
  | scr _ => exact h2.elim
  | dct kvs => exact ⟨_, h2, fun _ z => nomatch z⟩
  | sen kvs => exact ⟨_, h2, fun _ z => nomatch z⟩
  | ext x => obtain ⟨es, e⟩ := ExtOwn.obj h2; exact ⟨_, e, fun _ z => nomatch z⟩
theorem OwnAt.there {K : PySem.W.Frag} {G H : Hp} {a : Addr} {d : D} (h : OwnAt K G H a d) : H a ≠ none := h.chg.there
theorem paired_mono {α β : Type} {F F' : α → β → Prop} {l : List α} {r : List β} (k : ∀ x d, x ∈ l → F x d → F' x d) (h : Paired F l r) : Paired F' l r := by
  induction h with
  | nil => exact .nil
  | cons f _ ih => exact .cons (k _ _ List.mem_cons_self f) (ih fun x d m => k x d (List.mem_cons_of_mem _ m))
theorem paired_left {α β : Type} {F : α → β → Prop} {l : List α} {r : List β} (h : Paired F l r) : ∀ x ∈ l, ∃ d, F x d := by
  induction h with
  | nil => intro x m; cases m
  | cons f _ ih =>
    intro x m
    rcases List.mem_cons.mp m with rfl | m
    · exact ⟨_, f⟩
    · exact ih x m
theorem NestAt.stay {K : PySem.W.Frag} {H0 G H G' H' : Hp} {w w' : Addr → Nat} {i : Nat} {a : Addr} {t : Ct} {dss : List D} (h : NestAt K H0 G H w i a t dss) (hg : Same G G') (hn : ∀ x, H0 x = .none → w x = i → G x = .none → Chg H x → G' x = .none ∧ w' x = i ∧ ∀ o, H x = some o → H' x = some o) : NestAt K H0 G' H' w' i a t dss := by
  obtain ⟨as, nd, pr, e⟩ := h
  have pr' := paired_mono (F' := fun x ds => H0 x = none ∧ w' x = i ∧ OwnAt K G' H' x ds) ( by
    rintro x d m ⟨h1, h2, h3⟩
    obtain ⟨k1, k2, k3⟩ := hn x h1 h2 h3.1 h3.chg
    exact ⟨h1, k2, h3.stay hg k1 k3⟩) pr
  exact ⟨as, nd, pr', e.imp hg fun f g c => by
    obtain ⟨k1, k2, k3⟩ := hn a f.1 f.2 g c
    exact ⟨⟨f.1, k2⟩, k1, k3⟩⟩
theorem EnvW.on {K : PySem.W.Frag} {H0 G H G' H' : Hp} {o : Addr → Nat} {σ : St} {ρ : DEnv} (h : EnvW K H0 G H o σ ρ) (w : Wd H G H' G') : EnvW K H0 G' H' o σ ρ :=
  ⟨h.len, fun i d e => by obtain ⟨v, h1, h2⟩ := h.p i d e; exact ⟨v, h1, h2.mono w.gg⟩, fun i d e => by
    obtain ⟨a, h1, h2, h2', h3⟩ := h.o i d e
    exact ⟨a, h1, h2, h2', h3.stay w.gg (by rw [w.old a h3.chg]; exact h3.1) fun o q => w.hh _ _ q⟩, fun i t dss e => by
    obtain ⟨a, h1, h2⟩ := h.n i t dss e
    exact ⟨a, h1, h2.stay w.gg fun x k1 k2 k3 k4 => ⟨by rw [w.old x k4]; exact k3, k2, fun o q => w.hh _ _ q⟩⟩⟩
theorem EnvO.on {K : PySem.W.Frag} {H0 G H G' H' : Hp} {σ : St} {ρ : DEnv} (h : EnvO K H0 G H σ ρ) (w : Wd H G H' G') : EnvO K H0 G' H' σ ρ := by
  obtain ⟨o, h⟩ := h
  exact ⟨o, h.on w⟩
theorem set_get {σ : St} {i j : Nat} {v : V} (h : i ≠ j) : (σ.set i (some v))[j]? = σ[j]? := by rw [List.getElem?_set_ne h]
theorem set_self {σ : St} {i : Nat} {v : V} (h : i < σ.length) : (σ.set i (some v))[i]? = some (some v) := by rw [List.getElem?_set_self h]
theorem EnvO.putP {K : PySem.W.Frag} {H0 G H : Hp} {σ : St} {ρ : DEnv} {v : V} {d : D} (h : EnvO K H0 G H σ ρ) (i : Nat) (r : Rep K G v d) : EnvO K H0 G H (σ.set i (some v)) (dput ρ i (.p d)) := by
  obtain ⟨o, h⟩ := h
  refine ⟨o, by rw [List.length_set, dput_len]; exact h.len, fun j d' e => ?_, fun j d' e => ?_, fun j t dss e => ?_⟩
  · rcases dget_put e with ⟨rfl, hl, e⟩ | ⟨hne, e⟩
    · cases e
      exact ⟨v, set_self (by rw [h.len]; exact hl), r⟩
    · obtain ⟨w, h1, h2⟩ := h.p j d' e
      exact ⟨w, by rw [set_get hne]; exact h1, h2⟩
  · rcases dget_put e with ⟨rfl, hl, e⟩ | ⟨hne, e⟩
    · cases e
    · obtain ⟨a, h1, h2⟩ := h.o j d' e
      exact ⟨a, by rw [set_get hne]; exact h1, h2⟩
  · rcases dget_put e with ⟨rfl, hl, e⟩ | ⟨hne, e⟩
    · cases e
    · obtain ⟨a, h1, h2⟩ := h.n j t dss e
      exact ⟨a, by rw [set_get hne]; exact h1, h2⟩
theorem EnvW.also {K : PySem.W.Frag} {H0 G H : Hp} {o : Addr → Nat} {σ : St} {ρ : DEnv} (h : EnvW K H0 G H o σ ρ) {o' : Addr → Nat} (q : ∀ x, H x ≠ .none → o' x = o x) : EnvW K H0 G H o' σ ρ :=
  ⟨h.len, h.p, fun j d e => by
    obtain ⟨a, h1, h2, h3, h4⟩ := h.o j d e
    exact ⟨a, h1, h2, by rw [q a h4.there]; exact h3, h4⟩, fun j t dss e => by
    obtain ⟨a, h1, h2⟩ := h.n j t dss e
    exact ⟨a, h1, h2.stay (Same.refl _) fun x k1 k2 k3 k4 => ⟨k3, by rw [q x k4.there]; exact k2, fun o q => q⟩⟩⟩
theorem EnvO.putO {K : PySem.W.Frag} {H0 G H G' H' : Hp} {σ : St} {ρ : DEnv} {a : Addr} {d : D} (h : EnvO K H0 G H σ ρ) (w : Wd H G H' G') (i : Nat) (h0 : H0 a = none) (hn : H a = none) (r : OwnAt K G' H' a d) : EnvO K H0 G' H' (σ.set i (some (.ref a))) (dput ρ i (.o d)) := by
  obtain ⟨o, h⟩ := h
  have h2 := (h.also (o' := fun x => if x = a then i else o x) fun x q => if_neg fun e : x = a => q (e ▸ hn)).on w
  refine ⟨fun x => if x = a then i else o x, by rw [List.length_set, dput_len]; exact h.len, fun j d' e => ?_, fun j d' e => ?_, fun j t dss e => ?_⟩
  · rcases dget_put e with ⟨rfl, hl, e⟩ | ⟨hne, e⟩
    · cases e
    · obtain ⟨w, h1, h2⟩ := h2.p j d' e
      exact ⟨w, by rw [set_get hne]; exact h1, h2⟩
  · rcases dget_put e with ⟨rfl, hl, e⟩ | ⟨hne, e⟩
    · cases e
      exact ⟨a, set_self (by rw [h.len]; exact hl), h0, if_pos rfl, r⟩
    · obtain ⟨b, h1, h2⟩ := h2.o j d' e
      exact ⟨b, by rw [set_get hne]; exact h1, h2⟩
  · rcases dget_put e with ⟨rfl, hl, e⟩ | ⟨hne, e⟩
    · cases e
    · obtain ⟨b, h1, h2⟩ := h2.n j t dss e
      exact ⟨b, by rw [set_get hne]; exact h1, h2⟩
theorem EnvO.putNC {K : PySem.W.Frag} {H0 G H G' H' : Hp} {σ : St} {ρ : DEnv} {a : Addr} {as : List Addr} {ds : List D} {t : Ct} (h : EnvO K H0 G H σ ρ) (w : Wd H G H' G') (hh : Same H0 H) (i : Nat) (nd : as.Nodup) (pr : Paired (fun x d => H x = none ∧ OwnAt K G' H' x d) as ds) (q : t.On (H a = none) G' H' a as) : EnvO K H0 G' H' (σ.set i (some (.ref a))) (dput ρ i (.n t ds)) := by
  obtain ⟨o, h⟩ := h
  have h2 := (h.also (o' := fun x => if (t.own = true ∧ x = a) ∨ x ∈ as then i else o x) fun x z => if_neg fun m => by
    rcases m with ⟨to, rfl⟩ | m
    · unfold Ct.On at q
      rw [to] at q
      exact z q.1
    · obtain ⟨_, k, _⟩ := paired_left pr x m
      exact z k).on w
  refine ⟨fun x => if (t.own = true ∧ x = a) ∨ x ∈ as then i else o x, by rw [List.length_set, dput_len]; exact h.len, fun j d' e => ?_, fun j d' e => ?_, fun j t dss e => ?_⟩
  · rcases dget_put e with ⟨rfl, hl, e⟩ | ⟨hne, e⟩
    · cases e
    · obtain ⟨w, h1, h2⟩ := h2.p j d' e
      exact ⟨w, by rw [set_get hne]; exact h1, h2⟩
  · rcases dget_put e with ⟨rfl, hl, e⟩ | ⟨hne, e⟩
    · cases e
    · obtain ⟨b, h1, h2⟩ := h2.o j d' e
      exact ⟨b, by rw [set_get hne]; exact h1, h2⟩
  · rcases dget_put e with ⟨rfl, hl, e⟩ | ⟨hne, e⟩
    · cases e
      refine ⟨a, set_self (by rw [h.len]; exact hl), as, nd, paired_mono (fun x d m z => ⟨hh.free z.1, if_pos (.inr m), z.2⟩) pr, ?_⟩
      unfold Ct.On at q ⊢
      cases to : t.own with
      | true =>
        rw [to] at q
        exact ⟨⟨hh.free q.1, if_pos (.inl ⟨rfl, rfl⟩)⟩, q.2⟩
      | false =>
        rw [to] at q
        exact q
    · obtain ⟨b, h1, h2⟩ := h2.n j t dss e
      exact ⟨b, by rw [set_get hne]; exact h1, h2⟩
theorem putN_ok {K : PySem.W.Frag} {H0 G H : Hp} : ∀ {is : List Nat} {ds : List D} {vs : List V} {σ : St} {ρ : DEnv} {P : DEnv → Prop} {Q : St → Hp → Prop}, EnvO K H0 G H σ ρ → Reps K G vs ds → putN is ds ρ P → (∀ σ' ρ', EnvO K H0 G H σ' ρ' → P ρ' → Q σ' H) → gNames is vs σ H Q
  | [], [], _, σ, ρ, P, Q, h, r, p, k => by cases r; exact ⟨rfl, k _ _ h p⟩
  | i :: is, d :: ds, _, σ, ρ, P, Q, h, r, p, k => by
    cases r with
    | cons r rr => exact ⟨_, _, rfl, putN_ok (h.putP i r) rr p k⟩
  | [], _ :: _, _, _, _, _, _, _, _, p, _ => p.elim
  | _ :: _, [], _, _, _, _, _, _, _, p, _ => p.elim
theorem putN_len : ∀ {is : List Nat} {ds : List D} {ρ : DEnv} {P : DEnv → Prop}, putN is ds ρ P → is.length = ds.length
  | [], [], _, _, _ => rfl
  | _ :: is, _ :: ds, ρ, P, p => by rw [List.length_cons, List.length_cons, putN_len (is := is) p]
  | [], _ :: _, _, _, p => p.elim
  | _ :: _, [], _, _, p => p.elim
theorem Tg.ok {K : PySem.W.Frag} {H0 G H : Hp} {g : Tg} {d : D} {v : V} {σ : St} {ρ : DEnv} {P : DEnv → Prop} {Q : St → Hp → Prop} (s : Same G H) (h : EnvO K H0 G H σ ρ) (r : Rep K G v d) (p : g.d d ρ P) (k : ∀ σ' ρ', EnvO K H0 G H σ' ρ' → P ρ' → Q σ' H) : g.v K v σ H Q := by
  cases g with
  | n i => exact k _ _ (h.putP i r) p
  | t is =>
    cases d with
    | tup ds =>
      obtain ⟨a, vs, rfl, e, rr⟩ := r.tup_inv
      exact ⟨a, vs, rfl, .inl (same_seqT s e), by rw [Paired.length rr]; exact (putN_len p).symm, putN_ok h rr p k⟩
    | lst ds =>
      obtain ⟨a, vs, rfl, e, rr⟩ := r.lst_inv
      exact ⟨a, vs, rfl, .inr (SqL.of (s _ _ e)), by rw [Paired.length rr]; exact (putN_len p).symm, putN_ok h rr p k⟩
    | non => exact p.elim
    | bl _ => exact p.elim
    | int _ => exact p.elim
    | str _ => exact p.elim
    | scr _ => exact p.elim
    | dct _ => exact p.elim
    | sen _ => exact p.elim
    | ext _ => exact p.elim
structure ItD (K : PySem.W.Frag) (G0 : Hp) (J : It) (xs : List D) : Prop where
  go : ∀ i d H G, xs[i]? = some d → Same G0 G → Same G H → J.go i H
  yld : ∀ i d H G x H', xs[i]? = some d → Same G0 G → Same G H → J.yld i H x H' → ∃ G', Wd H G H' G' ∧ Rep K G' x d
  stop : ∀ i H G, i = xs.length → Same G0 G → Same G H → J.stop i H
def cI (K : PySem.W.Frag) (t : DTA) : TI := fun σ H R => ∃ (G : Hp) (ρ : DEnv) (P : List D → Prop), Same G H ∧ RepE K G σ ρ ∧ t ρ P ∧ ∀ xs J H' G', P xs → Wd H G H' G' → ItD K G' J xs → R J H'
structure DI (X : Cx) (tg e : Expr) (t : DTA) : Prop where
  pi : PI X tg e (cI X.K t)
theorem PI.imp {X : Cx} {tg e : Expr} {t t' : TI} (h : PI X tg e t) (i : ∀ σ H Q, t' σ H Q → t σ H Q) : PI X tg e t' := fun pins s σ H Q I q => h pins s σ H Q I (i σ H Q q)
theorem DI.of {X : Cx} {tg e : Expr} {t : TI} {t' : DTA} (h : PI X tg e t) (i : ∀ σ H Q, cI X.K t' σ H Q → t σ H Q) : DI X tg e t' := ⟨PI.imp h i⟩
section
variable {X : Cx} {tg e : Expr} {te : DT} {pos : Pos}
theorem itd_list {K : PySem.W.Frag} {G : Hp} {a : Addr} {vs : List V} {ds : List D} (h : SqL K G a vs) (r : Reps K G vs ds) : ItD K G (Itl K a) ds where
  go := fun i d H G' e s1 s2 => by
    obtain ⟨v, h1, h2⟩ := paired_get' r e
    exact ⟨vs, v, (s1.trans s2).seq h, h1⟩
  yld := by
    rintro i d H G' x H' e s1 s2 ⟨eH, y⟩
    obtain ⟨v, h1, h2⟩ := paired_get' r e
    have := y vs ((s1.trans s2).seq h)
    rw [h1] at this
    cases this
    subst eH
    exact ⟨G', Wd.refl s2, h2.mono s1⟩
  stop := fun i H G' hi s1 s2 => ⟨vs, (s1.trans s2).seq h, by rw [Paired.length r, hi]; exact Nat.le_refl _⟩
theorem itd_tup {K : PySem.W.Frag} {G : Hp} {a : Addr} {vs : List V} {ds : List D} (h : SqT K G a vs) (r : Reps K G vs ds) : ItD K G (Itt K a) ds where
  go := fun i d H G' e s1 s2 => by
    obtain ⟨v, h1, h2⟩ := paired_get' r e
    exact ⟨vs, v, same_seqT (s1.trans s2) h, h1⟩
  yld := by
    rintro i d H G' x H' e s1 s2 ⟨eH, y⟩
    obtain ⟨v, h1, h2⟩ := paired_get' r e
    have := y vs (same_seqT (s1.trans s2) h)
    rw [h1] at this
    cases this
    subst eH
    exact ⟨G', Wd.refl s2, h2.mono s1⟩
  stop := fun i H G' hi s1 s2 => ⟨vs, same_seqT (s1.trans s2) h, by rw [Paired.length r, hi]; exact Nat.le_refl _⟩
def diList (te : DT) : DTA := fun ρ P => te ρ fun b => match b.val with
  | .lst xs => P xs
  | .scr ns => P (ns.map D.int)
  | _ => False
set_option tactic.hygienic true in
theorem di_list (he : DE X e te) : DI X tg e (diList te) := DI.of (pi_list he.pe)<|by
  rintro σ H R ⟨G, ρ, P, s, re, h, k⟩
  refine ⟨G, ρ, _, s, re, h, fun b v H1 G1 p1 w1 r1 => ?_⟩
  obtain ⟨G1', w1', r1'⟩ := r1.give w1
  split at p1
  · rename_i xs e
    rw [e] at r1'
    obtain ⟨a, us, rfl, e, rr⟩ := r1'.lst_inv
    exact ⟨a, rfl, ⟨us, SqL.of (w1'.gh _ _ e)⟩, k _ _ H1 G1' p1 w1' (itd_list (SqL.of e) rr)⟩
  · rename_i ns e
    rw [e] at r1'
    cases r1' with
    | scr e => exact ⟨_, rfl, ⟨_, w1'.gh.seq e⟩, k _ _ H1 G1' p1 w1' (itd_list e (ints_reps ns))⟩
  · exact p1.elim
def diTup (te : DT) : DTA := fun ρ P => te ρ fun b => match b.val with
  | .tup xs => P xs
  | _ => False
def upFrom (lo : Int) (n : Nat) : List D := (List.range n).map fun i => D.int (lo + (i : Nat))
def diRng1 (t : DTA) : DTA := fun ρ P => t ρ fun ds => match ds with
  | [.int j] => (-(2 ^ 62) ≤ j ∧ j < 2 ^ 62) ∧ P (upFrom 0 j.toNat)
  | _ => False
def diRng2 (t : DTA) : DTA := fun ρ P => t ρ fun ds => match ds with
  | [.int i, .int j] => (-(2 ^ 62) ≤ i ∧ i < 2 ^ 62 ∧ -(2 ^ 62) ≤ j ∧ j < 2 ^ 62) ∧ P (upFrom i (j - i).toNat)
  | _ => False
end
def frD (fr : List (Option Nat)) (ρ : DEnv) : DEnv := fr.map fun o => match o with
  | none => none
  | some j => dget ρ j
theorem dget_eq : ∀ (ρ : DEnv) (i : Nat), dget ρ i = (ρ[i]?).getD none
  | [], _ => by simp [dget]
  | _ :: _, 0 => by simp [dget]
  | _ :: r, i + 1 => by simp [dget, dget_eq r i]
theorem frD_get {fr : List (Option Nat)} {ρ : DEnv} {i : Nat} {b : B} (h : dget (frD fr ρ) i = some b) : ∃ j, fr[i]? = some (some j) ∧ dget ρ j = some b := by
  rw [dget_eq] at h
  unfold frD at h
  rw [List.getElem?_map] at h
  cases e : fr[i]? with
  | none => rw [e] at h; cases h
  | some o =>
    rw [e] at h
    cases o with
    | none => cases h
    | some j => exact ⟨j, rfl, h⟩
theorem frSt_of {fr : List (Option Nat)} {σ : St} {i j : Nat} {v : V} (h1 : fr[i]? = some (some j)) (h2 : σ[j]? = some (some v)) : (frSt fr σ)[i]? = some (some v) := by
  unfold frSt
  rw [List.getElem?_map, h1]
  show some ((σ[j]?).getD none) = _
  rw [h2]
  rfl
def onlyP (ρ : DEnv) : DEnv := ρ.map fun o => match o with
  | some (.p d) => some (.p d)
  | _ => none
theorem onlyP_get {ρ : DEnv} {i : Nat} {b : B} (h : dget (onlyP ρ) i = some b) : ∃ d, b = .p d ∧ dget ρ i = some (.p d) := by
  rw [dget_eq] at h ⊢
  unfold onlyP at h
  rw [List.getElem?_map] at h
  cases e : ρ[i]? with
  | none => rw [e] at h; cases h
  | some o =>
    rw [e] at h
    cases o with
    | none => cases h
    | some b' =>
      cases b' with
      | p d => exact ⟨d, (Option.some.inj h).symm, rfl⟩
      | o d => cases h
      | n _ _ => cases h
def lcI (xs : List D) (g : Tg) (tc : DTT) (te : DT) (ρ : DEnv) (Q : B → Prop) : Prop := xs.length ≤ sizeLine ∧ ∃ F : D → Option D → Prop,
  (∀ x ∈ xs, g.d x ρ fun ρ' => tc ρ' fun c => (c = true → te ρ' fun b => F x (some b.val)) ∧ (c = false → F x none)) ∧ ∀ os, Paired F xs os → Q (.o (.lst (os.filterMap id)))
def dLC (ti : DTA) (fr : List (Option Nat)) (g : Tg) (tc : DTT) (te : DT) : DT := fun ρ Q => ti ρ fun xs => lcI xs g tc te (onlyP (frD fr ρ)) Q
def dTrue : DTT := fun _ P => P true
theorem paired_take_snoc {α β : Type} {F : α → β → Prop} {xs : List α} {os : List β} {i : Nat} {x : α} {o : β} (h : Paired F (xs.take i) os) (e : xs[i]? = some x) (f : F x o) : Paired F (xs.take (i + 1)) (os ++ [o]) := by
  rw [WS.take_snoc e]
  exact Paired.snoc h f
def tgOk (fr : List (Option Nat)) (g : Tg) : Bool := g.is.all fun i => match fr[i]? with
  | some none => true
  | _ => false
theorem putN_keep {K : PySem.W.Frag} {G H : Hp} {ρ0 : DEnv} : ∀ {is : List Nat} {vs : List V} {σ : St} {Q : St → Hp → Prop}, (∀ i ∈ is, dget ρ0 i = none) → RepE K G σ ρ0 → σ.length = ρ0.length → gNames is vs σ H Q → gNames is vs σ H fun σ' H' => Q σ' H' ∧ H' = H ∧ RepE K G σ' ρ0 ∧ σ'.length = ρ0.length
  | [], _, σ, Q, _, h, l, ⟨e, q⟩ => ⟨e, q, rfl, h, l⟩
  | i :: is, _, σ, Q, hn, h, l, ⟨v, r, e, q⟩ => by
    refine ⟨v, r, e, putN_keep (is := is) (fun j hj => hn j (List.mem_cons_of_mem _ hj)) (fun j d hd => ?_) (by rw [List.length_set]; exact l) q⟩
    have hne : i ≠ j := by
      rintro rfl
      rw [hn i List.mem_cons_self] at hd
      cases hd
    obtain ⟨w, h1, h2⟩ := h j d hd
    exact ⟨w, by rw [set_get hne]; exact h1, h2⟩
theorem tg_keep {K : PySem.W.Frag} {G H : Hp} {ρ0 : DEnv} {g : Tg} {v : V} {σ : St} {Q : St → Hp → Prop} (hn : ∀ i ∈ g.is, dget ρ0 i = none) (h : RepE K G σ ρ0) (l : σ.length = ρ0.length) (q : g.v K v σ H Q) : g.v K v σ H fun σ' H' => Q σ' H' ∧ H' = H ∧ RepE K G σ' ρ0 ∧ σ'.length = ρ0.length := by
  cases g with
  | n i =>
    refine ⟨q, rfl, fun j d hd => ?_, by rw [List.length_set]; exact l⟩
    have hne : i ≠ j := by
      rintro rfl
      rw [hn i (List.mem_singleton.mpr rfl)] at hd
      cases hd
    obtain ⟨w, h1, h2⟩ := h j d hd
    exact ⟨w, by rw [set_get hne]; exact h1, h2⟩
  | t is =>
    obtain ⟨a, xs, e, h1, h2, q⟩ := q
    exact ⟨a, xs, e, h1, h2, putN_keep hn h l q⟩
structure DIfs (X : Cx) (ifs : List Expr) (t : DTT) : Prop where
  pf : PIfs X ifs (cT X.K t)
theorem difs_nil {X : Cx} : DIfs X [] dTrue := ⟨by rintro pins s σ H Q I ⟨G, ρ, P, sg, re, h, k⟩;exact pifs_nil pins s σ H Q I (k true H G h (Wd.refl sg))⟩
theorem difs_one {X : Cx} {c : Expr} {t : DTT} (h : DTe X c t) : DIfs X [c] t := ⟨pifs_one h.pt⟩
inductive LcI (K : PySem.W.Frag) (H1 G1 : Hp) (D : Addr) (F : DL.D → Option DL.D → Prop) (xs : List DL.D) (ρ : DEnv) (i : Nat) (ys : List V) (σ : St) (H : Hp) : Prop
  | mk (G : Hp) (os : List (Option DL.D)) (w : Wd H1 G1 H G) (gD : G D = none) (hD : H D = some (.lst ys)) (hy : ys.length ≤ i) (hos : Paired F (xs.take i) os) (hr : Reps K G ys (os.filterMap id)) (re : RepE K G σ ρ) (ln : σ.length = ρ.length)
theorem lc_body {K : PySem.W.Frag} {fr : List (Option Nat)} {g : Tg} {tc : DTT} {te : DT} (ht : tgOk fr g = true) {σ : St} {H G : Hp} {Q : VK} {ρ : DEnv} {P : B → Prop} (re : RepE K G σ ρ) (k : ∀ b v H' G', P b → Wd H G H' G' → BRes K H G' H' v b → Q v H') {xs : List DL.D} {J : It} {H1 G1 : Hp} (p1 : lcI xs g tc te (onlyP (frD fr ρ)) P) (w1 : Wd H G H1 G1) (it : ItD K G1 J xs) (D : Addr) (hD : H1 D = none) :
    LcW J D (g.v K) (cT K tc) (cE K te) (Q (.ref D)) (frSt fr σ) (upd H1 D (.lst [])) := by
  obtain ⟨hz, F, hF, hP⟩ := p1
  have hn : ∀ i ∈ g.is, dget (onlyP (frD fr ρ)) i = none := fun i hi => by
    cases e : dget (onlyP (frD fr ρ)) i with
    | none => rfl
    | some b =>
      obtain ⟨d, rfl, e'⟩ := onlyP_get e
      obtain ⟨j, h1, _⟩ := frD_get e'
      have := List.all_eq_true.mp ht i hi
      rw [h1] at this
      cases this
  have len0 : (onlyP (frD fr ρ)).length = fr.length := by unfold onlyP frD; simp
  have fn0 : (frSt fr σ).length = fr.length := by unfold frSt; simp
  have rep0 : RepE K G1 (frSt fr σ) (onlyP (frD fr ρ)) := fun i d e => by
    obtain ⟨d', e1, e2⟩ := onlyP_get e
    cases e1
    obtain ⟨j, h1, h2⟩ := frD_get e2
    obtain ⟨v, h3, h4⟩ := re j d h2
    exact ⟨v, frSt_of h1 h3, h4.mono w1.gg⟩
  have gD : G1 D = none := w1.gh.free hD
  have onl : ∀ j b, dget (onlyP (frD fr ρ)) j = some b → ∃ d, b = .p d := fun j b e => by
    obtain ⟨d', e1, _⟩ := onlyP_get e
    exact ⟨d', e1⟩
  generalize onlyP (frD fr ρ) = ρ0 at hn len0 rep0 hF onl
  refine ⟨fun i m ys σ' H' => m = xs.length - i ∧ i ≤ xs.length ∧ LcI K H1 G1 D F xs ρ0 i ys σ' H', ⟨xs.length, by simp, Nat.zero_le _, .mk G1 [] ((Wd.refl w1.gh).own hD gD) gD upd_same (Nat.le_refl _) (by rw [List.take_zero]; exact .nil) .nil rep0 (by rw [fn0, len0])⟩, ?_⟩
  rintro i m ys σ' H' ⟨rfl, hi, w⟩
  cases w with | mk G' os w' gD' hD' hy hos hr re' ln' =>
  by_cases hlt : i < xs.length
  · have hx : xs[i]? = some xs[i] := List.getElem?_eq_getElem hlt
    refine .inr ⟨it.go i _ H' G' hx w'.gg w'.gh, LcI K H1 G1 D F xs ρ0 (i + 1), fun ys' σ2 H2 z => ⟨xs.length - (i + 1), by lia, rfl, hlt, z⟩, fun x H2 y => ?_⟩
    obtain ⟨G2, w2, r2⟩ := it.yld i _ H' G' x H2 hx w'.gg w'.gh y
    have e2 : EnvO K H2 G2 H2 σ' ρ0 := EnvO.only ln' (re'.mono w2.gg) onl
    have re2 : RepE K G2 σ' ρ0 := e2.p
    have w12 := w'.trans w2
    have hD2 : H2 D = some (.lst ys) := w2.hh _ _ hD'
    have gD2 : G2 D = none := by rw [w2.old D ⟨_, hD', fun _ z => nomatch z⟩]; exact gD'
    refine (?_ : g.v K x σ' H2 _)
    refine tgv_mono (tg_keep hn re2 ln' (Tg.ok w2.gh e2 r2 (hF _ (List.getElem_mem hlt)) (Q := fun σ3 H3 => H3 = H2 ∧ ∃ ρ3, EnvO K H2 G2 H2 σ3 ρ3 ∧ tc ρ3 fun c => (c = true → te ρ3 fun b => F xs[i] (some b.val)) ∧ (c = false → F xs[i] none)) fun σ3 ρ3 e3 p3 => ⟨rfl, ρ3, e3, p3⟩)) ?_
    rintro σ3 H3 ⟨⟨rfl, ρ3, e3, p3⟩, _, re3, ln3⟩
    refine ⟨G2, ρ3, _, w2.gh, e3.p, p3, fun c H4 G4 p4 w4 => ?_⟩
    have hD4 : H4 D = some (.lst ys) := w4.hh _ _ hD2
    have gD4 : G4 D = none := by rw [w4.old D ⟨_, hD2, fun _ z => nomatch z⟩]; exact gD2
    cases c with
    | true =>
      refine iteT ⟨G4, ρ3, _, w4.gh, RepE.mono w4.gg e3.p, p4.1 rfl, fun b v H5 G5 p5 w5 r5 => ?_⟩
      obtain ⟨G5', w5', r5'⟩ := r5.give w5
      have hD5 : H5 D = some (.lst ys) := w5.hh _ _ hD4
      have gD5 : G5' D = none := by rw [w5'.old D ⟨_, hD4, fun _ z => nomatch z⟩]; exact gD4
      have w15 := (w12.trans w4).trans w5'
      refine ⟨hD5, by have : sizeLine = 16777216 := sizeLine_eq; lia, .mk G5' (os ++ [some b.val]) (w15.own hD gD5) gD5 upd_same (by rw [List.length_append, List.length_singleton]; lia) (paired_take_snoc hos hx p5) ?_ (RepE.mono (w4.trans w5').gg re3) ln3⟩
      rw [List.filterMap_append]
      exact paired_app (Reps.mono ((w2.trans w4).trans w5').gg hr) (.cons r5' .nil)
    | false =>
      refine iteF (.mk G4 (os ++ [none]) (w12.trans w4) gD4 hD4 (by lia) (paired_take_snoc hos hx (p4.2 rfl)) ?_ (RepE.mono w4.gg re3) ln3)
      rw [List.filterMap_append, show List.filterMap id [(none : Option DL.D)] = [] from rfl, List.append_nil]
      exact Reps.mono (w2.trans w4).gg hr
  · have e : i = xs.length := by lia
    subst e
    refine .inl ⟨it.stop _ H' G' rfl w'.gg w'.gh, ?_⟩
    rw [List.take_length] at hos
    exact k _ _ H' G' (hP os hos) (w1.trans w') ⟨D, rfl, w1.hh.free hD, gD', ys, hD', hr⟩
where
  tgv_mono {K : PySem.W.Frag} {g : Tg} {v : V} {σ : St} {H : Hp} {Q Q' : St → Hp → Prop} (h : g.v K v σ H Q) (i : ∀ σ' H', Q σ' H' → Q' σ' H') : g.v K v σ H Q' := by
    cases g with
    | n j => exact i _ _ h
    | t is =>
      obtain ⟨a, xs, e, h1, h2, q⟩ := h
      exact ⟨a, xs, e, h1, h2, names_mono q i⟩
  names_mono {Q Q' : St → Hp → Prop} : ∀ {is : List Nat} {vs : List V} {σ : St} {H : Hp}, gNames is vs σ H Q → (∀ σ' H', Q σ' H' → Q' σ' H') → gNames is vs σ H Q'
    | [], _, _, _, ⟨e, q⟩, i => ⟨e, i _ _ q⟩
    | _ :: is, _, _, _, ⟨v, r, e, q⟩, i => ⟨v, r, e, names_mono (is := is) q i⟩
theorem lc_core {K : PySem.W.Frag} {ti : DTA} {fr : List (Option Nat)} {g : Tg} {tc : DTT} {te : DT} (ht : tgOk fr g = true) (σ : St) (H : Hp) (Q : VK) : cE K (dLC ti fr g tc te) σ H Q → tLC (cI K ti) fr (g.v K) (cT K tc) (cE K te) σ H Q := by
  rintro ⟨G, ρ, P, s, re, h, k⟩
  exact ⟨G, ρ, _, s, re, h, fun xs J H1 G1 p1 w1 it D hD => lc_body ht re k p1 w1 it D hD⟩
section
variable {X : Cx} {tg iter elt : Expr} {ifs : List Expr} {scope : Scope} {pos : Pos} {ti : DTA} {g : Tg} {tc : DTT} {te : DT}
theorem de_lc (N' : List Str) (fr : List (Option Nat)) (hc : X.calm = true) (hi : DI X tg iter ti)
    (hg : ∀ cl fp C s H, PG (blk X scope N' cl fp C s H) tg (g.v X.K)) (ht : ∀ cl fp C s H, DIfs (blk X scope N' cl fp C s H) ifs tc) (he : ∀ cl fp C s H, DE (blk X scope N' cl fp C s H) elt te)
    {sc0 : Scope} {N0 : List Str} (htg : tgOk fr g = true := by decide) (hsc : X.env.scope = sc0 := by rfl) (hN : X.N = N0 := by rfl) (hok : compScB sc0 N0 scope N' fr = true := by decide +kernel) (hs : ∀ x, foldedSetIterable iter X.env x = pure x := by intro _; rfl) :
    DE X (.ListComp elt [⟨tg, iter, ifs, 0⟩] scope pos) (dLC ti fr g tc te) :=
  DE.of (pe_lc (tc := cT X.K tc) (te := cE X.K te) N' fr hc hi.pi hg (fun cl fp C s H => (ht cl fp C s H).pf) (fun cl fp C s H => (he cl fp C s H).pe) hsc hN hok hs) (lc_core htg)
end
end DL
namespace DL
open PySem L2
structure DEnds where
  nx : DEnv → Prop
  rt : B → Prop
  bk : DEnv → Prop := fun _ => False
  ct : DEnv → Prop := fun _ => False
abbrev DTS := DEnds → DEnv → Prop
structure EndsOk (K : PySem.W.Frag) (H0 G0 : Hp) (E : DEnds) (Dn : Ends) : Prop where
  nx : ∀ σ H G ρ, Wd H0 G0 H G → EnvO K H0 G H σ ρ → E.nx ρ → Dn.nx σ H
  bk : ∀ σ H G ρ, Wd H0 G0 H G → EnvO K H0 G H σ ρ → E.bk ρ → Dn.bk σ H
  ct : ∀ σ H G ρ, Wd H0 G0 H G → EnvO K H0 G H σ ρ → E.ct ρ → Dn.ct σ H
  rt : ∀ b v H G, Wd H0 G0 H G → BRes K H0 G H v b → E.rt b → Dn.rt v H
def cS (K : PySem.W.Frag) (H0 G0 : Hp) (t : DTS) : TS := fun Dn σ H => ∃ (E : DEnds) (G : Hp) (ρ : DEnv), EndsOk K H0 G0 E Dn ∧ Wd H0 G0 H G ∧ EnvO K H0 G H σ ρ ∧ t E ρ
structure DS (X : Cx) (st : Stmt) (t : DTS) : Prop where
  ps : ∀ H0 G0, PS X st (cS X.K H0 G0 t)
structure DSs (X : Cx) (st : List Stmt) (t : DTS) : Prop where
  pss : ∀ H0 G0, PSs X st (cS X.K H0 G0 t)
section
variable {K : PySem.W.Frag} {H0 G0 G H H' : Hp} {σ : St} {ρ : DEnv}
theorem EnvO.freeze (e : EnvO K H0 G H σ ρ) (w : Wd H0 G0 H G) : ∃ G1, Wd H0 G0 H G1 ∧ Same G G1 ∧ EnvO K H0 G1 H σ (frz ρ) := by
  classical
  obtain ⟨o, e⟩ := e
  have to : ∀ a, H0 a = none → G a = none → (if H0 a = none ∧ G a = none then H a else G a) = H a := fun a h1 h2 => if_pos ⟨h1, h2⟩
  have sG : Same G (fun a => if H0 a = none ∧ G a = none then H a else G a) := fun a o h => by
    show (if _ then H a else G a) = _
    rw [if_neg fun q => by rw [q.2] at h; cases h]
    exact h
  refine ⟨fun a => if H0 a = none ∧ G a = none then H a else G a, ⟨w.hh, w.gg.trans sG, fun a o h => ?_, fun a h => ?_⟩, sG, ?_⟩
  · have h' : (if H0 a = none ∧ G a = none then H a else G a) = some o := h
    split at h'
    · exact h'
    · exact w.gh _ _ h'
  · show (if H0 a = none ∧ G a = none then H a else G a) = _
    rw [if_neg fun q => h.there q.1]
    exact w.old a h
  · have own : ∀ a d, H0 a = none → OwnAt K G H a d → Rep K (fun a => if H0 a = none ∧ G a = none then H a else G a) (.ref a) d := fun a d h0 h => h.rep sG fun o z => by
      show (if H0 a = none ∧ G a = none then H a else G a) = _
      rw [to a h0 h.1]
      exact z
    refine EnvO.only (by rw [frz_len]; exact e.len) (fun i d h => ?_) fun i b h => ?_
    · obtain ⟨b, h1, h2⟩ := dget_frz h
      cases h2
      cases b with
      | p d =>
        obtain ⟨v, h3, h4⟩ := e.p i d h1
        exact ⟨v, h3, h4.mono sG⟩
      | o d =>
        obtain ⟨a, h3, h4, h4', h5⟩ := e.o i d h1
        exact ⟨.ref a, h3, own a d h4 h5⟩
      | n t dss =>
        obtain ⟨a, h3, as, nd, pr, q⟩ := e.n i t dss h1
        have rs : Reps K (fun a => if H0 a = none ∧ G a = none then H a else G a) (as.map V.ref) dss := by
          clear q h1 h nd
          induction pr with
          | nil => exact .nil
          | cons f _ ih => exact .cons (own _ _ f.1 f.2.2) ih
        refine ⟨.ref a, h3, ?_⟩
        refine Ct.rep ?_ rs
        unfold Ct.On at q
        cases te : t.own with
        | true =>
          rw [te] at q
          exact Ct.at_own te (fun o z => by
            show (if H0 a = none ∧ G a = none then H a else G a) = _
            rw [to a q.1.1 q.2.1]
            exact z) q.2.2.2
        | false =>
          rw [te] at q
          exact Ct.at_mono sG q
    · obtain ⟨b', h1, h2⟩ := dget_frz h
      exact ⟨_, h2⟩
theorem EnvW.back {o : Addr → Nat} (e : EnvW K H0 G H o σ ρ) (hh : Same H H') : EnvW K H0 G H' o σ ρ :=
  ⟨e.len, e.p, fun i d h => by
    obtain ⟨a, h1, h2, h2', h3⟩ := e.o i d h
    exact ⟨a, h1, h2, h2', h3.stay (Same.refl _) h3.1 fun o q => hh _ _ q⟩, fun i t dss h => by
    obtain ⟨a, h1, h2⟩ := e.n i t dss h
    exact ⟨a, h1, h2.stay (Same.refl _) fun x k1 k2 k3 k4 => ⟨k3, k2, fun o q => hh _ _ q⟩⟩⟩
theorem EnvO.back (e : EnvO K H0 G H σ ρ) (hh : Same H H') : EnvO K H0 G H' σ ρ := by
  obtain ⟨o, e⟩ := e
  exact ⟨o, e.back hh⟩
theorem Wd.back {G1 G1' : Hp} (w : Wd H0 G0 H G) (w1 : Wd H G1 H' G1') : Wd H0 G0 H' G := ⟨w.hh.trans w1.hh, w.gg, w.gh.trans w1.hh, w.old⟩
end
section
variable {X : Cx} {st : Stmt} {rest : List Stmt} {t u : DTS} {a b c e : Expr} {ta tb te : DT} {pos : Pos}
def dNext : DTS := fun E ρ => E.nx ρ
def dSeq (t u : DTS) : DTS := fun E ρ => t { E with nx := u E } ρ
theorem dss_nil : DSs X [] dNext := DSs.mk fun H0 G0 => PSs.imp pss_nil fun Dn σ H ⟨E, G, ρ, eo, w, en, h⟩ => eo.nx σ H G ρ w en h
theorem dss_cons (h1 : DS X st t) (h2 : DSs X rest u) : DSs X (st :: rest) (dSeq t u) := DSs.mk fun H0 G0 => PSs.imp (pss_cons (h1.ps H0 G0) (h2.pss H0 G0)) fun Dn σ H ⟨E, G, ρ, eo, w, en, h⟩ =>
  ⟨{ E with nx := u E }, G, ρ, ⟨fun σ' H' G' ρ' w' en' h' => ⟨E, G', ρ', eo, w', en', h'⟩, eo.bk, eo.ct, eo.rt⟩, w, en, h⟩
theorem dss_one (h1 : DS X st t) : DSs X [st] t := DSs.mk fun H0 G0 => pss_one (h1.ps H0 G0)
def dDrop (te : DT) : DTS := fun E ρ => te (frz ρ) fun _ => E.nx ρ
def dRet (te : DT) : DTS := fun E ρ => te (frz ρ) E.rt
theorem ds_ret (he : DE X e te) : DS X (.Return (some e) pos) (dRet te) := DS.mk fun H0 G0 => PS.imp (ps_ret he.pe)<|by
  rintro Dn σ H ⟨E, G, ρ, eo, w, en, h⟩
  obtain ⟨G1, w1, sg, e1⟩ := en.freeze w
  exact ⟨G1, frz ρ, _, w1.gh, e1.p, h, fun b v H' G' p' w' r' => eo.rt b v H' G' (w1.trans w') (r'.ahead w.hh) p'⟩
def dRetN : DTS := fun E _ => E.rt (.p .non)
def dRetO (i : Nat) : DTS := fun E ρ => match dget ρ i with
  | some (.o d) => E.rt (.o d)
  | _ => False
def dIfS (tc : DTT) (t u : DTS) : DTS := fun E ρ => tc (frz ρ) fun c => (c = true → t E ρ) ∧ (c = false → u E ρ)
theorem ds_if {x y : List Stmt} {tc : DTT} (hc : DTe X c tc) (ha : DSs X x t) (hb : DSs X y u) : DS X (.If c x y pos) (dIfS tc t u) := DS.mk fun H0 G0 => PS.imp (ps_if hc.pt (ha.pss H0 G0) (hb.pss H0 G0))<|by
  rintro Dn σ H ⟨E, G, ρ, eo, w, en, h⟩
  obtain ⟨G1, w1, sg, e1⟩ := en.freeze w
  refine ⟨G1, frz ρ, _, w1.gh, e1.p, h, fun c H' G' p' w' => ?_⟩
  cases c with
  | true => exact iteT ⟨E, G, ρ, eo, w.back w', en.back w'.hh, p'.1 rfl⟩
  | false => exact iteF ⟨E, G, ρ, eo, w.back w', en.back w'.hh, p'.2 rfl⟩
def dSet (i : Nat) (te : DT) : DTS := fun E ρ => te ρ fun b => E.nx (dput ρ i b)
def dSetF (i : Nat) (te : DT) : DTS := fun E ρ => te (frz ρ) fun b => b.val.sc = true ∧ E.nx (dput ρ i (.p b.val))
def dSetD (i : Nat) (te : DT) : DTS := fun E ρ => te (frz ρ) fun b => E.nx (dput (frz ρ) i b)
theorem set_core {K : PySem.W.Frag} {H0 G0 H G H' G' : Hp} {σ : St} {ρ : DEnv} {E : DEnds} {Dn : Ends} (i : Nat) (eo : EndsOk K H0 G0 E Dn) (w : Wd H0 G0 H G) (en : EnvO K H0 G H σ ρ) {b : B} {v : V} (p : E.nx (dput ρ i b)) (w' : Wd H G H' G') (r : BRes K H G' H' v b) : Dn.nx (σ.set i (some v)) H' := by
  cases b with
  | p d => exact eo.nx _ H' G' _ (w.trans w') ((en.on w').putP i r) p
  | o d =>
    obtain ⟨a, rfl, hn, o⟩ := r
    exact eo.nx _ H' G' _ (w.trans w') (en.putO w' i (w.hh.free hn) hn o) p
  | n t ds =>
    obtain ⟨a, as, rfl, nd, pr, q⟩ := r
    exact eo.nx _ H' G' _ (w.trans w') (en.putNC w' w.hh i nd pr q) p
def dSetP (i : Nat) (te : DT) : DTS := fun E ρ => te ρ fun b => E.nx (dput ρ i (.p b.val))
def dSetDP (i : Nat) (te : DT) : DTS := fun E ρ => te (frz ρ) fun b => E.nx (dput (frz ρ) i (.p b.val))
theorem dsetP_imp {K : PySem.W.Frag} {H0 G0 : Hp} {i : Nat} (Dn : Ends) (σ : St) (H : Hp) : cS K H0 G0 (dSetP i te) Dn σ H → cE K te σ H fun v H1 => Dn.nx (σ.set i (some v)) H1 := by
  rintro ⟨E, G, ρ, eo, w, en, h⟩
  refine ⟨G, ρ, _, w.gh, en.p, h, fun b v H' G' p' w' r' => ?_⟩
  obtain ⟨G2, w2, r2⟩ := r'.give w'
  exact set_core i eo w en (b := .p b.val) p' w2 r2
section
variable {i : Nat} {x : Str} {px : Pos}
theorem ds_setP (hN : X.N.Nodup) (hi : X.N[i]? = some x) (hx : Loc X.env.scope x) (he : DE X e te) (hs : swapsWith e (some (.Name x px)) pos.line X.env = pure false := by rfl) (hf : X.fn x = true ∨ X.env.scope.names.lookup x = some .local := by first | exact .inl rfl | exact .inr rfl | assumption) :
    DS X (.Assign [.Name x px] e pos) (dSetP i te) := DS.mk fun H0 G0 => PS.imp (ps_set hN hi hx he.pe hs hf) dsetP_imp
variable {tg iter elt : Expr} {ifs : List Expr} {scope : Scope} {spos : Pos} {ti : DTA} {g : Tg} {tc : DTT}
def dAug (i : Nat) (te : DT) (f : Int → Int → Int) : DTS := fun E ρ => match dget ρ i with
  | some (.p (.int m)) => te (frz ρ) fun b => match b.val with
    | .int n => E.nx (dput ρ i (.p (.int (f m n))))
    | _ => False
  | _ => False
end
def dAsg (te : DT) (g : Tg) : DTS := fun E ρ => te ρ fun b => g.d b.val ρ E.nx
def dApp (i : Nat) (te : DT) : DTS := fun E ρ => match dget ρ i with
  | some (.o (.lst ds)) => te ρ fun b => ds.length < sizeLine ∧ E.nx (dput ρ i (.o (.lst (ds ++ [b.val]))))
  | _ => False
def dAppF (i : Nat) (te : DT) : DTS := fun E ρ => match dget ρ i with
  | some (.o (.lst ds)) => te (frz ρ) fun b => b.val.sc = true ∧ ds.length < sizeLine ∧ E.nx (dput ρ i (.o (.lst (ds ++ [b.val]))))
  | _ => False
section
variable {i : Nat} {x : Str} {px apos cpos spos : Pos}
def dSetIx (i : Nat) (tk te : DT) : DTS := fun E ρ => te ρ fun b => match dget ρ i with
  | some (.o (.lst ds)) => tk (frz ρ) fun k => match k.val with
    | .int z => ∃ j, ixN ds.length z = some j ∧ E.nx (dput ρ i (.o (.lst (ds.set j b.val))))
    | _ => False
  | _ => False
def dSetIxF (i : Nat) (tk te : DT) : DTS := fun E ρ => te (frz ρ) fun b => b.val.sc = true ∧ match dget ρ i with
  | some (.o (.lst ds)) => tk (frz ρ) fun k => match k.val with
    | .int z => ∃ j, ixN ds.length z = some j ∧ E.nx (dput ρ i (.o (.lst (ds.set j b.val))))
    | _ => False
  | _ => False
def dAugIx (i : Nat) (tk te : DT) (f : Int → Int → Int) : DTS := fun E ρ => match dget ρ i with
  | some (.o (.lst ds)) => tk (frz ρ) fun k => match k.val with
    | .int z => ∃ j m, ixN ds.length z = some j ∧ ds[j]? = some (.int m) ∧ te (frz ρ) fun b => match b.val with
      | .int n => E.nx (dput ρ i (.o (.lst (ds.set j (.int (f m n))))))
      | _ => False
    | _ => False
  | _ => False
end
def forI (g : Tg) (tb : DTS) (E : DEnds) (xs : List D) (ρ : DEnv) : Prop := ∃ I : Nat → DEnv → Prop, I 0 ρ ∧
  (∀ i d ρ, xs[i]? = some d → I i ρ → g.d d ρ fun ρ' => tb { E with nx := I (i + 1), ct := I (i + 1), bk := E.nx } ρ') ∧ ∀ ρ, I xs.length ρ → E.nx ρ
def dFor (ti : DTA) (g : Tg) (tb : DTS) : DTS := fun E ρ => ti ρ fun xs => forI g tb E xs ρ
def dForD (ti : DTA) (g : Tg) (tb : DTS) : DTS := fun E ρ => ti (frz ρ) fun xs => forI g tb E xs (frz ρ)
section
variable {tg iter : Expr} {body : List Stmt} {ti : DTA} {g : Tg} {tb : DTS}
def cIs (K : PySem.W.Frag) (t : DTA) : TI := fun σ H R => ∃ (G : Hp) (ρ : DEnv) (P : List D → Prop), Same G H ∧ RepE K G σ ρ ∧ t ρ P ∧ ∀ xs J H' G', P xs → Wd H G H' G' → (∀ G, ItD K G J xs) → R J H'
structure DIs (X : Cx) (tg e : Expr) (t : DTA) : Prop where
  pi : PI X tg e (cIs X.K t)
theorem DIs.of {e : Expr} {t : TI} {t' : DTA} (h : PI X tg e t) (i : ∀ σ H Q, cIs X.K t' σ H Q → t σ H Q) : DIs X tg e t' := ⟨PI.imp h i⟩
def dForS (ti : DTA) (g : Tg) (tb : DTS) : DTS := fun E ρ => ti (frz ρ) fun xs => forI g tb E xs ρ
end
end
def startD : Nat → List D → DEnv
  | 0, ds => ds.map fun d => some (.p d)
  | n + 1, [] => none :: startD n []
  | n + 1, d :: ds => some (.p d) :: startD n ds
theorem startD_ok {K : PySem.W.Frag} {G : Hp} : ∀ (n : Nat) {vs : List V} {ds : List D}, Reps K G vs ds → RepE K G (vs.map some ++ List.replicate (n - vs.length) none) (startD n ds) ∧ (vs.map some ++ List.replicate (n - vs.length) (none : Option V)).length = (startD n ds).length ∧ ∀ i d, dget (startD n ds) i ≠ some (.o d)
  | 0, _, _, .nil => ⟨fun i d h => (nomatch (show (none : Option B) = some (.p d) from h)), rfl, fun i d h => (nomatch (show (none : Option B) = some (.o d) from h))⟩
  | 0, _, _, .cons (a := v) (b := d) (l₁ := vs) (l₂ := ds) r rr => by
    obtain ⟨h1, h2, h3⟩ := startD_ok (K := K) (G := G) 0 rr
    have e0 : startD 0 (d :: ds) = some (.p d) :: startD 0 ds := rfl
    have e1 : (v :: vs).map some ++ List.replicate (0 - (v :: vs).length) (none : Option V) = some v :: (vs.map some ++ List.replicate (0 - vs.length) none) := by simp
    rw [e0, e1]
    refine ⟨fun i d' h => ?_, by rw [List.length_cons, List.length_cons, h2], fun i d' h => ?_⟩
    · cases i with
      | zero => cases h; exact ⟨v, rfl, r⟩
      | succ i => exact h1 i d' h
    · cases i with
      | zero => cases h
      | succ i => exact h3 i d' h
  | n + 1, _, _, .nil => by
    obtain ⟨h1, h2, h3⟩ := startD_ok (K := K) (G := G) n (vs := []) (ds := []) .nil
    have e1 : ([] : List V).map some ++ List.replicate (n + 1 - ([] : List V).length) (none : Option V) = none :: (([] : List V).map some ++ List.replicate (n - ([] : List V).length) none) := by simp [List.replicate_succ]
    rw [e1]
    refine ⟨fun i d' h => ?_, by show _ = (none :: startD n []).length; rw [List.length_cons, List.length_cons, h2], fun i d' h => ?_⟩
    · cases i with
      | zero => cases h
      | succ i => exact h1 i d' h
    · cases i with
      | zero => cases h
      | succ i => exact h3 i d' h
  | n + 1, _, _, .cons (a := v) (b := d) (l₁ := vs) (l₂ := ds) r rr => by
    obtain ⟨h1, h2, h3⟩ := startD_ok (K := K) (G := G) n rr
    have e1 : (v :: vs).map some ++ List.replicate (n + 1 - (v :: vs).length) (none : Option V) = some v :: (vs.map some ++ List.replicate (n - vs.length) none) := by simp
    rw [e1]
    refine ⟨fun i d' h => ?_, by show _ = (some (B.p d) :: startD n ds).length; rw [List.length_cons, List.length_cons, h2], fun i d' h => ?_⟩
    · cases i with
      | zero => cases h; exact ⟨v, rfl, r⟩
      | succ i => exact h1 i d' h
    · cases i with
      | zero => cases h
      | succ i => exact h3 i d' h
theorem startD_p : ∀ (n : Nat) (ds : List D) (i : Nat) (b : B), dget (startD n ds) i = some b → ∃ d, b = .p d
  | 0, [], _, _, h => by cases h
  | 0, d :: ds, 0, _, h => by cases h; exact ⟨_, rfl⟩
  | 0, d :: ds, i + 1, b, h => startD_p 0 ds i b h
  | n + 1, [], 0, _, h => by cases h
  | n + 1, [], i + 1, b, h => startD_p n [] i b h
  | n + 1, d :: ds, 0, _, h => by cases h; exact ⟨_, rfl⟩
  | n + 1, d :: ds, i + 1, b, h => startD_p n ds i b h
section
variable {P : Program} {w : World} {K : PySem.W.Frag} {mg : Str → Option Value} {base : Heap}
theorem okD {x qual : Str} {st : Stmt} {f : Addr} {fd : FuncData} {N ps : List Str} {k : Nat} {R : DR} (F : Fun K x qual st f fd) (S : FnScope N ps (defScope st)) (len : ∀ ds Q, R ds Q → ds.length = ps.length)
    (hbody : ∀ (cdv : Value) (A : Around) (outer : List Env) (s : Shared) (H : Hp) (E : XK), Room k (A.deeper (PyProof.Rows.envOfC qual (defScope st) s.heap.objs.size f cdv)) →
      ∃ t, DSs (cxOf CX0 P w K mg base N qual (defScope st) f cdv A outer s H E).nox (defBody st) t ∧ ∀ ds Q, R ds Q → t { nx := fun _ => Q (.p .non), rt := Q } (startD N.length ds)) : FnOk P w K mg base CX0 (k + 1) f fd ps (spD K R) := by
  refine F.ok S (by rintro vs H Q E ⟨ds, G, P, s, r, h, _⟩;rw [Paired.length r]; exact len ds P h) ?_
  rintro cdv A outer s H vs Q E hr ⟨ds, G, P, sg, r, h, k⟩
  obtain ⟨t, h1, h2⟩ := hbody cdv A outer s H E hr
  obtain ⟨e1, e2, e3⟩ := startD_ok (K := K) N.length r
  refine ⟨_, h1.pss H G, _, G, _, ?_, Wd.refl sg, EnvO.only e2 e1 (startD_p _ _), h2 ds P h⟩
  exact ⟨fun σ H' G' ρ w' _ p => k _ _ H' G' p w' (show Rep K G' V.non D.non from .non), fun σ H' G' ρ w' _ p => p.elim, fun σ H' G' ρ w' _ p => p.elim, fun b v H' G' w' r' p => k b v H' G' p w' r'⟩
end
end DL
namespace DL
open PySem L2
section
variable {X : Cx} {tg e : Expr} {te : DT} {pos : Pos} {es : List Expr}
theorem de_gI {x : Str} {i : Int} (hg : Gl X x) (h : ∃ t, X.mg x = some (.int i t)) (hd : (x == ("__debug__" : Str)) = false := by decide) : DE X (.Name x pos) (dC (.int i)) := de_c (pe_gI hg h hd) fun _ => .int i
def enumFrom : Nat → List D → List D
  | _, [] => []
  | k, x :: xs => .tup [.int (k : Nat), x] :: enumFrom (k + 1) xs
def di_enumerateT (t : DTA) : DTA := fun ρ P => t ρ fun ds => match ds with
  | [.lst xs] => P (enumFrom 0 xs)
  | _ => False
def zipD (xs ys : List D) : List D := (xs.zip ys).map fun p => .tup [p.1, p.2]
def di_zipT (t : DTA) : DTA := fun ρ P => t ρ fun ds => match ds with
  | [.lst xs, .lst ys] => P (zipD xs ys)
  | _ => False
def di_reversedT (t : DTA) : DTA := fun ρ P => t ρ fun ds => match ds with
  | [.lst xs] => P xs.reverse
  | _ => False
def downTo (a : Int) (n : Nat) : List D := (List.range n).map fun i => D.int (a + (i : Nat) * (-1))
def diRevr1 (t : DTA) : DTA := fun ρ P => t ρ fun ds => match ds with
  | [.int j] => (0 ≤ j ∧ j < 2 ^ 62) ∧ P (downTo (j - 1) j.toNat)
  | _ => False
end
end DL
namespace DL
open PySem L2
def spLaw (K : PySem.W.Frag) : Sp := fun vs H Q _ => ∃ (a : Addr) (ns : List Int), vs = [.ref a] ∧ SqL K H a (ns.map V.int) ∧ ns.length ≤ 63 ∧ ∀ H', Q (.bl true) H'
def r_law : DR := fun ds P => ∃ ns : List Int, ds = [.scr ns] ∧ ns.length ≤ 63 ∧ P (.p (.bl true))
theorem law_of {P : Program} {w : World} {K : PySem.W.Frag} {mg : Str → Option Value} {base : Heap} {k : Nat} {f : Addr} {fd : FuncData} {ps : List Str} (h : FnOk P w K mg base CX0 k f fd ps (spD K r_law)) : FnOk P w K mg base CX0 k f fd ps (spLaw K) :=
  h.imp fun vs H Q E ⟨a, ns, e, hs, hl, q⟩ => ⟨[.scr ns], H, fun b => b = .p (.bl true), Same.refl _, by rw [e]; exact .cons (.scr hs) .nil, ⟨ns, rfl, hl, rfl⟩, fun b v H' G' hb w r => by
    subst hb
    have : v = .bl true := Rep.bl_inv r
    rw [this]
    exact q H'⟩
theorem paired_fun {α β : Type} {f : α → β} : ∀ {xs : List α} {os : List β}, Paired (fun x o => o = f x) xs os → os = xs.map f
  | _, _, .nil => rfl
  | _, _, .cons h t => by rw [h, paired_fun t]; rfl
theorem filterMap_id {α β : Type} (f : α → Option β) : ∀ xs : List α, (xs.map f).filterMap id = xs.filterMap f
  | [] => rfl
  | x :: xs => by
    rw [List.map_cons, List.filterMap_cons, List.filterMap_cons, filterMap_id f xs]
    rfl
theorem lc_fun {xs : List D} {g : Tg} {tc : DTT} {te : DT} {ρ : DEnv} {Q : B → Prop} (f : D → Option D) (hz : xs.length ≤ 1000000) (h : ∀ x ∈ xs, g.d x ρ fun ρ' => tc ρ' fun c => (c = true → te ρ' fun b => some b.val = f x) ∧ (c = false → none = f x)) (q : Q (.o (.lst (xs.filterMap f)))) :
    lcI xs g tc te ρ Q := by
  refine ⟨by have : sizeLine = 16777216 := sizeLine_eq; lia, fun x o => o = f x, h, fun os ho => ?_⟩
  rw [paired_fun ho, filterMap_id]
  exact q
end DL
namespace WS
open PySem L2
def sp : Str := ⟨#[32]⟩
def hotW : Str := Str.ofString "hot"
def coldW : Str := Str.ofString "cold"
structure NumOk (x : S3) : Prop where
  a0 : 0 ≤ x.1
  a1 : x.1 < 10 ^ 10
  b0 : 0 ≤ x.2.1
  b1 : x.2.1 < 10 ^ 10
  c0 : 0 ≤ x.2.2
  c1 : x.2.2 < 10 ^ 10
theorem len_app (x y : Str) : (x ++ y).length = x.length + y.length := Str.length_append x y
end WS
namespace WS
end WS
namespace WS
def sfx (xs : List Int) (L : Nat) : Int := (xs.drop L).sum
structure Drawn (g : Int) (hs cs : List S3) (gv wt : List Int) : Prop where
  lg : gv.length = 251
  lw : wt.length = 251
  ng : ∀ x ∈ gv, 0 ≤ x
  nw : ∀ x ∈ wt, 0 ≤ x
  lack : ∀ L : Nat, L ≤ 251 → lackF g hs cs (L : Nat) ≤ sfx wt L - sfx gv L
  all : sfx wt 0 - sfx gv 0 = lackF g hs cs 0
end WS
namespace WS
end WS
namespace DL
open PySem L2
theorem filterMap_congr' {α β : Type} {f g : α → Option β} : ∀ {xs : List α}, (∀ x ∈ xs, f x = g x) → xs.filterMap f = xs.filterMap g
  | [], _ => rfl
  | x :: xs, h => by rw [List.filterMap_cons, List.filterMap_cons, h x List.mem_cons_self, filterMap_congr' fun y hy => h y (List.mem_cons_of_mem _ hy)]
theorem lc_funE {α : Type} {xs : List α} {e : α → D} {g : Tg} {tc : DTT} {te : DT} {ρ : DEnv} {Q : B → Prop} (F : D → Option D) (f : α → Option D) (hF : ∀ x ∈ xs, F (e x) = f x) (hz : xs.length ≤ 1000000) (h : ∀ x ∈ xs, g.d (e x) ρ fun ρ' => tc ρ' fun c => (c = true → te ρ' fun b => some b.val = f x) ∧ (c = false → none = f x)) (q : Q (.o (.lst (xs.filterMap f)))) :
    lcI (xs.map e) g tc te ρ Q := by
  refine lc_fun F (by rw [List.length_map]; exact hz) (fun d hd => ?_) ?_
  · obtain ⟨x, hx, rfl⟩ := List.mem_map.mp hd
    rw [hF x hx]
    exact h x hx
  · rw [List.filterMap_map, show xs.filterMap (F ∘ e) = xs.filterMap f from filterMap_congr' hF]
    exact q
theorem dIx_lst (xs : List D) (i : Int) (Q : B → Prop) : dIx (.lst xs) (.int i) Q = ∃ d, atI xs i = some d ∧ Q (.p d) := rfl
theorem dIx_tup (xs : List D) (i : Int) (Q : B → Prop) : dIx (.tup xs) (.int i) Q = ∃ d, atI xs i = some d ∧ Q (.p d) := rfl
theorem dIx_scr (ns : List Int) (i : Int) (Q : B → Prop) : dIx (.scr ns) (.int i) Q = ∃ n, atI ns i = some n ∧ Q (.p (.int n)) := rfl
theorem dAdd_int (i j : Int) (Q : B → Prop) : dAdd (.int i) (.int j) Q = Q (.p (.int (i + j))) := rfl
theorem dAdd_lst (xs ys : List D) (Q : B → Prop) : dAdd (.lst xs) (.lst ys) Q = (xs.length + ys.length ≤ sizeLine ∧ Q (.o (.lst (xs ++ ys)))) := rfl
theorem dAdd_str (x y : Str) (Q : B → Prop) : dAdd (.str x) (.str y) Q = (x.length + y.length ≤ sizeLine ∧ Q (.p (.str (x ++ y)))) := rfl
theorem dAdd_tup (xs ys : List D) (Q : B → Prop) : dAdd (.tup xs) (.tup ys) Q = (xs ≠ [] ∧ ys ≠ [] ∧ xs.length + ys.length ≤ sizeLine ∧ Q (.p (.tup (xs ++ ys)))) := rfl
theorem dMul_int (i j : Int) (Q : B → Prop) : dMul (.int i) (.int j) Q = (CMul i j ∧ Q (.p (.int (i * j)))) := rfl
theorem dEqS_int (i j : Int) (Q : B → Prop) : dEqS (.int i) (.int j) Q = Q (.p (.bl (decide (i = j)))) := rfl
theorem dEqS_str (i j : Str) (Q : B → Prop) : dEqS (.str i) (.str j) Q = Q (.p (.bl (decide (i = j)))) := rfl
theorem dEqS_bl (i j : Bool) (Q : B → Prop) : dEqS (.bl i) (.bl j) Q = Q (.p (.bl (decide (i = j)))) := rfl
theorem dNeS_int (i j : Int) (Q : B → Prop) : dNeS (.int i) (.int j) Q = Q (.p (.bl (!decide (i = j)))) := rfl
theorem dNeS_str (i j : Str) (Q : B → Prop) : dNeS (.str i) (.str j) Q = Q (.p (.bl (!decide (i = j)))) := rfl
theorem dNeS_bl (i j : Bool) (Q : B → Prop) : dNeS (.bl i) (.bl j) Q = Q (.p (.bl (!decide (i = j)))) := rfl
theorem dLen_lst (xs : List D) (P : B → Prop) : dLen [.lst xs] P = P (.p (.int xs.length)) := rfl
theorem dLen_tup (xs : List D) (P : B → Prop) : dLen [.tup xs] P = P (.p (.int xs.length)) := rfl
theorem dLen_scr (xs : List Int) (P : B → Prop) : dLen [.scr xs] P = P (.p (.int xs.length)) := rfl
def itL (d : D) (P : List D → Prop) : Prop := match d with
  | .lst xs => P xs
  | .scr ns => P (ns.map D.int)
  | _ => False
theorem diList_is (te : DT) (ρ : DEnv) (P : List D → Prop) : diList te ρ P = te ρ fun b => itL b.val P := rfl
theorem itL_lst (xs : List D) (P : List D → Prop) : itL (.lst xs) P = P xs := rfl
theorem itL_scr (xs : List Int) (P : List D → Prop) : itL (.scr xs) P = P (xs.map D.int) := rfl
def slD (d : D) (lo hi : Option Int) (Q : B → Prop) : Prop := match d with
  | .lst xs => Q (.o (.lst (cutL xs lo hi)))
  | .scr ns => Q (.o (.lst ((cutL ns lo hi).map D.int)))
  | .tup xs => ¬ (HT.sIx xs.length 0 lo = 0 ∧ HT.sIx xs.length xs.length hi = xs.length) ∧ Q (.p (.tup (cutL xs lo hi)))
  | _ => False
theorem dSl_is (te : DT) (tl th : DTO) (ρ : DEnv) (Q : B → Prop) : dSl te tl th ρ Q = te ρ fun b => tl ρ fun lo => th ρ fun hi => slD b.val lo hi Q := rfl
theorem slD_lst (xs : List D) (lo hi : Option Int) (Q : B → Prop) : slD (.lst xs) lo hi Q = Q (.o (.lst (cutL xs lo hi))) := rfl
theorem slD_scr (xs : List Int) (lo hi : Option Int) (Q : B → Prop) : slD (.scr xs) lo hi Q = Q (.o (.lst ((cutL xs lo hi).map D.int))) := rfl
theorem slD_tup (xs : List D) (lo hi : Option Int) (Q : B → Prop) : slD (.tup xs) lo hi Q = (¬ (HT.sIx xs.length 0 lo = 0 ∧ HT.sIx xs.length xs.length hi = xs.length) ∧ Q (.p (.tup (cutL xs lo hi)))) := rfl
def slSD (d : D) (lo hi st : Option Int) (Q : B → Prop) : Prop := match d with
  | .lst xs => Q (.o (.lst (stepV xs lo hi st)))
  | .scr ns => Q (.o (.lst ((stepV ns lo hi st).map D.int)))
  | _ => False
theorem dSlS_is (te : DT) (tl th ts : DTO) (ρ : DEnv) (Q : B → Prop) : dSlS te tl th ts ρ Q = te ρ fun b => tl ρ fun lo => th ρ fun hi => ts ρ fun st => st ≠ some 0 ∧ slSD b.val lo hi st Q := rfl
theorem slSD_lst (xs : List D) (lo hi st : Option Int) (Q : B → Prop) : slSD (.lst xs) lo hi st Q = Q (.o (.lst (stepV xs lo hi st))) := rfl
theorem slSD_scr (xs : List Int) (lo hi st : Option Int) (Q : B → Prop) : slSD (.scr xs) lo hi st Q = Q (.o (.lst ((stepV xs lo hi st).map D.int))) := rfl
theorem dCopy_lst (xs : List D) (P : B → Prop) : dCopy [.lst xs] P = P (.o (.lst xs)) := rfl
theorem dCopy_tup (xs : List D) (P : B → Prop) : dCopy [.tup xs] P = P (.o (.lst xs)) := rfl
theorem dCopy_scr (xs : List Int) (P : B → Prop) : dCopy [.scr xs] P = P (.o (.lst (xs.map D.int))) := rfl
theorem ixk0 {α : Type} (a : α) (l : List α) : atI (a :: l) (0 : Int) = some a := by unfold atI ixN; simp
theorem ixk1 {α : Type} (a b : α) (l : List α) : atI (a :: b :: l) (1 : Int) = some b := by
  have : atI (a :: b :: l) (((1 : Nat)) : Int) = some b := atI_nat rfl
  exact this
theorem ixk2 {α : Type} (a b c : α) (l : List α) : atI (a :: b :: c :: l) (2 : Int) = some c := by
  have : atI (a :: b :: c :: l) (((2 : Nat)) : Int) = some c := atI_nat rfl
  exact this
theorem ixk3 {α : Type} (a b c d : α) (l : List α) : atI (a :: b :: c :: d :: l) (3 : Int) = some d := by
  have : atI (a :: b :: c :: d :: l) (((3 : Nat)) : Int) = some d := atI_nat rfl
  exact this
theorem ixk4 {α : Type} (a b c d e : α) (l : List α) : atI (a :: b :: c :: d :: e :: l) (4 : Int) = some e := by
  have : atI (a :: b :: c :: d :: e :: l) (((4 : Nat)) : Int) = some e := atI_nat rfl
  exact this
theorem ex_at {α : Type} (a : α) (p : α → Prop) : (∃ d, some a = some d ∧ p d) = p a := propext ⟨by rintro ⟨d, e, h⟩;cases e; exact h, fun h => ⟨a, rfl, h⟩⟩
theorem atI_of {α : Type} {xs : List α} {e : α → D} {k : Nat} {x : α} (h : xs[k]? = some x) : atI (xs.map e) ((k : Nat) : Int) = some (e x) := by
  refine atI_nat ?_
  rw [List.getElem?_map, h]
  rfl
end DL
set_option maxHeartbeats 4000000
namespace L2
open PySem PySem.Spec PyProof.Rows
theorem ObjOk.has {P : Program} {w : World} {H : Hp} {h : Heap} {a : Addr} {o : HO} (x : ObjOk P w H h a o) : ∃ ob, h.get? a = some ob := by
  cases o with
  | lst xs => obtain ⟨_, _, _, _, e⟩ := x; exact ⟨_, e⟩
  | tup xs => obtain ⟨_, _, _, ob, e, _⟩ := x; exact ⟨_, e⟩
  | dK kvs => obtain ⟨_, _, _, _, o, _, _, e, _⟩ := x; exact ⟨_, e⟩
  | dT kvs => obtain ⟨_, _, _, _, o, _, _, e, _⟩ := x; exact ⟨_, e⟩
  | set S n => obtain ⟨o, _, _, _, e, _⟩ := x; exact ⟨_, e⟩
  | ins C dx fs => obtain ⟨_, _, _, e, _⟩ := x; exact ⟨_, e⟩
  | own y => exact x
  | xd fs => obtain ⟨_, ⟨_, _, _, e, _⟩, _⟩ := x; exact ⟨_, e⟩
  | rng lo hi => obtain ⟨_, _, _, e⟩ := x; exact ⟨_, e⟩
  | frz ob u => obtain ⟨e, _⟩ := x; exact ⟨_, e⟩
  | tbl ps =>
    unfold ObjOk at x
    first
      | exact ⟨_, x⟩
      | (obtain ⟨tb, e, _⟩ := x; exact ⟨_, e⟩)
  | met f y =>
    have e : h.get? a = some (PySem.W.methodObj (.ref f) (.ref y)) := x
    exact ⟨_, e⟩
  | ext φ => obtain ⟨_, e, _⟩ := x; exact e
structure KB (fs : List Addr) (H H' : Hp) (h B : Heap) : Prop where
  keep : ∀ b o, h.get? b = some o → H b = none → b ∉ fs → B.get? b = some o
  there : ∀ b o, h.get? b = some o → b ∉ fs → ∃ o', B.get? b = some o'
  trk : ∀ a u, H' a = some u → ∃ o, B.get? a = some o
theorem KB.un {fs : List Addr} {H H' : Hp} {h h1 h2 B : Heap} (k : KB fs H H' h B) (st : B.StaysIn h2) (u : Un fs [] H H' h h1) (up : h1.UpToSlots h2)
    (nf : ∀ b ∈ fs, ∀ o, h1.get? b = some o → ∀ vs, o.data ≠ .fields vs) : Un fs [] H H' h h2 where
  keep := fun b o e n hb _ => st b o (k.keep b o e n hb)
  slot := fun b o e n hb hx => by
    obtain ⟨sl, e1⟩ := u.slot b o e n hb hx
    obtain ⟨sl', e2⟩ := up b _ e1 (nf b hb _ e1)
    exact ⟨sl', e2⟩
  free := u.free
  there := fun b o e hx => by
    by_cases hb : b ∈ fs
    · obtain ⟨o', e1⟩ := u.there b o e hx
      obtain ⟨sl, e2⟩ := up b o' e1 (nf b hb _ e1)
      exact ⟨_, e2⟩
    · obtain ⟨o', e1⟩ := k.there b o e hb
      exact ⟨o', st b o' e1⟩
  tups := u.tups
  frzs := u.frzs
  tbls := u.tbls
theorem KB.hok {P : Program} {w : World} {fs : List Addr} {H H' : Hp} {h h1 h2 B : Heap} (k : KB fs H H' h B) (st1 : B.StaysIn h1) (st2 : B.StaysIn h2) (ok : HOk P w H' h1) : HOk P w H' h2 := fun a o e => by
  refine (ok a o e).stay (fun b u hb q => ?_) (fun _ z => z) fun _ _ z => z
  have : ∃ v, H' b = some v := by
    rcases hb with rfl | hb
    · exact ⟨o, e⟩
    · exact ⟨_, hb⟩
  obtain ⟨v, ev⟩ := this
  obtain ⟨o', e'⟩ := k.trk b v ev
  have := st1 b o' e'
  rw [q] at this
  cases this
  exact st2 b _ e'
def CXe (P : Program) (w : World) : CXT := fun outer H s E e s' =>
  ∃ (ea : Addr) (cls a0 : Value) (H' : Hp) (B : Heap), e = .ref ea ∧ Heap.FlyingW B outer ea cls a0 s'.heap ∧ KB (frs outer) H H' s.heap B ∧ s'.os = s.os ∧ AllBare s'.gens ∧
    Un (frs outer) [] H H' s.heap s'.heap ∧ HOk P w H' s'.heap ∧ E cls none H'
theorem CXe.never {P : Program} {w : World} {outer : List Env} {H : Hp} {s s' : Shared} {e : Value} (h : CXe P w outer H s (fun _ _ _ => False) e s') : False := by
  obtain ⟨_, _, _, _, _, _, _, _, _, _, _, _, z⟩ := h
  exact z
theorem fun_nf {h base : Heap} {l : List Env} (f : h.FunFrames base l) : ∀ b ∈ frs l, ∀ o, h.get? b = some o → ∀ vs, o.data ≠ .fields vs := fun b hb o e => by
  obtain ⟨_, o', e', d⟩ := f.mem hb
  rw [e] at e'
  cases e'
  exact d
structure Body (X : Cx) (E : XK) : Prop where
  ex : X.ex = []
  stack : X.stack = X.env :: X.outer
  frame : X.env.frame = some X.env.locals
  xe : ∀ e s', wpAny (model X.prog X.w) X.A (leaving X.env e) (fun _ s'' => CXe X.prog X.w X.outer X.H₀ X.s₀ E e s'') (fun e' s'' => CXe X.prog X.w X.outer X.H₀ X.s₀ E e' s'') s' → X.xe e s'
theorem body_cx {P : Program} {w : World} {K : PySem.W.Frag} {mg : Str → Option Value} {base : Heap} {N : List Str} {qual : Str} {scope : Scope} {f : Addr} {cd : Value} {A : Around} {outer : List Env} {s : Shared} {H : Hp} {E : XK} :
    Body (cxOf (CXe P w) P w K mg base N qual scope f cd A outer s H E) E := ⟨rfl, rfl, rfl, fun _ _ h => h⟩
section
variable {X : Cx} {E : XK} {pins : List (Addr × Obj)} {σ : St} {H : Hp} {s s' : Shared}
theorem Body.frs_eq (b : Body X E) : frs X.stack = X.env.locals :: X.fs := by
  rw [b.stack]
  show frs (X.env :: X.outer) = _
  unfold frs
  rw [List.filterMap_cons, b.frame]
  rfl
theorem Body.neL (b : Body X E) (I : Inv X pins σ H s) {c : Addr} {o : Obj} (e : X.s₀.heap.get? c = some o) (hc : c ∉ X.fs) : c ∉ frs X.stack := fun z => by
  rw [b.frs_eq] at z
  rcases List.mem_cons.mp z with rfl | z
  · exact absurd (Nat.lt_of_lt_of_le (Heap.lt_size e) I.ok.above) (Nat.lt_irrefl _)
  · exact hc z
theorem Body.kb {H' : Hp} {B : Heap} (b : Body X E) (I : Inv X pins σ H s) (k : KB (frs X.stack) H H' s.heap B) : KB X.fs X.H₀ H' X.s₀.heap B where
  keep := fun c o e n hc => k.keep c o (I.base.keep c o e n hc (by rw [b.ex]; simp)) (I.base.free c o e n (by rw [b.ex]; simp)) (b.neL I e hc)
  there := fun c o e hc => by
    obtain ⟨o', e'⟩ := I.base.there c o e (by rw [b.ex]; simp)
    exact k.there c o' e' (b.neL I e hc)
  trk := k.trk
theorem Body.un {H' : Hp} {h' : Heap} (b : Body X E) (I : Inv X pins σ H s) (u : Un (frs X.stack) [] H H' s.heap h') : Un X.fs [] X.H₀ H' X.s₀.heap h' := by
  have u0 : Un (frs X.stack) [] X.H₀ H X.s₀.heap s.heap := I.base.mono (fun c hc => by rw [b.frs_eq]; exact .tail _ hc) fun c hc => by rw [b.ex] at hc; exact hc
  have u2 := u0.trans u
  exact ⟨fun c o e n hc hx => u2.keep c o e n (b.neL I e hc) hx, fun c o e n _ hx => u2.any e n hx, u2.free, u2.there, u2.tups, u2.frzs, u2.tbls⟩
theorem Body.passes (b : Body X E) {E' : XK} (hE : ∀ cls dx H, E' cls dx H → E cls dx H) : Passes (CXe X.prog X.w) X E' := by
  intro pins σ H s e s' I h
  obtain ⟨ea, cls, a0, H', B, rfl, fl, k, os, bare, un, hok, q⟩ := h
  refine b.xe _ _ ?_
  have fl' := fl
  rw [b.stack] at fl'
  refine wpAny_leaves_onW (by rw [I.ok.frames, b.stack]) b.frame fl' fun h' fl2 up => ?_
  refine ⟨ea, cls, a0, H', B, rfl, fl2, b.kb I k, os.trans I.os, bare, (b.kb I k).un fl2.1 (b.un I un) up ?_, k.hok fl.1 fl2.1 hok, hE _ _ _ q⟩
  intro c hc
  exact fun_nf fl.2.2.1 c (by rw [b.frs_eq]; exact .tail _ hc)
theorem Body.raises (b : Body X E) (I : Inv X pins σ H s) {ea : Addr} {cls : Value} {args : List Value} (hx : Heap.MadeExcOf s.heap s'.heap ea cls args) (os : s'.os = s.os) (bare : AllBare s'.gens) (q : E cls none H) : X.xe (.ref ea) s' := by
  refine b.xe _ _ ?_
  have hfr : X.A.frames = some (X.env :: X.outer) := by rw [I.ok.frames, b.stack]
  have st : (PySem.W.hideAll s.heap (frs X.stack)).StaysIn s.heap := fun c o e => PySem.W.of_hideAll _ e
  have ff : s.heap.FunFrames (PySem.W.hideAll s.heap (frs X.stack)) (X.env :: X.outer) := by
    have z := I.stack
    rw [b.stack] at z
    exact PySem.W.funFrames_hide z fun env he a ha => by
      rw [b.stack]
      exact List.mem_filterMap.mpr ⟨env, he, ha⟩
  have k : KB (frs X.stack) H H s.heap (PySem.W.hideAll s.heap (frs X.stack)) := by
    refine ⟨fun c o e _ hc => PySem.W.hideAll_get _ e hc, fun c o e hc => ⟨o, PySem.W.hideAll_get _ e hc⟩, fun a u e => ?_⟩
    obtain ⟨o, ho⟩ := (I.hok a u e).has
    exact ⟨o, PySem.W.hideAll_get _ ho fun hm => by rw [I.stkFree a hm] at e; cases e⟩
  refine wpAny_leaves_madeW hfr b.frame st ff hx fun h' t fl _ _ up => ?_
  have u1 : Un (frs X.stack) [] H H s.heap s'.heap := Un.kept hx.keeps
  refine ⟨ea, cls, .ref t, H, _, rfl, fl, b.kb I k, os.trans I.os, bare, (b.kb I k).un fl.1 (b.un I u1) up ?_, k.hok st fl.1 I.hok, q⟩
  intro c hc o e
  obtain ⟨_, o', e', d⟩ := ff.mem (show c ∈ frs (X.env :: X.outer) by rw [← b.stack, b.frs_eq]; exact .tail _ hc)
  have := hx.keeps _ _ e'
  rw [e] at this
  cases this
  exact d
end
end L2
set_option maxHeartbeats 4000000
namespace L2
open PySem PySem.Spec PyProof.Rows
abbrev veM : List Value := [.type "ValueError", .type "Exception", .type "BaseException", .type "object"]
def errI (K : PySem.W.Frag) (C : Addr) (cd : ClassData) (sl : List (Option Value)) : Bool :=
  decide (sl.length = 6) && (sl[4]? == some (some (.builtin "ValueError.__new__"))) && !cd.hasDel && (cd.mro.head? == some (.ref C)) && PySem.W.tailIn K veM cd.mro.tail && PySem.W.nsOkIn K cd.ns && (PySem.W.nsIn K cd.ns "__init__" == some none)
def errD (K : PySem.W.Frag) (C : Addr) (sl : List (Option Value)) : Data → Bool
  | .cls cd => errI K C cd sl
  | _ => false
def errC (K : PySem.W.Frag) (C : Addr) : Bool := match K.lookup C with
  | some o => (o.cls == .type "type") && errD K C o.slots.toList o.data
  | none => false
def ErrCls (K : PySem.W.Frag) (C : Addr) : Prop := errC K C = true
theorem len_cons {α : Type} {n : Nat} : ∀ {l : List α}, l.length = n + 1 → ∃ a t, l = a :: t ∧ t.length = n
  | a :: t, h => ⟨a, t, rfl, Nat.succ.inj h⟩
theorem len_six {α : Type} {l : List α} (h : l.length = 6) : ∃ a b c d e f, l = [a, b, c, d, e, f] := by
  obtain ⟨a, l1, e1, h1⟩ := len_cons h
  obtain ⟨b, l2, e2, h2⟩ := len_cons h1
  obtain ⟨c, l3, e3, h3⟩ := len_cons h2
  obtain ⟨d, l4, e4, h4⟩ := len_cons h3
  obtain ⟨e, l5, e5, h5⟩ := len_cons h4
  obtain ⟨f, l6, e6, h6⟩ := len_cons h5
  rw [List.length_eq_zero_iff.mp h6] at e6
  subst e6; subst e5; subst e4; subst e3; subst e2
  exact ⟨a, b, c, d, e, f, e1⟩
inductive ErrO (h : Heap) (C : Addr) : Prop
  | mk (bm : List Value) (N : Addr) (nm q : Str) (bs : List Value) (hdct : Bool) (sn : List Str) (sub : List Value) (ab : Bool) (col : Option Bool) (dd : Option Addr) (k0 k1 k2 k3 k5 : Option Value) (mN : Str → Option Value) (hC : h.get? C = some (excClassObj nm q C N bs bm hdct sn sub ab col dd k0 k1 k2 k3 k5 "ValueError.__new__")) (hN : h.Ns N mN) (hni : mN "__init__" = none) (T : OwnTail h veM bm)
theorem ErrCls.obj {K : PySem.W.Frag} {h : Heap} {C : Addr} (X : K.In h) (q : ErrCls K C) : ErrO h C := by
  unfold ErrCls errC at q
  cases e : K.lookup C with
  | none => rw [e] at q; cases q
  | some o =>
    rw [e] at q
    obtain ⟨q1, q2⟩ := (Bool.and_eq_true _ _).mp q
    obtain ⟨cls, dd, dat, sl⟩ := o
    obtain rfl : cls = .type "type" := beq_iff_eq.mp q1
    obtain ⟨cd, rfl⟩ : ∃ cd, dat = .cls cd := by
      cases dat with
      | cls cd => exact ⟨cd, rfl⟩
      | _ => cases q2
    obtain ⟨nm, bs, mro, ns, qn, hd, sn, sub, ab, col, del⟩ := cd
    have q3 : errI K C ⟨nm, bs, mro, ns, qn, hd, sn, sub, ab, col, del⟩ sl.toList = true := q2
    unfold errI at q3
    simp only [Bool.and_eq_true, beq_iff_eq, Bool.not_eq_true', decide_eq_true_eq] at q3
    obtain ⟨⟨⟨⟨⟨⟨g1, g2⟩, g3⟩, g4⟩, g5⟩, g6⟩, g7⟩ := q3
    obtain ⟨l⟩ := sl
    obtain ⟨k0, k1, k2, k3, k4, k5, el⟩ := len_six (l := l) g1
    have g2' : l[4]? = some (some (.builtin "ValueError.__new__")) := g2
    rw [el] at g2'
    cases g2'
    cases mro with
    | nil => cases g4
    | cons a bm =>
      cases g4
      subst el
      have g3' : del = false := g3
      subst g3'
      exact .mk bm ns nm qn bs hd sn sub ab col dd k0 k1 k2 k3 k5 _ (X _ _ e) (.of_isNs (PySem.W.isNs_of_in X g6)) (PySem.W.nsMap_none_of_in X g6 g7) (PySem.W.tail_of_in X g5)
section
variable {X : Cx} {E : XK} {C : Addr} {x : Str} {e₀ : Expr} {rest : List Expr} {np cpos pos : Pos} {ta : TA}
def tRaise (C : Addr) (E : XK) (ta : TA) : TS := fun _ σ H => ta σ H fun vs H1 => vs.length ≤ sizeLine ∧ E (.ref C) none H1
theorem ps_raise (b : Body X E) (hc : X.calm = true) (q : ErrCls X.K C) (hg : Gl X x) (hm : X.mg x = some (.ref C)) (ha : PA X (e₀ :: rest) ta) (hdb : (x == ("__debug__" : Str)) = false := by decide)
    (he : starEach (e₀ :: rest) X.env = (false, eval e₀ X.env) :: starEach rest X.env := by rfl) (hpl : (backTo cpos (starEach rest X.env)).any (·.1) = false := by rfl) :
    PS X (.Raise (some (.Call (.Name x np) (e₀ :: rest) [] cpos)) none pos) (tRaise C E ta) := by
  intro pins s σ H D I h
  obtain ⟨tl, N, nm, qn, bs, hdct, sn, sub, ab, col, dd, k0, k1, k2, k3, k5, mN, hC, hN, hni, T⟩ := q.obj I.ok.mod.kin
  refine wpAny_Raise_call_subT (C := C) (nm := nm) (q := qn) (N := N) (bs := bs) (bm := tl) (hdct := hdct) (sn := sn) (sub := sub) (ab := ab) (col := col) (dd := dd) (k0 := k0) (k1 := k1) (k2 := k2) (k3 := k3) (k5 := k5)
    PySem.F.excBase_ValueError (mN := mN) (T.hasType PySem.F.excBase_ValueError.hasBase) (I.ok.hd hc) (by rw [he]; show (false || (backTo cpos (starEach rest X.env)).any (·.1)) = false; rw [hpl]; rfl) hni (ld_glob I hg hm ⟨rfl, ?_⟩ hdb)
  have hs := ha cpos pins s σ H _ I h
  rw [he] at hs ⊢
  refine Calls.evalArgs_plain (wpAny_mono hs ?_ fun _ _ y => y)
  rintro us s2 ⟨vs, H1, I1, r, hl, qE⟩
  refine ⟨rfl, by show us.length ≤ _; rw [← r.length]; exact hl, I1.bk _ _ hC, hN.keeps I1.bk, T.keeps I1.bk, fun h' e hx => ?_⟩
  exact b.raises (s' := { s2 with heap := h' }) I1 hx rfl I1.bare qE
end
end L2
set_option maxHeartbeats 4000000
namespace L2
open PySem PySem.Spec PyProof.Rows PySem.W Builtin.Getset_descriptor
structure ExcGet (K : Frag) (C : Addr) : Prop where
  ga : findIn K (.ref C) "__getattribute__" = some (some (.builtin "BaseException.__getattribute__"))
  gt : findIn K (.ref C) "__getattr__" = some none
  cls : findIn K (.ref C) "__class__" = some (some (.builtin "object.__class__"))
  get : specialIn K (.builtin "object.__class__") "__get__" = some (some (.builtin "getset_descriptor.__get__"))
  tk : takesIn K (.builtin "object.__class__") = some true
  mo : mroIn K C (.type "object") = some true
  mb : mroIn K C (.type "BaseException") = some true
  is : (clsIn K C).isSome = true
def InCls (h : Heap) (x C : Addr) : Prop := ∃ ox, h.get? x = some ox ∧ ox.cls = .ref C
theorem InCls.type {M : Model} {h : Heap} {x C : Addr} (I : InCls h x C) : Looks M h (typeOf (.ref x)) (.ref C) := by
  obtain ⟨ox, h1, h2⟩ := I
  exact h2 ▸ (Looks.ld h1).andThen .now
section
variable {prog : Program} {w : World} {A : Around} {E : Value → Shared → Prop} {s : Shared} {K : Frag} {x C : Addr}
end
section
variable {X : Cx} {C : Addr} {x : Addr} {ox : Obj}
end
end L2
set_option maxHeartbeats 4000000
namespace L2
open PySem PySem.Spec PyProof.Rows PySem.W
structure Flown (X : Cx) (pins : List (Addr × Obj)) (σ : St) (H0 H : Hp) (s0 s : Shared) (ea : Addr) (cls : Value) (B : Heap) : Prop where
  I0 : Inv X pins σ H0 s0
  fl : ∃ a0, Heap.FlyingW B X.stack ea cls a0 s.heap
  kb : KB (frs X.stack) H0 H s0.heap B
  os : s.os = s0.os
  bare : AllBare s.gens
  un : Un (frs X.stack) [] H0 H s0.heap s.heap
  hok : HOk X.prog X.w H s.heap
section
variable {X : Cx} {pins : List (Addr × Obj)} {σ : St} {H0 H : Hp} {s0 s : Shared} {ea : Addr} {cls : Value} {B : Heap}
theorem Flown.inv (F : Flown X pins σ H0 H s0 s ea cls B) : Inv X pins σ H s := F.I0.call' F.os F.un F.hok F.bare (fun b z => absurd z (by simp))
theorem Flown.step {h' : Heap} {a0 : Value} (F : Flown X pins σ H0 H s0 s ea cls B) (fl : Heap.FlyingW B X.stack ea cls a0 h') (up : s.heap.UpToSlots h') : Flown X pins σ H0 H s0 { s with heap := h' } ea cls B := by
  obtain ⟨a1, f1⟩ := F.fl
  exact ⟨F.I0, ⟨a0, fl⟩, F.kb, F.os, F.bare, F.kb.un fl.1 F.un up (fun b hb => fun_nf f1.2.2.1 b hb), F.kb.hok f1.1 fl.1 F.hok⟩
theorem Flown.of {E : XK} {e : Value} {s' : Shared} (I : Inv X pins σ H0 s0) (h : CXe X.prog X.w X.stack H0 s0 E e s') : ∃ ea cls H B, e = .ref ea ∧ Flown X pins σ H0 H s0 s' ea cls B ∧ E cls none H := by
  obtain ⟨ea, cls, a0, H', B, rfl, fl, k, os, bare, un, hok, q⟩ := h
  exact ⟨ea, cls, H', B, rfl, ⟨I, ⟨a0, fl⟩, k, os, bare, un, hok⟩, q⟩
theorem Flown.pin (F : Flown X pins σ H0 H s0 s ea cls B) : ∃ oe, s.heap.get? ea = some oe ∧ oe.cls = cls ∧ H ea = none ∧ ea ≠ X.env.locals ∧ ea ∉ X.fs ∧ ∀ v, oe.data ≠ .cell v := by
  obtain ⟨a0, f1, f2, f3, oe, vs, T, oT, ts, he, ⟨hc, _⟩, hd, _⟩ := F.fl
  have nf : ∀ b ∈ frs X.stack, b ≠ ea := fun b hb z => by
    subst z
    exact fun_nf f3 _ hb _ he _ hd
  have I := F.inv
  refine ⟨oe, he, hc, ?_, fun z => ?_, fun z => ?_, fun v z => by rw [hd] at z; cases z⟩
  · cases q : H ea with
    | none => rfl
    | some u =>
      obtain ⟨o, ho⟩ := F.kb.trk ea u q
      rw [f2] at ho
      cases ho
  · obtain ⟨m, ⟨o, es, ep, ho, hdd, _⟩, _⟩ := I.loc
    rw [← z, he] at ho
    cases ho
    rw [hd] at hdd
    cases hdd
  · obtain ⟨_, o', e', d⟩ := (I.funs).mem z
    rw [he] at e'
    cases e'
    exact d _ hd
end
abbrev Cx.inH (X : Cx) (ea : Addr) (oe : Obj) : Cx := { X with A := X.A.mark (some (.ref ea)), calm := false, pn := (ea, oe) :: X.pn, xe := fun _ _ => False }
theorem Flown.hinv {X : Cx} {pins : List (Addr × Obj)} {σ : St} {H0 H : Hp} {s0 s : Shared} {ea : Addr} {cls : Value} {B : Heap} {oe : Obj} (F : Flown X pins σ H0 H s0 s ea cls B) (he : s.heap.get? ea = some oe) : Inv (X.inH ea oe) pins σ H s := by
  have I := F.inv
  obtain ⟨oe', he', hc, n, h1, h2, h3⟩ := F.pin
  rw [he] at he'
  cases he'
  refine ⟨⟨I.ok.mod, I.ok.kind, I.ok.glob, I.ok.blt, I.ok.above, I.ok.inj, I.ok.has, I.ok.cab, fun z => (by cases z), ?_, I.ok.stk, I.ok.exf, I.ok.bs, I.ok.bsz, I.ok.noex, I.ok.exfs, I.ok.funs, I.ok.frf⟩, I.os, I.bare, I.base, I.loc, I.cell, I.free, I.freeC, fun p hp => ?_, I.hok, I.len⟩
  · exact I.ok.frames
  · rcases List.mem_cons.mp hp with rfl | hp
    · exact ⟨he, n, h1, h2, h3⟩
    · exact I.pin p hp
theorem unH {X : Cx} {pins : List (Addr × Obj)} {σ : St} {H : Hp} {s : Shared} {ea : Addr} {oe : Obj} (I : Inv (X.inH ea oe) pins σ H s) (ok : X.Ok) : Inv X pins σ H s :=
  ⟨ok, I.os, I.bare, I.base, I.loc, I.cell, I.free, I.freeC, fun p hp => I.pin p (.tail _ hp), I.hok, I.len⟩
def PH (X : Cx) (hs : List ExceptHandler) (th : Value → TS) : Prop :=
  ∀ (pins : List (Addr × Obj)) (s0 s : Shared) (σ : St) (H0 H : Hp) (D : Ends) (ea : Addr) (cls : Value) (B : Heap), Flown X pins σ H0 H s0 s ea cls B → th cls D σ H →
    wpAny (model X.prog X.w) X.A (handleBy (.ref ea) X.env hs) (SP X pins D) X.xe s
theorem ph_nil {X : Cx} : PH X [] (fun _ _ _ _ => False) := fun _ _ _ _ _ _ _ _ _ _ _ h => h.elim
def tClause (K : PySem.W.Frag) (c : Value) (ts tr : Value → TS) : Value → TS := fun cls D σ H => ∃ b, PySem.W.exmOne K cls c = some b ∧ if b = true then ts cls D σ H else tr cls D σ H
section
variable {X : Cx} {y : Str} {c : Value} {np hpos : Pos} {b₀ : Stmt} {suite : List Stmt} {rest : List ExceptHandler} {ts : Addr → Value → TS} {tr : Value → TS}
theorem ph_cons (hg : Gl X y) (hm : X.mg y = some c) (hs : ∀ ea oe cls, oe.cls = cls → PSs (X.inH ea oe) (b₀ :: suite) (ts ea cls)) (hr : PH X rest tr) (hdb : (y == ("__debug__" : Str)) = false := by decide) :
    PH X (.ExceptHandler (some (.Name y np)) none (b₀ :: suite) hpos :: rest) (tClause X.K c (fun cls D σ H => ∀ ea, ts ea cls D σ H) tr) := by
  intro pins s0 s σ H0 H D ea cls B F h
  obtain ⟨b, e, h⟩ := h
  have I := F.inv
  obtain ⟨oe, he, hc, n, h1, h2, h3⟩ := F.pin
  have I2 := F.hinv he
  refine wpAny_handleBy_cons (codeAny_handlers_test (ld_glob (X := X.inH ea oe) I2 hg hm ?_ hdb)) (by intro q; cases q)
  refine (PySem.W.exm_one (M := model X.prog X.w) I.kIn (show PySem.W.Looks (model X.prog X.w) s.heap (typeOf (.ref ea)) cls from hc ▸ (PySem.W.Looks.ld he).andThen .now) e).here ?_
  cases b with
  | false => exact hr pins s0 s σ H0 H D ea cls B F h
  | true =>
    obtain ⟨a0, fl⟩ := F.fl
    refine codeAny_handlers_suite ?_
    refine lands_againW fl fun h₆ fl₆ up₆ => ?_
    have F6 := F.step fl₆ up₆
    obtain ⟨oe6, he6, hc6, _⟩ := F6.pin
    have q := h ea
    subst hc6
    refine wpAny_mono (hs ea oe6 _ rfl pins _ σ H D (F6.hinv he6) q) (fun f s' z => ?_) fun _ _ z => z.elim
    cases f with
    | next => obtain ⟨σ', H', J, z⟩ := z; exact ⟨σ', H', unH J I.ok, z⟩
    | brk => obtain ⟨σ', H', J, z⟩ := z; exact ⟨σ', H', unH J I.ok, z⟩
    | cont => obtain ⟨σ', H', J, z⟩ := z; exact ⟨σ', H', unH J I.ok, z⟩
    | ret u => obtain ⟨v, σ', H', J, z⟩ := z; exact ⟨v, σ', H', unH J I.ok, z⟩
end
end L2
set_option maxHeartbeats 4000000
namespace L2
open PySem PySem.Spec PyProof.Rows PySem.W
section
variable {X : Cx} {pins : List (Addr × Obj)} {σ : St} {H : Hp} {s : Shared}
end
section
variable {X : Cx} {y n : Str} {i : Nat} {c : Value} {np hpos : Pos} {b₀ : Stmt} {suite : List Stmt} {rest : List ExceptHandler} {ts : Addr → Value → TS} {tr : Value → TS}
end
section
variable {X : Cx} {CX : CXT} {k : Nat} {f : Addr} {fd : FuncData} {ps : List Str} {sp : Sp} {x : Str} {p pos epos tpos : Pos} {e : Expr} {es : List Expr} {t : TA} {h₀ : ExceptHandler} {hs : List ExceptHandler} {th : Value → TS}
end
section
variable {P : Program} {w : World} {K : PySem.W.Frag} {mg : Str → Option Value} {base : Heap}
theorem Fun.okX {x qual : Str} {st : Stmt} {f : Addr} {fd : FuncData} {N ps : List Str} {k : Nat} {sp : Sp} (F : Fun K x qual st f fd) (S : FnScope N ps (defScope st)) (len : ∀ vs H Q E, sp vs H Q E → vs.length = ps.length)
    (hbody : ∀ (cdv : Value) (A : Around) (outer : List Env) (s : Shared) (H : Hp) (vs : List V) (Q : VK) (E : XK), Room k (A.deeper (envOfC qual (defScope st) s.heap.objs.size f cdv)) → sp vs H Q E →
      ∃ t, PSs (cxOf (CXe P w) P w K mg base N qual (defScope st) f cdv A outer s H E) (defBody st) t ∧ t { nx := fun _ H' => Q .non H', rt := Q } (start N vs) H) : FnOk P w K mg base (CXe P w) (k + 1) f fd ps sp := by
  obtain ⟨oc, od, kV, doc, pm, an, cdv, ct, osl, rfl, lk, hcd⟩ := F.ex
  exact fn_of lk hcd S len fun A outer s H vs Q E hr hsp => hbody cdv A outer s H vs Q E hr hsp
structure FnX (P : Program) (w : World) (K : PySem.W.Frag) (mg : Str → Option Value) (base : Heap) (x : Str) (k : Nat) (ps : List Str) (sp : Sp) : Prop where
  ex : ∃ f fd, FnOk P w K mg base (CXe P w) k f fd ps sp ∧ mg x = some (.ref f) ∧ PySem.W.keepIn K (.ref f) = true ∧ Binds K fd ps []
theorem fnx_mk {x qual : Str} {st : Stmt} {f : Addr} {fd : FuncData} {k : Nat} {ps : List Str} {sp : Sp} (F : Fun K x qual st f fd) (hm : mg x = some (.ref f)) (hb : Binds K fd ps []) (ok : FnOk P w K mg base (CXe P w) k f fd ps sp) :
    FnX P w K mg base x k ps sp := ⟨f, fd, ok, hm, F.kp, hb⟩
end
theorem pe_fnX {X : Cx} {E : XK} {x : Str} {k : Nat} {ps : List Str} {sp : Sp} {p pos : Pos} {e : Expr} {es : List Expr} {t : TA} (b : Body X E) (F : FnX X.prog X.w X.K X.mg X.base x k ps sp) (hr : Room k X.A) (hg : Gl X x) (ha : PA X (e :: es) t)
    (hdb : (x == ("__debug__" : Str)) = false := by decide) (he : starEach (e :: es) X.env = (false, eval e X.env) :: starEach es X.env := by rfl) (hpl : (backTo pos (starEach es X.env)).any (·.1) = false := by rfl) :
    PE X (.Call (.Name x p) (e :: es) [] pos) (tCall sp [] E t) := by
  obtain ⟨f, fd, G, hm, hk, hb⟩ := F.ex
  exact pe_call G hr hg hm hk hb .nil (b.passes fun _ _ _ h => h) ha hdb he hpl
end L2
set_option maxHeartbeats 4000000
namespace DL
open PySem L2
abbrev DRX := List D → (B → Prop) → (Value → Prop) → Prop
def spX (K : PySem.W.Frag) (R : DRX) : Sp := fun vs H Q E => ∃ (ds : List D) (G : Hp) (P : B → Prop) (Z : Value → Prop), Same G H ∧ Reps K G vs ds ∧ R ds P Z ∧ (∀ b v H' G', P b → Wd H G H' G' → BRes K H G' H' v b → Q v H') ∧ ∀ cls H', Z cls → Same H H' → E cls none H'
abbrev FnDX (P : Program) (w : World) (K : PySem.W.Frag) (mg : Str → Option Value) (base : Heap) (x : Str) (k : Nat) (ps : List Str) (R : DRX) : Prop := FnX P w K mg base x k ps (spX K R)
structure DX (X : Cx) (H0 : Hp) (st : Stmt) (t : DTS) : Prop where
  ps : ∀ G0, PS X st (cS X.K H0 G0 t)
structure DXs (X : Cx) (H0 : Hp) (st : List Stmt) (t : DTS) : Prop where
  pss : ∀ G0, PSs X st (cS X.K H0 G0 t)
section
variable {X : Cx} {H0 : Hp} {E : XK} {Z : Value → Prop} {st : Stmt} {rest : List Stmt} {t u : DTS} {a b c e : Expr} {es : List Expr} {ta tb te : DT} {pos p epos : Pos} {x : Str} {k : Nat} {ps : List Str} {R : DRX} {tA : DTA} {C : Addr}
theorem dx (h : DS X st t) : DX X H0 st t := ⟨fun G0 => h.ps H0 G0⟩
theorem dxs (h : DSs X rest t) : DXs X H0 rest t := ⟨fun G0 => h.pss H0 G0⟩
theorem dxs_nil : DXs X H0 [] dNext := dxs dss_nil
theorem dxs_cons (h1 : DX X H0 st t) (h2 : DXs X H0 rest u) : DXs X H0 (st :: rest) (dSeq t u) := DXs.mk fun G0 => PSs.imp (pss_cons (h1.ps G0) (h2.pss G0)) fun Dn σ H ⟨E, G, ρ, eo, w, en, h⟩ =>
  ⟨{ E with nx := u E }, G, ρ, ⟨fun σ' H' G' ρ' w' en' h' => ⟨E, G', ρ', eo, w', en', h'⟩, eo.bk, eo.ct, eo.rt⟩, w, en, h⟩
theorem dxs_one (h1 : DX X H0 st t) : DXs X H0 [st] t := DXs.mk fun G0 => pss_one (h1.ps G0)
theorem dx_if {x y : List Stmt} {tc : DTT} (hc : DTe X c tc) (ha : DXs X H0 x t) (hb : DXs X H0 y u) : DX X H0 (.If c x y pos) (dIfS tc t u) := DX.mk fun G0 => PS.imp (ps_if hc.pt (ha.pss G0) (hb.pss G0))<|by
  rintro Dn σ H ⟨E, G, ρ, eo, w, en, h⟩
  obtain ⟨G1, w1, sg, e1⟩ := en.freeze w
  refine ⟨G1, frz ρ, _, w1.gh, e1.p, h, fun c H' G' p' w' => ?_⟩
  cases c with
  | true => exact iteT ⟨E, G, ρ, eo, w.back w', en.back w'.hh, p'.1 rfl⟩
  | false => exact iteF ⟨E, G, ρ, eo, w.back w', en.back w'.hh, p'.2 rfl⟩
def dRaise (Z : Value → Prop) (c : Value) (t : DTA) : DTS := fun _ ρ => t (frz ρ) fun _ => Z c
theorem dx_raise {np cpos : Pos} (bd : Body X E) (hZ : ∀ cls H', Z cls → Same H0 H' → E cls none H') (hc : X.calm = true) (q : ErrCls X.K C) (hg : Gl X x) (hm : X.mg x = some (.ref C)) (ha : DA X (e :: es) tA) (hn : (e :: es).length ≤ 1000 := by decide) (hdb : (x == ("__debug__" : Str)) = false := by decide)
    (he : starEach (e :: es) X.env = (false, eval e X.env) :: starEach es X.env := by rfl) (hpl : (backTo cpos (starEach es X.env)).any (·.1) = false := by rfl) :
    DX X H0 (.Raise (some (.Call (.Name x np) (e :: es) [] cpos)) none pos) (dRaise Z (.ref C) tA) := DX.mk fun G0 => PS.imp (ps_raise bd hc q hg hm ha.pa hdb he hpl)<|by
  rintro Dn σ H ⟨Ed, G, ρ, eo, w, en, h⟩
  obtain ⟨G1, w1, sg, e1⟩ := en.freeze w
  exact ⟨G1, frz ρ, _, w1.gh, e1.p, h, fun ds vs H' G' p' l' w' r' => ⟨by rw [Paired.length r', l']; exact Nat.le_of_lt (small1000 hn), hZ _ _ p' (w.hh.trans w'.hh)⟩⟩
section
variable (bd : Body X E) (hZ : ∀ cls H', Z cls → Same H0 H' → E cls none H') (F : FnDX X.prog X.w X.K X.mg X.base x k ps R) (hr : Room k X.A) (hg : Gl X x) (ha : DA X (e :: es) tA)
include bd hZ F hr hg ha
theorem dx_exprC (hdb : (x == ("__debug__" : Str)) = false := by decide) (he : starEach (e :: es) X.env = (false, eval e X.env) :: starEach es X.env := by rfl) (hpl : (backTo pos (starEach es X.env)).any (·.1) = false := by rfl)
    (hs : swapsWith (.Call (.Name x p) (e :: es) [] pos) none epos.line X.env = pure false := by rfl) : DX X H0 (.Expr (.Call (.Name x p) (e :: es) [] pos) epos) (fun E ρ => tA (frz ρ) fun ds => R ds (fun _ => E.nx ρ) Z) :=
  DX.mk fun G0 => PS.imp (ps_expr (pe_fnX bd F hr hg ha.pa hdb he hpl) hs)<|by
    rintro Dn σ H ⟨Ed, G, ρ, eo, w, en, h⟩
    obtain ⟨G1, w1, sg, e1⟩ := en.freeze w
    refine ⟨G1, frz ρ, _, w1.gh, e1.p, h, fun ds vs H' G' p' l' w' r' => ?_⟩
    show spX X.K R (vs ++ []) H' _ E
    rw [List.append_nil]
    exact ⟨ds, G', _, Z, w'.gh, r', p', fun b v H2 G2 p2 w2 r2 => eo.nx σ H2 G ρ (w.back (w'.trans w2)) (en.back (w'.trans w2).hh) p2, fun cls H2 z s2 => hZ cls H2 z ((w.hh.trans w'.hh).trans s2)⟩
end
end
section
variable {X : Cx} {H0 : Hp} {tg iter : Expr} {body : List Stmt} {ti : DTA} {g : Tg} {tb : DTS} {pos : Pos}
end
section
variable {P : Program} {w : World} {K : PySem.W.Frag} {mg : Str → Option Value} {base : Heap}
theorem okDX {x qual : Str} {st : Stmt} {f : Addr} {fd : FuncData} {N ps : List Str} {k : Nat} {R : DRX} (F : Fun K x qual st f fd) (S : FnScope N ps (defScope st)) (len : ∀ ds Q Z, R ds Q Z → ds.length = ps.length)
    (hbody : ∀ (cdv : Value) (A : Around) (outer : List Env) (s : Shared) (H : Hp) (E : XK) (Z : Value → Prop), Room k (A.deeper (PyProof.Rows.envOfC qual (defScope st) s.heap.objs.size f cdv)) → (∀ cls H', Z cls → Same H H' → E cls none H') →
      ∃ t, DXs (cxOf (CXe P w) P w K mg base N qual (defScope st) f cdv A outer s H E) H (defBody st) t ∧ ∀ ds Q, R ds Q Z → t { nx := fun _ => Q (.p .non), rt := Q } (startD N.length ds)) : FnOk P w K mg base (CXe P w) (k + 1) f fd ps (spX K R) := by
  refine F.okX S (by rintro vs H Q E ⟨ds, G, P, Z, s, r, h, _⟩;rw [Paired.length r]; exact len ds P Z h) ?_
  rintro cdv A outer s H vs Q E hr ⟨ds, G, P, Z, sg, r, h, k, kz⟩
  obtain ⟨t, h1, h2⟩ := hbody cdv A outer s H E Z hr kz
  obtain ⟨e1, e2, e3⟩ := startD_ok (K := K) N.length r
  refine ⟨_, h1.pss G, _, G, _, ?_, Wd.refl sg, EnvO.only e2 e1 (startD_p _ _), h2 ds P h⟩
  exact ⟨fun σ H' G' ρ w' _ p => k _ _ H' G' p w' (show Rep K G' V.non D.non from .non), fun σ H' G' ρ w' _ p => p.elim, fun σ H' G' ρ w' _ p => p.elim, fun b v H' G' w' r' p => k b v H' G' p w' r'⟩
theorem FnOk.drop {f : Addr} {fd : FuncData} {ps : List Str} {k : Nat} {sp : Sp} (F : FnOk P w K mg base (CXe P w) k f fd ps sp) (h : ∀ vs H Q E, sp vs H Q E → sp vs H Q E0) : FnOk P w K mg base CX0 k f fd ps sp := by
  refine ⟨F.len, fun A outer s H args us vs Q E hr he hb hv hs => codeAny_mono (F.run A outer s H args us vs Q E0 hr he hb hv (h _ _ _ _ hs)) fun r s' q => ?_⟩
  cases r with
  | error e => exact (CXe.never (show CXe P w outer H s (fun _ _ _ => False) e s' from q)).elim
  | ok fl => cases fl <;> exact q
end
structure ErrAt (K : PySem.W.Frag) (mg : Str → Option Value) (x : Str) (C : Addr) : Prop where
  er : ErrCls K C
  at_ : mg x = some (.ref C)
  get : ExcGet K C
end DL
set_option maxHeartbeats 4000000
namespace DL
open PySem L2
section
variable {X : Cx} {o e : Expr} {es : List Expr} {te : DT} {tA : DTA} {pos : Pos}
def dSplit (a : Str) (ds : List D) (P : B → Prop) : Prop := match ds with
  | [.str y] => (y.length == 0) = false ∧ a.length + 2 ≤ sizeLine ∧ P (.o (.lst ((Txt.split a y).map D.str)))
  | _ => False
def dJoinM (sep : Str) (ds : List D) (P : B → Prop) : Prop := match ds with
  | [.lst xs] => ∃ ts : List Str, xs = ts.map D.str ∧ JoinOk sep ts = true ∧ P (.p (.str (Str.join sep ts)))
  | _ => False
def dIntT : DR := fun ds P => match ds with
  | [.str x] => ∃ n, PySem.intText? x = some n ∧ x.length ≤ 640 ∧ P (.p (.int n))
  | _ => False
abbrev DTJ := DEnv → Str → (Str → Prop) → Prop
def cJ (K : PySem.W.Frag) (t : DTJ) : TJ := fun σ H acc R => ∃ (G : Hp) (ρ : DEnv) (P : Str → Prop), Same G H ∧ RepE K G σ ρ ∧ t ρ acc P ∧ ∀ out H' G', P out → Wd H G H' G' → R out H'
structure DJ (X : Cx) (es : List Expr) (t : DTJ) : Prop where
  pj : PJ X es (cJ X.K t)
theorem PJ.imp {t t' : TJ} (h : PJ X es t) (i : ∀ σ H acc R, t' σ H acc R → t σ H acc R) : PJ X es t' := fun pins s σ H acc R I q => h pins s σ H acc R I (i σ H acc R q)
def djNil : DTJ := fun _ acc P => P acc
def djStr (x : Str) (t : DTJ) : DTJ := fun ρ acc P => (acc ++ x).length ≤ sizeLine ∧ t ρ (acc ++ x) P
def djVal (te : DT) (t : DTJ) : DTJ := fun ρ acc P => te ρ fun b => match b.val with
  | .str y => y.length ≤ sizeLine ∧ (acc ++ y).length ≤ sizeLine ∧ t ρ (acc ++ y) P
  | .int i => i.natAbs.log2 < 1920 ∧ (acc ++ (toString i : Str)).length ≤ sizeLine ∧ t ρ (acc ++ (toString i : Str)) P
  | _ => False
theorem dj_nil : DJ X [] djNil := ⟨PJ.imp pj_nil (by rintro σ H acc R ⟨G, ρ, P, s, re, h, k⟩;exact k _ H G h (Wd.refl s))⟩
theorem dj_str {x : Str} {j : Nat} {t : DTJ} (h : DJ X es t) : DJ X (.Constant (.str x) j pos :: es) (djStr x t) :=
  ⟨PJ.imp (pj_str h.pj) (by rintro σ H acc R ⟨G, ρ, P, s, re, h, k⟩;exact ⟨h.1, G, ρ, P, s, re, h.2, k⟩)⟩
set_option tactic.hygienic true in
theorem dj_val {value : Expr} {t : DTJ} (hv : DE X value te) (h : DJ X es t) : DJ X (.FormattedValue value (-1) none pos :: es) (djVal te t) :=
  ⟨PJ.imp (pj_val hv.pe h.pj)<|by
    rintro σ H acc R ⟨G, ρ, P, s, re, h, k⟩
    refine ⟨G, ρ, _, s, re, h, fun b v H1 G1 p1 w1 r1 => ?_⟩
    obtain ⟨G1', w1', r1'⟩ := r1.give w1
    split at p1
    · rename_i y ey
      rw [ey] at r1'
      cases r1'
      exact ⟨y, .inl ⟨rfl, p1.1⟩, p1.2.1, G1', ρ, P, w1'.gh, re.mono w1'.gg, p1.2.2, fun out H2 G2 q w2 => k out H2 G2 q (w1'.trans w2)⟩
    · rename_i i ei
      rw [ei] at r1'
      cases r1'
      exact ⟨_, .inr ⟨i, rfl, p1.1, rfl⟩, p1.2.1, G1', ρ, P, w1'.gh, re.mono w1'.gg, p1.2.2, fun out H2 G2 q w2 => k out H2 G2 q (w1'.trans w2)⟩
    · exact p1.elim⟩
def dFmt (t : DTJ) : DT := fun ρ Q => t ρ Str.empty fun out => out.length ≤ sizeLine ∧ Q (.p (.str out))
theorem de_fmt {v1 v2 : Expr} {rest : List Expr} {t : DTJ} (h : DJ X (v1 :: v2 :: rest) t) : DE X (.JoinedStr (v1 :: v2 :: rest) pos) (dFmt t) :=
  DE.of (pe_join h.pj) (by rintro σ H Q ⟨G, ρ, P, s, re, h, k⟩;exact ⟨G, ρ, _, s, re, h, fun out H' G' p' w' => ⟨p'.1, k _ _ H' G' p'.2 w' (.str _)⟩⟩)
end
theorem dLen_str (x : Str) (P : B → Prop) : dLen [.str x] P = (x.length ≤ sizeLine ∧ P (.p (.int x.length))) := rfl
theorem dSplit_is (a y : Str) (P : B → Prop) : dSplit a [.str y] P = ((y.length == 0) = false ∧ a.length + 2 ≤ sizeLine ∧ P (.o (.lst ((Txt.split a y).map D.str)))) := rfl
theorem dJoinM_is (sep : Str) (xs : List D) (P : B → Prop) : dJoinM sep [.lst xs] P = ∃ ts : List Str, xs = ts.map D.str ∧ JoinOk sep ts = true ∧ P (.p (.str (Str.join sep ts))) := rfl
theorem dIntT_is (x : Str) (P : B → Prop) : dIntT [.str x] P = ∃ n, PySem.intText? x = some n ∧ x.length ≤ 640 ∧ P (.p (.int n)) := rfl
end DL
set_option maxHeartbeats 4000000
namespace L2
open PySem PySem.Spec PyProof.Rows PySem.W
def EX (X : Cx) (e : Expr) (t : XK → TE) : Prop := ∀ (pins : List (Addr × Obj)) (s : Shared) (σ : St) (H : Hp) (Q : VK) (E : XK) (xh : Value → Shared → Prop), Inv X pins σ H s → t E σ H Q →
  (∀ ea cls H0 H' s0 s' B, Flown X pins σ H0 H' s0 s' ea cls B → E cls none H' → xh (.ref ea) s') → wpAny (model X.prog X.w) X.A (eval e X.env) (EP X pins σ Q) xh s
def TB (X : Cx) (b : List Stmt) (t : (Value → TS) → TS) : Prop := ∀ (pins : List (Addr × Obj)) (s : Shared) (σ : St) (H : Hp) (D : Ends) (th : Value → TS) (xh : Value → Shared → Prop), Inv X pins σ H s → t th D σ H →
  (∀ ea cls H0 H' s0 s' B, Flown X pins σ H0 H' s0 s' ea cls B → th cls D σ H' → xh (.ref ea) s') → wpAny (model X.prog X.w) X.A (execs b X.env) (SP X pins D) xh s
section
variable {X : Cx} {k : Nat} {f C : Addr} {fd : FuncData} {ps : List Str} {sp : Sp} {x m : Str} {p pos apos epos tpos : Pos} {e o : Expr} {es : List Expr} {ta : TE} {t : TA} {te : XK → TE} {h₀ : ExceptHandler} {hs : List ExceptHandler} {th : Value → TS}
theorem run_ex {pins : List (Addr × Obj)} {σ : St} {H : Hp} {s : Shared} {Q : VK} {E : XK} {xh : Value → Shared → Prop} {us : List Value} {vs : List V} (F : FnOk X.prog X.w X.K X.mg X.base (CXe X.prog X.w) k f fd ps sp) (hr : Room k X.A) (hb : Binds X.K fd ps []) (I : Inv X pins σ H s) (r : Vals vs us) (h : sp vs H Q E)
    (hx : ∀ ea cls H0 H' s0 s' B, Flown X pins σ H0 H' s0 s' ea cls B → E cls none H' → xh (.ref ea) s') : wpAny (model X.prog X.w) X.A (call (.ref f) us) (EP X pins σ Q) xh s := by
  have hl : us.length = ps.length := by rw [← r.length]; exact F.len _ _ _ _ h
  have hb' := hb s us I.kIn (by rw [List.append_nil]; exact hl)
  rw [List.append_nil] at hb'
  refine wpAny_call (codeAny_mono (F.run X.A X.stack s H ⟨us, []⟩ us vs Q E hr I.env0 hb' r h) fun r s' hq => ?_)
  cases r with
  | error e =>
    obtain ⟨ea, cls, H', B, rfl, F1, q1⟩ := Flown.of I (show CXe X.prog X.w X.stack H s E e s' from hq)
    exact hx ea cls H H' s s' B F1 q1
  | ok fl =>
    cases fl with
    | ret u => exact I.after hq
    | next => exact False.elim hq
    | brk => exact False.elim hq
    | cont => exact False.elim hq
theorem ex_meth {pl : Sem Bool} (he : PE X.nox o ta) (c : Cls X.K C) (hm : Meth X.K C m f) (F : FnOk X.prog X.w X.K X.mg X.base (CXe X.prog X.w) k f fd ps sp) (hr : Room k X.A) (hb : Binds X.K fd ps []) (ha : PA X.nox (e :: es) t)
    (hst : starEach (e :: es) X.env = (false, eval e X.env) :: starEach es X.env := by rfl) (hpl : (backTo pos (starEach es X.env)).any (·.1) = false := by rfl)
    (ht : eval (.Call (.Attribute o m apos) (e :: es) [] pos) X.env = (do
      let ov ← eval o X.env
      standAt apos.atName
      let (f, first) ← holding [ov] (getMethod ov m pl)
      callWith pos f first (backTo pos (starEach (e :: es) X.env)) (backToKw pos (keywordEach [] X.env))) := by rfl) :
    EX X (.Call (.Attribute o m apos) (e :: es) [] pos) (fun E => tMeth C m sp [] E ta t) := by
  intro pins s σ H Q E xh I h hx
  refine methodCall_KW (pl := pl) (wpAny_mono (he pins s σ H _ (I.wish _) h) (fun u s1 z => ?_) fun _ _ z => z.elim) ht
  obtain ⟨y, H1, I1', rx, a, dx, fs, ex, ea, l, q⟩ := z
  have I1 : Inv X pins σ H1 s1 := I1'.unwish
  subst ex
  obtain rfl : u = Value.ref a := rx
  refine getmeth_ok I1 ea c hm l ?_
  refine callWith_K (first := [.ref a]) (h₀ := X.base) I.ok.mod.kin hm.kp (wpAny_mono (ha pos pins s1 σ H1 _ (I1.wish _) q) (fun us s2 z => ?_) fun _ _ z => z.elim) hst hpl
  obtain ⟨vs, H2, I2', r, q2⟩ := z
  have I2 : Inv X pins σ H2 s2 := I2'.unwish
  exact ⟨I2.kIn, run_ex (us := .ref a :: us) (vs := .ref a :: vs) F hr hb I2 (.cons rfl r) (by rw [List.append_nil] at q2; exact q2) hx⟩
theorem tb_set {i : Nat} {y : Str} {px : Pos} (hN : X.N.Nodup) (hi : X.N[i]? = some y) (hy : Loc X.env.scope y) (he : EX X e te) (hsw : swapsWith e (some (.Name y px)) epos.line X.env = pure false := by rfl) (hf : X.fn y = true ∨ X.env.scope.names.lookup y = some .local := by first | exact .inl rfl | exact .inr rfl | assumption) :
    TB X [.Assign [.Name y px] e epos] (fun th D σ H => te (fun cls _ H' => th cls D σ H') σ H fun v H1 => D.nx (σ.set i (some v)) H1) := by
  intro pins s σ H D th xh I h hx
  refine wpAny_execs_cons (wpAny_Assign_Name (wpAny_mono (he pins s σ H _ _ xh I h hx) (fun v s1 z => ?_) fun _ _ z => z) hsw)
  obtain ⟨y, H1, J, r, z⟩ := z
  exact store_ok J hN hi hy r (fun s2 I2 => wpAny_execs_nil (show SP X pins D .next s2 from ⟨_, H1, I2, z⟩)) hf
theorem tb_if {c : Expr} {a b : List Stmt} {tc : TT} {ua ub : (Value → TS) → TS} (hc : PT X.nox c tc) (ha : TB X a ua) (hb : TB X b ub) : TB X [.If c a b epos] (fun th => tIfS tc (ua th) (ub th)) := by
  intro pins s σ H D th xh I h hx
  refine wpAny_execs_cons (wpAny_If (wpAny_mono (hc pins s σ H _ (I.wish _) h) (fun d s1 z => ?_) fun _ _ z => z.elim))
  obtain ⟨H1, I1', q1⟩ := z
  have I1 : Inv X pins σ H1 s1 := I1'.unwish
  have fin : ∀ (f : Flow) (s2 : Shared), SP X pins D f s2 → (match f with | Flow.next => wpAny (model X.prog X.w) X.A (execs [] X.env) (SP X pins D) xh s2 | f => SP X pins D f s2) := fun f s2 q => by
    cases f with
    | next => exact wpAny_execs_nil q
    | ret v => exact q
    | brk => exact q
    | cont => exact q
  cases d with
  | true => exact thn (ha pins s1 σ H1 D th xh I1 q1 hx) fin
  | false => exact thn (hb pins s1 σ H1 D th xh I1 q1 hx) fin
theorem ps_try {E : XK} {b : List Stmt} {tb : (Value → TS) → TS} (bd : Body X E) (hb : TB X b tb) (hh : PH X (h₀ :: hs) th) : PS X (.Try b (h₀ :: hs) [] [] tpos) (tb th) := by
  intro pins s σ H D I h
  refine wpAny_Try_except ?_
  refine wpAny_mono (hb pins s σ H D th (fun e s1 => wpAny (model X.prog X.w) X.A (noteFrame e X.env) (fun _ s₂ => wpAny (model X.prog X.w) X.A (setFlight e none) (fun _ s₃ => wpAny (model X.prog X.w) X.A (handleBy e X.env (h₀ :: hs)) (SP X pins D) X.xe s₃) X.xe s₂) X.xe s1) I h fun ea cls H0 H' s0 s' B F1 q1 => ?_) (fun f s1 q => ?_) fun _ _ z => z
  · obtain ⟨a0, fl⟩ := F1.fl
    have fl' := fl
    rw [bd.stack] at fl'
    have I1 := F1.I0
    refine wpAny_looks_onW (by rw [I1.ok.frames, bd.stack]) bd.frame fl' fun h4 held4 up4 => ?_
    refine wpAny_landsW held4 fun h5 fl5 up5 => ?_
    rw [← bd.stack] at fl5
    exact hh pins s0 _ σ H0 H' D ea cls B (F1.step fl5 (up4.trans up5)) q1
  · cases f with
    | next => exact wpAny_execs_nil q
    | ret v => exact q
    | brk => exact q
    | cont => exact q
end
end L2
set_option maxHeartbeats 4000000
namespace L2
open PySem PySem.Spec PyProof.Rows PySem.W
section
variable {X : Cx} {pins : List (Addr × Obj)} {σ : St} {H : Hp} {s : Shared}
end
section
variable {X : Cx} {E : XK} {pins : List (Addr × Obj)} {σ : St} {H0 H : Hp} {s0 s : Shared} {ea : Addr} {cls : Value} {B : Heap}
end
section
variable {X : Cx} {E : XK} {y n : Str} {i : Nat} {c : Value} {np hpos : Pos} {b₀ : Stmt} {suite : List Stmt} {rest : List ExceptHandler} {ts : Addr → Value → TS} {tr : Value → TS}
end
end L2
namespace L2
open PySem PySem.Spec PyProof.Rows
section
variable {κ : Type} [DecidableEq κ]
def valV (kvs : List (κ × V)) (k : κ) : Option V := (kvs.find? fun kv => decide (kv.1 = k)).map (·.2)
def putK (kvs : List (κ × V)) (k : κ) (v : V) : List (κ × V) :=
  if (kvs.any fun kv => decide (kv.1 = k)) = true then kvs.map (fun kv => if kv.1 = k then (kv.1, v) else kv) else kvs ++ [(k, v)]
def dropK (kvs : List (κ × V)) (k : κ) : List (κ × V) := kvs.filter fun kv => decide (kv.1 ≠ k)
theorem valV_pos {p : κ × V} {r : List (κ × V)} {k : κ} (e : p.1 = k) : valV (p :: r) k = some p.2 := by simp [valV, List.find?_cons, e]
theorem valV_neg {p : κ × V} {r : List (κ × V)} {k : κ} (e : ¬ p.1 = k) : valV (p :: r) k = valV r k := by simp [valV, List.find?_cons, e]
theorem valV_any (k : κ) : ∀ kvs : List (κ × V), (kvs.any fun kv => decide (kv.1 = k)) = (valV kvs k).isSome
  | [] => rfl
  | p :: r => by
    rw [List.any_cons]
    by_cases e : p.1 = k
    · simp only [valV_pos e, decide_eq_true e, Bool.true_or, Option.isSome_some]
    · rw [valV_neg e, decide_eq_false e, Bool.false_or]; exact valV_any k r
theorem length_putK (kvs : List (κ × V)) (k : κ) (v : V) : (putK kvs k v).length ≤ kvs.length + 1 := by
  unfold putK
  split
  · rw [List.length_map]; lia
  · rw [List.length_append, List.length_cons, List.length_nil]; lia
theorem putK_new {kvs : List (κ × V)} {k : κ} (v : V) (h : valV kvs k = none) : putK kvs k v = kvs ++ [(k, v)] := by
  unfold putK
  rw [valV_any, h]
  exact if_neg (by decide)
theorem RelO.isSome_eq {o : Option V} {u : Option Value} (r : RelO o u) : o.isSome = u.isSome := by
  cases o with
  | none => cases u with
    | none => rfl
    | some _ => exact (show False from r).elim
  | some _ => cases u with
    | none => exact (show False from r).elim
    | some _ => rfl
theorem KV.val {kvs : List (κ × V)} {vs : List (κ × Value)} (r : KV kvs vs) (k : κ) : RelO (valV kvs k) (valueAt vs k) := by
  unfold KV at r
  induction r with
  | nil => exact True.intro
  | @cons p q ps qs h t ih =>
    obtain ⟨h1, h2⟩ := h
    by_cases e : p.1 = k
    · have e' : q.1 = k := h1.symm.trans e
      have b : valueAt (q :: qs) k = some q.2 := by simp [valueAt, List.find?_cons, e']
      rw [valV_pos e, b]; exact h2
    · have e' : ¬ q.1 = k := fun z => e (h1.trans z)
      have b : valueAt (q :: qs) k = valueAt qs k := by simp [valueAt, List.find?_cons, e']
      rw [valV_neg e, b]; exact ih
theorem KV.any {kvs : List (κ × V)} {vs : List (κ × Value)} (r : KV kvs vs) (k : κ) : (kvs.any fun kv => decide (kv.1 = k)) = vs.any fun kv => decide (kv.1 = k) := by
  unfold KV at r
  induction r with
  | nil => rfl
  | cons h t ih => rw [List.any_cons, List.any_cons, ih, h.1]
theorem KV.repl {kvs : List (κ × V)} {vs : List (κ × Value)} (r : KV kvs vs) (k : κ) {y : V} {u : Value} (ry : RelV y u) :
    KV (kvs.map fun kv => if kv.1 = k then (kv.1, y) else kv) (vs.map fun kv => if kv.1 = k then (kv.1, u) else kv) := by
  unfold KV at r ⊢
  induction r with
  | nil => exact .nil
  | @cons p q ps qs h t ih =>
    rw [List.map_cons, List.map_cons]
    refine .cons ?_ ih
    obtain ⟨h1, h2⟩ := h
    by_cases e : p.1 = k
    · rw [if_pos e, if_pos (h1.symm.trans e)]; exact ⟨h1, ry⟩
    · rw [if_neg e, if_neg (fun z => e (h1.trans z))]; exact ⟨h1, h2⟩
theorem KV.put {kvs : List (κ × V)} {vs : List (κ × Value)} (r : KV kvs vs) (k : κ) {y : V} {u : Value} (ry : RelV y u) : KV (putK kvs k y) (stored vs k u) := by
  unfold putK stored
  rw [r.any k]
  by_cases e : (vs.any fun kv => decide (kv.1 = k)) = true
  · rw [if_pos e, if_pos e]; exact r.repl k ry
  · rw [if_neg e, if_neg e]; exact Paired.snoc r ⟨rfl, ry⟩
theorem KV.drop {kvs : List (κ × V)} {vs : List (κ × Value)} (r : KV kvs vs) (k : κ) : KV (dropK kvs k) (without vs k) := by
  unfold KV at r ⊢
  unfold dropK without
  induction r with
  | nil => exact .nil
  | @cons p q ps qs h t ih =>
    obtain ⟨h1, h2⟩ := h
    rw [List.filter_cons, List.filter_cons]
    by_cases e : p.1 = k
    · have a : ¬ decide (p.1 ≠ k) = true := by simp [e]
      have b : ¬ decide (q.1 ≠ k) = true := by simp [h1.symm.trans e]
      rw [if_neg a, if_neg b]; exact ih
    · have e' : ¬ q.1 = k := fun z => e (h1.trans z)
      have a : decide (p.1 ≠ k) = true := by simp [e]
      have b : decide (q.1 ≠ k) = true := by simp [e']
      rw [if_pos a, if_pos b]; exact .cons ⟨h1, h2⟩ ih
theorem KV.length {kvs : List (κ × V)} {vs : List (κ × Value)} (r : KV kvs vs) : kvs.length = vs.length := Paired.length r
theorem dropK_le (kvs : List (κ × V)) (k : κ) : (dropK kvs k).length ≤ kvs.length := List.length_filter_le _ _
end
theorem kV_is {P : Program} {w : World} {k : Key} {u : Value} (r : RelV (kV k) u) : (mixKind P w).is k u = true := by
  cases k with
  | inl i => obtain ⟨t, e⟩ := (show ∃ t, u = Value.int i t from r); subst e; exact mixKind_int P w i t
  | inr x => obtain ⟨t, e⟩ := (show ∃ t, u = Value.str x t from r); subst e; exact mixKind_str P w x t
theorem items_are {P : Program} {w : World} : ∀ {ks : List Key} {us : List Value}, Vals (ks.map kV) us → ItemsAre (mixKind P w) ks us
  | [], _, r => by rw [List.map_nil] at r; cases r; exact .nil
  | k :: ks, _, r => by
    rw [List.map_cons] at r
    cases r with
    | cons h t => exact .cons (kV_is h) (items_are t)
abbrev KT (H : Hp) : List (List Key × V) → List (List Key × Addr × Value) → Prop := Paired fun p q => p.1 = q.1 ∧ H q.2.1 = some (.tup (p.1.map kV)) ∧ RelV p.2 q.2.2
theorem KT.val {H : Hp} {kvs : List (List Key × V)} {xs : List (List Key × Addr × Value)} (r : KT H kvs xs) (k : List Key) : RelO (valV kvs k) ((atKey xs k).map (·.2)) := by
  induction r with
  | nil => exact True.intro
  | @cons p q ps qs h t ih =>
    obtain ⟨h1, _, h2⟩ := h
    by_cases e : p.1 = k
    · have e' : q.1 = k := h1.symm.trans e
      have b : atKey (q :: qs) k = some q.2 := by simp [atKey, List.find?_cons, e']
      rw [valV_pos e, b]; exact h2
    · have e' : ¬ q.1 = k := fun z => e (h1.trans z)
      have b : atKey (q :: qs) k = atKey qs k := by simp [atKey, List.find?_cons, e']
      rw [valV_neg e, b]; exact ih
theorem KT.repl {H : Hp} {kvs : List (List Key × V)} {xs : List (List Key × Addr × Value)} (r : KT H kvs xs) (k : List Key) {y : V} {u : Value} (ry : RelV y u) :
    KT H (kvs.map fun kv => if kv.1 = k then (kv.1, y) else kv) (xs.map (putAt k u)) := by
  induction r with
  | nil => exact .nil
  | @cons p q ps qs h t ih =>
    rw [List.map_cons, List.map_cons]
    refine .cons ?_ ih
    obtain ⟨h1, h2, h3⟩ := h
    unfold putAt
    by_cases e : p.1 = k
    · rw [if_pos e, if_pos (h1.symm.trans e)]; exact ⟨h1, h2, ry⟩
    · rw [if_neg e, if_neg (fun z => e (h1.trans z))]; exact ⟨h1, h2, h3⟩
theorem KT.put {H : Hp} {kvs : List (List Key × V)} {xs : List (List Key × Addr × Value)} (r : KT H kvs xs) (k : List Key) {b : Addr} {y : V} {u : Value} (hb : H b = some (.tup (k.map kV))) (ry : RelV y u) :
    KT H (putK kvs k y) (storedH xs k b u) := by
  have e : (kvs.any fun kv => decide (kv.1 = k)) = (atKey xs k).isSome := by
    rw [valV_any, (r.val k).isSome_eq, Option.isSome_map]
  unfold putK storedH
  rw [e]
  by_cases q : (atKey xs k).isSome = true
  · rw [if_pos q, if_pos q]; exact r.repl k ry
  · rw [if_neg q, if_neg q]; exact Paired.snoc r ⟨rfl, hb, ry⟩
theorem KT.keeps {H H' : Hp} {kvs : List (List Key × V)} {xs : List (List Key × Addr × Value)} (r : KT H kvs xs) (ht : ∀ b ys, H b = some (.tup ys) → H' b = some (.tup ys)) : KT H' kvs xs :=
  Paired.mapP r fun _ _ z => ⟨z.1, ht _ _ z.2.1, z.2.2⟩
section
variable {P : Program} {w : World} {H : Hp} {h : Heap} {a : Addr}
theorem rd_of {u : HO} (ok : HOk P w H h) (e : Rd H a u) : ObjOk P w H h a u := e.ok ok
theorem dk_rd {kvs : List (Key × V)} (ok : HOk P w H h) (e : Rd H a (.dK kvs)) : kvs.length ≤ sizeLine ∧ (a == sysModules) = false ∧ ∃ vs, KV kvs vs ∧ h.DictOf (mixKind P w) a vs :=
  show ObjOk P w H h a (.dK kvs) from rd_of ok e
theorem dk_of {kvs : List (Key × V)} (ok : HOk P w H h) (e : H a = some (.dK kvs)) : kvs.length ≤ sizeLine ∧ (a == sysModules) = false ∧ ∃ vs, KV kvs vs ∧ h.DictOf (mixKind P w) a vs := dk_rd ok (.inl e)
theorem key_of {ks : List Key} (ok : HOk P w H h) (e : H a = some (.tup (ks.map kV))) : (tupleKind (mixKind P w)).is h ks a := by
  obtain ⟨_, its, r, o, h1, h2, n, h3⟩ := (show ObjOk P w H h a (.tup (ks.map kV)) from ok a _ e)
  exact ⟨o, its.toArray, n, h1, h2, h3, by simpa using items_are r⟩
theorem dt_rd {kvs : List (List Key × V)} (ok : HOk P w H h) (e : Rd H a (.dT kvs)) : kvs.length ≤ sizeLine ∧ (a == sysModules) = false ∧
    ∃ xs, KT H kvs xs ∧ h.DictOfH (tupleKind (mixKind P w)) a xs := by
  obtain ⟨z, y, xs, r, o, es, ep, h1, h2, h3, h4, h5⟩ := (show ObjOk P w H h a (.dT kvs) from rd_of ok e)
  refine ⟨z, y, xs, r, o, es, ep, h1, h2, h3, h4, fun x hx => ?_, h5⟩
  have all : ∀ {l : List (List Key × V)} {m : List (List Key × Addr × Value)}, KT H l m → ∀ x ∈ m, (tupleKind (mixKind P w)).is h x.1 x.2.1 := by
    intro l m q
    induction q with
    | nil => intro x hx; exact nomatch hx
    | @cons p q ps qs hq t ih =>
      intro x hx
      rcases List.mem_cons.mp hx with e | hx
      · subst e
        exact key_of ok (by rw [← hq.1]; exact hq.2.1)
      · exact ih x hx
  exact all r x hx
theorem dt_of {kvs : List (List Key × V)} (ok : HOk P w H h) (e : H a = some (.dT kvs)) : kvs.length ≤ sizeLine ∧ (a == sysModules) = false ∧
    ∃ xs, KT H kvs xs ∧ h.DictOfH (tupleKind (mixKind P w)) a xs := dt_rd ok (.inl e)
end
def DGet (H : Hp) (a : Addr) (y : V) (r : Option V) : Prop :=
  (∃ kvs k, Rd H a (.dK kvs) ∧ y = kV k ∧ r = valV kvs k) ∨ ∃ kvs k b, Rd H a (.dT kvs) ∧ y = .ref b ∧ H b = some (.tup (k.map kV)) ∧ r = valV kvs k
def DPut (H : Hp) (a : Addr) (y v : V) (H' : Hp) : Prop :=
  (∃ kvs k, H a = some (.dK kvs) ∧ y = kV k ∧ kvs.length < sizeLine ∧ H' = upd H a (.dK (putK kvs k v))) ∨
  ∃ kvs k b, H a = some (.dT kvs) ∧ y = .ref b ∧ H b = some (.tup (k.map kV)) ∧ kvs.length < sizeLine ∧ H' = upd H a (.dT (putK kvs k v))
theorem DGet.k {H : Hp} {a : Addr} {kvs : List (Key × V)} {k : Key} (e : H a = some (.dK kvs)) : DGet H a (kV k) (valV kvs k) := .inl ⟨kvs, k, .inl e, rfl, rfl⟩
theorem DPut.k {H : Hp} {a : Addr} {kvs : List (Key × V)} {k : Key} {v : V} (e : H a = some (.dK kvs)) (hl : kvs.length < sizeLine) : DPut H a (kV k) v (upd H a (.dK (putK kvs k v))) := .inl ⟨kvs, k, e, rfl, hl, rfl⟩
section
variable {X : Cx} {pins : List (Addr × Obj)} {σ : St} {H : Hp} {s : Shared} {a : Addr} {y v : V} {u r : Value} {o : Option V} {A : Around} {E : Value → Shared → Prop}
theorem Inv.big (I : Inv X pins σ H s) : sysModules < s.heap.objs.size := by
  have h : mainGlobals < s.heap.objs.size := (I.mod.glob.keeps I.bk).lt
  exact Nat.lt_trans (by decide) h
theorem d_getItem {Q : Value → Shared → Prop} (hu : A.units + 1 < cLine) (I : Inv X pins σ H s) (g : DGet H a y (some v)) (ry : RelV y u) (h : ∀ w' s', Inv X pins σ H s' → RelV v w' → Q w' s') :
    wpAny (model X.prog X.w) A (getItem (.ref a) u) Q E s := by
  rcases g with ⟨kvs, k, e, ey, l⟩ | ⟨kvs, k, b, e, ey, eb, l⟩
  · subst ey
    obtain ⟨z, hd, vs, rel, dd⟩ := dk_rd I.hok e
    obtain ⟨w', hw, rw'⟩ := RelO.some_of (v := v) (o := valueAt vs k) (by rw [l]; exact rel.val k)
    exact wpAny_getItem_of (kV_is ry) dd.mapOf hw (h w' _ (I.tok _) rw')
  · subst ey
    cases (show u = Value.ref b from ry)
    obtain ⟨z, hd, xs, rel, dd⟩ := dt_rd I.hok e
    obtain ⟨w', hw, rw'⟩ := RelO.some_of (v := v) (o := (atKey xs k).map (·.2)) (by rw [l]; exact rel.val k)
    obtain ⟨p, hp, hp2⟩ := Option.map_eq_some_iff.mp hw
    refine wpAny_getItem_heap (tupleKind_room_in1 hu) (key_of I.hok eb) dd hp ?_
    rw [hp2]
    exact h w' _ (I.tok _) rw'
theorem d_in {Q : Value → Shared → Prop} (hu : A.units + 1 < cLine) (I : Inv X pins σ H s) (g : DGet H a y o) (ry : RelV y u) (h : ∀ s', Inv X pins σ H s' → Q (.bool o.isSome) s') :
    wpAny (model X.prog X.w) A (compareOp .In u (.ref a)) Q E s := by
  rcases g with ⟨kvs, k, e, ey, l⟩ | ⟨kvs, k, b, e, ey, eb, l⟩
  · subst ey
    obtain ⟨z, hd, vs, rel, dd⟩ := dk_rd I.hok e
    refine wpAny_in_of (kV_is ry) hd dd.mapOf ?_
    rw [← (rel.val k).isSome_eq, ← l]
    exact h _ (I.tok _)
  · subst ey
    cases (show u = Value.ref b from ry)
    obtain ⟨z, hd, xs, rel, dd⟩ := dt_rd I.hok e
    refine wpAny_in_heap (tupleKind_room_in1 hu) (key_of I.hok eb) hd dd ?_
    have q := (rel.val k).isSome_eq
    rw [Option.isSome_map] at q
    rw [← q, ← l]
    exact h _ (I.tok _)
theorem d_write {h' : Heap} {t' : Nat} {ob : HO} (I : Inv X pins σ H s) (mu : Mut (H a)) (hs : Heap.SameBut a s.heap h') (he : ∃ q, h'.get? a = some q) (new : ObjOk X.prog X.w (upd H a ob) h' a ob) :
    Inv X pins σ (upd H a ob) { s with heap := h', toks := t' } :=
  I.write (x := a) (e := a) mu (.inl rfl) (fun b q hb z => (hs.2 b hb).trans z) he new
theorem dk_new {P : Program} {w : World} {H' : Hp} {h' : Heap} {kvs : List (Key × V)} {vs : List (Key × Value)} (z : kvs.length ≤ sizeLine) (hd : (a == sysModules) = false) (rel : KV kvs vs) (dd : h'.DictOf (mixKind P w) a vs) :
    ObjOk P w H' h' a (.dK kvs) := ⟨z, hd, vs, rel, dd⟩
theorem d_setItem {H' : Hp} {Q : Unit → Shared → Prop} (hu : A.units + 1 < cLine) (I : Inv X pins σ H s) (g : DPut H a y v H') (ry : RelV y u) (rv : RelV v r) (h : ∀ s', Inv X pins σ H' s' → Q () s') :
    wpAny (model X.prog X.w) A (setItem (.ref a) u r) Q E s := by
  rcases g with ⟨kvs, k, e, ey, l, eH⟩ | ⟨kvs, k, b, e, ey, eb, l, eH⟩
  · subst ey eH
    obtain ⟨z, hd, vs, rel, dd⟩ := dk_of I.hok e
    have hz : vs.length ≤ sizeLine := by rw [← rel.length]; exact z
    have hl : (putK kvs k v).length ≤ sizeLine := by have := length_putK kvs k v; lia
    refine wpAny_setItem_pairs (hsz := hz) (kV_is ry) dd fun h' dd' hs => h _ ?_
    have he : ∃ q, h'.get? a = some q := let ⟨q, _, _, hq, _⟩ := dd'; ⟨q, hq⟩
    exact d_write I (by rw [e]; exact True.intro) hs he (dk_new hl hd (rel.put k rv) dd')
  · subst ey eH
    cases (show u = Value.ref b from ry)
    obtain ⟨z, hd, xs, rel, dd⟩ := dt_of I.hok e
    have hz : xs.length ≤ sizeLine := by rw [← Paired.length rel]; exact z
    have hl : (putK kvs k v).length ≤ sizeLine := by have := length_putK kvs k v; lia
    refine wpAny_setItem_heap (hsz := hz) (tupleKind_room_in1 hu) (key_of I.hok eb) dd fun h' dd' hs => h _ ?_
    obtain ⟨q, es, ep, hq, h2, h3, h4, _, h5⟩ := dd'
    refine d_write I (by rw [e]; exact True.intro) hs ⟨q, hq⟩ ⟨hl, hd, _, (rel.put k eb rv).keeps fun c ys ec => ?_, q, es, ep, hq, h2, h3, h4, h5⟩
    rw [upd_ne (ne_of ec e (fun z => nomatch z))]
    exact ec
end
section
variable {X : Cx} {pins : List (Addr × Obj)} {σ : St} {H : Hp} {s : Shared} {a : Addr} {kvs : List (Key × V)} {k : Key} {u : Value} {A : Around} {E : Value → Shared → Prop}
theorem d_delItem {Q : Unit → Shared → Prop} (I : Inv X pins σ H s) (e : H a = some (.dK kvs)) (ry : RelV (kV k) u) (l : (valV kvs k).isSome = true) (h : ∀ s', Inv X pins σ (upd H a (.dK (dropK kvs k))) s' → Q () s') :
    wpAny (model X.prog X.w) A (delItem (.ref a) u) Q E s := by
  obtain ⟨z, hd, vs, rel, dd⟩ := dk_of I.hok e
  refine wpAny_delItem_slot dd.typeIs (by decide) PySem.F.slot_dict_delitem
    (call_meetsIn PySem.F.slot_dict_delitem dd.typeIs PySem.F.entry_dict_delitem (PySem.F.args_dict_delitem_2 _ _) (meets_dict_delitem_pairs (mixKind X.prog X.w) a (kV_is ry)) ⟨vs, dd, by rw [← rel.length]; exact z, by rw [← (rel.val k).isSome_eq]; exact l, fun h' dd' hs => h _ ?_⟩)
  have he : ∃ q, h'.get? a = some q := let ⟨q, _, _, hq, _⟩ := dd'; ⟨q, hq⟩
  exact d_write I (by rw [e]; exact True.intro) hs he (dk_new (Nat.le_trans (dropK_le kvs k) z) hd (rel.drop k) dd')
theorem d_pop {v : V} {more : List Value} {Q : Value → Shared → Prop} (I : Inv X pins σ H s) (e : H a = some (.dK kvs)) (ry : RelV (kV k) u) (l : valV kvs k = some v) (hm : more = [] ∨ ∃ x, more = [x])
    (h : ∀ w' s', Inv X pins σ (upd H a (.dK (dropK kvs k))) s' → RelV v w' → Q w' s') : wpAny (model X.prog X.w) A (call (.builtin "dict.pop") (.ref a :: u :: more)) Q E s := by
  obtain ⟨z, hd, vs, rel, dd⟩ := dk_of I.hok e
  obtain ⟨w', hw, rw'⟩ := RelO.some_of (v := v) (o := valueAt vs k) (by rw [← l]; exact rel.val k)
  have hp : (keyPart u).isSome = true := by
    cases k with
    | inl i => obtain ⟨t, q⟩ := (show ∃ t, u = Value.int i t from ry); subst q; rfl
    | inr x => obtain ⟨t, q⟩ := (show ∃ t, u = Value.str x t from ry); subst q; rfl
  have ha : argsOk "dict.pop" ⟨.ref a :: u :: more, []⟩ := by
    rcases hm with q | ⟨x, q⟩
    · subst q; exact PySem.F.args_dict_pop_2 _ _
    · subst q; exact PySem.F.args_dict_pop_3 _ _ _
  refine call_meetsIn PySem.F.slot_dict_pop dd.typeIs PySem.F.entry_dict_pop ha (meets_dict_pop_there (mixKind X.prog X.w) a (kV_is ry) more hm hp)
    ⟨vs, w', dd, by rw [← rel.length]; exact z, hw, fun h' dd' hs => h w' _ ?_ rw'⟩
  have he : ∃ q, h'.get? a = some q := let ⟨q, _, _, hq, _⟩ := dd'; ⟨q, hq⟩
  exact d_write I (by rw [e]; exact True.intro) hs he (dk_new (Nat.le_trans (dropK_le kvs k) z) hd (rel.drop k) dd')
theorem d_len {Q : Value → Shared → Prop} (I : Inv X pins σ H s) (e : Rd H a (.dK kvs)) (h : ∀ t s', Inv X pins σ H s' → Q (.int kvs.length t) s') : wpAny (model X.prog X.w) A (call (.builtin "len") [.ref a]) Q E s := by
  obtain ⟨z, hd, vs, rel, dd⟩ := dk_rd I.hok e
  refine call_len_dict hd dd (by rw [← rel.length]; rw [sizeLine_eq] at z; lia) ?_
  rw [← rel.length]
  exact h _ _ (I.tok _)
end
def NoSl (i : Expr) : Prop := ∀ ov iv, subscripted i false ov iv = operate [ov, iv] (getItem ov iv)
theorem subD_of {prog : Program} {w : World} {A : Around} {E : Value → Shared → Prop} {s : Shared} {env : Env} {value slice : Expr} {pos : Pos} {T id : String} {Q : Value → Shared → Prop}
    (hl : typeLookup (.type T) "__getitem__" = pure (some (.builtin id))) (hs : NoSl slice)
    (h : wpAny (model prog w) A (eval value env) (fun o s₁ => wpAny (model prog w) A (eval slice env) (fun i s₂ => s₂.TypeIs o T ∧ wpAny (model prog w) A (getItem o i) Q E s₂) E s₁) E s) :
    wpAny (model prog w) A (eval (.Subscript value slice pos) env) Q E s := by
  refine Subscript_ (wpAny_mono h (fun o s₁ h₁ => wpAny_mono h₁ (fun i s₂ h₂ => ?_) fun _ _ x => x) fun _ _ x => x)
  obtain ⟨hT, h₂⟩ := h₂
  unfold subscriptTail
  refine wpAny_bind ?_
  rw [getitemInPython_of_ne hT.not_modules]
  refine wpAny_bind (wpAny_specialOf hT hl ?_)
  have fin : wpAny (model prog w) A (subscripted slice false o i) (fun r s₃ => wpAny (model prog w) A (letTemporaryGo value o r >>= fun _ => pure r) Q E s₃) E s₂ := by
    rw [hs o i]
    exact wpAny_operating (wpAny_mono h₂ (fun r s₃ h₃ => wpAny_bind (wpAny_letTemporaryGo (wpAny_pure h₃))) fun _ _ x => x)
  first
    | exact wpAny_pure (wpAny_bind fin)
    | exact wpAny_bind (wpAny_pure (wpAny_bind fin))
    | exact wpAny_bind fin
theorem dict_typeIs {X : Cx} {pins : List (Addr × Obj)} {σ : St} {H : Hp} {s : Shared} {a : Addr} {y : V} {o : Option V} (I : Inv X pins σ H s) (g : DGet H a y o) : s.TypeIs (.ref a) "dict" := by
  rcases g with ⟨kvs, k, e, _, _⟩ | ⟨kvs, k, b, e, _, _, _⟩
  · obtain ⟨_, _, vs, _, dd⟩ := dk_rd I.hok e
    exact dd.typeIs
  · obtain ⟨_, _, xs, _, dd⟩ := dt_rd I.hok e
    exact dd.typeIs
def tDGet (td ty : TE) : TE := fun σ H Q => td σ H fun x H1 => ty σ H1 fun y H2 => ∃ a v, x = .ref a ∧ DGet H2 a y (some v) ∧ Q v H2
def tDIn (ty td : TE) : TE := fun σ H Q => ty σ H fun y H1 => td σ H1 fun x H2 => ∃ a o, x = .ref a ∧ DGet H2 a y o ∧ Q (.bl o.isSome) H2
def sDPut (td ty tv : TE) : TS := fun D σ H => tv σ H fun v H1 => td σ H1 fun x H2 => ty σ H2 fun y H3 => ∃ a H4, x = .ref a ∧ DPut H3 a y v H4 ∧ D.nx σ H4
section
variable {X : Cx} {o i e value : Expr} {pos pos' tpos : Pos} {td ty tv : TE}
theorem pe_dget (hu : X.A.units + 1 < cLine) (ho : PE X o td) (hi : PE X i ty) (hs : NoSl i) : PE X (.Subscript o i pos) (tDGet td ty) := by
  intro pins s σ H Q I h
  refine subD_of PySem.F.slot_dict_getitem.lookup hs (thn (ho pins s σ H _ I h) fun u s1 ⟨x, H1, I1, rx, q1⟩ => thn (hi pins s1 σ H1 _ I1 q1) ?_)
  rintro iv s2 ⟨y, H2, I2, ry, a, v, ex, g, q2⟩
  subst ex
  obtain rfl : u = Value.ref a := rx
  exact ⟨dict_typeIs I2 g, d_getItem hu I2 g ry fun w' s3 I3 rw' => ⟨v, H2, I3, rw', q2⟩⟩
theorem pc_din (hu : X.A.units + 1 < cLine) (hi : PE X i ty) (ho : PE X o td) : PC X .In i o (tDIn ty td) := by
  intro pins s σ H Q I h
  refine thn (hi pins s σ H _ I h) fun iv s1 ⟨y, H1, I1, ry, q1⟩ => thn (ho pins s1 σ H1 _ I1 q1) ?_
  rintro u s2 ⟨x, H2, I2, rx, a, ov, ex, g, q2⟩
  subst ex
  obtain rfl : u = Value.ref a := rx
  exact d_in hu I2 g ry fun s3 I3 => ⟨.bl ov.isSome, H2, I3, rfl, q2⟩
theorem ps_dput (hu : X.A.units + 1 < cLine) (ho : PE X o td) (hi : PE X i ty) (hv : PE X value tv) (hs : swapsWith value (some (.Subscript o i pos')) pos.line X.env = pure false) :
    PS X (.Assign [.Subscript o i pos'] value pos) (sDPut td ty tv) := by
  intro pins s σ H D I h
  refine wpAny_Assign_Subscript (thn (hv pins s σ H _ I h) fun r s1 ⟨v, H1, I1, rv, q1⟩ => thn (ho pins s1 σ H1 _ I1 q1) fun u s2 ⟨x, H2, I2, rx, q2⟩ => thn (hi pins s2 σ H2 _ I2 q2) ?_) hs
  rintro iv s3 ⟨y, H3, I3, ry, a, H4, ex, g, q3⟩
  subst ex
  obtain rfl : u = Value.ref a := rx
  exact d_setItem hu I3 g ry rv fun s4 I4 => ⟨σ, H4, I4, q3⟩
end
theorem dk_empty {P : Program} {w : World} {H : Hp} (h : Heap) (hb : sysModules < h.objs.size) : ObjOk P w H (h.push { cls := .type "dict", data := .dict #[] }) h.objs.size (.dK []) :=
  ⟨Nat.zero_le _, beq_eq_false_iff_ne.mpr (Ne.symm (Nat.ne_of_lt hb)), [], .nil, Heap.DictOf.new h⟩
def tDNewK : TE := fun _ H Q => ∀ p, H p = none → Q (.ref p) (upd H p (.dK []))
section
variable {X : Cx} {pos : Pos}
theorem pe_dnewK : PE X (.Dict [] [] pos) tDNewK := fun pins s σ H Q I h =>
  wpAny_Dict_empty ⟨.ref s.heap.objs.size, _, I.laid (a := s.heap.objs.size) (o := .dK []) (t' := s.toks) (fun _ _ q => Heap.get?_push_of_some _ q) (Nat.le_refl _) (dk_empty s.heap I.big), rfl, h _ (I.hok.fresh (Nat.le_refl _))⟩
end
def tPairs : List (TE × TE) → St → Hp → (List (V × V) → Hp → Prop) → Prop
  | [], _, H, Q => Q [] H
  | (tk, tv) :: r, σ, H, Q => tk σ H fun x H1 => tv σ H1 fun y H2 => tPairs r σ H2 fun ps H3 => Q ((x, y) :: ps) H3
abbrev VV : List (V × V) → List (Value × Value) → Prop := Paired fun p q => RelV p.1 q.1 ∧ RelV p.2 q.2
def PPs (X : Cx) (pos : Pos) (keys : List (Option Expr)) (values : List Expr) (trs : List (TE × TE)) : Prop :=
  ∀ (pins : List (Addr × Obj)) (s : Shared) (σ : St) (H : Hp) (Q : List (V × V) → Hp → Prop), Inv X pins σ H s → tPairs trs σ H Q →
    wpAny (model X.prog X.w) X.A (evalPairs (pairTrees keys values X.env pos)) (fun vs s' => ∃ ps H', Inv X pins σ H' s' ∧ VV ps vs ∧ Q ps H') X.xe s
theorem pps_nil {X : Cx} {pos : Pos} : PPs X pos [] [] [] := fun pins s σ H Q I h => pairTrees_nil_walk ⟨[], H, I, .nil, h⟩
theorem pps_cons {X : Cx} {pos : Pos} {k v : Expr} {ks : List (Option Expr)} {vs : List Expr} {tk tv : TE} {trs : List (TE × TE)} (hk : PE X k tk) (hv : PE X v tv) (hr : PPs X pos ks vs trs) :
    PPs X pos (some k :: ks) (v :: vs) ((tk, tv) :: trs) := fun pins s σ H Q I h =>
  pairTrees_cons_walk (thn (hk pins s σ H _ I h) fun u s1 ⟨x, H1, I1, rx, q1⟩ => thn (hv pins s1 σ H1 _ I1 q1) fun w2 s2 ⟨y, H2, I2, ry, q2⟩ =>
    thn (hr pins s2 σ H2 _ I2 q2) (by rintro ws s3 ⟨ps, H3, I3, rel, q3⟩;exact ⟨(x, y) :: ps, H3, I3, .cons ⟨rx, ry⟩ rel, q3⟩))
def mergeK (kvs more : List (Key × V)) : List (Key × V) := more.foldl (fun acc kv => putK acc kv.1 kv.2) kvs
theorem KV.merge : ∀ {more : List (Key × V)} {rs : List (Key × Value)} {kvs : List (Key × V)} {vs : List (Key × Value)}, KV more rs → KV kvs vs → KV (mergeK kvs more) (merged vs rs) := by
  intro more rs kvs vs r
  unfold KV at r
  induction r generalizing kvs vs with
  | nil => intro q; exact q
  | @cons p q ps qs h t ih =>
    intro r0
    have e : KV (putK kvs p.1 p.2) (stored vs q.1 q.2) := by
      have := r0.put p.1 h.2
      rw [← h.1]; exact this
    exact ih e
theorem length_mergeK : ∀ (more kvs : List (Key × V)), (mergeK kvs more).length ≤ kvs.length + more.length
  | [], kvs => by show kvs.length ≤ kvs.length + 0; lia
  | p :: r, kvs => by
    have h1 := length_mergeK r (putK kvs p.1 p.2)
    have h2 := length_putK kvs p.1 p.2
    show (mergeK (putK kvs p.1 p.2) r).length ≤ _
    rw [List.length_cons]; lia
theorem carries_of {P : Program} {w : World} : ∀ {kvs : List (Key × V)} {ws : List (Value × Value)}, VV (kvs.map fun kv => (kV kv.1, kv.2)) ws → ∃ rs, Carries (mixKind P w) ws rs ∧ KV kvs rs
  | [], _, r => by rw [List.map_nil] at r; cases r; exact ⟨[], True.intro, .nil⟩
  | p :: kvs, _, r => by
    rw [List.map_cons] at r
    cases r with
    | @cons a b as bs h t =>
      obtain ⟨rs, c, q⟩ := carries_of (P := P) (w := w) t
      obtain ⟨b1, b2⟩ := b
      exact ⟨(p.1, b2) :: rs, ⟨kV_is h.1, rfl, c⟩, .cons ⟨rfl, h.2⟩ q⟩
def tDisp (trs : List (TE × TE)) : TE := fun σ H Q => ∀ p, H p = none → tPairs trs σ (upd H p (.dK [])) fun ps H2 => H2 p = some (.dK []) ∧ ∃ kvs : List (Key × V), ps = kvs.map (fun kv => (kV kv.1, kv.2)) ∧ kvs.length ≤ 15 ∧ Q (.ref p) (upd H2 p (.dK (mergeK [] kvs)))
theorem pe_disp {X : Cx} {pos : Pos} {keys : List (Option Expr)} {values : List Expr} {trs : List (TE × TE)} (h : PPs X pos keys values trs) (hall : keys.all (·.isSome) = true) (hl : keys.length = values.length) (h0 : keys ≠ [])
    (h15 : keys.length ≤ 15) : PE X (.Dict keys values pos) (tDisp trs) := by
  intro pins s σ H Q I q
  have hn := I.hok.fresh (Nat.le_refl s.heap.objs.size)
  have I1 := I.laid (a := s.heap.objs.size) (o := .dK []) (h' := s.heap.push { cls := .type "dict", data := .dict #[] }) (t' := s.toks) (fun _ _ q => Heap.get?_push_of_some _ q) (Nat.le_refl _) (dk_empty s.heap I.big)
  refine wpAny_Dict_walk (knd := mixKind X.prog X.w) hall hl h0 h15 (thn (h pins _ σ _ _ I1 (q _ hn)) ?_)
  rintro ws s2 ⟨ps, H2, I2, rel, e, kvs, ep, lk, q2⟩
  subst ep
  obtain ⟨rs, c, rk⟩ := carries_of (P := X.prog) (w := X.w) rel
  obtain ⟨z, hd, vs0, r0, dd⟩ := dk_of I2.hok e
  cases r0
  refine ⟨rs, c, dd, fun h' dd' hs => ⟨.ref s.heap.objs.size, _, ?_, rfl, q2⟩⟩
  have hz : (mergeK [] kvs).length ≤ sizeLine := by
    have h1 := length_mergeK kvs []
    rw [List.length_nil] at h1
    rw [sizeLine_eq]; lia
  have he : ∃ q, h'.get? s.heap.objs.size = some q := let ⟨q, _, _, hq, _⟩ := dd'; ⟨q, hq⟩
  exact d_write I2 (by rw [e]; exact True.intro) hs he (dk_new hz hd (rk.merge .nil) dd')
structure M1 (X : Cx) (o : Expr) (m : Str) (apos : Pos) (e : Expr) (cpos : Pos) : Prop where
  base : attributeBase o m X.env (eval o X.env) = eval o X.env
  few : ((backTo cpos (starEach [e] X.env)).all (fun x => !x.1) && (backToKw cpos (keywordEach [] X.env)).all (fun x => x.1.isSome)
    && decide (([e] : List Expr).length + ([] : List Keyword).length + (if ([] : List Keyword).isEmpty then 0 else 1) < 30)) = true
  line : (apos.endLine == cpos.line) = true
  trees : backTo cpos (starEach [e] X.env) = [(false, eval e X.env)]
structure M2 (X : Cx) (o : Expr) (m : Str) (apos : Pos) (e f : Expr) (cpos : Pos) : Prop where
  base : attributeBase o m X.env (eval o X.env) = eval o X.env
  few : ((backTo cpos (starEach [e, f] X.env)).all (fun x => !x.1) && (backToKw cpos (keywordEach [] X.env)).all (fun x => x.1.isSome)
    && decide (([e, f] : List Expr).length + ([] : List Keyword).length + (if ([] : List Keyword).isEmpty then 0 else 1) < 30)) = true
  line : (apos.endLine == cpos.line) = true
  trees : backTo cpos (starEach [e, f] X.env) = [(false, eval e X.env), (false, eval f X.env)]
def IsD (H : Hp) (a : Addr) : Prop := (∃ kvs, Rd H a (.dK kvs)) ∨ ∃ kvs, Rd H a (.dT kvs)
theorem isD_at {X : Cx} {pins : List (Addr × Obj)} {σ : St} {H : Hp} {s : Shared} {a : Addr} (I : Inv X pins σ H s) (d : IsD H a) :
    s.TypeIs (.ref a) "dict" ∧ (∀ b, Value.ref a = .ref b → ∃ ob, s.heap.get? b = some ob ∧ ob.dict = none) ∧ (a == sysModules) = false := by
  rcases d with ⟨kvs, e⟩ | ⟨kvs, e⟩
  · obtain ⟨_, hd, vs, _, dd⟩ := dk_rd I.hok e
    refine ⟨dd.typeIs, fun b q => ?_, hd⟩
    cases q
    obtain ⟨ob, _, _, h1, h2, _⟩ := dd
    exact ⟨ob, h1, h2.2.1⟩
  · obtain ⟨_, hd, xs, _, dd⟩ := dt_rd I.hok e
    refine ⟨dd.typeIs, fun b q => ?_, hd⟩
    cases q
    obtain ⟨ob, _, _, h1, h2, _⟩ := dd
    exact ⟨ob, h1, h2.2.1⟩
section
variable {X : Cx} {pins : List (Addr × Obj)} {σ : St} {H : Hp} {s : Shared} {a : Addr} {y d : V} {u r : Value} {o : Option V} {A : Around} {E : Value → Shared → Prop}
end
def tDPop1 (td ty : TE) : TE := fun σ H Q => td σ H fun x H1 => ∃ a, x = .ref a ∧ IsD H1 a ∧ ty σ H1 fun y H2 => ∃ kvs k v, H2 a = some (.dK kvs) ∧ y = kV k ∧ valV kvs k = some v ∧ Q v (upd H2 a (.dK (dropK kvs k)))
section
variable {X : Cx} {o e f : Expr} {apos cpos : Pos} {td ty tx : TE}
theorem pe_dpop1 (ho : PE X o td) (he : PE X e ty) (m : M1 X o "pop" apos e cpos) : PE X (.Call (.Attribute o "pop" apos) [e] [] cpos) (tDPop1 td ty) := by
  intro pins s σ H Q I h
  refine wpAny_Call_method m.base m.few m.line PySem.F.plainAttrs_dict PySem.F.slot_dict_pop PySem.F.type_dict_pop (thn (ho pins s σ H _ I h) ?_)
  rintro u s1 ⟨x, H1, I1, rx, a, ex, d, q1⟩
  subst ex
  obtain rfl : u = Value.ref a := rx
  obtain ⟨t1, t2, _⟩ := isD_at I1 d
  refine ⟨t1, t2, ?_⟩
  rw [m.trees]
  refine Calls.callWith_builtin rfl (Calls.evalArgs_plain (Calls.spliced_cons (thn (he pins s1 σ H1 _ I1 q1) fun iv s2 ⟨y, H2, I2, ry, kvs, k, v, ea, ey, l, q2⟩ => Calls.spliced_nil ?_)))
  subst ey
  exact d_pop I2 ea ry l (.inl rfl) fun w' s3 I3 rw' => ⟨v, _, I3, rw', q2⟩
end
section
variable {X : Cx} {pins : List (Addr × Obj)} {σ : St} {H : Hp} {s : Shared} {a : Addr} {kvs : List (Key × V)} {A : Around} {E : Value → Shared → Prop}
end
section
variable {X : Cx} {pins : List (Addr × Obj)} {σ : St} {H : Hp} {s : Shared} {a : Addr} {y : V} {u : Value} {A : Around} {E : Value → Shared → Prop}
end
section
variable {X : Cx}
theorem call_lenD : CallR X (.builtin "len") (fun xs H Q => ∃ a kvs, xs = [V.ref a] ∧ H a = some (.dK kvs) ∧ Q (.int kvs.length) H) := by
  intro pins s σ H xs us Q I r h
  obtain ⟨a, kvs, rfl, ha, q⟩ := h
  obtain ⟨u, rfl, ru⟩ := vals1 r
  cases ru
  exact d_len I (.inl ha) fun t s' I' => ⟨.int kvs.length, H, I', ⟨t, rfl⟩, q⟩
end
section
variable {κ : Type} [DecidableEq κ]
theorem dropK_pos {p : κ × V} {r : List (κ × V)} {k : κ} (e : p.1 = k) : dropK (p :: r) k = dropK r k := by
  unfold dropK
  rw [List.filter_cons, if_neg (by simp [e])]
theorem dropK_neg {p : κ × V} {r : List (κ × V)} {k : κ} (e : ¬ p.1 = k) : dropK (p :: r) k = p :: dropK r k := by
  unfold dropK
  rw [List.filter_cons, if_pos (by simp [e])]
end
end L2
set_option maxHeartbeats 4000000
namespace L2
open PySem PySem.Spec PyProof.Rows PySem.W
def ViewO (v d : Addr) : HO := .ext fun h => h.IsValuesView v d
theorem values_meets {prog : Program} {w : World} {d : Addr} (hd : (d == sysModules) = false) : MeetsIn prog w (Builtin.«dict.values» ⟨[.ref d], []⟩) (fun A R s => s.TypeIs (.ref d) "dict" ∧
    R (.ok (.ret (.ref s.heap.objs.size))) { s with heap := s.heap.push { cls := .type "dict_values", data := .fields #[.ref d] } }) :=
  .of_wp<|by
    rintro A R s ⟨ty, h⟩
    unfold Builtin.«dict.values»
    show wpAny _ _ (Builtin.Dict.noArgs "values" ⟨[.ref d], []⟩ >>= fun d => Builtin.Dict.showsAll d >>= fun _ => newFields "dict_values" [.ref d] >>= fun r => ret r) _ _ s
    refine wpAny_bind ?_
    unfold Builtin.Dict.noArgs
    refine wpAny_bind (wpAny_notOrdered_dict ty ?_)
    show wpAny _ _ (pure d) _ _ s
    refine wpAny_pure ?_
    unfold Builtin.Dict.showsAll
    rw [hd]
    refine wpAny_bind (wpAny_pure ?_)
    refine wpAny_bind ?_
    show wpAny _ _ (if (#[Value.ref d] : Array Value).size > sizeLine + 2 then ((unsupported "record:memory" : Sem PUnit) >>= fun _ => newObjAsIs (.type "dict_values") (.fields #[.ref d]) none) else newObjAsIs (.type "dict_values") (.fields #[.ref d]) none) _ _ s
    rw [if_neg (by show ¬ 1 > sizeLine + 2; lia)]
    unfold newObjAsIs
    refine wpAny_bind (wpAny_alloc ?_)
    exact wpAny_pure (wpAny_pure ⟨_, rfl, h⟩)
section
variable {X : Cx}
def rValues : V → List V → Hp → VK → Prop := fun x vs H Q => ∃ d kvs, x = .ref d ∧ vs = [] ∧ H d = some (.dK kvs) ∧ ∀ v, H v = none → Q (.ref v) (upd H v (ViewO v d))
theorem mt_values : MtR X "dict.values" rValues := by
  rintro pins s σ H x xs v us Q I rx r ⟨d, kvs, rfl, rfl, e, q⟩
  cases r
  cases (show v = Value.ref d from rx)
  obtain ⟨z, hd, vs, rel, dd⟩ := dk_of I.hok e
  refine call_meetsIn PySem.F.slot_dict_values dd.typeIs PySem.F.entry_dict_values (PySem.F.args_dict_values_1 _) (values_meets hd) ⟨dd.typeIs, ?_⟩
  have e1 : (s.heap.push { cls := .type "dict_values", data := .fields #[.ref d] }).get? s.heap.objs.size = some ({ cls := .type "dict_values", data := .fields #[.ref d] } : Obj) := Heap.get?_push_size _ rfl
  refine ⟨.ref s.heap.objs.size, _, I.laid (t' := s.toks) (fun b u q => Heap.get?_push_of_some _ q) (Nat.le_refl _) (o := ViewO s.heap.objs.size d) ⟨⟨_, e1, rfl, rfl⟩, ⟨_, e1⟩, fun h1 h2 p k => ?_⟩, rfl, q _ (I.hok.fresh (Nat.le_refl _))⟩
  obtain ⟨o, p1, p2, p3⟩ := p
  exact ⟨o, k _ p1, p2, p3⟩
def rListV : List V → Hp → VK → Prop := fun xs H Q => ∃ v d kvs, xs = [V.ref v] ∧ H v = some (ViewO v d) ∧ H d = some (.dK kvs) ∧ ∀ l, H l = none → Q (.ref l) (upd H l (.lst (kvs.map (·.2))))
theorem call_listV (hc : X.calm = true) : CallR X (.type "list") rListV := by
  intro pins s σ H xs us Q I r h
  obtain ⟨v, d, kvs, rfl, ev, ed, q⟩ := h
  obtain ⟨u, rfl, ru⟩ := vals1 r
  cases ru
  obtain ⟨z, hd, vs, rel, dd⟩ := dk_of I.hok ed
  have vw : s.heap.IsValuesView v d := ((I.hok v _ ev : ObjOk _ _ _ _ _ (ViewO v d))).1
  obtain ⟨o, es, ep, dA⟩ := id dd
  have hl : kvs.length = vs.length := rel.length
  refine kdl_call (kdl_values (knd := mixKind X.prog X.w) (ep := ep)) (I.ok.hd hc) ⟨vw, o, es, dA⟩ (by rw [← hl]; exact z) fun h' tk acc' c' k' hD hacc => ?_
  have ea : acc'.toList = vs.map (·.2) := by
    refine List.ext_getElem? fun j => ?_
    rw [List.getElem?_map, Array.getElem?_toList]
    by_cases hj : j < vs.length
    · have h1 : acc'[j]? = some (acc'[j]'(by rw [hacc.1]; exact hj)) := Array.getElem?_eq_getElem _
      obtain ⟨k, e1⟩ := hacc.2 j _ h1
      rw [h1, e1]
      rfl
    · rw [Array.getElem?_eq_none (by rw [hacc.1]; lia), List.getElem?_eq_none (by lia)]
      rfl
  have rv : Vals (kvs.map (·.2)) (vs.map (·.2)) := by
    clear ea hacc hD dA dd q z hl ed
    induction rel with
    | nil => exact .nil
    | cons f _ ih => exact .cons f.2 ih
  refine ⟨.ref _, _, I.laid (t' := tk) k' (Nat.le_refl _) (o := .lst (kvs.map (·.2))) ⟨by rw [List.length_map]; exact z, vs.map (·.2), c', rv, ?_⟩, rfl, q _ (I.hok.fresh (Nat.le_refl _))⟩
  rw [← ea, Array.toArray_toList]
  exact hD
end
end L2
namespace DL
open PySem L2
def d3 (p : Int × Int × Int) : D := .tup [.int p.1, .int p.2.1, .int p.2.2]
theorem e3_reps {K : PySem.W.Frag} {G : Hp} {es : List (Key × V)} {kvs : List (Int × Int × Int × Int)} (h : Paired (E3 G) es kvs) : Reps K G (es.map (·.2)) (kvs.map fun p => d3 p.2) := by
  induction h with
  | nil => exact .nil
  | cons f _ ih =>
    obtain ⟨_, t, e, g⟩ := f
    refine .cons ?_ ih
    show Rep K G _ (d3 _)
    dsimp only
    rw [e]
    exact Rep.tup' g (.cons (.int _) (.cons (.int _) (.cons (.int _) .nil)))
theorem Rep.dki_inv {K : PySem.W.Frag} {G : Hp} {v : V} {kvs : List (Int × Int × Int × Int)} (h : Rep K G v (.ext (.dki kvs))) : ∃ a es, v = .ref a ∧ G a = some (.dK es) ∧ Paired (E3 G) es kvs := by
  cases h with
  | ext h => obtain ⟨es, h1, h2⟩ := h; exact ⟨_, es, rfl, h1, h2⟩
section
variable {X : Cx} {o : Expr} {te : DT}
def listV (d : D) (Q : B → Prop) : Prop := match d with
  | .ext (.dki kvs) => Q (.o (.lst (kvs.map fun p => d3 p.2)))
  | _ => False
def dListV (te : DT) : DT := fun ρ Q => te ρ fun b => listV b.val Q
set_option tactic.hygienic true in
theorem de_listV {apos cpos pl pos : Pos} (hc : X.calm = true) (hgl : Gl X "list") (hml : X.mg "list" = none) (ho : DE X o te) (hbase : attributeBase o "values" X.env (eval o X.env) = eval o X.env := by rfl) (hline : (apos.endLine == cpos.line) = true := by rfl)
    (he : starEach [.Call (.Attribute o "values" apos) [] [] cpos] X.env = (false, eval (.Call (.Attribute o "values" apos) [] [] cpos) X.env) :: starEach [] X.env := by rfl) : DE X (.Call (.Name "list" pl) [.Call (.Attribute o "values" apos) [] [] cpos] [] pos) (dListV te) := by
  have hp := pa_cons (pe_bm0 PySem.F.plainAttrs_dict PySem.F.slot_dict_values PySem.F.type_dict_values mt_values ho.pe hbase hline) pa_nil he
  refine DE.of (pe_callTy (call_listV hc) hgl hml PyProof.Rows.boot_list hp (he := he) (hpl := rfl)) ?_
  rintro σ H Q ⟨G, ρ, P, s, re, h, k⟩
  refine ⟨G, ρ, _, s, re, h, fun b v H1 G1 p1 w1 r1 => ?_⟩
  obtain ⟨G2, w2, r2⟩ := r1.give w1
  unfold listV at p1
  split at p1
  · rename_i kvs e
    rw [e] at r2
    obtain ⟨a, es, rfl, g1, pr⟩ := r2.dki_inv
    have h1 := w2.gh _ _ g1
    refine ⟨.inr (.inr (.inl ⟨rfl, .inl ⟨_, h1⟩⟩)), a, es, rfl, rfl, h1, fun y hy => ?_⟩
    have na : a ≠ y := ne_of_none h1 hy
    refine ⟨y, a, es, rfl, upd_same, by rw [upd_ne na]; exact h1, fun l hl => ?_⟩
    have ly : l ≠ y := fun z => by rw [z, upd_same] at hl; cases hl
    rw [upd_ne ly] at hl
    have g2l : G2 l = none := w2.gh.free hl
    have g2y : G2 y = none := w2.gh.free hy
    refine k _ _ _ G2 p1 ((w2.own (w2.hh.free hy) g2y).own (w2.hh.free hl) g2l) ⟨l, rfl, w2.hh.free hl, g2l, _, upd_same, e3_reps pr⟩
  · exact p1.elim
end
end DL
set_option maxHeartbeats 4000000
namespace DL
open PySem L2
theorem Rep.obj_inv {K : PySem.W.Frag} {G : Hp} {v : V} {C : Addr} {g n : Int} {hs cs : List (Int × Int × Int × Int)} (h : Rep K G v (.ext (.obj C g hs cs n))) : ∃ a dx b c, v = .ref a ∧ G a = some (.ins C dx (flds g b c n)) ∧ DkiAt G G b hs ∧ DkiAt G G c cs := by
  cases h with
  | ext h => obtain ⟨dx, b, c, h1, h2, h3⟩ := h; exact ⟨_, dx, b, c, rfl, h1, h2, h3⟩
theorem rf_and {α : Type} {a : α} {p : Prop} : (a = a ∧ p) = p := by simp
theorem bv_p (d : D) : (B.p d).val = d := rfl
theorem bv_o (d : D) : (B.o d).val = d := rfl
theorem bv_tup (ds : List D) : (B.n .tup ds).val = .tup ds := rfl
theorem bv_lst (ds : List D) : (B.n .lst ds).val = .lst ds := rfl
theorem bv_wk (g : Int) (x y : D) : (B.n (.wk g) [x, y]).val = .tup [.int g, x, y] := rfl
theorem bv_obj (C : Addr) (g n : Int) (hs cs : List (Int × Int × Int × Int)) : (B.n (.obj C g n) [.ext (.dki hs), .ext (.dki cs)]).val = .ext (.obj C g hs cs n) := rfl
def objD (C : Addr) (f : Int → List (Int × Int × Int × Int) → List (Int × Int × Int × Int) → Int → Prop) : D → Prop
  | .ext (.obj C' g hs cs n) => C' = C ∧ f g hs cs n
  | _ => False
theorem objD_is {C : Addr} {f : Int → List (Int × Int × Int × Int) → List (Int × Int × Int × Int) → Int → Prop} {d : D} (h : objD C f d) : ∃ g hs cs n, d = .ext (.obj C g hs cs n) ∧ f g hs cs n := by
  unfold objD at h
  split at h
  · obtain ⟨rfl, h⟩ := h
    exact ⟨_, _, _, _, rfl, h⟩
  · exact h.elim
abbrev Sel := Int → List (Int × Int × Int × Int) → List (Int × Int × Int × Int) → Int → D
def sGap : Sel := fun g _ _ _ => .int g
def sHots : Sel := fun _ hs _ _ => .ext (.dki hs)
def sColds : Sel := fun _ _ cs _ => .ext (.dki cs)
def dFld (C : Addr) (sel : Sel) (te : DT) : DT := fun ρ Q => te ρ fun b => objD C (fun g hs cs n => Q (.p (sel g hs cs n))) b.val
def SelOk (f : Str) (sel : Sel) : Prop := ∀ (K : PySem.W.Frag) (G : Hp) g hs cs n b c, DkiAt G G b hs → DkiAt G G c cs → ∃ v, (flds g b c n).lookup f = some v ∧ Rep K G v (sel g hs cs n)
theorem sel_gap : SelOk "gap" sGap := fun K G g hs cs n b c h1 h2 => ⟨.int g, rfl, .int g⟩
theorem sel_hots : SelOk "hots" sHots := fun K G g hs cs n b c h1 h2 => ⟨.ref b, rfl, .ext h1⟩
theorem sel_colds : SelOk "colds" sColds := fun K G g hs cs n b c h1 h2 => ⟨.ref c, rfl, .ext h2⟩
section
variable {X : Cx} {C : Addr} {o e : Expr} {es : List Expr} {te : DT} {ta : DTA} {m f x : Str} {k : Nat} {ps : List Str} {pos apos epos : Pos} {R : DR}
theorem de_fld {sel : Sel} (cl : Cls X.K C) (na : NoAttr X.K C f) (so : SelOk f sel) (ho : DE X o te) (hb : attributeBase o f X.env (eval o X.env) = eval o X.env := by rfl) : DE X (.Attribute o f pos) (dFld C sel te) :=
  DE.of (pe_fld ho.pe hb)<|by
    rintro σ H Q ⟨G, ρ, P, s, re, h, k⟩
    refine ⟨G, ρ, _, s, re, h, fun b v H1 G1 p1 w1 r1 => ?_⟩
    obtain ⟨G2, w2, r2⟩ := r1.give w1
    obtain ⟨g, hs, cs, n, e, p1⟩ := objD_is p1
    rw [e] at r2
    obtain ⟨a, dx, y, z, rfl, h1, h2, h3⟩ := r2.obj_inv
    obtain ⟨v, l, rv⟩ := so X.K G2 g hs cs n y z h2 h3
    exact ⟨a, C, dx, _, v, rfl, w2.gh _ _ h1, cl, na, l, k _ _ H1 G2 p1 w2 rv⟩
structure MtD (P : Program) (w : World) (K : PySem.W.Frag) (mg : Str → Option Value) (base : Heap) (C : Addr) (m : Str) (k : Nat) (ps : List Str) (R : DR) : Prop where
  ex : ∃ f fd, FnOk P w K mg base CX0 k f fd ps (spD K R) ∧ Meth K C m f ∧ Binds K fd ps []
structure MtX (P : Program) (w : World) (K : PySem.W.Frag) (mg : Str → Option Value) (base : Heap) (C : Addr) (m : Str) (k : Nat) (ps : List Str) (R : DRX) : Prop where
  ex : ∃ f fd, FnOk P w K mg base (CXe P w) k f fd ps (spX K R) ∧ Meth K C m f ∧ Binds K fd ps []
def NoFld (m : Str) : Prop := ∀ g b c n, (flds g b c n).lookup m = none
theorem mt_mk {P : Program} {w : World} {K : PySem.W.Frag} {mg : Str → Option Value} {base : Heap} {f : Addr} {fd : FuncData} (ok : FnOk P w K mg base CX0 k f fd ps (spD K R)) (hm : Meth K C m f) (hb : Binds K fd ps []) : MtD P w K mg base C m k ps R := ⟨f, fd, ok, hm, hb⟩
theorem mtx_mk {P : Program} {w : World} {K : PySem.W.Frag} {mg : Str → Option Value} {base : Heap} {f : Addr} {fd : FuncData} {R : DRX} (ok : FnOk P w K mg base (CXe P w) k f fd ps (spX K R)) (hm : Meth K C m f) (hb : Binds K fd ps []) : MtX P w K mg base C m k ps R := ⟨f, fd, ok, hm, hb⟩
theorem MtX.drop {P : Program} {w : World} {K : PySem.W.Frag} {mg : Str → Option Value} {base : Heap} {R : DRX} (F : MtX P w K mg base C m k ps R) : MtD P w K mg base C m k ps (fun ds Q => R ds Q fun _ => False) := by
  obtain ⟨f, fd, G, h1, h2⟩ := F.ex
  exact ⟨f, fd, FnOk.drop (G.imp (sp' := spD K fun ds Q => R ds Q fun _ => False) (by rintro vs H Q E ⟨ds, g, P, a, b, c, d⟩;exact ⟨ds, g, P, _, a, b, c, d, fun _ _ z => z.elim⟩)) (fun vs H Q E z => z), h1, h2⟩
def dMth (C : Addr) (R : DR) (te : DT) (ta : DTA) : DT := fun ρ Q => te ρ fun b => objD C (fun g hs cs n => ta ρ fun ds => R (.ext (.obj C g hs cs n) :: ds) Q) b.val
theorem meth_go {K : PySem.W.Frag} {C : Addr} {m : Str} {sp : Sp} {E : XK} {te : DT} {ta : DTA} {len : Nat} {σ : St} {H G : Hp} {ρ : DEnv} {Q : VK} (nf : NoFld m) (s : Same G H) (re : RepE K G σ ρ) {W : Int → List (Int × Int × Int × Int) → List (Int × Int × Int × Int) → Int → List D → Prop}
    (h : te ρ fun b => objD C (fun g hs cs n => ta ρ (W g hs cs n)) b.val)
    (k : ∀ g hs cs n ds v vs H2 G2, W g hs cs n ds → Wd H G H2 G2 → Rep K G2 v (.ext (.obj C g hs cs n)) → Reps K G2 vs ds → sp (v :: vs) H2 Q E) : tMeth C m sp [] E (cE K te) (cA K len ta) σ H Q := by
  refine ⟨G, ρ, _, s, re, h, fun b v H1 G1 p1 w1 r1 => ?_⟩
  obtain ⟨G2, w2, r2⟩ := r1.give w1
  obtain ⟨g, hs, cs, n, e, p1⟩ := objD_is p1
  rw [e] at r2
  obtain ⟨a, dx, y, z, rfl, h1, h2, h3⟩ := id r2.obj_inv
  refine ⟨a, dx, _, rfl, w2.gh _ _ h1, nf g y z n, G2, ρ, _, w2.gh, re.mono w2.gg, p1, fun ds vs H3 G3 p3 l3 w3 r3 => ?_⟩
  show sp (V.ref a :: (vs ++ [])) H3 Q E
  rw [List.append_nil]
  exact k g hs cs n ds _ vs H3 G3 p3 (w2.trans w3) (r2.mono w3.gg) r3
theorem de_mth {pl : Sem Bool} (F : MtD X.prog X.w X.K X.mg X.base C m k ps R) (cl : Cls X.K C) (nf : NoFld m) (hr : Room k X.A) (ho : DE X o te) (ha : DA X (e :: es) ta)
    (hst : starEach (e :: es) X.env = (false, eval e X.env) :: starEach es X.env := by rfl) (hpl : (backTo pos (starEach es X.env)).any (·.1) = false := by rfl)
    (ht : eval (.Call (.Attribute o m apos) (e :: es) [] pos) X.env = (do
      let ov ← eval o X.env
      standAt apos.atName
      let (f, first) ← holding [ov] (getMethod ov m pl)
      callWith pos f first (backTo pos (starEach (e :: es) X.env)) (backToKw pos (keywordEach [] X.env))) := by rfl) : DE X (.Call (.Attribute o m apos) (e :: es) [] pos) (dMth C R te ta) := by
  obtain ⟨f, fd, F, hm, hb⟩ := F.ex
  exact DE.of (pe_meth (pl := pl) ho.pe cl hm F hr hb .nil pass0 ha.pa hst hpl ht) fun σ H Q ⟨G, ρ, P, s, re, h, k⟩ =>
    meth_go nf s re h fun g hs cs n ds v vs H2 G2 p2 w2 r2 rr => ⟨_, G2, P, w2.gh, .cons r2 rr, p2, go_on k w2⟩
end
section
variable {X : Cx} {H0 : Hp} {E : XK} {Z : Value → Prop} {o e : Expr} {es : List Expr} {te : DT} {pos apos epos : Pos} {m : Str} {k : Nat} {ps : List Str} {R : DRX} {tA : DTA} {C : Addr} {pl : Sem Bool}
variable (bd : Body X E) (hZ : ∀ cls H', Z cls → Same H0 H' → E cls none H') (F : MtX X.prog X.w X.K X.mg X.base C m k ps R) (cl : Cls X.K C) (nf : NoFld m) (hr : Room k X.A) (ho : DE X o te) (ha : DA X (e :: es) tA)
end
section
variable {X : Cx} {e : Expr} {te : DT} {pos p : Pos}
def hasK (kvs : List (Int × Int × Int × Int)) (n : Int) : Bool := decide (n ∈ kvs.map (·.1))
theorem valV_has {G : Hp} {es : List (Key × V)} {kvs : List (Int × Int × Int × Int)} (n : Int) (h : Paired (E3 G) es kvs) : (valV es (Sum.inl n)).isSome = hasK kvs n := by
  unfold hasK
  induction h with
  | nil => rfl
  | @cons a b l r f _ ih =>
    by_cases c : b.1 = n
    · rw [valV_pos (by rw [f.1, c]), decide_eq_true (by rw [List.map_cons, c]; exact List.mem_cons_self)]
      rfl
    · rw [valV_neg (by rw [f.1]; intro z; exact c (Sum.inl.inj z)), ih, decide_eq_decide, List.map_cons, List.mem_cons]
      exact ⟨.inr, fun z => z.resolve_left fun y => c y.symm⟩
def dInK : D2 := fun x y Q => match x, y with
  | .int n, .ext (.dki kvs) => Q (.p (.bl (hasK kvs n)))
  | _, _ => False
def dLenK : DR := fun ds Q => match ds with
  | [.ext (.dki kvs)] => Q (.p (.int kvs.length))
  | _ => False
theorem cd_lenK : CallD X (.builtin "len") dLenK := by
  refine ⟨_, call_lenD, fun H G vs ds P Q s r h k => ?_⟩
  unfold dLenK at h
  split at h
  · obtain ⟨v, rfl, rv⟩ := reps1 r
    obtain ⟨a, es, rfl, g, pr⟩ := rv.dki_inv
    refine ⟨a, es, rfl, s _ _ g, ?_⟩
    rw [Paired.length pr]
    exact k _ _ H G h (Wd.refl s) (.int _)
  · exact h.elim
end
end DL
set_option maxHeartbeats 4000000
namespace DL
open PySem L2
def tupW (b0 b1 b2 : B) (Q : B → Prop) : Prop := match b0.val, b1, b2 with
  | .int g, .o d1, .o d2 => Q (.n (.wk g) [d1, d2])
  | _, _, _ => False
def dTupW (t0 t1 t2 : DT) : DT := fun ρ Q => t0 ρ fun b0 => t1 ρ fun b1 => t2 ρ fun b2 => tupW b0 b1 b2 Q
section
variable {X : Cx} {e0 e1 e2 : Expr} {t0 t1 t2 : DT} {pos : Pos}
set_option tactic.hygienic true in
theorem de_tupW {kx} (h0 : DE X e0 t0) (h1 : DE X e1 t1) (h2 : DE X e2 t2) (hs0 : starEach (e0 :: [e1, e2]) X.env = (false, eval e0 X.env) :: starEach [e1, e2] X.env := by rfl) (hs1 : starEach (e1 :: [e2]) X.env = (false, eval e1 X.env) :: starEach [e2] X.env := by rfl) (hs2 : starEach (e2 :: []) X.env = (false, eval e2 X.env) :: starEach [] X.env := by rfl) : DE X (.Tuple [e0, e1, e2] kx pos) (dTupW t0 t1 t2) := by
  refine DE.of (pe_tup (pa_cons h0.pe (pa_cons h1.pe (pa_cons h2.pe pa_nil hs2) hs1) hs0)) ?_
  rintro σ H Q ⟨G, ρ, P, s, re, h, k⟩
  refine ⟨G, ρ, _, s, re, h, fun b0 v0 H1 G1 p1 w1 r1 => ?_⟩
  obtain ⟨G1', w1', r1'⟩ := r1.give w1
  refine ⟨G1', ρ, _, w1'.gh, re.mono w1'.gg, p1, fun b1 v1 H2 G2 p2 w2 r2 => ?_⟩
  refine ⟨G2, ρ, _, w2.gh, (re.mono w1'.gg).mono w2.gg, p2, fun b2 v2 H3 G3 p3 w3 r3 => ?_⟩
  unfold tupW at p3
  split at p3
  · rename_i g d1 d2 e
    rw [e] at r1'
    cases r1'
    obtain ⟨l1, rfl, n1, o1⟩ := r2
    obtain ⟨l2, rfl, n2, o2⟩ := r3
    have o1' : OwnAt X.K G3 H3 l1 d1 := o1.stay w3.gg (by rw [w3.old l1 o1.chg]; exact o1.1) fun o q => w3.hh _ _ q
    have l12 : l1 ≠ l2 := fun z => o1.there (z ▸ n2)
    have w := (w1'.trans w2).trans w3
    refine ⟨(show 3 ≤ sizeLine by decide), fun p hp => ?_⟩
    have st : ∀ (a : Addr) (d : D), OwnAt X.K G3 H3 a d → OwnAt X.K (upd G3 p (.tup [.int g, .ref l1, .ref l2])) (upd H3 p (.tup [.int g, .ref l1, .ref l2])) a d := fun a d o => by
      have ne : a ≠ p := fun z => o.there (z ▸ hp)
      exact o.stay ((Same.refl _).upd (w.gh.free hp)) (by rw [upd_ne ne]; exact o.1) fun ob q => by rw [upd_ne ne]; exact q
    refine k _ _ _ _ p3 (w.new hp) ⟨p, [l1, l2], rfl, by simp [l12], .cons ⟨w1'.hh.free n1, st _ _ o1'⟩ (.cons ⟨(w1'.trans w2).hh.free n2, st _ _ o2⟩ .nil), ?_⟩
    exact ⟨l1, l2, rfl, upd_same⟩
  · exact p3.elim
end
section
variable {X : Cx} {e : Expr} {te : DT} {i j : Nat} {x : Str} {px ipos xpos apos cpos spos : Pos} {n : Int} {jj : Nat}
end
end DL
set_option maxHeartbeats 4000000
namespace DL
open PySem L2
open Classical in
section
variable {K : PySem.W.Frag} {H H1 H' G G' : Hp} {y : Addr} {o : HO}
end
end DL
namespace L2
open PySem PySem.Spec PyProof.Rows PyProof
section
variable {X : Cx}
def rInsert : V → List V → Hp → VK → Prop := fun x vs H Q => ∃ l xs i y, x = .ref l ∧ vs = [.int i, y] ∧ H l = some (.lst xs) ∧ 0 ≤ i ∧ i < 2 ^ 63 ∧ xs.length < sizeLine ∧ Q .non (upd H l (.lst (xs.take i.toNat ++ y :: xs.drop i.toNat)))
theorem ins_arr (its : List Value) (u : Value) (k : Nat) : ((its.toArray.extract 0 (min k its.toArray.size)).push u ++ its.toArray.extract (min k its.toArray.size)) = (its.take k ++ u :: its.drop k).toArray := by
  apply Array.ext'
  by_cases h : k ≤ its.length
  · simp [Nat.min_eq_left h]
    exact List.take_of_length_le (by rw [List.length_drop]; exact Nat.le_refl _)
  · have h' : its.length ≤ k := by lia
    simp [Nat.min_eq_right h', List.take_of_length_le h', List.drop_eq_nil_of_le h']
theorem mt_insert : MtM X "list.insert" rInsert := by
  intro pins s σ H x vs v us Q I rx rv h
  obtain ⟨l, xs, i, y, rfl, rfl, hH, h0, h1, hz, q⟩ := h
  cases rx
  cases rv with
  | cons ri rv =>
  obtain ⟨t, rfl⟩ := ri
  obtain ⟨u, rfl, ru⟩ := vals1 rv
  obtain ⟨z, its, n, r, hl, e⟩ := I.lstM hH
  refine call_meets F.slot_list_insert ⟨_, e, rfl⟩ F.entry_list_insert (F.args_list_insert_3 _ _ _) (AutoSeq1.list_insert_list_int_val_1 l its.toArray n i t u (by rw [fitsIndex_both (by lia) h1]; decide) (by rw [List.size_toArray]; lia)) ⟨e, ?_⟩
  refine ⟨.non, _, I.lset (its' := its.take i.toNat ++ u :: its.drop i.toNat) hH e ?_ ((Vals.take _ r).append (.cons ru (Vals.drop _ r))) ?_, rfl, q⟩
  · dsimp only
    rw [if_neg (by lia)]
    exact ins_arr its u i.toNat
  · rw [List.length_append, List.length_cons, List.length_take, List.length_drop]
    lia
end
end L2
set_option maxHeartbeats 4000000
namespace L2
open PySem PySem.Spec PyProof.Rows PySem.SeqAt PySem.MeetsSeq
open AutoSeq1 (wpAny_loadPart')
theorem remove_loopAt (l : Addr) (items : Array Value) (n : Nat) (x : Value) (e : Nat → Bool) (j : Nat) (hj : j < items.size) (hit : e j = true) (k : Nat) (hs1 : items.size ≤ sizeLine) :
    ∀ i : Nat, j - i = k → i ≤ j → (∀ m, i ≤ m → m < j → e m = false) → Meets (Builtin.«list.remove.loop» ⟨[.ref l, x, rawInt i], []⟩)
      (fun A R s => s.heap.get? l = some { cls := .type "list", dict := none, data := .seq items n, slots := #[] } ∧ (∀ m (hm : m < items.size), EqAt A.in1 s items[m] x (e m)) ∧ R (.ok (.ret .none)) { s with heap := s.heap.update l (Obj.mapSeq fun xs => xs.eraseIdxIfInBounds j) }) := by
  induction k with
  | zero =>
    intro i hk hij hno prog w A R s h
    obtain ⟨hp, g, d, tk, os⟩ := s; obtain ⟨hl, he, h⟩ := h
    have hij' : i = j := by lia
    subst hij'
    wp_walk using wpAny_loadPart' hl
    have hi : items[((i : Nat) : Int).toNat]? = some items[i] := by simp [hj]
    rw [hi]
    refine wpAny_bind (he i hj prog w _ _ ?_)
    rw [hit]
    have hz' : (items.eraseIdxIfInBounds i).size ≤ sizeLine + 1 := Nat.le_trans (size_erased items _) (Nat.le_succ_of_le hs1)
    wp_walk using (wpAny_updateSeq hl rfl (hz := hs1) (_hz' := hz')), wpAny_loadPart' hl
    simpa using h
  | succ k ih =>
    intro i hk hij hno prog w A R s h
    obtain ⟨hp, g, d, tk, os⟩ := s; obtain ⟨hl, he, h⟩ := h
    have hlt : i < items.size := by lia
    wp_walk using wpAny_loadPart' hl
    have hi : items[((i : Nat) : Int).toNat]? = some items[i] := by simp [hlt]
    have hc : ((i : Int) + 1) = ((i + 1 : Nat) : Int) := by push_cast; rfl
    rw [hi]
    refine wpAny_bind (he i hlt prog w _ _ ?_)
    rw [hno i (Nat.le_refl _) (by lia)]
    wp_walk
    rw [hc]
    exact ⟨plainId_quiet plain_remove_loop _, codeAny_builtin entry_remove_loop (by
      rw [Around.under_plainId plain_remove_loop _]
      exact ih (i + 1) (by lia) (by lia) (fun m h1 h2 => hno m (by lia) h2) prog w A R _ ⟨hl, he, h⟩)⟩
theorem list_removeAt (l : Addr) (items : Array Value) (n : Nat) (x : Value) (e : Nat → Bool) (j : Nat) (hj : j < items.size) (hit : e j = true) (hno : ∀ m, m < j → e m = false) (hs1 : items.size ≤ sizeLine) :
    Meets (Builtin.«list.remove» ⟨[.ref l, x], []⟩)
      (fun A R s => s.heap.get? l = some { cls := .type "list", dict := none, data := .seq items n, slots := #[] } ∧ (∀ m (hm : m < items.size), EqAt A.in1 s items[m] x (e m)) ∧ R (.ok (.ret .none)) { s with heap := s.heap.update l (Obj.mapSeq fun xs => xs.eraseIdxIfInBounds j) }) := by
  intro prog w A R s h
  obtain ⟨hp, g, d, tk, os⟩ := s; obtain ⟨hl, he, h⟩ := h
  wp_walk using wpAny_loadPart' hl
  exact ⟨plainId_quiet plain_remove_loop _, codeAny_builtin entry_remove_loop (by
    rw [Around.under_plainId plain_remove_loop _]
    exact remove_loopAt l items n x e j hj hit _ hs1 0 rfl (Nat.zero_le _) (fun m _ h2 => hno m h2) prog w A R _ ⟨hl, he, h⟩)⟩
theorem Vals.erase : ∀ {xs : List V} {us : List Value} (j : Nat), Vals xs us → Vals (xs.eraseIdx j) (us.eraseIdx j)
  | _, _, _, .nil => by simp only [List.eraseIdx_nil]; exact .nil
  | _, _, 0, .cons _ t => t
  | _, _, j + 1, .cons r t => .cons r (Vals.erase j t)
end L2
namespace DL
open PySem L2 PySem.SeqAt
inductive RemP (K : PySem.W.Frag) (u : Nat) : V → List V → Hp → VK → Prop
  | mk {H : Hp} {Q : VK} (l : Addr) (xs : List V) (y : V) (j : Nat) (G : Hp) (ds : List D) (d : D) (hH : H l = some (.lst xs)) (sG : Same G H) (rr : Reps K G xs ds) (rd : Rep K G y d) (hn : ∀ z ∈ ds, Alk z d ∧ dep z ≤ 60) (hu : u + 62 < cLine) (hj : j < ds.length) (hit : ∀ z, ds[j]? = some z → peq z d = true) (hno : ∀ m z, m < j → ds[m]? = some z → peq z d = false) (q : Q .non (upd H l (.lst (xs.eraseIdx j)))) : RemP K u (.ref l) [y] H Q
def rRemove (K : PySem.W.Frag) (u : Nat) : V → List V → Hp → VK → Prop := RemP K u
theorem mt_remove {X : Cx} : MtM X "list.remove" (rRemove X.K X.A.units) := by
  intro pins s σ H x vs v us Q I rx rv h
  cases (show RemP X.K X.A.units x vs H Q from h) with | mk l xs y j G ds d hH sG rr rd hn hu hj hit hno q =>
  cases rx
  obtain ⟨u, rfl, ru⟩ := rv.one
  obtain ⟨z, its, n, r, hl, e⟩ := I.lstM hH
  have len := Paired.length rr
  have szj : j < its.toArray.size := by rw [List.size_toArray]; lia
  refine call_meets F.slot_list_remove ⟨_, e, rfl⟩ F.entry_list_remove (F.args_list_remove_2 _ _) (list_removeAt l its.toArray n u (fun m => match ds[m]? with | some z => peq z d | none => false) j szj ?_ ?_ (by rw [List.size_toArray]; lia)) ⟨e, fun m hm => ?_, ?_⟩
  · rw [List.getElem?_eq_getElem hj]
    exact hit _ (List.getElem?_eq_getElem hj)
  · intro m hm
    rw [List.getElem?_eq_getElem (by lia)]
    exact hno m _ hm (List.getElem?_eq_getElem (by lia))
  · have hm1 : m < ds.length := by rw [List.size_toArray] at hm; lia
    have hm2 : m < xs.length := by lia
    show EqAt _ _ _ _ (match ds[m]? with | some z => peq z d | none => false)
    rw [List.getElem?_eq_getElem hm1]
    have rep := paired_at rr m _ _ (List.getElem?_eq_getElem hm2) (List.getElem?_eq_getElem hm1)
    obtain ⟨w, ew, rw'⟩ := r.get (List.getElem?_eq_getElem hm2)
    have ew' : its.toArray[m] = w := by
      have : its[m]? = some its.toArray[m] := by simp
      rw [ew] at this
      exact (Option.some.inj this).symm
    rw [ew']
    obtain ⟨k1, k2⟩ := hn _ (List.getElem_mem hm1)
    exact (cmp_D I sG k1 rep rd rw' ru (by show X.A.units + 1 + _ < cLine; lia)).i
  · refine ⟨.non, _, I.lset (its' := its.eraseIdx j) hH e ?_ (r.erase j) ?_, rfl, q⟩
    · simp
    · exact Nat.le_trans (by rw [List.length_eraseIdx]; split <;> lia) z
end DL
set_option maxHeartbeats 4000000
namespace DL
open PySem L2
section
variable {X : Cx} {i : Nat} {x : Str} {px pos : Pos} {te : DT}
variable {tg iter elt : Expr} {ifs : List Expr} {scope : Scope} {spos : Pos} {ti : DTA} {g : Tg} {tc : DTT}
theorem pv_setLC (hNd : X.N.Nodup) (hy : X.N[i]? = some x) (hly : Loc X.env.scope x) (N' : List Str) (fr : List (Option Nat)) (hc : X.calm = true) (hi : DI X tg iter ti)
    (hg : ∀ cl fp C s H, PG (blk X scope N' cl fp C s H) tg (g.v X.K)) (ht : ∀ cl fp C s H, DIfs (blk X scope N' cl fp C s H) ifs tc) (he : ∀ cl fp C s H, DE (blk X scope N' cl fp C s H) elt te)
    {sc0 : Scope} {N0 : List Str} (htg : tgOk fr g = true := by decide) (hsw : swapsWith (.ListComp elt [⟨tg, iter, ifs, 0⟩] scope pos) (some (.Name x px)) spos.line X.env = pure true := by rfl)
    (hsc : X.env.scope = sc0 := by rfl) (hN : X.N = N0 := by rfl) (hok : compScB sc0 N0 scope N' fr = true := by decide +kernel) (hs : ∀ x, foldedSetIterable iter X.env x = pure x := by intro _; rfl)
    (hf : X.fn x = true ∨ X.env.scope.names.lookup x = some .local := by first | exact .inl rfl | exact .inr rfl) :
    PS X (.Assign [.Name x px] (.ListComp elt [⟨tg, iter, ifs, 0⟩] scope pos) spos) (tSetLC i (cE X.K (dLC ti fr g tc te))) :=
  PS.imp (ps_setLC (tc := cT X.K tc) (te := cE X.K te) hNd hy hly N' fr hc hi.pi hg (fun cl fp C s H => (ht cl fp C s H).pf) (fun cl fp C s H => (he cl fp C s H).pe) hsw hsc hN hok hs hf) fun Dn σ H h => lc_core htg σ H _ h
end
theorem cE_any {K : PySem.W.Frag} {t : DT} {σ : St} {H : Hp} {Q : VK} (ρ : DEnv) (P : B → Prop) (re : RepE K H σ ρ) (h : t ρ P) (k : ∀ b v H', P b → Same H H' → Rep K H' v b.val → Q v H') : cE K t σ H Q :=
  ⟨H, ρ, P, Same.refl _, re, h, fun b v H' G' p w r => by
    obtain ⟨G2, w2, r2⟩ := r.give w
    exact k b v H' p w.hh (r2.mono w2.gh)⟩
theorem cE_lst {K : PySem.W.Frag} {t : DT} {σ : St} {H : Hp} {Q : VK} (ρ : DEnv) (ds : List D) (re : RepE K H σ ρ) (h : t ρ fun b => b = .o (.lst ds)) (k : ∀ a vs H', Same H H' → H a = none → H' a = some (.lst vs) → Reps K H' vs ds → Q (.ref a) H') : cE K t σ H Q :=
  ⟨H, ρ, _, Same.refl _, re, h, fun b v H' G' e w r => by
    subst e
    obtain ⟨a, rfl, n, g, vs, e1, e2⟩ := r
    exact k a vs H' w.hh n e1 (Reps.mono w.gh e2)⟩
theorem for_itd {K : PySem.W.Frag} {Gs : Hp} {J : It} {xs : List D} {g : TG} {tb : TS} {En : Ends} {σ : St} {H : Hp} (it : ItD K Gs J xs) (Pv : Nat → St → Hp → Prop) (h0 : Pv 0 σ H) (hg : ∀ i σ H, Pv i σ H → Same Gs H)
    (hs : ∀ i d x σ H H', xs[i]? = some d → Pv i σ H → Same H H' → Rep K H' x d → g x σ H' fun σ2 H2 => tb { En with nx := Pv (i + 1), ct := Pv (i + 1), bk := En.nx } σ2 H2) (hd : ∀ σ H, Pv xs.length σ H → En.nx σ H) :
    ∃ W : Nat → Nat → St → Hp → Prop, (∃ m, W 0 m σ H) ∧ ∀ i m σ H, W i m σ H →
      (J.stop i H ∧ En.nx σ H) ∨ (J.go i H ∧ ∃ N : St → Hp → Prop, (∀ σ' H', N σ' H' → ∃ m', m' < m ∧ W (i + 1) m' σ' H') ∧ ∀ x H', J.yld i H x H' → g x σ H' fun σ2 H2 => tb { En with nx := N, ct := N, bk := En.nx } σ2 H2) := by
  refine ⟨fun i m σ H => m = xs.length - i ∧ i ≤ xs.length ∧ Pv i σ H, ⟨xs.length, by simp, Nat.zero_le _, h0⟩, ?_⟩
  rintro i m σ H ⟨rfl, hi, p⟩
  have sg := hg i σ H p
  by_cases hlt : i < xs.length
  · have hx := List.getElem?_eq_getElem hlt
    refine .inr ⟨it.go i _ H Gs hx (Same.refl _) sg, Pv (i + 1), fun σ' H' n => ⟨xs.length - (i + 1), by lia, rfl, hlt, n⟩, fun x H' y => ?_⟩
    obtain ⟨G2, w2, r2⟩ := it.yld i _ H Gs x H' hx (Same.refl _) sg y
    exact hs i _ x σ H H' hx p w2.hh (r2.mono w2.gh)
  · have e : i = xs.length := by lia
    subst e
    exact .inl ⟨it.stop _ H Gs rfl (Same.refl _) sg, hd σ H p⟩
end DL
namespace L2
open PySem PySem.Spec PyProof.Rows
section
variable {X : Cx} {st : Stmt} {rest : List Stmt} {t : TS} {D : Ends} {σ : St} {H : Hp}
def tAny (X : Cx) (rest : List Stmt) : TS := fun D σ H => ∃ v, PSs X rest v ∧ v D σ H
theorem pss_any : PSs X rest (tAny X rest) := fun pins s σ H D I ⟨_, hv, h⟩ => hv pins s σ H D I h
theorem any_cons (hs : PS X st t) (h : t { D with nx := tAny X rest D } σ H) : tAny X (st :: rest) D σ H := ⟨tSeq t (tAny X rest), pss_cons hs pss_any, h⟩
theorem any_one (hs : PS X st t) (h : t D σ H) : tAny X [st] D σ H := ⟨t, pss_one hs, h⟩
theorem any_nil (h : D.nx σ H) : tAny X [] D σ H := ⟨_, pss_nil, h⟩
theorem any_cut (C : St → Hp → Prop) (hs : PS X st t) (head : ∀ D' : Ends, D'.rt = D.rt → (∀ σ H, C σ H → D'.nx σ H) → t D' σ H) (tail : ∀ σ H, C σ H → tAny X rest D σ H) : tAny X (st :: rest) D σ H :=
  any_cons hs (head _ rfl tail)
theorem any_go (h : tAny X rest D σ H) : ∃ u, PSs X rest u ∧ u D σ H := h
theorem any_fun {Q : VK} {nx : St → Hp → Prop} (h : ∀ D : Ends, D.rt = Q → tAny X rest D σ H) : ∃ u, PSs X rest u ∧ u { nx := nx, rt := Q } σ H := h _ rfl
end
section
variable {K : PySem.W.Frag} {σ : St} {H : Hp} {Q : VK} {i j : Nat} {p : Addr} {xs : List V} {k : Int} {v y : V}
theorem varQ (h : σ[i]? = some (some v)) (q : Q v H) : tVar i σ H Q := ⟨v, h, q⟩
theorem ixL (hp : SqL K H p xs) (e : atI xs k = some v) (q : Q v H) : rIx K (.ref p) (.int k) H Q := .inl ⟨p, xs, k, v, rfl, rfl, hp, e, q⟩
theorem ixVL {tj : TE} (h : σ[i]? = some (some (.ref p))) (hj : ∀ Q' : VK, Q' (.int k) H → tj σ H Q') (hp : SqL K H p xs) (e : atI xs k = some v) (q : Q v H) : tOp (rIx K) (tVar i) tj σ H Q := varQ h (hj _ (ixL hp e q))
theorem ixCL (h : σ[i]? = some (some (.ref p))) (hp : SqL K H p xs) (e : atI xs k = some v) (q : Q v H) : tOp (rIx K) (tVar i) (tC (.int k)) σ H Q := varQ h (ixL hp e q)
theorem vars5 {i1 i2 i3 i4 i5 : Nat} {v1 v2 v3 v4 v5 : V} {Q : List V → Hp → Prop} (h1 : σ[i1]? = some (some v1)) (h2 : σ[i2]? = some (some v2)) (h3 : σ[i3]? = some (some v3)) (h4 : σ[i4]? = some (some v4)) (h5 : σ[i5]? = some (some v5)) (q : Q [v1, v2, v3, v4, v5] H) : tCons (tVar i1) (tCons (tVar i2) (tCons (tVar i3) (tCons (tVar i4) (tCons (tVar i5) tNil)))) σ H Q :=
  varQ h1 (varQ h2 (varQ h3 (varQ h4 (varQ h5 q))))
theorem vars3 {i1 i2 i3 : Nat} {v1 v2 v3 : V} {Q : List V → Hp → Prop} (h1 : σ[i1]? = some (some v1)) (h2 : σ[i2]? = some (some v2)) (h3 : σ[i3]? = some (some v3)) (q : Q [v1, v2, v3] H) : tCons (tVar i1) (tCons (tVar i2) (tCons (tVar i3) tNil)) σ H Q :=
  varQ h1 (varQ h2 (varQ h3 q))
theorem lst3 {i1 i2 i3 : Nat} {v1 v2 v3 : V} (h1 : σ[i1]? = some (some v1)) (h2 : σ[i2]? = some (some v2)) (h3 : σ[i3]? = some (some v3)) (q : ∀ p, H p = none → Q (.ref p) (upd H p (.lst [v1, v2, v3]))) : tLst (tCons (tVar i1) (tCons (tVar i2) (tCons (tVar i3) tNil))) σ H Q :=
  vars3 h1 h2 h3 ⟨small_len (Nat.le_of_ble_eq_true rfl), q⟩
theorem asgQ {te : TE} {g : TG} {D : Ends} (h : te σ H fun x H1 => g x σ H1 D.nx) : tAsg te g D σ H := h
theorem callQ {sp : Sp} {dvs : List V} {E : XK} {t : TA} (h : t σ H fun vs H1 => sp (vs ++ dvs) H1 Q E) : tCall sp dvs E t σ H Q := h
theorem retQ {te : TE} {D : Ends} (h : te σ H D.rt) : tRet te D σ H := h
theorem argQ {te : TE} {ta : TA} {Q : List V → Hp → Prop} (h : te σ H fun x H1 => ta σ H1 fun xs H2 => Q (x :: xs) H2) : tCons te ta σ H Q := h
theorem dgetC (h : σ[i]? = some (some (.ref p))) (g : DGet H p y (some v)) (q : Q v H) : tDGet (tVar i) (tC y) σ H Q := varQ h ⟨p, v, rfl, g, q⟩
end
theorem for_rng {n : Nat} {g : TG} {tb : TS} {En : Ends} {σ : St} {H : Hp} (Pv : Nat → St → Hp → Prop) (h0 : Pv 0 σ H) (hs : ∀ i σ H (D : Ends), D.rt = En.rt → (∀ σ H, Pv (i + 1) σ H → D.nx σ H) → i < n → Pv i σ H → g (.int i) σ H fun σ2 H2 => tb D σ2 H2) (hd : ∀ σ H, Pv n σ H → En.nx σ H) :
    ∃ W : Nat → Nat → St → Hp → Prop, (∃ m, W 0 m σ H) ∧ ∀ i m σ H, W i m σ H →
      ((Itr 0 n).stop i H ∧ En.nx σ H) ∨ ((Itr 0 n).go i H ∧ ∃ N : St → Hp → Prop, (∀ σ' H', N σ' H' → ∃ m', m' < m ∧ W (i + 1) m' σ' H') ∧ ∀ x H', (Itr 0 n).yld i H x H' → g x σ H' fun σ2 H2 => tb { En with nx := N, ct := N, bk := En.nx } σ2 H2) := by
  refine ⟨fun i m σ H => m = n - i ∧ i ≤ n ∧ Pv i σ H, ⟨n, by simp, Nat.zero_le _, h0⟩, ?_⟩
  rintro i m σ H ⟨rfl, hi, p⟩
  by_cases hlt : i < n
  · refine .inr ⟨hlt, Pv (i + 1), fun σ' H' q => ⟨n - (i + 1), by lia, rfl, hlt, q⟩, ?_⟩
    rintro x H' ⟨rfl, rfl⟩
    rw [Int.zero_add]
    exact hs i σ H' _ rfl (fun _ _ h => h) hlt p
  · have e : i = n := by lia
    subst e
    exact .inl ⟨Nat.le_refl _, hd _ _ p⟩
end L2
namespace DL
open PySem L2
theorem for_itdD {K : PySem.W.Frag} {Gs : Hp} {J : It} {xs : List D} {g : TG} {tb : TS} {En : Ends} {σ : St} {H : Hp} (it : ItD K Gs J xs) (Pv : Nat → St → Hp → Prop) (h0 : Pv 0 σ H) (hg : ∀ i σ H, Pv i σ H → Same Gs H)
    (hs : ∀ i d x σ H H' (D : Ends), D.rt = En.rt → (∀ σ H, Pv (i + 1) σ H → D.nx σ H) → xs[i]? = some d → Pv i σ H → Same H H' → Rep K H' x d → g x σ H' fun σ2 H2 => tb D σ2 H2) (hd : ∀ σ H, Pv xs.length σ H → En.nx σ H) :
    ∃ W : Nat → Nat → St → Hp → Prop, (∃ m, W 0 m σ H) ∧ ∀ i m σ H, W i m σ H →
      (J.stop i H ∧ En.nx σ H) ∨ (J.go i H ∧ ∃ N : St → Hp → Prop, (∀ σ' H', N σ' H' → ∃ m', m' < m ∧ W (i + 1) m' σ' H') ∧ ∀ x H', J.yld i H x H' → g x σ H' fun σ2 H2 => tb { En with nx := N, ct := N, bk := En.nx } σ2 H2) :=
  for_itd it Pv h0 hg (fun i d x σ H H' a b c e => hs i d x σ H H' _ rfl (fun _ _ h => h) a b c e) hd
section
variable {K : PySem.W.Frag} {t : DT} {σ : St} {H : Hp} {Q : VK}
theorem rep_i {G : Hp} {v : V} {n : Int} (r : Rep K G v (.int n)) : v = .int n := by cases r; rfl
theorem rep_b {G : Hp} {v : V} {c : Bool} (r : Rep K G v (.bl c)) : v = .bl c := by cases r; rfl
theorem rep_s {G : Hp} {v : V} {c : Str} (r : Rep K G v (.str c)) : v = .str c := by cases r; rfl
theorem reps_i : ∀ {vs : List V} {ns : List Int}, Reps K H vs (ns.map D.int) → vs = ns.map V.int
  | _, [], r => by cases r; rfl
  | _, _ :: _, r => by cases r with | cons a t => rw [rep_i a, reps_i t]; rfl
theorem cE_intE (ρ : DEnv) (P : Int → Prop) (re : RepE K H σ ρ) (h : t ρ fun b => ∃ n, P n ∧ b = .p (.int n)) (k : ∀ n H', P n → Same H H' → Q (.int n) H') : cE K t σ H Q :=
  cE_any ρ _ re h<|by
    rintro b v H' ⟨n, p, e⟩ s r
    subst e
    rw [rep_i r]
    exact k n H' p s
theorem cE_strE (ρ : DEnv) (P : Str → Prop) (re : RepE K H σ ρ) (h : t ρ fun b => ∃ n, P n ∧ b = .p (.str n)) (k : ∀ n H', P n → Same H H' → Q (.str n) H') : cE K t σ H Q :=
  cE_any ρ _ re h<|by
    rintro b v H' ⟨n, p, e⟩ s r
    subst e
    rw [rep_s r]
    exact k n H' p s
theorem cE_bl (ρ : DEnv) (c : Bool) (re : RepE K H σ ρ) (h : t ρ fun b => b = .p (.bl c)) (k : ∀ H', Same H H' → Q (.bl c) H') : cE K t σ H Q :=
  cE_any ρ _ re h fun b v H' e s r => by
    subst e
    rw [rep_b r]
    exact k H' s
theorem cE_is (ρ : DEnv) (ns : List Int) (re : RepE K H σ ρ) (h : t ρ fun b => b = .o (.lst (ns.map D.int))) (k : ∀ a H', Same H H' → H' a = some (.lst (ns.map V.int)) → Q (.ref a) H') : cE K t σ H Q :=
  cE_lst ρ _ re h fun a vs H' s _ e r => k a H' s (by rw [← reps_i r]; exact e)
theorem spD_bl {R : DR} {vs : List V} {ds : List D} {E : XK} (c : Bool) (r : Reps K H vs ds) (h : R ds fun b => b = .p (.bl c)) (k : ∀ H', Same H H' → Q (.bl c) H') : spD K R vs H Q E :=
  ⟨ds, H, _, Same.refl _, r, h, fun b v H' G' e w r => by
    subst e
    rw [rep_b (show Rep K G' v (.bl c) from r)]
    exact k H' w.hh⟩
end
end DL
namespace L2
open PySem PySem.Spec PyProof.Rows
theorem walk_X {q : Program} {loose : List Str} {XP : (Str → Option Value) → Heap → Prop} {α : Type} {Yf : Shared → α} {Ya : World → α} {r : PySem.W.RowW} {d : DefRec} {kwd : List (Str × Expr)} {run : Value → List Value → Sem Value} {YP : World → Heap → Prop}
    (W : PySem.W.WalkO q loose XP YP r d kwd run) (hY : ∀ w s, Yf s = Ya w → YP w s.heap) (hYk : ∀ w h h', YP w h → (∀ b o, h.get? b = some o → h'.get? b = some o) → YP w h') : PySem.W.WalkX q loose XP Yf Ya r d kwd run :=
  fun w s₀ s₁ mg mb G y a o pm cd doc dV kV h1 h2 h3 h4 h5 h6 args vals as L p1 p2 p3 p4 p5 => W w s₀ s₁ mg mb G (hYk _ _ _ (hY w s₀ y) L.keeps) a o pm cd doc dV kV h1 h2 h3 h4 h5 h6 args vals as p1 p2 p3 p4 p5
end L2
set_option maxHeartbeats 4000000
namespace DL
open PySem L2
def dPr (p : Int × Int × Int × Int) : D := .tup [.int p.1, d3 p.2]
section
variable {K : PySem.W.Frag} {G : Hp}
theorem PrAt.rep {v : V} {p : Int × Int × Int × Int} (h : PrAt G v p) : Rep K G v (dPr p) := by
  obtain ⟨q, t, rfl, h1, h2⟩ := h
  exact Rep.tup' h1 (.cons (.int _) (.cons (Rep.tup' h2 (.cons (.int _) (.cons (.int _) (.cons (.int _) .nil)))) .nil))
theorem PrsAt.reps {vs : List V} {l : List (Int × Int × Int × Int)} (h : PrsAt G vs l) : Reps K G vs (l.map dPr) := by
  induction h with
  | nil => exact .nil
  | cons f _ ih => exact .cons f.rep ih
theorem LsAt.rep {y : Addr} {l : List (Int × Int × Int × Int)} (h : LsAt G y l) : Rep K G (.ref y) (.lst (l.map dPr)) := by
  obtain ⟨vs, e, p⟩ := h
  exact Rep.lst' e p.reps
theorem rep_pr {v : V} {p : Int × Int × Int × Int} (h : Rep K G v (dPr p)) : PrAt G v p := by
  obtain ⟨q, vs, rfl, e, rr⟩ := Rep.tup_st h
  obtain ⟨x, y, rfl, a, b⟩ := reps2 rr
  obtain rfl := a.int_inv
  obtain ⟨t, us, rfl, e2, r3⟩ := Rep.tup_st b
  obtain rfl := reps_ints (ns := [p.2.1, p.2.2.1, p.2.2.2]) r3
  exact ⟨q, t, rfl, e, e2⟩
end
def dGetR : D2 := fun x y Q => match x, y with
  | .ext (.rws n hs cs), .str k => if k = "hot" then Q (.p (.lst (hs.map dPr))) else if k = "cold" then Q (.p (.lst (cs.map dPr))) else if k = "last" then Q (.p (.int n)) else False
  | _, _ => False
set_option tactic.hygienic true in
inductive RwsC : D → D → (B → Prop) → Prop
  | hot {n : Int} {hs cs : List (Int × Int × Int × Int)} {Q : B → Prop} (h : Q (.p (.lst (hs.map dPr)))) : RwsC (.ext (.rws n hs cs)) (.str "hot") Q
  | cold {n : Int} {hs cs : List (Int × Int × Int × Int)} {Q : B → Prop} (h : Q (.p (.lst (cs.map dPr)))) : RwsC (.ext (.rws n hs cs)) (.str "cold") Q
  | last {n : Int} {hs cs : List (Int × Int × Int × Int)} {Q : B → Prop} (h : Q (.p (.int n))) : RwsC (.ext (.rws n hs cs)) (.str "last") Q
theorem rws_c {x y : D} {Q : B → Prop} (h : dGetR x y Q) : RwsC x y Q := by
  cases x with
  | ext e => cases e with
    | rws n hs cs => cases y with
      | str ky =>
        replace h : if ky = "hot" then Q (.p (.lst (hs.map dPr))) else if ky = "cold" then Q (.p (.lst (cs.map dPr))) else if ky = "last" then Q (.p (.int n)) else False := h
        by_cases z : ky = "hot"
        · rw [if_pos z] at h; subst z; exact .hot h
        rw [if_neg z] at h
        by_cases z2 : ky = "cold"
        · rw [if_pos z2] at h; subst z2; exact .cold h
        rw [if_neg z2] at h
        by_cases z3 : ky = "last"
        · rw [if_pos z3] at h; subst z3; exact .last h
        rw [if_neg z3] at h
        exact h.elim
      | _ => exact (show False from h).elim
    | _ => exact (show False from h).elim
  | _ => exact (show False from h).elim
theorem rws_inv {K : PySem.W.Frag} {G : Hp} {v : V} {n : Int} {hs cs : List (Int × Int × Int × Int)} (r : Rep K G v (.ext (.rws n hs cs))) : ∃ a lh lk, v = .ref a ∧ G a = some (rowsO lh lk n) ∧ LsAt G lh hs ∧ LsAt G lk cs := by
  cases r with
  | ext e0 =>
    obtain ⟨lh, lk, e1, l1, l2⟩ := e0
    exact ⟨_, lh, lk, rfl, e1, l1, l2⟩
theorem de_rws {X : Cx} {a b : Expr} {ta tb : DT} {pos : Pos} {n : Nat} (hr : Room n X.A) (ha : DE X a ta) (hb : DE X b tb) (hs : NoSl b := by exact fun _ _ => rfl) : DE X (.Subscript a b pos) (dOp dGetR ta tb) :=
  DE.of (pe_dget (hu_of hr) ha.pe hb.pe hs) fun σ H Q ⟨G, ρ, P, s, re, h, k⟩ => by
    refine ⟨G, ρ, _, s, re, h, fun b1 v1 H1 G1 p1 w1 r1 => ?_⟩
    obtain ⟨G1', w1', r1'⟩ := r1.give w1
    refine ⟨G1', ρ, _, w1'.gh, re.mono w1'.gg, p1, fun b2 v2 H2 G2 p2 w2 r2 => ?_⟩
    obtain ⟨G2', w2', r2'⟩ := r2.give w2
    have w12 := w1'.trans w2'
    have r1'' := r1'.mono w2'.gg
    clear r1' r1 r2 w1' w1 w2
    generalize b1.val = d1 at p2 r1''
    generalize b2.val = d2 at p2 r2'
    cases rws_c p2 with
    | hot h =>
      obtain ⟨a, lh, lk, rfl, e1, l1, l2⟩ := rws_inv r1''
      rw [r2'.str_inv]
      exact ⟨_, _, rfl, DGet.k (k := Sum.inr "hot") (w2'.gh _ _ e1), k _ _ H2 G2' h w12 l1.rep⟩
    | cold h =>
      obtain ⟨a, lh, lk, rfl, e1, l1, l2⟩ := rws_inv r1''
      rw [r2'.str_inv]
      exact ⟨_, _, rfl, DGet.k (k := Sum.inr "cold") (w2'.gh _ _ e1), k _ _ H2 G2' h w12 l2.rep⟩
    | last h =>
      obtain ⟨a, lh, lk, rfl, e1, l1, l2⟩ := rws_inv r1''
      rw [r2'.str_inv]
      exact ⟨_, _, rfl, DGet.k (k := Sum.inr "last") (w2'.gh _ _ e1), k _ _ H2 G2' h w12 (.int _)⟩
theorem getR_hot (n : Int) (hs cs : List (Int × Int × Int × Int)) (Q : B → Prop) : dGetR (.ext (.rws n hs cs)) (.str "hot") Q = Q (.p (.lst (hs.map dPr))) := rfl
theorem getR_cold (n : Int) (hs cs : List (Int × Int × Int × Int)) (Q : B → Prop) : dGetR (.ext (.rws n hs cs)) (.str "cold") Q = Q (.p (.lst (cs.map dPr))) := rfl
theorem getR_last (n : Int) (hs cs : List (Int × Int × Int × Int)) (Q : B → Prop) : dGetR (.ext (.rws n hs cs)) (.str "last") Q = Q (.p (.int n)) := rfl
end DL
set_option maxHeartbeats 4000000
namespace WS
open PySem L2 DL
local macro_rules | `(tactic| walk_at "rs1") => do let ns := ("dSeq dNext dRet dIfS dSetP dVar dC dOp dI dIC dUn dNeg dNotV dAndV dTst dNot dAnd dOr dChain dNil dCons dTup dLst dCall dCB dII dInt dPart dIsi dTrue dget dput frz frz1 startD Tg.d putN di_enumerateT di_zipT di_reversedT onlyP frD dLC List.map List.length dIx_lst dIx_tup dIx_scr dAdd_int dAdd_lst dAdd_str dAdd_tup dMul_int dEqS_int dEqS_str dEqS_bl dNeS_int dNeS_str dNeS_bl dLen_lst dLen_tup dLen_scr diList_is itL_lst itL_scr dSl_is slD_lst slD_scr slD_tup dSlS_is slSD_lst slSD_scr dCopy_lst dCopy_tup dCopy_scr dSplit_is dJoinM_is dIntT_is djNil djStr djVal dFmt dLen_str dRaise dFld objD sGap sHots sColds dMth dInK dLenK isiD bv_p bv_o bv_tup bv_lst bv_wk bv_obj dListV listV dTupW tupW".splitOn " ").toArray.map fun s => Lean.mkIdent s.toName; `(tactic| dsimp only [$[$ns:ident],*])
local macro_rules | `(tactic| walk_at "rsx") => `(tactic| set_option simprocs false in simp only [ixk0, ixk1, ixk2, ixk3, ixk4, ex_at, rf_and, true_and])
local macro_rules | `(tactic| walk_at "rs") => `(tactic| repeat (first | walk_at "rs1" | walk_at "rsx"))
local macro_rules | `(tactic| walk_at "rs2") => do let ns := ("dNext dRet dIfS dSetP dVar dC dOp dI dIC dUn dNeg dNotV dAndV dTst dNot dAnd dOr dChain dNil dCons dTup dLst dCall dCB dII dInt dPart dIsi dTrue dget dput frz frz1 startD Tg.d putN di_enumerateT di_zipT di_reversedT onlyP frD dLC List.map List.length dIx_lst dIx_tup dIx_scr dAdd_int dAdd_lst dAdd_str dAdd_tup dMul_int dEqS_int dEqS_str dEqS_bl dNeS_int dNeS_str dNeS_bl dLen_lst dLen_tup dLen_scr diList_is itL_lst itL_scr dSl_is slD_lst slD_scr slD_tup dSlS_is slSD_lst slSD_scr dCopy_lst dCopy_tup dCopy_scr dSplit_is dJoinM_is dIntT_is djNil djStr djVal dFmt dLen_str dRaise dFld objD sGap sHots sColds dMth dInK dLenK isiD bv_p bv_o bv_tup bv_lst bv_wk bv_obj dListV listV dTupW tupW".splitOn " ").toArray.map fun s => Lean.mkIdent s.toName; `(tactic| dsimp only [$[$ns:ident],*])
def top (i : Nat) : Stmt := PySem.Challenge.pw_warmshare_k29_streams_put_and_taken.main.body.getD i (.Pass ⟨0, 0, 0, 0⟩)
structure Blt (mg : Str → Option Value) : Prop where
  b_len : mg "len" = none
  b_list : mg "list" = none
  b_min : mg "min" = none
  b_max : mg "max" = none
  b_isinstance : mg "isinstance" = none
  b_int : mg "int" = none
  b_bool : mg "bool" = none
  b_tuple : mg "tuple" = none
  b_range : mg "range" = none
  g_MOST_DEGREE : ∃ t, mg "MOST_DEGREE" = some (.int 200 t)
  g_LEAST_RATE : ∃ t, mg "LEAST_RATE" = some (.int 1 t)
  g_MOST_RATE : ∃ t, mg "MOST_RATE" = some (.int 1000000000 t)
  g_MOST_OF_A_KIND : ∃ t, mg "MOST_OF_A_KIND" = some (.int 12 t)
abbrev s_law_cell_at : Stmt := top 28
theorem sc_law_cell_at : FnScope ["script", "k"] ["script", "k"] (defScope s_law_cell_at) := ⟨rfl, rfl, rfl, by decide +kernel, rfl, by decide +kernel, by decide +kernel⟩
abbrev s_law_stir : Stmt := top 29
theorem sc_law_stir : FnScope ["cell", "k", "number"] ["cell", "k"] (defScope s_law_stir) := ⟨rfl, rfl, rfl, by decide +kernel, rfl, by decide +kernel, by decide +kernel⟩
abbrev s_Streams___init__ : Stmt := inClass (top 26) 0
theorem sc_Streams___init__ : FnScope ["self", "gap"] ["self", "gap"] (defScope s_Streams___init__) := ⟨rfl, rfl, rfl, by decide +kernel, rfl, by decide +kernel, by decide +kernel⟩
abbrev s_check_within : Stmt := top 24
theorem sc_check_within : FnScope ["number", "least", "most"] ["number", "least", "most"] (defScope s_check_within) := ⟨rfl, rfl, rfl, by decide +kernel, rfl, by decide +kernel, by decide +kernel⟩
abbrev s_check_stream : Stmt := top 23
theorem sc_check_stream : FnScope ["kind", "stream", "start", "goal"] ["kind", "stream"] (defScope s_check_stream) := ⟨rfl, rfl, rfl, by decide +kernel, rfl, by decide +kernel, by decide +kernel⟩
abbrev s_Streams_all_of : Stmt := inClass (top 26) 10
theorem sc_Streams_all_of : FnScope ["self", "kind"] ["self", "kind"] (defScope s_Streams_all_of) := ⟨rfl, rfl, rfl, by decide +kernel, rfl, by decide +kernel, by decide +kernel⟩
abbrev s_Streams_check_new : Stmt := inClass (top 26) 9
theorem sc_Streams_check_new : FnScope ["self", "kind", "stream"] ["self", "kind", "stream"] (defScope s_Streams_check_new) := ⟨rfl, rfl, rfl, by decide +kernel, rfl, by decide +kernel, by decide +kernel⟩
abbrev s_Streams_put_in : Stmt := inClass (top 26) 8
theorem sc_Streams_put_in : FnScope ["self", "kind", "stream", "streams"] ["self", "kind", "stream"] (defScope s_Streams_put_in) := ⟨rfl, rfl, rfl, by decide +kernel, rfl, by decide +kernel, by decide +kernel⟩
abbrev s_Streams_put_hot : Stmt := inClass (top 26) 1
theorem sc_Streams_put_hot : FnScope ["self", "start", "goal", "rate"] ["self", "start", "goal", "rate"] (defScope s_Streams_put_hot) := ⟨rfl, rfl, rfl, by decide +kernel, rfl, by decide +kernel, by decide +kernel⟩
abbrev s_Streams_home_of : Stmt := inClass (top 26) 11
theorem sc_Streams_home_of : FnScope ["self", "number"] ["self", "number"] (defScope s_Streams_home_of) := ⟨rfl, rfl, rfl, by decide +kernel, rfl, by decide +kernel, by decide +kernel⟩
abbrev s_Streams_take_out : Stmt := inClass (top 26) 3
theorem sc_Streams_take_out : FnScope ["self", "number", "streams"] ["self", "number"] (defScope s_Streams_take_out) := ⟨rfl, rfl, rfl, by decide +kernel, rfl, by decide +kernel, by decide +kernel⟩
abbrev s_law_out : Stmt := top 34
theorem sc_law_out : FnScope ["streams", "number", "found"] ["streams", "number"] (defScope s_law_out) := ⟨rfl, rfl, rfl, by decide +kernel, rfl, by decide +kernel, by decide +kernel⟩
abbrev s_law_out_right : Stmt := top 37
theorem sc_law_out_right : FnScope ["streams", "rows", "cell", "some", "number", "due", "kind", "one"] ["streams", "rows", "cell"] (defScope s_law_out_right) := ⟨rfl, rfl, rfl, by decide +kernel, rfl, by decide +kernel, by decide +kernel⟩
abbrev s_law_stream : Stmt := top 30
theorem sc_law_stream : FnScope ["cell", "base", "low", "high", "far", "rate"] ["cell", "base"] (defScope s_law_stream) := ⟨rfl, rfl, rfl, by decide +kernel, rfl, by decide +kernel, by decide +kernel⟩
abbrev s_law_spoilt : Stmt := top 31
theorem sc_law_spoilt : FnScope ["ends", "cell", "way"] ["ends", "cell"] (defScope s_law_spoilt) := ⟨rfl, rfl, rfl, by decide +kernel, rfl, by decide +kernel, by decide +kernel⟩
abbrev s_law_due : Stmt := top 32
theorem sc_law_due : FnScope ["rows", "kind", "start", "goal", "rate"] ["rows", "kind", "start", "goal", "rate"] (defScope s_law_due) := ⟨rfl, rfl, rfl, by decide +kernel, rfl, by decide +kernel, by decide +kernel⟩
abbrev s_Streams_put_cold : Stmt := inClass (top 26) 2
theorem sc_Streams_put_cold : FnScope ["self", "start", "goal", "rate"] ["self", "start", "goal", "rate"] (defScope s_Streams_put_cold) := ⟨rfl, rfl, rfl, by decide +kernel, rfl, by decide +kernel, by decide +kernel⟩
abbrev s_law_put : Stmt := top 33
theorem sc_law_put : FnScope ["streams", "kind", "start", "goal", "rate", "found"] ["streams", "kind", "start", "goal", "rate"] (defScope s_law_put) := ⟨rfl, rfl, rfl, by decide +kernel, rfl, by decide +kernel, by decide +kernel⟩
abbrev s_law_is : Stmt := top 35
theorem sc_law_is : FnScope ["found", "due"] ["found", "due"] (defScope s_law_is) := ⟨rfl, rfl, rfl, by decide +kernel, rfl, by decide +kernel, by decide +kernel⟩
abbrev s_law_put_right : Stmt := top 36
theorem sc_law_put_right : FnScope ["streams", "rows", "cell", "base", "kind", "low", "high", "rate", "ends", "start", "goal", "due", "found"] ["streams", "rows", "cell", "base"] (defScope s_law_put_right) := ⟨rfl, rfl, rfl, by decide +kernel, rfl, by decide +kernel, by decide +kernel⟩
abbrev s_Streams_works : Stmt := inClass (top 26) 4
theorem sc_Streams_works : FnScope ["self"] ["self"] (defScope s_Streams_works) := ⟨rfl, rfl, rfl, by decide +kernel, rfl, by decide +kernel, by decide +kernel⟩
abbrev s_law_plain : Stmt := top 38
theorem sc_law_plain : FnScope ["streams", "stream", "number"] ["streams"] (defScope s_law_plain) := ⟨rfl, rfl, rfl, by decide +kernel, rfl, by decide +kernel, by decide +kernel⟩
abbrev s_law_seen : Stmt := top 39
theorem sc_law_seen : FnScope ["streams", "rows", "gap", "held", "due", "found"] ["streams", "rows", "gap", "held"] (defScope s_law_seen) := ⟨rfl, rfl, rfl, by decide +kernel, rfl, by decide +kernel, by decide +kernel⟩
abbrev s_law : Stmt := top 40
theorem sc_law : FnScope ["script", "first", "gaps", "base", "both", "rows", "held", "k", "cell", "at", "good"] ["script"] (defScope s_law) := ⟨rfl, rfl, rfl, by decide +kernel, rfl, by decide +kernel, by decide +kernel⟩
structure Cls where
  HeatError : Addr
  NoMeasure : Addr
  WrongWay : Addr
  Full : Addr
  NoStream : Addr
structure Errs (K : PySem.W.Frag) (mg : Str → Option Value) (cs : Cls) : Prop where
  x_HeatError : ErrAt K mg "HeatError" cs.HeatError
  x_NoMeasure : ErrAt K mg "NoMeasure" cs.NoMeasure
  x_WrongWay : ErrAt K mg "WrongWay" cs.WrongWay
  x_Full : ErrAt K mg "Full" cs.Full
  x_NoStream : ErrAt K mg "NoStream" cs.NoStream
  is_NoMeasure_HeatError : PySem.W.kitOne K (.ref cs.NoMeasure) (.ref cs.HeatError) = some true
  ex_NoMeasure_HeatError : PySem.W.exmOne K (.ref cs.NoMeasure) (.ref cs.HeatError) = some true
  is_NoMeasure_NoMeasure : PySem.W.kitOne K (.ref cs.NoMeasure) (.ref cs.NoMeasure) = some true
  ex_NoMeasure_NoMeasure : PySem.W.exmOne K (.ref cs.NoMeasure) (.ref cs.NoMeasure) = some true
  is_NoMeasure_WrongWay : PySem.W.kitOne K (.ref cs.NoMeasure) (.ref cs.WrongWay) = some false
  ex_NoMeasure_WrongWay : PySem.W.exmOne K (.ref cs.NoMeasure) (.ref cs.WrongWay) = some false
  is_NoMeasure_Full : PySem.W.kitOne K (.ref cs.NoMeasure) (.ref cs.Full) = some false
  ex_NoMeasure_Full : PySem.W.exmOne K (.ref cs.NoMeasure) (.ref cs.Full) = some false
  is_NoMeasure_NoStream : PySem.W.kitOne K (.ref cs.NoMeasure) (.ref cs.NoStream) = some false
  ex_NoMeasure_NoStream : PySem.W.exmOne K (.ref cs.NoMeasure) (.ref cs.NoStream) = some false
  iv_NoMeasure : PySem.W.kitOne K (.ref cs.NoMeasure) (.type "ValueError") = some true
  is_WrongWay_HeatError : PySem.W.kitOne K (.ref cs.WrongWay) (.ref cs.HeatError) = some true
  ex_WrongWay_HeatError : PySem.W.exmOne K (.ref cs.WrongWay) (.ref cs.HeatError) = some true
  is_WrongWay_NoMeasure : PySem.W.kitOne K (.ref cs.WrongWay) (.ref cs.NoMeasure) = some false
  ex_WrongWay_NoMeasure : PySem.W.exmOne K (.ref cs.WrongWay) (.ref cs.NoMeasure) = some false
  is_WrongWay_WrongWay : PySem.W.kitOne K (.ref cs.WrongWay) (.ref cs.WrongWay) = some true
  ex_WrongWay_WrongWay : PySem.W.exmOne K (.ref cs.WrongWay) (.ref cs.WrongWay) = some true
  is_WrongWay_Full : PySem.W.kitOne K (.ref cs.WrongWay) (.ref cs.Full) = some false
  ex_WrongWay_Full : PySem.W.exmOne K (.ref cs.WrongWay) (.ref cs.Full) = some false
  is_WrongWay_NoStream : PySem.W.kitOne K (.ref cs.WrongWay) (.ref cs.NoStream) = some false
  ex_WrongWay_NoStream : PySem.W.exmOne K (.ref cs.WrongWay) (.ref cs.NoStream) = some false
  iv_WrongWay : PySem.W.kitOne K (.ref cs.WrongWay) (.type "ValueError") = some true
  is_Full_HeatError : PySem.W.kitOne K (.ref cs.Full) (.ref cs.HeatError) = some true
  ex_Full_HeatError : PySem.W.exmOne K (.ref cs.Full) (.ref cs.HeatError) = some true
  is_Full_NoMeasure : PySem.W.kitOne K (.ref cs.Full) (.ref cs.NoMeasure) = some false
  ex_Full_NoMeasure : PySem.W.exmOne K (.ref cs.Full) (.ref cs.NoMeasure) = some false
  is_Full_WrongWay : PySem.W.kitOne K (.ref cs.Full) (.ref cs.WrongWay) = some false
  ex_Full_WrongWay : PySem.W.exmOne K (.ref cs.Full) (.ref cs.WrongWay) = some false
  is_Full_Full : PySem.W.kitOne K (.ref cs.Full) (.ref cs.Full) = some true
  ex_Full_Full : PySem.W.exmOne K (.ref cs.Full) (.ref cs.Full) = some true
  is_Full_NoStream : PySem.W.kitOne K (.ref cs.Full) (.ref cs.NoStream) = some false
  ex_Full_NoStream : PySem.W.exmOne K (.ref cs.Full) (.ref cs.NoStream) = some false
  iv_Full : PySem.W.kitOne K (.ref cs.Full) (.type "ValueError") = some true
  is_NoStream_HeatError : PySem.W.kitOne K (.ref cs.NoStream) (.ref cs.HeatError) = some true
  ex_NoStream_HeatError : PySem.W.exmOne K (.ref cs.NoStream) (.ref cs.HeatError) = some true
  is_NoStream_NoMeasure : PySem.W.kitOne K (.ref cs.NoStream) (.ref cs.NoMeasure) = some false
  ex_NoStream_NoMeasure : PySem.W.exmOne K (.ref cs.NoStream) (.ref cs.NoMeasure) = some false
  is_NoStream_WrongWay : PySem.W.kitOne K (.ref cs.NoStream) (.ref cs.WrongWay) = some false
  ex_NoStream_WrongWay : PySem.W.exmOne K (.ref cs.NoStream) (.ref cs.WrongWay) = some false
  is_NoStream_Full : PySem.W.kitOne K (.ref cs.NoStream) (.ref cs.Full) = some false
  ex_NoStream_Full : PySem.W.exmOne K (.ref cs.NoStream) (.ref cs.Full) = some false
  is_NoStream_NoStream : PySem.W.kitOne K (.ref cs.NoStream) (.ref cs.NoStream) = some true
  ex_NoStream_NoStream : PySem.W.exmOne K (.ref cs.NoStream) (.ref cs.NoStream) = some true
  iv_NoStream : PySem.W.kitOne K (.ref cs.NoStream) (.type "ValueError") = some true
structure ClsT (K : PySem.W.Frag) (mg : Str → Option Value) (CS : Addr) : Prop where
  cl : L2.Cls K CS
  n_gap : NoAttr K CS "gap"
  n_hots : NoAttr K CS "hots"
  n_colds : NoAttr K CS "colds"
  n_spent : NoAttr K CS "spent"
  at_ : mg "Streams" = some (.ref CS)
section
variable {cs : Cls} {CS : Addr}
variable {Pt : Addr} {P : Program} {w : World} {K : PySem.W.Frag} {mg : Str → Option Value} {base : Heap} {f : Addr} {fd : FuncData}
structure WksOk (g : Int) (hs cs : List S3) : Prop where
  g0 : 0 ≤ g
  g1 : g ≤ 50
  nh : hs.length ≤ 12
  nc : cs.length ≤ 12
  hot : ∀ x ∈ hs, HotOk x
  cold : ∀ x ∈ cs, ColdOk x
theorem lt1000 {n : Nat} (h : n ≤ 1000) : n < sizeLine := small1000 h
def Sm (n : Int) : Prop := n.natAbs < 10 ^ 40
theorem le0 : Str.empty.length = 0 := rfl
theorem nat_len {m : Nat} (h : m < 10 ^ 40) : (toString m).length ≤ 40 := (Nat.length_repr_le_iff (by decide)).mpr h
theorem ln_of {n : Int} (h : Sm n) : (Str.ofString (toString n)).length ≤ 41 := by
  rw [PySem.ofString_length]
  cases n with
  | ofNat m => exact Nat.le_trans (nat_len (m := m) h) (by decide)
  | negSucc m =>
    have e : toString (Int.negSucc m) = "-" ++ toString (m + 1) := rfl
    have := nat_len (m := m + 1) h
    rw [e, String.length_append]
    have c : "-".length = 1 := rfl
    lia
theorem lg_of {n : Int} (h : Sm n) : n.natAbs.log2 < 1920 := by
  by_cases hz : n.natAbs = 0
  · rw [hz]; decide
  · exact Nat.lt_trans ((Nat.log2_lt hz).mpr (Nat.lt_trans h (show 10 ^ 40 < 2 ^ 200 by decide))) (by decide)
theorem sm_lit (n : Nat) (h : n < 10 ^ 40) : Sm (n : Int) := h
theorem ch_ne : ¬ coldW = Str.ofString "hot" := by decide +kernel
theorem hc_ne : ¬ hotW = Str.ofString "cold" := by decide +kernel
def rx_check_within (cs : Cls) : DRX := fun ds Q Z => ∃ n a b : Int, ds = [.int n, .int a, .int b] ∧ Sm n ∧ Sm a ∧ Sm b ∧ if n < a ∨ b < n then Z (.ref cs.NoMeasure) else Q (.p .non)
theorem ok_check_within (T : Blt mg) (TX : Errs K mg cs) (TC : ClsT K mg CS) (F : Fun K "check_within" "check_within" s_check_within f fd) : FnOk P w K mg base (CXe P w) 1 f fd ["number", "least", "most"] (spX K (rx_check_within cs)) := by
  refine okDX F sc_check_within (fun ds Q Z h => by obtain ⟨n, a, b, rfl, hn, ha, hb, q⟩ := h; rfl) fun cdv A outer s H E Z hr hZ => ⟨_, (dxs_one (dx_if (DW.dt (dw_or (dt_cmp od_lt (dv 0) (dv 1) (nomark _)) (dw_or1 (dt_cmp od_gt (dv 0) (dv 2) (nomark _))))) (dxs_one (dx_raise body_cx hZ rfl TX.x_NoMeasure.er (by rfl) TX.x_NoMeasure.at_ (da_cons (de_fmt (dj_val (dv 0) (dj_str (dj_val (dv 1) (dj_str (dj_val (dv 2) dj_nil)))))) da_nil))) dxs_nil)), fun ds Q h => ?_⟩
  obtain ⟨n, a, b, rfl, hn, ha, hb, q⟩ := h
  walk_at "rs"
  have l1 := ln_of hn
  have l2 := ln_of ha
  have l3 := ln_of hb
  have c1 : (Str.ofString " is not from ").length = 13 := by decide +kernel
  have c2 : (Str.ofString " to ").length = 4 := by decide +kernel
  have sz : sizeLine = 16777216 := sizeLine_eq
  have g1 := lg_of hn
  have g2 := lg_of ha
  have g3 := lg_of hb
  simp only [len_app, le0, c1, c2]
  refine ⟨fun z => ⟨fun _ => ⟨g1, by lia, by lia, g2, by lia, by lia, g3, by lia, by lia, ?_⟩, fun z => (by cases z)⟩, fun z => ⟨fun y => ⟨g1, by lia, by lia, g2, by lia, by lia, g3, by lia, by lia, ?_⟩, fun y => ?_⟩⟩
  · rw [if_pos (.inl (of_decide_eq_true z))] at q; exact q
  · rw [if_pos (.inr (of_decide_eq_true y))] at q; exact q
  · rw [if_neg (fun w => w.elim (of_decide_eq_false z) (of_decide_eq_false y))] at q; exact q
def badS (k : Str) (x : S3) : Nat := if x.1 < 0 ∨ 200 < x.1 ∨ x.2.1 < 0 ∨ 200 < x.2.1 ∨ x.2.2 < 1 ∨ 1000000000 < x.2.2 then 1 else if (k = hotW ∧ x.1 ≤ x.2.1) ∨ (k = coldW ∧ x.2.1 ≤ x.1) then 2 else 0
def rx_check_stream (cs : Cls) : DRX := fun ds Q Z => ∃ (k : Str) (x : S3), ds = [.str k, d3 x] ∧ (k = hotW ∨ k = coldW) ∧ Sm x.1 ∧ Sm x.2.1 ∧ Sm x.2.2 ∧
  if badS k x = 1 then Z (.ref cs.NoMeasure) else if badS k x = 2 then Z (.ref cs.WrongWay) else Q (.p .non)
theorem ok_check_stream (T : Blt mg) (TX : Errs K mg cs) (TC : ClsT K mg CS) (FX_check_within : FnX P w K mg base "check_within" 1 ["number", "least", "most"] (spX K (rx_check_within cs))) (F : Fun K "check_stream" "check_stream" s_check_stream f fd) : FnOk P w K mg base (CXe P w) 2 f fd ["kind", "stream"] (spX K (rx_check_stream cs)) := by
  refine okDX F sc_check_stream (fun ds Q Z h => by obtain ⟨k, x, rfl, hk, h1, h2, h3, q⟩ := h; rfl) fun cdv A outer s H E Z hr hZ => ⟨_, (dxs_cons (dx (ds_setP (i := 2) sc_check_stream.nd rfl (Or.inl rfl) (de_ix (dv 1) de_int)))
      (dxs_cons (dx (ds_setP (i := 3) sc_check_stream.nd rfl (Or.inl rfl) (de_ix (dv 1) de_int)))
      (dxs_cons (dx_exprC body_cx hZ FX_check_within (hr.mono (by decide)) (by rfl) (da_cons (dv 2) (da_cons de_int (da_cons (de_gI (by rfl) T.g_MOST_DEGREE) da_nil))))
      (dxs_cons (dx_exprC body_cx hZ FX_check_within (hr.mono (by decide)) (by rfl) (da_cons (dv 3) (da_cons de_int (da_cons (de_gI (by rfl) T.g_MOST_DEGREE) da_nil))))
      (dxs_cons (dx_exprC body_cx hZ FX_check_within (hr.mono (by decide)) (by rfl) (da_cons (de_ix (dv 1) de_int) (da_cons (de_gI (by rfl) T.g_LEAST_RATE) (da_cons (de_gI (by rfl) T.g_MOST_RATE) da_nil))))
      (dxs_cons (dx_if (DW.dt (dw_and (dt_cmp od_eq (dv 0) de_str (nomark _)) (dw_and1 (dt_cmp od_ge (dv 3) (dv 2) (nomark _))))) (dxs_one (dx_raise body_cx hZ rfl TX.x_WrongWay.er (by rfl) TX.x_WrongWay.at_ (da_cons (de_fmt (dj_str (dj_val (dv 2) (dj_str (dj_val (dv 3) dj_nil))))) da_nil))) dxs_nil)
      (dxs_one (dx_if (DW.dt (dw_and (dt_cmp od_eq (dv 0) de_str (nomark _)) (dw_and1 (dt_cmp od_le (dv 3) (dv 2) (nomark _))))) (dxs_one (dx_raise body_cx hZ rfl TX.x_WrongWay.er (by rfl) TX.x_WrongWay.at_ (da_cons (de_fmt (dj_str (dj_val (dv 2) (dj_str (dj_val (dv 3) dj_nil))))) da_nil))) dxs_nil)))))))), fun ds Q h => ?_⟩
  obtain ⟨k, x, rfl, hk, h1, h2, h3, q⟩ := h
  repeat (first | dsimp only [rx_check_within, d3] | walk_at "rs1" | walk_at "rsx")
  have s0 : Sm 0 := sm_lit 0 (by decide)
  have s2 : Sm 200 := sm_lit 200 (by decide)
  have l1 := ln_of h1
  have l2 := ln_of h2
  have c0 : (Str.ofString "a hot stream is cooled, not brought from ").length = 41 := by decide +kernel
  have c1 : (Str.ofString "a cold stream is warmed, not brought from ").length = 42 := by decide +kernel
  have c2 : (Str.ofString " to ").length = 4 := by decide +kernel
  have sz : sizeLine = 16777216 := sizeLine_eq
  have g1 := lg_of h1
  have g2 := lg_of h2
  unfold badS at q
  refine ⟨x.1, 0, 200, rfl, h1, s0, s2, ite2 (fun z => ?_) fun z => ⟨x.2.1, 0, 200, rfl, h2, s0, s2, ite2 (fun z2 => ?_) fun z2 => ⟨x.2.2, 1, 1000000000, rfl, h3, sm_lit 1 (by decide), sm_lit 1000000000 (by decide), ite2 (fun z3 => ?_) fun z3 => ?_⟩⟩⟩
  · rw [if_pos (if_pos (by lia))] at q; exact q
  · rw [if_pos (if_pos (by lia))] at q; exact q
  · rw [if_pos (if_pos (by lia))] at q; exact q
  have nb : ¬ (x.1 < 0 ∨ 200 < x.1 ∨ x.2.1 < 0 ∨ 200 < x.2.1 ∨ x.2.2 < 1 ∨ 1000000000 < x.2.2) := by lia
  simp only [if_neg nb] at q
  rcases hk with rfl | rfl
  · refine ⟨fun _ => ⟨fun y => ⟨by simp only [len_app, le0, c0, c1, c2]; lia, g1, by simp only [len_app, le0, c0, c1, c2]; lia, by simp only [len_app, le0, c0, c1, c2]; lia, g2, by simp only [len_app, le0, c0, c1, c2]; lia, by simp only [len_app, le0, c0, c1, c2]; lia, ?_⟩, fun y => ⟨fun w => absurd (of_decide_eq_true w) hc_ne, fun _ => ⟨fun w => (by cases w), fun _ => ?_⟩⟩⟩, fun w => absurd rfl (of_decide_eq_false w)⟩
    · rw [if_pos (show (hotW = hotW ∧ x.1 ≤ x.2.1) ∨ (hotW = coldW ∧ x.2.1 ≤ x.1) from .inl ⟨rfl, of_decide_eq_true y⟩), if_neg (by decide), if_pos rfl] at q; exact q
    · rw [if_neg (show ¬ ((hotW = hotW ∧ x.1 ≤ x.2.1) ∨ (hotW = coldW ∧ x.2.1 ≤ x.1)) from fun w => w.elim (fun w => of_decide_eq_false y w.2) fun w => hc_ne w.1), if_neg (by decide), if_neg (by decide)] at q; exact q
  · refine ⟨fun w => absurd (of_decide_eq_true w) ch_ne, fun _ => ⟨fun w => (by cases w), fun _ => ⟨fun _ => ⟨fun y => ⟨by simp only [len_app, le0, c0, c1, c2]; lia, g1, by simp only [len_app, le0, c0, c1, c2]; lia, by simp only [len_app, le0, c0, c1, c2]; lia, g2, by simp only [len_app, le0, c0, c1, c2]; lia, by simp only [len_app, le0, c0, c1, c2]; lia, ?_⟩, fun y => ?_⟩, fun w => absurd rfl (of_decide_eq_false w)⟩⟩⟩
    · rw [if_pos (show (coldW = hotW ∧ x.1 ≤ x.2.1) ∨ (coldW = coldW ∧ x.2.1 ≤ x.1) from .inr ⟨rfl, of_decide_eq_true y⟩), if_neg (by decide), if_pos rfl] at q; exact q
    · rw [if_neg (show ¬ ((coldW = hotW ∧ x.1 ≤ x.2.1) ∨ (coldW = coldW ∧ x.2.1 ≤ x.1)) from fun w => w.elim (fun w => ch_ne w.1) fun w => of_decide_eq_false y w.2), if_neg (by decide), if_neg (by decide)] at q; exact q
theorem mulR {i j : Int} (h : -(2 ^ 64) < j ∧ j < 2 ^ 64) : CMul i j := .inr h
theorem mulL {i j : Int} (h : -(2 ^ 64) < i ∧ i < 2 ^ 64) : CMul i j := .inl h
local macro_rules | `(tactic| walk_at "side") => `(tactic| first | decide | lia | exact mulR (by decide) | exact mulL (by decide) | exact ⟨by decide, by decide, by decide⟩ | exact ⟨by lia, by decide⟩ | exact mulL ⟨by lia, by lia⟩ | exact mulR ⟨by lia, by lia⟩ | exact ⟨by lia, by lia⟩)
local macro_rules | `(tactic| walk_at "go") => `(tactic| repeat (refine ⟨by walk_at "side", ?_⟩))
def stirX (c k : Int) : Int := ((c + 977 * k + 1) * 48271 % 2147483647) * ((c + 977 * k + 1) * 48271 % 2147483647) % 2147483629 * 69621 % 2147483587 / 8
theorem stirX0 (c k : Int) : 0 ≤ stirX c k := Int.ediv_nonneg (Int.emod_nonneg _ (by decide)) (by decide)
theorem stirX1 (c k : Int) : stirX c k < 268435449 := by
  unfold stirX
  have : ((c + 977 * k + 1) * 48271 % 2147483647) * ((c + 977 * k + 1) * 48271 % 2147483647) % 2147483629 * 69621 % 2147483587 < 2147483587 := Int.emod_lt_of_pos _ (by decide)
  lia
def r_law_stir : DR := fun ds P => match ds with
  | [.int c, .int k] => P (.p (.int (stirX c k)))
  | _ => False
set_option tactic.hygienic true in
theorem ok_law_stir (T : Blt mg) (TX : Errs K mg cs) (TC : ClsT K mg CS) (F : Fun K "_law_stir" "_law_stir" s_law_stir f fd) : FnOk P w K mg base CX0 1 f fd ["cell", "k"] (spD K r_law_stir) := by
  refine okD F sc_law_stir (fun ds Q h => by unfold r_law_stir at h; split at h <;> first | rfl | exact h.elim) fun cdv A outer s H E hr => ⟨_, (dss_cons (ds_setP (i := 2) sc_law_stir.nd rfl (Or.inl rfl) (de_op od_mod (de_op od_times (de_op od_plus (de_op od_plus (dv 0) (de_op od_times de_int (dv 1))) de_int) de_int) de_int))
      (dss_cons (ds_setP (i := 2) sc_law_stir.nd rfl (Or.inl rfl) (de_op od_mod (de_op od_times (dv 2) (dv 2)) de_int))
      (dss_one (ds_ret (de_op od_fdiv (de_op od_mod (de_op od_times (dv 2) de_int) de_int) de_int))))), fun ds Q h => ?_⟩
  unfold r_law_stir at h
  split at h
  rotate_left
  · exact h.elim
  rename_i c k
  try dsimp only [dSeq, dNext, dRet, dRetN, dRetO, dIfS, dSet, dSetP, dSetF, dSetD, dSetDP, dAug, dAsg, dApp, dAppF, dSetIx, dSetIxF, dAugIx, dDrop, dFor, dForD, dForS, dVar, dC, dOp, dI, dIC, dEqS, dNeS, dIsN, dNotN, dUn, dNeg, dNotV, dAndV, dOrV, dTst, dNot, dAnd, dOr, dIfE, dChain, dNil, dCons, dTup, dLst, dCall, dCB, dLen, dII, dAbs, dInt, dCopy, dIx, dNoPart, dPart, dSl, dSlS, dAdd, dMul, dIsi, dTrue, dget, dput, frz, frz1, B.val, startD, Tg.d, putN, diList, diTup, diRng1, diRng2, diRevr1, di_enumerateT, di_zipT, di_reversedT, onlyP, frD, dLC, List.map, List.length]
  have h0 : 0 ≤ ((c + 977 * k + 1) * 48271 % 2147483647 : Int) := Int.emod_nonneg _ (by decide)
  have h1 : ((c + 977 * k + 1) * 48271 % 2147483647 : Int) < 2147483647 := Int.emod_lt_of_pos _ (by decide)
  walk_at "go"
  exact h
abbrev KV3 := List (Int × S3)
abbrev oD (CS : Addr) (g : Int) (hs ks : KV3) (n : Int) : D := .ext (.obj CS g hs ks n)
def vals (l : KV3) : List S3 := l.map (·.2)
def allOf (k : Str) (hs ks : KV3) : KV3 := if k = hotW then hs else ks
def r_Streams_all_of (CS : Addr) : DR := fun ds Q => ∃ (g : Int) (hs ks : KV3) (n : Int) (k : Str), ds = [oD CS g hs ks n, .str k] ∧ Q (.p (.ext (.dki (allOf k hs ks))))
def spAll (CS : Addr) : Sp := fun vs H Q _ => ∃ (a dx b c : Addr) (g n : Int) (k : Str), vs = [.ref a, .str k] ∧ H a = some (.ins CS dx (flds g b c n)) ∧ Q (.ref (if k = hotW then b else c)) H
theorem fl_hots (g : Int) (b c : Addr) (n : Int) : (flds g b c n).lookup ("hots" : Str) = some (V.ref b) := rfl
theorem fl_colds (g : Int) (b c : Addr) (n : Int) : (flds g b c n).lookup ("colds" : Str) = some (V.ref c) := rfl
theorem fl_spent (g : Int) (b c : Addr) (n : Int) : (flds g b c n).lookup ("spent" : Str) = some (V.int n) := rfl
theorem ok_Streams_all_of (T : Blt mg) (TX : Errs K mg cs) (TC : ClsT K mg CS) (F : Fun K "all_of" "Streams.all_of" s_Streams_all_of f fd) : FnOk P w K mg base CX0 1 f fd ["self", "kind"] (spAll CS) := by
  refine F.ok sc_Streams_all_of (fun vs H Q E h => ?_) fun cdv A outer s H vs Q E hr h => ?_
  · obtain ⟨a, dx, b, c, g, n, k, rfl, _⟩ := h
    rfl
  · obtain ⟨a, dx, b, c, g, n, k, rfl, h1, q⟩ := h
    refine ⟨_, pss_cons (ps_if (pt_cmpR op_eqK (pv 1) pe_str (nomark _)) (pss_one (ps_ret (pe_fld (pv 0) rfl))) pss_nil) (pss_one (ps_ret (pe_fld (pv 0) rfl))), ?_⟩
    refine ⟨_, rfl, rfl, _, rfl, ?_⟩
    refine ite2 (fun z => ?_) fun z => ?_
    · rw [if_pos (show k = hotW by have := of_decide_eq_true z; exact V.str.inj this)] at q
      exact ⟨_, rfl, a, CS, dx, _, _, rfl, h1, TC.cl, TC.n_hots, fl_hots g b c n, q⟩
    · rw [if_neg (show ¬ k = hotW from fun e => z (decide_eq_true (congrArg V.str e)))] at q
      exact ⟨_, rfl, a, CS, dx, _, _, rfl, h1, TC.cl, TC.n_colds, fl_colds g b c n, q⟩
theorem all_data {fa : Addr} {fda : FuncData} (F : FnOk P w K mg base CX0 1 fa fda ["self", "kind"] (spAll CS)) (m : Meth K CS "all_of" fa) (b : Binds K fda ["self", "kind"] []) : MtD P w K mg base CS "all_of" 1 ["self", "kind"] (r_Streams_all_of CS) := by
  refine mt_mk (F.imp ?_) m b
  rintro vs H Q E ⟨ds, G, P, s, r, ⟨g, hs, ks, n, k, e, q⟩, kk⟩
  subst e
  cases r with
  | cons r1 r => cases r with
    | cons r2 r =>
      cases r
      cases r2
      obtain ⟨a, dx, b, c, rfl, h1, h2, h3⟩ := Rep.obj_inv r1
      refine ⟨a, dx, b, c, g, n, k, rfl, s _ _ h1, kk _ _ H G q (Wd.refl s) ?_⟩
      show Rep K G _ _
      unfold allOf
      split
      · exact .ext h2
      · exact .ext h3
def r_Streams_works (CS : Addr) : DR := fun ds Q => ∃ (g : Int) (hs ks : KV3) (n : Int), ds = [oD CS g hs ks n] ∧ Q (.n (.wk g) [.lst ((vals hs).map d3), .lst ((vals ks).map d3)])
theorem ok_Streams_works (T : Blt mg) (TX : Errs K mg cs) (TC : ClsT K mg CS) (F : Fun K "works" "Streams.works" s_Streams_works f fd) : FnOk P w K mg base CX0 1 f fd ["self"] (spD K (r_Streams_works CS)) := by
  refine okD F sc_Streams_works (fun ds Q h => by obtain ⟨g, hs, ks, n, rfl, q⟩ := h; rfl) fun cdv A outer s H E hr => ⟨_, (dss_one (ds_ret (de_tupW (de_fld TC.cl TC.n_gap sel_gap (dv 0)) (de_listV rfl (by rfl) T.b_list (de_fld TC.cl TC.n_hots sel_hots (dv 0))) (de_listV rfl (by rfl) T.b_list (de_fld TC.cl TC.n_colds sel_colds (dv 0)))))), fun ds Q h => ?_⟩
  obtain ⟨g, hs, ks, n, rfl, q⟩ := h
  walk_at "rs"
  unfold vals at q
  rw [List.map_map, List.map_map] at q
  exact q
def spHome (cs : Cls) (CS : Addr) : Sp := fun vs H Q E => ∃ (a dx b c : Addr) (g n i : Int) (hs ks : KV3), vs = [.ref a, .int i] ∧ H a = some (.ins CS dx (flds g b c n)) ∧ DkiAt H H b hs ∧ DkiAt H H c ks ∧ Sm i ∧
  if hasK hs i = true then Q (.ref b) H else if hasK ks i = true then Q (.ref c) H else ∀ H', Same H H' → E (.ref cs.NoStream) none H'
theorem ok_Streams_home_of (T : Blt mg) (TX : Errs K mg cs) (TC : ClsT K mg CS) (F : Fun K "home_of" "Streams.home_of" s_Streams_home_of f fd) : FnOk P w K mg base (CXe P w) 1 f fd ["self", "number"] (spHome cs CS) := by
  refine F.okX sc_Streams_home_of (fun vs H Q E h => ?_) fun cdv A outer s H vs Q E hr h => ?_
  · obtain ⟨a, dx, b, c, g, n, i, hs, ks, rfl, _⟩ := h
    rfl
  · obtain ⟨a, dx, b, c, g, n, i, hs, ks, rfl, ha, ⟨es, hb, pb⟩, ⟨et, hc, pc⟩, hi, q⟩ := h
    refine any_go ?_
    refine any_cons (ps_if (pt_cmp (pc_din (hu_of hr) (pv 1) (pe_fld (pv 0) rfl))) (pss_one (ps_ret (pe_fld (pv 0) rfl))) pss_nil) ⟨_, rfl, _, rfl, a, CS, dx, _, _, rfl, ha, TC.cl, TC.n_hots, fl_hots g b c n, b, _, rfl, DGet.k (k := Sum.inl i) hb, _, rfl, ?_⟩
    rw [valV_has i pb]
    by_cases f1 : hasK hs i = true
    · rw [if_pos f1] at q
      rw [f1]
      exact iteT ⟨_, rfl, a, CS, dx, _, _, rfl, ha, TC.cl, TC.n_hots, fl_hots g b c n, q⟩
    rw [if_neg f1] at q
    rw [Bool.not_eq_true _ |>.mp f1]
    refine iteF ?_
    refine any_cons (ps_if (pt_cmp (pc_din (hu_of hr) (pv 1) (pe_fld (pv 0) rfl))) (pss_one (ps_ret (pe_fld (pv 0) rfl))) pss_nil) ⟨_, rfl, _, rfl, a, CS, dx, _, _, rfl, ha, TC.cl, TC.n_colds, fl_colds g b c n, c, _, rfl, DGet.k (k := Sum.inl i) hc, _, rfl, ?_⟩
    rw [valV_has i pc]
    by_cases f2 : hasK ks i = true
    · rw [if_pos f2] at q
      rw [f2]
      exact iteT ⟨_, rfl, a, CS, dx, _, _, rfl, ha, TC.cl, TC.n_colds, fl_colds g b c n, q⟩
    rw [if_neg f2] at q
    rw [Bool.not_eq_true _ |>.mp f2]
    refine iteF ?_
    have l1 := ln_of hi
    have c1 : (Str.ofString "no stream of the number ").length = 24 := by decide +kernel
    have c2 : (Str.ofString " is in").length = 6 := by decide +kernel
    have sz : sizeLine = 16777216 := sizeLine_eq
    refine any_one (ps_raise body_cx rfl TX.x_NoStream.er (by rfl) TX.x_NoStream.at_ (da_cons (de_fmt (dj_str (dj_val (dv 1) (dj_str dj_nil)))) da_nil).pa) ⟨H, [none, some (.p (.int i))], fun _ => True, Same.refl _, fun j d e => ?_, ?_, fun ds vs H' G' _ l w' r' => ⟨by rw [Paired.length r', l]; exact Nat.le_of_lt (small1000 (by decide)), q H' w'.hh⟩⟩
    · cases j with
      | zero => cases e
      | succ j => cases j with
        | zero => cases e; exact ⟨_, rfl, .int i⟩
        | succ j => exact absurd e (by simp [dget])
    · walk_at "rs"
      simp only [len_app, le0, c1, c2]
      exact ⟨by lia, lg_of hi, by lia, by lia, by lia, trivial⟩
def rx_Streams_check_new (cs : Cls) (CS : Addr) : DRX := fun ds Q Z => ∃ (g : Int) (hs ks : KV3) (n : Int) (k : Str) (x : S3), ds = [oD CS g hs ks n, .str k, d3 x] ∧ (k = hotW ∨ k = coldW) ∧ Sm x.1 ∧ Sm x.2.1 ∧ Sm x.2.2 ∧
  if 12 ≤ (allOf k hs ks).length then Z (.ref cs.Full) else if badS k x = 1 then Z (.ref cs.NoMeasure) else if badS k x = 2 then Z (.ref cs.WrongWay) else Q (.p .non)
theorem ok_Streams_check_new (T : Blt mg) (TX : Errs K mg cs) (TC : ClsT K mg CS) (FX_check_stream : FnX P w K mg base "check_stream" 2 ["kind", "stream"] (spX K (rx_check_stream cs))) {a_Streams_all_of : Addr} {fd_Streams_all_of : FuncData} (FV_Streams_all_of : FnOk P w K mg base CX0 1 a_Streams_all_of fd_Streams_all_of ["self", "kind"] (spAll CS)) (MV_Streams_all_of : Meth K CS "all_of" a_Streams_all_of) (BV_Streams_all_of : Binds K fd_Streams_all_of ["self", "kind"] []) (F : Fun K "check_new" "Streams.check_new" s_Streams_check_new f fd) : FnOk P w K mg base (CXe P w) 3 f fd ["self", "kind", "stream"] (spX K (rx_Streams_check_new cs CS)) := by
  have FM_Streams_all_of := all_data FV_Streams_all_of MV_Streams_all_of BV_Streams_all_of
  refine okDX F sc_Streams_check_new (fun ds Q Z h => by obtain ⟨g, hs, ks, n, k, x, rfl, hk, h1, h2, h3, q⟩ := h; rfl) fun cdv A outer s H E Z hr hZ => ⟨_, (dxs_cons (dx_if (dt_cmp od_ge (de_callB cd_lenK (by rfl) T.b_len PySem.boot_len (da_cons (de_mth FM_Streams_all_of TC.cl (fun _ _ _ _ => rfl) (hr.mono (by decide)) (dv 0) (da_cons (dv 1) da_nil)) da_nil)) (de_gI (by rfl) T.g_MOST_OF_A_KIND) (nomark _)) (dxs_one (dx_raise body_cx hZ rfl TX.x_Full.er (by rfl) TX.x_Full.at_ (da_cons (de_fmt (dj_str (dj_val (de_gI (by rfl) T.g_MOST_OF_A_KIND) (dj_str (dj_val (dv 1) (dj_str dj_nil)))))) da_nil))) dxs_nil)
      (dxs_one (dx_exprC body_cx hZ FX_check_stream (hr.mono (by decide)) (by rfl) (da_cons (dv 1) (da_cons (dv 2) da_nil))))), fun ds Q h => ?_⟩
  obtain ⟨g, hs, ks, n, k, x, rfl, hk, h1, h2, h3, q⟩ := h
  walk_at "rs"
  refine ⟨g, hs, ks, n, k, rfl, ?_⟩
  walk_at "rs"
  have c0 : (Str.ofString "there are ").length = 10 := by decide +kernel
  have c1 : (Str.ofString (toString (12 : Int))).length = 2 := by decide +kernel
  have c2 : (Str.ofString " ").length = 1 := by decide +kernel
  have c3 : (Str.ofString " streams in").length = 11 := by decide +kernel
  have sz : sizeLine = 16777216 := sizeLine_eq
  have lk : k.length ≤ 4 := by rcases hk with rfl | rfl <;> decide +kernel
  simp only [len_app, le0, c0, c1, c2, c3]
  refine ⟨fun z => ⟨by lia, by decide, by lia, by lia, by lia, by lia, by lia, by lia, ?_⟩, fun z => ⟨k, x, rfl, hk, h1, h2, h3, ?_⟩⟩
  · have := of_decide_eq_true z
    rw [if_pos (by lia)] at q; exact q
  · have := of_decide_eq_false z
    rw [if_neg (by lia)] at q; exact q
def PutR (cs : Cls) (k : Str) (x : S3) (hs ks : KV3) (H : Hp) (E : XK) (R : Prop) : Prop := if 12 ≤ (allOf k hs ks).length then ∀ H', Same H H' → E (.ref cs.Full) none H' else if badS k x = 1 then ∀ H', Same H H' → E (.ref cs.NoMeasure) none H' else if badS k x = 2 then ∀ H', Same H H' → E (.ref cs.WrongWay) none H' else R
inductive PutQ (cs : Cls) (k : Str) (x : S3) (hs ks : KV3) (H : Hp) (E : XK) (R : Prop) : Prop
  | full (f1 : 12 ≤ (allOf k hs ks).length) (q : ∀ H', Same H H' → E (.ref cs.Full) none H')
  | meas (f1 : ¬ 12 ≤ (allOf k hs ks).length) (f2 : badS k x = 1) (q : ∀ H', Same H H' → E (.ref cs.NoMeasure) none H')
  | way (f1 : ¬ 12 ≤ (allOf k hs ks).length) (f2 : ¬ badS k x = 1) (f3 : badS k x = 2) (q : ∀ H', Same H H' → E (.ref cs.WrongWay) none H')
  | ok (f1 : ¬ 12 ≤ (allOf k hs ks).length) (f2 : ¬ badS k x = 1) (f3 : ¬ badS k x = 2) (q : R)
section
variable {k : Str} {x : S3} {hs ks : KV3} {H H1 : Hp} {E : XK} {R R' : Prop}
theorem PutR.go (q : PutR cs k x hs ks H E R) : PutQ cs k x hs ks H E R := by
  unfold PutR at q
  by_cases f1 : 12 ≤ (allOf k hs ks).length
  · rw [if_pos f1] at q; exact .full f1 q
  rw [if_neg f1] at q
  by_cases f2 : badS k x = 1
  · rw [if_pos f2] at q; exact .meas f1 f2 q
  rw [if_neg f2] at q
  by_cases f3 : badS k x = 2
  · rw [if_pos f3] at q; exact .way f1 f2 f3 q
  rw [if_neg f3] at q
  exact .ok f1 f2 f3 q
theorem PutQ.of (q : PutQ cs k x hs ks H E R) : PutR cs k x hs ks H E R := by
  unfold PutR
  cases q with
  | full f1 q => rw [if_pos f1]; exact q
  | meas f1 f2 q => rw [if_neg f1, if_pos f2]; exact q
  | way f1 f2 f3 q => rw [if_neg f1, if_neg f2, if_pos f3]; exact q
  | ok f1 f2 f3 q => rw [if_neg f1, if_neg f2, if_neg f3]; exact q
theorem PutR.mono (s : Same H H1) (f : R → R') (q : PutR cs k x hs ks H E R) : PutR cs k x hs ks H1 E R' := by
  refine PutQ.of ?_
  cases q.go with
  | full f1 q => exact .full f1 fun H' s' => q H' (s.trans s')
  | meas f1 f2 q => exact .meas f1 f2 fun H' s' => q H' (s.trans s')
  | way f1 f2 f3 q => exact .way f1 f2 f3 fun H' s' => q H' (s.trans s')
  | ok f1 f2 f3 q => exact .ok f1 f2 f3 (f q)
end
inductive PiP (cs : Cls) (CS : Addr) : List V → Hp → VK → XK → Prop
  | mk {H : Hp} {Q : VK} {E : XK} (a dx b c t : Addr) (g n : Int) (hs ks : KV3) (k : Str) (x : S3) (es : List (Key × V)) (ha : H a = some (.ins CS dx (flds g b c n))) (hb : DkiAt H H b hs) (hc : DkiAt H H c ks) (hd : H (if k = hotW then b else c) = some (.dK es)) (hl : es.length < sizeLine) (ht : H t = some (.tup [.int x.1, .int x.2.1, .int x.2.2])) (hk : k = hotW ∨ k = coldW) (s1 : Sm x.1) (s2 : Sm x.2.1) (s3 : Sm x.2.2)
      (q : PutR cs k x hs ks H E (∀ H1, Same H H1 → Q (.int (n + 1)) (upd (upd H1 a (.ins CS dx (flds g b c (n + 1)))) (if k = hotW then b else c) (.dK (putK es (Sum.inl (n + 1)) (.ref t)))))) : PiP cs CS [.ref a, .str k, .ref t] H Q E
def spPutIn (cs : Cls) (CS : Addr) : Sp := fun vs H Q E => PiP cs CS vs H Q E
theorem new_no {mg : Str → Option Value} {K : PySem.W.Frag} {H : Hp} {Q : VK} {E : XK} {vs : List V} {k : Str} {x : S3} {hs ks : KV3} {g n : Int} {R : Prop} (rep : Reps K H vs [oD CS g hs ks n, .str k, d3 x]) (hk : k = hotW ∨ k = coldW) (s1 : Sm x.1) (s2 : Sm x.2.1) (s3 : Sm x.2.2) (q : PutR cs k x hs ks H E R) (ok : R → ∀ v H1, Same H H1 → Q v H1) : spX K (rx_Streams_check_new cs CS) vs H Q E := by
  cases q.go with
  | full f1 q => exact ⟨_, H, fun _ => False, fun cls => cls = .ref cs.Full, Same.refl _, rep, ⟨g, hs, ks, n, k, x, rfl, hk, s1, s2, s3, by rw [if_pos f1]⟩, fun _ _ _ _ z => z.elim, fun cls H' e s' => e ▸ q H' s'⟩
  | meas f1 f2 q => exact ⟨_, H, fun _ => False, fun cls => cls = .ref cs.NoMeasure, Same.refl _, rep, ⟨g, hs, ks, n, k, x, rfl, hk, s1, s2, s3, by rw [if_neg f1, if_pos f2]⟩, fun _ _ _ _ z => z.elim, fun cls H' e s' => e ▸ q H' s'⟩
  | way f1 f2 f3 q => exact ⟨_, H, fun _ => False, fun cls => cls = .ref cs.WrongWay, Same.refl _, rep, ⟨g, hs, ks, n, k, x, rfl, hk, s1, s2, s3, by rw [if_neg f1, if_neg f2, if_pos f3]⟩, fun _ _ _ _ z => z.elim, fun cls H' e s' => e ▸ q H' s'⟩
  | ok f1 f2 f3 q => exact ⟨_, H, fun _ => True, fun _ => False, Same.refl _, rep, ⟨g, hs, ks, n, k, x, rfl, hk, s1, s2, s3, by rw [if_neg f1, if_neg f2, if_neg f3]; trivial⟩, fun b0 v0 H1 G1 _ w1 _ => ok q v0 H1 w1.hh, fun _ _ z => z.elim⟩
theorem ok_Streams_put_in (T : Blt mg) (TX : Errs K mg cs) (TC : ClsT K mg CS) (FMX_Streams_check_new : MtX P w K mg base CS "check_new" 3 ["self", "kind", "stream"] (rx_Streams_check_new cs CS)) {a_Streams_all_of : Addr} {fd_Streams_all_of : FuncData} (FV_Streams_all_of : FnOk P w K mg base CX0 1 a_Streams_all_of fd_Streams_all_of ["self", "kind"] (spAll CS)) (MV_Streams_all_of : Meth K CS "all_of" a_Streams_all_of) (BV_Streams_all_of : Binds K fd_Streams_all_of ["self", "kind"] []) (F : Fun K "put_in" "Streams.put_in" s_Streams_put_in f fd) : FnOk P w K mg base (CXe P w) 4 f fd ["self", "kind", "stream"] (spPutIn cs CS) := by
  refine F.okX sc_Streams_put_in (fun vs H Q E h => ?_) fun cdv A outer s H vs Q E hr h => ?_
  · cases (show PiP cs CS vs H Q E from h)
    rfl
  · cases (show PiP cs CS vs H Q E from h) with | mk a dx b c t g n hs ks k x es ha hb hc hd hl ht hk s1 s2 s3 q =>
    obtain ⟨f1, fd1, F1, m1, b1⟩ := FMX_Streams_check_new.ex
    have rep : Reps K H [.ref a, .str k, .ref t] [oD CS g hs ks n, .str k, d3 x] := .cons (.ext ⟨dx, b, c, ha, hb, hc⟩) (.cons (.str k) (.cons (Rep.tup' ht (.cons (.int _) (.cons (.int _) (.cons (.int _) .nil)))) .nil))
    refine any_go (any_cons (ps_expr (pe_meth (pv 0) TC.cl m1 F1 (hr.mono (by decide)) b1 .nil (body_cx.passes fun _ _ _ h => h) (pa_cons (pv 1) (pa_cons (pv 2) pa_nil)))) ⟨_, rfl, a, dx, _, rfl, ha, rfl, _, rfl, _, rfl, ?_⟩)
    refine new_no (mg := mg) rep hk s1 s2 s3 q fun q v0 H1 w1 => ?_
    have ha1 := w1 _ _ ha
    have hd1 := w1 _ _ hd
    have q1 := q H1 w1
    clear rep hb hc hd ht s1 s2 s3 q w1
    generalize hy : (if k = hotW then b else c) = y at hd1 q1
    have nay : a ≠ y := ne_of ha1 hd1 (by intro z; cases z)
    have pf : putF "spent" (V.int (n + 1)) (flds g b c n) = flds g b c (n + 1) := rfl
    refine any_cons (ps_set (i := 3) sc_Streams_put_in.nd rfl (Or.inl rfl) (pe_meth (pv 0) TC.cl MV_Streams_all_of FV_Streams_all_of (hr.mono (by decide)) BV_Streams_all_of .nil pass0 (pa_cons (pv 1) pa_nil))) ⟨_, rfl, a, dx, _, rfl, ha1, rfl, _, rfl, a, dx, b, c, g, n, k, rfl, ha1, ?_⟩
    rw [hy]
    refine any_cons (ps_fldaug (pv 0) pe_int in_add) ⟨_, rfl, a, CS, dx, _, _, rfl, ha1, TC.cl, TC.n_spent, fl_spent g b c n, n, 1, rfl, rfl, dx, _, ha1, (show 4 < 1000 by decide), ?_⟩
    rw [pf]
    refine any_cons (ps_dput (hu_of hr) (pv 3) (pe_fld (pv 0) rfl) (pv 2) rfl) ⟨_, rfl, _, rfl, _, rfl, a, CS, dx, _, _, rfl, upd_same, TC.cl, TC.n_spent, fl_spent g b c (n + 1), y, _, rfl, DPut.k (k := Sum.inl (n + 1)) (by rw [upd_ne nay.symm]; exact hd1) hl, ?_⟩
    exact any_one (ps_ret (pe_fld (pv 0) rfl)) ⟨_, rfl, a, CS, dx, _, _, rfl, (by rw [upd_ne nay]; exact upd_same), TC.cl, TC.n_spent, fl_spent g b c (n + 1), q1⟩
inductive PtP (k : Str) (cs : Cls) (CS : Addr) : List V → Hp → VK → XK → Prop
  | mk {H : Hp} {Q : VK} {E : XK} (a dx b c : Addr) (g n : Int) (hs ks : KV3) (x : S3) (es : List (Key × V)) (ha : H a = some (.ins CS dx (flds g b c n))) (hb : DkiAt H H b hs) (hc : DkiAt H H c ks) (hd : H (if k = hotW then b else c) = some (.dK es)) (hl : es.length < sizeLine) (s1 : Sm x.1) (s2 : Sm x.2.1) (s3 : Sm x.2.2)
      (q : PutR cs k x hs ks H E (∀ H1 t, Same H H1 → H t = none → H1 t = some (.tup [.int x.1, .int x.2.1, .int x.2.2]) → Q (.int (n + 1)) (upd (upd H1 a (.ins CS dx (flds g b c (n + 1)))) (if k = hotW then b else c) (.dK (putK es (Sum.inl (n + 1)) (.ref t)))))) : PtP k cs CS [.ref a, .int x.1, .int x.2.1, .int x.2.2] H Q E
def spPut (k : Str) (cs : Cls) (CS : Addr) : Sp := fun vs H Q E => PtP k cs CS vs H Q E
theorem put_go {k : Str} {H H1 : Hp} {Q : VK} {E : XK} {a dx b c t : Addr} {g n : Int} {hs ks : KV3} {x : S3} {es : List (Key × V)} (hk : k = hotW ∨ k = coldW) (s : Same H H1) (nt : H t = none) (et : H1 t = some (.tup [.int x.1, .int x.2.1, .int x.2.2])) (ha : H a = some (.ins CS dx (flds g b c n))) (hb : DkiAt H H b hs) (hc : DkiAt H H c ks)
    (hd : H (if k = hotW then b else c) = some (.dK es)) (hl : es.length < sizeLine) (s1 : Sm x.1) (s2 : Sm x.2.1) (s3 : Sm x.2.2)
    (q : PutR cs k x hs ks H E (∀ H1 t, Same H H1 → H t = none → H1 t = some (.tup [.int x.1, .int x.2.1, .int x.2.2]) → Q (.int (n + 1)) (upd (upd H1 a (.ins CS dx (flds g b c (n + 1)))) (if k = hotW then b else c) (.dK (putK es (Sum.inl (n + 1)) (.ref t)))))) : spPutIn cs CS [.ref a, .str k, .ref t] H1 Q E :=
  .mk a dx b c t g n hs ks k x es (s _ _ ha) (hb.mono s (s b)) (hc.mono s (s c)) (s _ _ hd) hl et hk s1 s2 s3 (q.mono s fun q H' s' => q H' t (s.trans s') nt (s' _ _ et))
theorem ok_Streams_put_hot (T : Blt mg) (TX : Errs K mg cs) (TC : ClsT K mg CS) {a_Streams_put_in : Addr} {fd_Streams_put_in : FuncData} (FV_Streams_put_in : FnOk P w K mg base (CXe P w) 4 a_Streams_put_in fd_Streams_put_in ["self", "kind", "stream"] (spPutIn cs CS)) (MV_Streams_put_in : Meth K CS "put_in" a_Streams_put_in) (BV_Streams_put_in : Binds K fd_Streams_put_in ["self", "kind", "stream"] []) (F : Fun K "put_hot" "Streams.put_hot" s_Streams_put_hot f fd) : FnOk P w K mg base (CXe P w) 5 f fd ["self", "start", "goal", "rate"] (spPut hotW cs CS) := by
  refine F.okX sc_Streams_put_hot (fun vs H Q E h => ?_) fun cdv A outer s H vs Q E hr h => ?_
  · cases (show PtP hotW cs CS vs H Q E from h)
    rfl
  · cases (show PtP hotW cs CS vs H Q E from h) with | mk a dx b c g n hs ks x es ha hb hc hd hl s1 s2 s3 q =>
    refine ⟨_, pss_one (ps_ret (pe_meth (pv 0) TC.cl MV_Streams_put_in FV_Streams_put_in (hr.mono (by decide)) BV_Streams_put_in .nil (body_cx.passes fun _ _ _ h => h) (pa_cons pe_str (pa_cons (pe_tup (pa_cons (pv 1) (pa_cons (pv 2) (pa_cons (pv 3) pa_nil)))) pa_nil)))), ?_⟩
    refine ⟨_, rfl, a, dx, _, rfl, ha, rfl, _, rfl, _, rfl, _, rfl, (show 3 ≤ sizeLine by decide), fun t ht => ?_⟩
    exact put_go (.inl rfl) (same_new ht) ht upd_same ha hb hc hd hl s1 s2 s3 q
theorem ok_Streams_put_cold (T : Blt mg) (TX : Errs K mg cs) (TC : ClsT K mg CS) {a_Streams_put_in : Addr} {fd_Streams_put_in : FuncData} (FV_Streams_put_in : FnOk P w K mg base (CXe P w) 4 a_Streams_put_in fd_Streams_put_in ["self", "kind", "stream"] (spPutIn cs CS)) (MV_Streams_put_in : Meth K CS "put_in" a_Streams_put_in) (BV_Streams_put_in : Binds K fd_Streams_put_in ["self", "kind", "stream"] []) (F : Fun K "put_cold" "Streams.put_cold" s_Streams_put_cold f fd) : FnOk P w K mg base (CXe P w) 5 f fd ["self", "start", "goal", "rate"] (spPut coldW cs CS) := by
  refine F.okX sc_Streams_put_cold (fun vs H Q E h => ?_) fun cdv A outer s H vs Q E hr h => ?_
  · cases (show PtP coldW cs CS vs H Q E from h)
    rfl
  · cases (show PtP coldW cs CS vs H Q E from h) with | mk a dx b c g n hs ks x es ha hb hc hd hl s1 s2 s3 q =>
    refine ⟨_, pss_one (ps_ret (pe_meth (pv 0) TC.cl MV_Streams_put_in FV_Streams_put_in (hr.mono (by decide)) BV_Streams_put_in .nil (body_cx.passes fun _ _ _ h => h) (pa_cons pe_str (pa_cons (pe_tup (pa_cons (pv 1) (pa_cons (pv 2) (pa_cons (pv 3) pa_nil)))) pa_nil)))), ?_⟩
    refine ⟨_, rfl, a, dx, _, rfl, ha, rfl, _, rfl, _, rfl, _, rfl, (show 3 ≤ sizeLine by decide), fun t ht => ?_⟩
    exact put_go (.inr rfl) (same_new ht) ht upd_same ha hb hc hd hl s1 s2 s3 q
def spInit (CS : Addr) : Sp := fun vs H Q _ => ∃ (a dx : Addr) (g : Int), vs = [.ref a, .int g] ∧ H a = some (.ins CS dx []) ∧ ∀ b c, H b = none → H c = none → b ≠ c → Q .non (upd (upd (upd H b (.dK [])) c (.dK [])) a (.ins CS dx (flds g b c 0)))
theorem ok_Streams___init__ (T : Blt mg) (TX : Errs K mg cs) (TC : ClsT K mg CS) (F : Fun K "__init__" "Streams.__init__" s_Streams___init__ f fd) : FnOk P w K mg base CX0 1 f fd ["self", "gap"] (spInit CS) := by
  refine F.ok sc_Streams___init__ (fun vs H Q E h => ?_) fun cdv A outer s H vs Q E hr h => ?_
  · obtain ⟨a, dx, g, rfl, _⟩ := h
    rfl
  · obtain ⟨a, dx, g, rfl, ha, q⟩ := h
    refine ⟨_, pss_cons (ps_fld (pv 0) (pv 1) rfl) (pss_cons (ps_fld (pv 0) pe_dnewK rfl) (pss_cons (ps_fld (pv 0) pe_dnewK rfl) (pss_one (ps_fld (pv 0) pe_int rfl)))), ?_⟩
    refine ⟨_, rfl, _, rfl, a, CS, dx, [], rfl, ha, TC.cl, TC.n_gap, (show 0 < 1000 by decide), fun b hb => ?_⟩
    have nab : a ≠ b := fun z => by rw [← z, upd_same] at hb; cases hb
    rw [upd_ne nab.symm] at hb
    refine ⟨_, rfl, a, CS, dx, putF "gap" (V.int g) [], rfl, (by rw [upd_ne nab]; exact upd_same), TC.cl, TC.n_hots, (show 1 < 1000 by decide), fun c hc => ?_⟩
    have nac : a ≠ c := fun z => by rw [← z, upd_same] at hc; cases hc
    rw [upd_ne nac.symm] at hc
    have nbc : b ≠ c := fun z => by rw [← z, upd_same] at hc; cases hc
    rw [upd_ne nbc.symm, upd_ne nac.symm] at hc
    refine ⟨_, rfl, a, CS, dx, putF "hots" (V.ref b) (putF "gap" (V.int g) []), rfl, (by rw [upd_ne nac]; exact upd_same), TC.cl, TC.n_colds, (show 2 < 1000 by decide), ?_⟩
    refine ⟨_, rfl, a, CS, dx, _, rfl, upd_same, TC.cl, TC.n_spent, (show 3 < 1000 by decide), ?_⟩
    have e : ∀ f1 f2 f3 f4 : HO, upd (upd (upd (upd (upd (upd H a f1) b (.dK [])) a f2) c (.dK [])) a f3) a f4 = upd (upd (upd H b (.dK [])) c (.dK [])) a f4 := by
      intro f1 f2 f3 f4
      funext y
      by_cases ya : y = a
      · subst ya; rw [upd_same, upd_same]
      · rw [upd_ne ya, upd_ne ya, upd_ne ya]
        by_cases yc : y = c
        · subst yc; rw [upd_same, upd_same]
        · rw [upd_ne yc, upd_ne yc, upd_ne ya]
          by_cases yb : y = b
          · subst yb; rw [upd_same, upd_same]
          · rw [upd_ne yb, upd_ne ya, upd_ne yb]
    show Q V.non _
    rw [e]
    exact q b c hb hc nbc
def spOut (cs : Cls) (CS : Addr) : Sp := fun vs H Q E => ∃ (a dx b c : Addr) (g n i : Int) (hs ks : KV3), vs = [.ref a, .int i] ∧ H a = some (.ins CS dx (flds g b c n)) ∧ DkiAt H H b hs ∧ DkiAt H H c ks ∧ Sm i ∧
  if hasK hs i = true then ∃ es v, H b = some (.dK es) ∧ valV es (Sum.inl i) = some v ∧ Q v (upd H b (.dK (dropK es (Sum.inl i)))) else if hasK ks i = true then ∃ es v, H c = some (.dK es) ∧ valV es (Sum.inl i) = some v ∧ Q v (upd H c (.dK (dropK es (Sum.inl i)))) else ∀ H', Same H H' → E (.ref cs.NoStream) none H'
theorem ok_Streams_take_out (T : Blt mg) (TX : Errs K mg cs) (TC : ClsT K mg CS) {a_Streams_home_of : Addr} {fd_Streams_home_of : FuncData} (FV_Streams_home_of : FnOk P w K mg base (CXe P w) 1 a_Streams_home_of fd_Streams_home_of ["self", "number"] (spHome cs CS)) (MV_Streams_home_of : Meth K CS "home_of" a_Streams_home_of) (BV_Streams_home_of : Binds K fd_Streams_home_of ["self", "number"] []) (F : Fun K "take_out" "Streams.take_out" s_Streams_take_out f fd) : FnOk P w K mg base (CXe P w) 2 f fd ["self", "number"] (spOut cs CS) := by
  refine F.okX sc_Streams_take_out (fun vs H Q E h => ?_) fun cdv A outer s H vs Q E hr h => ?_
  · obtain ⟨a, dx, b, c, g, n, i, hs, ks, rfl, _⟩ := h
    rfl
  · obtain ⟨a, dx, b, c, g, n, i, hs, ks, rfl, ha, hb, hc, hi, q⟩ := h
    refine any_go (any_cons (ps_set (i := 2) sc_Streams_take_out.nd rfl (Or.inl rfl) (pe_meth (pv 0) TC.cl MV_Streams_home_of FV_Streams_home_of (hr.mono (by decide)) BV_Streams_home_of .nil (body_cx.passes fun _ _ _ h => h) (pa_cons (pv 1) pa_nil))) ?_)
    refine ⟨_, rfl, a, dx, _, rfl, ha, rfl, _, rfl, a, dx, b, c, g, n, i, hs, ks, rfl, ha, hb, hc, hi, ?_⟩
    by_cases f1 : hasK hs i = true
    · rw [if_pos f1] at q ⊢
      obtain ⟨es, v, e1, e2, q⟩ := q
      exact any_one (ps_ret (pe_dpop1 (pv 2) (pv 1) ⟨rfl, rfl, rfl, rfl⟩)) ⟨_, rfl, b, rfl, .inl ⟨_, .inl e1⟩, _, rfl, es, Sum.inl i, v, e1, rfl, e2, q⟩
    rw [if_neg f1] at q ⊢
    by_cases f2 : hasK ks i = true
    · rw [if_pos f2] at q ⊢
      obtain ⟨es, v, e1, e2, q⟩ := q
      exact any_one (ps_ret (pe_dpop1 (pv 2) (pv 1) ⟨rfl, rfl, rfl, rfl⟩)) ⟨_, rfl, c, rfl, .inl ⟨_, .inl e1⟩, _, rfl, es, Sum.inl i, v, e1, rfl, e2, q⟩
    rw [if_neg f2] at q ⊢
    exact q
def cellF (ns : List Int) (k : Int) : Int := if k < ns.length then ns.getD k.toNat 0 else 0
def r_law_cell_at : DR := fun ds P => ∃ (ns : List Int) (k : Int), ds = [.scr ns, .int k] ∧ 0 ≤ k ∧ P (.p (.int (cellF ns k)))
theorem ok_law_cell_at (T : Blt mg) (TX : Errs K mg cs) (TC : ClsT K mg CS) (F : Fun K "_law_cell_at" "_law_cell_at" s_law_cell_at f fd) : FnOk P w K mg base CX0 1 f fd ["script", "k"] (spD K r_law_cell_at) := by
  refine okD F sc_law_cell_at (fun ds Q h => by obtain ⟨ns, k, rfl, k0, q⟩ := h; rfl) fun cdv A outer s H E hr => ⟨_, (dss_cons (ds_if (dt_cmp od_lt (dv 1) (de_callB cd_len (by rfl) T.b_len PySem.boot_len (da_cons (dv 0) da_nil)) (nomark _)) (dss_one (ds_ret (de_ix (dv 0) (dv 1)))) dss_nil)
      (dss_one (ds_ret de_int))), fun ds Q h => ?_⟩
  obtain ⟨ns, k, rfl, k0, q⟩ := h
  obtain ⟨n, rfl⟩ : ∃ n : Nat, k = (n : Nat) := ⟨k.toNat, by lia⟩
  walk_at "rs"
  unfold cellF at q
  refine ⟨fun z => ?_, fun z => ?_⟩
  · have hz := of_decide_eq_true z
    rw [if_pos hz] at q
    have e := List.getElem?_eq_getElem (l := ns) (i := n) (by lia)
    refine ⟨ns.getD n 0, ?_, q⟩
    rw [List.getD_eq_getElem?_getD, e]
    exact atI_nat e
  · rw [if_neg (of_decide_eq_false z)] at q
    exact q
def Nums (hs : KV3) (n : Int) : Prop := (hs.map (·.1)).Nodup ∧ ∀ p ∈ hs, 1 ≤ p.1 ∧ p.1 ≤ n
structure Ob (CS : Addr) (H : Hp) (a dx b c : Addr) (g n : Int) (hs ks : KV3) : Prop where
  ne : b ≠ c
  ia : H a = some (.ins CS dx (flds g b c n))
  hb : DkiAt H H b hs
  hc : DkiAt H H c ks
  n0 : 0 ≤ n
  nh : Nums hs n
  nk : Nums ks n
  dj : ∀ p ∈ hs, ∀ r ∈ ks, p.1 ≠ r.1
def Kept (ex : List Addr) (H H' : Hp) : Prop := ∀ y o, H y = some o → y ∉ ex → H' y = some o
theorem Kept.trans {ex : List Addr} {H H' H2 : Hp} (h : Kept ex H H') (h' : Kept ex H' H2) : Kept ex H H2 := fun y o e n => h' y o (h y o e n) n
theorem Kept.of {ex : List Addr} {H H' : Hp} (h : Same H H') : Kept ex H H' := fun y o e _ => h y o e
section
variable {H H1 H2 : Hp} {a dx b c : Addr} {g n : Int} {hs ks : KV3}
theorem Ob.mono (O : Ob CS H a dx b c g n hs ks) (s : Same H H1) : Ob CS H1 a dx b c g n hs ks :=
  ⟨O.ne, s _ _ O.ia, O.hb.mono s (s b), O.hc.mono s (s c), O.n0, O.nh, O.nk, O.dj⟩
theorem Ob.rep (O : Ob CS H a dx b c g n hs ks) : Rep K H (.ref a) (oD CS g hs ks n) := .ext ⟨dx, b, c, O.ia, O.hb, O.hc⟩
theorem Ob.abc (O : Ob CS H a dx b c g n hs ks) : a ≠ b ∧ a ≠ c := by
  obtain ⟨eb, xb, pb⟩ := O.hb
  obtain ⟨ec, xc, pc⟩ := O.hc
  exact ⟨ne_of O.ia xb (by intro z; cases z), ne_of O.ia xc (by intro z; cases z)⟩
theorem Ob.lst (O : Ob CS H a dx b c g n hs ks) {y : Addr} {xs : List V} (e : H y = some (.lst xs)) : y ∉ [a, b, c] := by
  obtain ⟨eb, xb, pb⟩ := O.hb
  obtain ⟨ec, xc, pc⟩ := O.hc
  intro m
  rcases List.mem_cons.mp m with rfl | m
  · rw [O.ia] at e; cases e
  rcases List.mem_cons.mp m with rfl | m
  · rw [xb] at e; cases e
  rcases List.mem_cons.mp m with rfl | m
  · rw [xc] at e; cases e
  · cases m
theorem Ob.tup (O : Ob CS H a dx b c g n hs ks) {y : Addr} {xs : List V} (e : H y = some (.tup xs)) : y ∉ [a, b, c] := by
  obtain ⟨eb, xb, pb⟩ := O.hb
  obtain ⟨ec, xc, pc⟩ := O.hc
  intro m
  rcases List.mem_cons.mp m with rfl | m
  · rw [O.ia] at e; cases e
  rcases List.mem_cons.mp m with rfl | m
  · rw [xb] at e; cases e
  rcases List.mem_cons.mp m with rfl | m
  · rw [xc] at e; cases e
  · cases m
theorem dki_on {y : Addr} {l : KV3} (h : DkiAt H H y l) (kb : ∀ o, H y = some o → H2 y = some o) (kt : ∀ t xs, H t = some (.tup xs) → H2 t = some (.tup xs)) : DkiAt H2 H2 y l := by
  obtain ⟨es, e, p⟩ := h
  exact ⟨es, kb _ e, Paired.imp' (by rintro _ _ ⟨h1, t, h2, h3⟩;exact ⟨h1, t, h2, kt _ _ h3⟩) p⟩
def putH (k : Str) (hs : KV3) (n : Int) (x : S3) : KV3 := if k = hotW then hs ++ [(n, x)] else hs
def putC (k : Str) (ks : KV3) (n : Int) (x : S3) : KV3 := if k = hotW then ks else ks ++ [(n, x)]
theorem Nums.more {l : KV3} (h : Nums l n) : Nums l (n + 1) := ⟨h.1, fun p hp => ⟨(h.2 p hp).1, by have := (h.2 p hp).2; lia⟩⟩
theorem Nums.snoc {l : KV3} {x : S3} (h : Nums l n) (n0 : 0 ≤ n) : Nums (l ++ [(n + 1, x)]) (n + 1) := by
  refine ⟨?_, fun p hp => ?_⟩
  · rw [List.map_append, List.nodup_append]
    refine ⟨h.1, by simp, fun p hp r hr z => ?_⟩
    obtain ⟨q, hq, rfl⟩ := List.mem_map.mp hp
    have := (h.2 q hq).2
    simp at hr
    lia
  · rcases List.mem_append.mp hp with hp | hp
    · exact h.more.2 p hp
    · rw [List.mem_singleton.mp hp]
      exact ⟨by show 1 ≤ n + 1; lia, Int.le_refl _⟩
theorem Nums.no {l : KV3} (h : Nums l n) : hasK l (n + 1) = false := by
  unfold hasK
  refine decide_eq_false fun m => ?_
  obtain ⟨p, hp, e⟩ := List.mem_map.mp m
  have := (h.2 p hp).2
  lia
theorem snoc_at {y t : Addr} {l : KV3} {x : S3} {es : List (Key × V)} (p : Paired (E3 H) es l) (kt : ∀ t xs, H t = some (.tup xs) → H2 t = some (.tup xs)) (no : hasK l (n + 1) = false) (et : H2 t = some (.tup [.int x.1, .int x.2.1, .int x.2.2])) (e : H2 y = some (.dK (putK es (Sum.inl (n + 1)) (.ref t)))) : DkiAt H2 H2 y (l ++ [(n + 1, x)]) := by
  have nv : valV es (Sum.inl (n + 1)) = none := by
    have := valV_has (n + 1) p
    rw [no] at this
    exact Option.not_isSome_iff_eq_none.mp (by rw [this]; decide)
  rw [putK_new _ nv] at e
  exact ⟨_, e, Paired.snoc (Paired.imp' (by rintro _ _ ⟨h1, t, h2, h3⟩;exact ⟨h1, t, h2, kt _ _ h3⟩) p) ⟨rfl, t, rfl, et⟩⟩
theorem put_yes {k : Str} {x : S3} {E : XK} {Q : VK} (O : Ob CS H a dx b c g n hs ks) (hk : k = hotW ∨ k = coldW) (nh : hs.length ≤ 12) (nk : ks.length ≤ 12) (f1 : (allOf k hs ks).length < 12) (f2 : badS k x = 0) (h1 : Sm x.1) (h2 : Sm x.2.1) (h3 : Sm x.2.2)
    (q : ∀ H2, Ob CS H2 a dx b c g (n + 1) (putH k hs (n + 1) x) (putC k ks (n + 1) x) → Kept [a, b, c] H H2 → Q (.int (n + 1)) H2) : spPut k cs CS [.ref a, .int x.1, .int x.2.1, .int x.2.2] H Q E := by
  obtain ⟨nab, nac⟩ := O.abc
  obtain ⟨eb, xb, pb⟩ := id O.hb
  obtain ⟨ec, xc, pc⟩ := id O.hc
  have lb : eb.length ≤ 12 := by rw [Paired.length pb]; exact nh
  have lc : ec.length ≤ 12 := by rw [Paired.length pc]; exact nk
  rcases hk with rfl | rfl
  · refine .mk a dx b c g n hs ks x eb O.ia O.hb O.hc (by rw [if_pos rfl]; exact xb) (lt1000 (Nat.le_trans lb (by decide))) h1 h2 h3 ?_
    refine PutQ.of (.ok (by lia) (by rw [f2]; decide) (by rw [f2]; decide) fun H1 t s nt et => ?_)
    rw [if_pos rfl]
    have kt : ∀ (y : Addr) (o : HO), H1 y = some o → y ≠ a → y ≠ b → (upd (upd H1 a (.ins CS dx (flds g b c (n + 1)))) b (.dK (putK eb (Sum.inl (n + 1)) (.ref t)))) y = some o := fun y o e z1 z2 => by
      rw [upd_ne z2, upd_ne z1]; exact e
    have tb : ∀ y xs, H1 y = some (.tup xs) → (upd (upd H1 a (.ins CS dx (flds g b c (n + 1)))) b (.dK (putK eb (Sum.inl (n + 1)) (.ref t)))) y = some (.tup xs) := fun y xs e =>
      kt y _ e (ne_of e (s _ _ O.ia) (by intro z; cases z)) (ne_of e (s _ _ xb) (by intro z; cases z))
    refine q _ ⟨O.ne, by rw [upd_ne nab]; exact upd_same, ?_, ?_, by have := O.n0; lia, ?_, ?_, ?_⟩ fun y o e m => kt y o (s _ _ e) (fun z => m (by simp [z])) fun z => m (by simp [z])
    · unfold putH
      rw [if_pos rfl]
      exact snoc_at pb (fun y xs e => tb y xs (s _ _ e)) O.nh.no (tb _ _ et) upd_same
    · unfold putC
      rw [if_pos rfl]
      exact dki_on (O.hc.mono s (s c)) (fun o e => kt c o e (Ne.symm nac) (Ne.symm O.ne)) tb
    · unfold putH
      rw [if_pos rfl]
      exact O.nh.snoc O.n0
    · unfold putC
      rw [if_pos rfl]
      exact O.nk.more
    · unfold putH putC
      rw [if_pos rfl, if_pos rfl]
      intro p hp r hr
      rcases List.mem_append.mp hp with hp | hp
      · exact O.dj p hp r hr
      · rw [List.mem_singleton.mp hp]
        have := (O.nk.2 r hr).2
        show n + 1 ≠ r.1
        lia
  · have ch : ¬ coldW = hotW := ch_ne
    refine .mk a dx b c g n hs ks x ec O.ia O.hb O.hc (by rw [if_neg ch]; exact xc) (lt1000 (Nat.le_trans lc (by decide))) h1 h2 h3 ?_
    refine PutQ.of (.ok (by lia) (by rw [f2]; decide) (by rw [f2]; decide) fun H1 t s nt et => ?_)
    rw [if_neg ch]
    have kt : ∀ (y : Addr) (o : HO), H1 y = some o → y ≠ a → y ≠ c → (upd (upd H1 a (.ins CS dx (flds g b c (n + 1)))) c (.dK (putK ec (Sum.inl (n + 1)) (.ref t)))) y = some o := fun y o e z1 z2 => by
      rw [upd_ne z2, upd_ne z1]; exact e
    have tb : ∀ y xs, H1 y = some (.tup xs) → (upd (upd H1 a (.ins CS dx (flds g b c (n + 1)))) c (.dK (putK ec (Sum.inl (n + 1)) (.ref t)))) y = some (.tup xs) := fun y xs e =>
      kt y _ e (ne_of e (s _ _ O.ia) (by intro z; cases z)) (ne_of e (s _ _ xc) (by intro z; cases z))
    refine q _ ⟨O.ne, by rw [upd_ne nac]; exact upd_same, ?_, ?_, by have := O.n0; lia, ?_, ?_, ?_⟩ fun y o e m => kt y o (s _ _ e) (fun z => m (by simp [z])) fun z => m (by simp [z])
    · unfold putH
      rw [if_neg ch]
      exact dki_on (O.hb.mono s (s b)) (fun o e => kt b o e (Ne.symm nab) O.ne) tb
    · unfold putC
      rw [if_neg ch]
      exact snoc_at pc (fun y xs e => tb y xs (s _ _ e)) O.nk.no (tb _ _ et) upd_same
    · unfold putH
      rw [if_neg ch]
      exact O.nh.more
    · unfold putC
      rw [if_neg ch]
      exact O.nk.snoc O.n0
    · unfold putH putC
      rw [if_neg ch, if_neg ch]
      intro p hp r hr
      rcases List.mem_append.mp hr with hr | hr
      · exact O.dj p hp r hr
      · rw [List.mem_singleton.mp hr]
        have := (O.nh.2 p hp).2
        show p.1 ≠ n + 1
        lia
def dropL (l : KV3) (i : Int) : KV3 := l.filter fun p => decide (p.1 ≠ i)
theorem dropL_no {l : KV3} {i : Int} (h : hasK l i = false) : dropL l i = l := by
  unfold dropL
  refine List.filter_eq_self.mpr fun p hp => decide_eq_true fun z => ?_
  exact of_decide_eq_false h (List.mem_map.mpr ⟨p, hp, z⟩)
theorem Nums.drop {l : KV3} (h : Nums l n) (i : Int) : Nums (dropL l i) n := ⟨List.Nodup.sublist (List.Sublist.map _ List.filter_sublist) h.1, fun p hp => h.2 p (List.mem_filter.mp hp).1⟩
theorem drop_pair {G : Hp} {l : KV3} {es : List (Key × V)} (i : Int) (p : Paired (E3 G) es l) : Paired (E3 G) (dropK es (Sum.inl i)) (dropL l i) := by
  induction p with
  | nil => exact .nil
  | @cons x y r r' f _ ih =>
    by_cases e : y.1 = i
    · rw [dropK_pos (by rw [f.1, e])]
      unfold dropL
      rw [List.filter_cons_of_neg (by simp [e])]
      exact ih
    · rw [dropK_neg (by rw [f.1]; intro z; exact e (Sum.inl.inj z))]
      unfold dropL
      rw [List.filter_cons_of_pos (by simp [e])]
      exact .cons f ih
theorem find_pair {G : Hp} {l : KV3} {es : List (Key × V)} {i : Int} (p : Paired (E3 G) es l) (h : hasK l i = true) : ∃ t x, valV es (Sum.inl i) = some (.ref t) ∧ (i, x) ∈ l ∧ G t = some (.tup [.int x.1, .int x.2.1, .int x.2.2]) := by
  induction p with
  | nil => cases h
  | @cons x y r r' f _ ih =>
    by_cases e : y.1 = i
    · obtain ⟨f1, t, f2, f3⟩ := f
      exact ⟨t, y.2, by rw [valV_pos (by rw [f1, e]), f2], by rw [← e]; exact List.mem_cons_self, f3⟩
    · have h' : hasK r' i = true := by
        unfold hasK at h ⊢
        refine decide_eq_true ?_
        have := of_decide_eq_true h
        rw [List.map_cons, List.mem_cons] at this
        exact this.resolve_left fun z => e z.symm
      obtain ⟨t, z, h1, h2, h3⟩ := ih h'
      exact ⟨t, z, by rw [valV_neg (by rw [f.1]; intro w; exact e (Sum.inl.inj w))]; exact h1, List.mem_cons_of_mem _ h2, h3⟩
theorem out_yes {i : Int} {E : XK} {Q : VK} (O : Ob CS H a dx b c g n hs ks) (hi : Sm i) (h : hasK hs i = true ∨ hasK ks i = true)
    (q : ∀ t x H2, ((i, x) ∈ hs ∨ (i, x) ∈ ks) → H2 t = some (.tup [.int x.1, .int x.2.1, .int x.2.2]) → Ob CS H2 a dx b c g n (dropL hs i) (dropL ks i) → Kept [a, b, c] H H2 → Q (.ref t) H2) : spOut cs CS [.ref a, .int i] H Q E := by
  obtain ⟨nab, nac⟩ := O.abc
  obtain ⟨eb, xb, pb⟩ := id O.hb
  obtain ⟨ec, xc, pc⟩ := id O.hc
  refine ⟨a, dx, b, c, g, n, i, hs, ks, rfl, O.ia, O.hb, O.hc, hi, ?_⟩
  have dj' : ∀ p ∈ dropL hs i, ∀ r ∈ dropL ks i, p.1 ≠ r.1 := fun p hp r hr => O.dj p (List.mem_filter.mp hp).1 r (List.mem_filter.mp hr).1
  by_cases f1 : hasK hs i = true
  · rw [if_pos f1]
    obtain ⟨t, x, v1, v2, v3⟩ := find_pair pb f1
    have f2 : hasK ks i = false := by
      unfold hasK at f1 ⊢
      refine decide_eq_false fun m => ?_
      obtain ⟨p, hp, e⟩ := List.mem_map.mp (of_decide_eq_true f1)
      obtain ⟨r, hr, e'⟩ := List.mem_map.mp m
      exact O.dj p hp r hr (by rw [e, e'])
    have tb : ∀ y xs, H y = some (.tup xs) → (upd H b (.dK (dropK eb (Sum.inl i)))) y = some (.tup xs) := fun y xs e => by rw [upd_ne (ne_of e xb (by intro z; cases z))]; exact e
    refine ⟨eb, _, xb, v1, q t x _ (.inl v2) (tb _ _ v3) ⟨O.ne, by rw [upd_ne nab]; exact O.ia, ⟨_, upd_same, Paired.imp' (by rintro _ _ ⟨h1, t, h2, h3⟩;exact ⟨h1, t, h2, tb _ _ h3⟩) (drop_pair i pb)⟩, ?_, O.n0, O.nh.drop i, O.nk.drop i, dj'⟩ fun y o e m => by rw [upd_ne fun z => m (by simp [z])]; exact e⟩
    rw [dropL_no f2]
    exact dki_on O.hc (fun o e => by rw [upd_ne (Ne.symm O.ne)]; exact e) tb
  · have f2 := h.resolve_left f1
    rw [if_neg f1, if_pos f2]
    obtain ⟨t, x, v1, v2, v3⟩ := find_pair pc f2
    have tb : ∀ y xs, H y = some (.tup xs) → (upd H c (.dK (dropK ec (Sum.inl i)))) y = some (.tup xs) := fun y xs e => by rw [upd_ne (ne_of e xc (by intro z; cases z))]; exact e
    refine ⟨ec, _, xc, v1, q t x _ (.inr v2) (tb _ _ v3) ⟨O.ne, by rw [upd_ne nac]; exact O.ia, ?_, ⟨_, upd_same, Paired.imp' (by rintro _ _ ⟨h1, t, h2, h3⟩;exact ⟨h1, t, h2, tb _ _ h3⟩) (drop_pair i pc)⟩, O.n0, O.nh.drop i, O.nk.drop i, dj'⟩ fun y o e m => by rw [upd_ne fun z => m (by simp [z])]; exact e⟩
    rw [dropL_no (Bool.not_eq_true _ |>.mp f1)]
    exact dki_on O.hb (fun o e => by rw [upd_ne O.ne]; exact e) tb
end
theorem cE_val {t : DT} {σ : St} {H : Hp} {Q : VK} (ρ : DEnv) (d : D) (re : RepE K H σ ρ) (h : t ρ fun b => b = .p d) (k : ∀ v H', Same H H' → Rep K H' v d → Q v H') : cE K t σ H Q :=
  ⟨H, ρ, _, Same.refl _, re, h, fun b v H' G' e w r => by subst e; exact k v H' w.hh (Rep.mono w.gh r)⟩
theorem cE_int {t : DT} {σ : St} {H : Hp} {Q : VK} (ρ : DEnv) (i : Int) (re : RepE K H σ ρ) (h : t ρ fun b => b = .p (.int i)) (k : ∀ H', Same H H' → Q (.int i) H') : cE K t σ H Q :=
  cE_val ρ _ re h fun v H' s r => by cases r; exact k H' s
theorem repE_nil {G : Hp} {σ : St} : RepE K G σ [] := fun i d e => by cases e
theorem repE_cons {G : Hp} {σ : St} {ρ : DEnv} {v : V} {d : D} (r : Rep K G v d) (h : RepE K G σ ρ) : RepE K G (some v :: σ) (some (.p d) :: ρ) := fun i d' e => by
  cases i with
  | zero => cases e; exact ⟨v, rfl, r⟩
  | succ i =>
    obtain ⟨u, h1, h2⟩ := h i d' e
    exact ⟨u, by simpa using h1, h2⟩
theorem repE_skip {G : Hp} {σ : St} {ρ : DEnv} {o : Option V} (h : RepE K G σ ρ) : RepE K G (o :: σ) (none :: ρ) := fun i d' e => by
  cases i with
  | zero => cases e
  | succ i =>
    obtain ⟨u, h1, h2⟩ := h i d' e
    exact ⟨u, by simpa using h1, h2⟩
def clsAt (cs : Cls) (i : Nat) : Addr := if i = 0 then cs.Full else if i = 1 then cs.NoMeasure else if i = 2 then cs.WrongWay else cs.NoStream
def dueN (k : Str) (x : S3) (hs ks : KV3) : Nat := if 12 ≤ (allOf k hs ks).length then 0 else if badS k x = 1 then 1 else if badS k x = 2 then 2 else 9
theorem due_if {k : Str} {x : S3} {hs ks : KV3} {Z : Value → Prop} {W : Prop} (hd : dueN k x hs ks < 4) (hz : Z (.ref (clsAt cs (dueN k x hs ks)))) : if 12 ≤ (allOf k hs ks).length then Z (.ref cs.Full) else if badS k x = 1 then Z (.ref cs.NoMeasure) else if badS k x = 2 then Z (.ref cs.WrongWay) else W := by
  unfold dueN at hd hz
  by_cases f1 : 12 ≤ (allOf k hs ks).length
  · rw [if_pos f1] at hz ⊢; exact hz
  rw [if_neg f1] at hd hz ⊢
  by_cases f2 : badS k x = 1
  · rw [if_pos f2] at hz ⊢; exact hz
  rw [if_neg f2] at hd hz ⊢
  by_cases f3 : badS k x = 2
  · rw [if_pos f3] at hz ⊢; exact hz
  rw [if_neg f3] at hd
  exact absurd hd (by decide)
theorem due_if2 {k : Str} {x : S3} {hs ks : KV3} {H : Hp} {E : XK} {W : Prop} (hd : dueN k x hs ks < 4) (hz : ∀ H', Same H H' → E (.ref (clsAt cs (dueN k x hs ks))) none H') : if 12 ≤ (allOf k hs ks).length then ∀ H', Same H H' → E (.ref cs.Full) none H' else if badS k x = 1 then ∀ H', Same H H' → E (.ref cs.NoMeasure) none H' else if badS k x = 2 then ∀ H', Same H H' → E (.ref cs.WrongWay) none H' else W :=
  due_if (Z := fun cls => ∀ H', Same H H' → E cls none H') hd hz
theorem put_no {k : Str} {x : S3} {hs ks : KV3} {H : Hp} {E : XK} {Q : VK} {a dx b c : Addr} {g n : Int} (ha : H a = some (.ins CS dx (flds g b c n))) (hb : DkiAt H H b hs) (hc : DkiAt H H c ks) (nh : hs.length ≤ 12) (nk : ks.length ≤ 12) (h1 : Sm x.1) (h2 : Sm x.2.1) (h3 : Sm x.2.2) (hd : dueN k x hs ks < 4)
    (hz : ∀ H', Same H H' → E (.ref (clsAt cs (dueN k x hs ks))) none H') : spPut k cs CS [.ref a, .int x.1, .int x.2.1, .int x.2.2] H Q E := by
  obtain ⟨es, e, l⟩ : ∃ es : List (Key × V), H (if k = hotW then b else c) = some (.dK es) ∧ es.length ≤ 12 := by
    obtain ⟨e1, x1, p1⟩ := hb
    obtain ⟨e2, x2, p2⟩ := hc
    by_cases f : k = hotW
    · rw [if_pos f]; exact ⟨e1, x1, by rw [Paired.length p1]; exact nh⟩
    · rw [if_neg f]; exact ⟨e2, x2, by rw [Paired.length p2]; exact nk⟩
  exact .mk a dx b c g n hs ks x es ha hb hc e (lt1000 (Nat.le_trans l (by decide))) h1 h2 h3 (due_if2 hd hz)
theorem smK {i : Int} (h0 : -1000 ≤ i) (h1 : i ≤ 1000) : Sm i := by
  unfold Sm
  lia
structure Run (CS : Addr) (H0 H : Hp) (a dx b c : Addr) (g n : Int) (hs ks : KV3) : Prop where
  ob : Ob CS H a dx b c g n hs ks
  sm : Same H0 H
  na : H0 a = none
  nb : H0 b = none
  nc : H0 c = none
section
variable {H0 H H2 : Hp} {a dx b c : Addr} {g n n' : Int} {hs ks hs' ks' : KV3}
theorem Run.mono (R : Run CS H0 H a dx b c g n hs ks) (s : Same H H2) : Run CS H0 H2 a dx b c g n hs ks := ⟨R.ob.mono s, R.sm.trans s, R.na, R.nb, R.nc⟩
theorem Run.upd (R : Run CS H0 H a dx b c g n hs ks) {y : Addr} {o : HO} (n0 : H0 y = none) (m : y ∉ [a, b, c]) (nt : ∀ xs, H y ≠ some (.tup xs)) : Run CS H0 (upd H y o) a dx b c g n hs ks := by
  have ka : a ≠ y := fun z => m (by simp [z])
  have kb : b ≠ y := fun z => m (by simp [z])
  have kc : c ≠ y := fun z => m (by simp [z])
  have kt : ∀ t xs, H t = some (.tup xs) → L2.upd H y o t = some (.tup xs) := fun t xs e => by
    rw [upd_ne fun z => nt xs (by rw [← z]; exact e)]; exact e
  exact ⟨⟨R.ob.ne, by rw [upd_ne ka]; exact R.ob.ia, dki_on R.ob.hb (fun o e => by rw [upd_ne kb]; exact e) kt, dki_on R.ob.hc (fun o e => by rw [upd_ne kc]; exact e) kt, R.ob.n0, R.ob.nh, R.ob.nk, R.ob.dj⟩, R.sm.upd n0, R.na, R.nb, R.nc⟩
end
theorem run_new {H H1 : Hp} {x dx b c : Addr} {g : Int} {o1 o2 : HO} (s : Same H H1) (hx : H1 x = none) (hd : H1 dx = none) (hb : (upd (upd H1 dx o1) x o2) b = none) (hc : (upd (upd H1 dx o1) x o2) c = none) (ne : b ≠ c) :
    Run CS H (upd (upd (upd (upd (upd H1 dx o1) x o2) b (.dK [])) c (.dK [])) x (.ins CS dx (flds g b c 0))) x dx b c g 0 [] [] := by
  have xb : b ≠ x := fun z => by rw [z, upd_same] at hb; cases hb
  have xc : c ≠ x := fun z => by rw [z, upd_same] at hc; cases hc
  rw [upd_ne xb] at hb
  rw [upd_ne xc] at hc
  have db : b ≠ dx := fun z => by rw [z, upd_same] at hb; cases hb
  have dc : c ≠ dx := fun z => by rw [z, upd_same] at hc; cases hc
  rw [upd_ne db] at hb
  rw [upd_ne dc] at hc
  refine ⟨⟨ne, upd_same, ⟨[], by rw [upd_ne xb, upd_ne ne]; exact upd_same, .nil⟩, ⟨[], by rw [upd_ne xc]; exact upd_same, .nil⟩, Int.le_refl _, ⟨.nil, fun _ h => (nomatch h)⟩, ⟨.nil, fun _ h => (nomatch h)⟩, fun _ h => (nomatch h)⟩, fun y o e => ?_, s.free hx, s.free hb, s.free hc⟩
  have e1 := s _ _ e
  rw [upd_ne (ne_of_none e1 hx), upd_ne (ne_of_none e1 hc), upd_ne (ne_of_none e1 hb), upd_ne (ne_of_none e1 hx), upd_ne (ne_of_none e1 hd)]
  exact e1
theorem cutV {t u : TS} {D : Ends} {σ : St} {H : Hp} (C : St → Hp → Prop) (tail : ∀ σ H, C σ H → u D σ H) (head : ∀ N : St → Hp → Prop, (∀ σ H, C σ H → N σ H) → t { D with nx := N } σ H) : tSeq t u D σ H := head _ tail
theorem cutT {t1 u : DTS} {E : DEnds} {ρ : DEnv} (C : DEnv → Prop) (tail : ∀ ρ, C ρ → u E ρ) (head : ∀ N : DEnv → Prop, (∀ ρ, C ρ → N ρ) → t1 { E with nx := N } ρ) : dSeq t1 u E ρ := head _ tail
theorem stir_mod (c k m : Int) (hm : 0 < m) : 0 ≤ stirX c k % m ∧ stirX c k % m < m := ⟨Int.emod_nonneg _ (by lia), Int.emod_lt_of_pos _ hm⟩
theorem sm_of {n : Int} (h0 : -(10 ^ 39) ≤ n) (h1 : n ≤ 10 ^ 39) : Sm n := by
  unfold Sm
  lia
theorem mulRr {i j : Int} (h : -(2 ^ 64) < j ∧ j < 2 ^ 64) : CMul i j := .inr h
theorem rep3 {G : Hp} {v : V} {x : S3} (r : Rep K G v (d3 x)) : ∃ t, v = .ref t ∧ G t = some (.tup [.int x.1, .int x.2.1, .int x.2.2]) := by
  obtain ⟨t, vs, rfl, e, rr⟩ := Rep.tup_st r
  obtain rfl := reps_ints (ns := [x.1, x.2.1, x.2.2]) rr
  exact ⟨t, rfl, e⟩
theorem rep_3 {G : Hp} {t : Addr} {x : S3} (e : G t = some (.tup [.int x.1, .int x.2.1, .int x.2.2])) : Rep K G (.ref t) (d3 x) := Rep.tup' e (.cons (.int _) (.cons (.int _) (.cons (.int _) .nil)))
def Rg (lo hi v : Int) : Prop := lo ≤ v ∧ v ≤ hi
def r_law_stream : DR := fun ds Q => ∃ (c b : Int), ds = [.int c, .int b] ∧ 0 ≤ b ∧ b < 200 ∧ ∀ l h r, Rg 0 200 l → Rg 0 200 h → Rg 1 1000000000 r → Q (.o (.lst [.int l, .int h, .int r]))
theorem ix2r {a b i lo hi : Int} (h0 : 0 ≤ i) (h1 : i < 2) (ha : Rg lo hi a) (hb : Rg lo hi b) : ∃ v : Int, atI [D.int a, .int b] i = some (.int v) ∧ Rg lo hi v := by
  obtain rfl | rfl : i = 0 ∨ i = 1 := by lia
  · exact ⟨a, rfl, ha⟩
  · exact ⟨b, rfl, hb⟩
theorem ix3r {a b c i lo hi : Int} (h0 : 0 ≤ i) (h1 : i < 3) (ha : Rg lo hi a) (hb : Rg lo hi b) (hc : Rg lo hi c) : ∃ v : Int, atI [D.int a, .int b, .int c] i = some (.int v) ∧ Rg lo hi v := by
  obtain rfl | rfl | rfl : i = 0 ∨ i = 1 ∨ i = 2 := by lia
  · exact ⟨a, rfl, ha⟩
  · exact ⟨b, rfl, hb⟩
  · exact ⟨c, rfl, hc⟩
theorem ix4s {a b c d i lo hi : Int} (h0 : 0 ≤ i) (h1 : i < 4) (ha : Rg lo hi a) (hb : Rg lo hi b) (hc : Rg lo hi c) (hd : Rg lo hi d) : ∃ v : Int, atI [D.int a, .int b, .int c, .int d] i = some (.int v) ∧ Rg lo hi v := by
  obtain rfl | rfl | rfl | rfl : i = 0 ∨ i = 1 ∨ i = 2 ∨ i = 3 := by lia
  · exact ⟨a, rfl, ha⟩
  · exact ⟨b, rfl, hb⟩
  · exact ⟨c, rfl, hc⟩
  · exact ⟨d, rfl, hd⟩
def r_law_spoilt : DR := fun ds Q => ∃ (x : S3) (c : Int), ds = [.lst [.int x.1, .int x.2.1, .int x.2.2], .int c] ∧ Rg 0 200 x.1 ∧ Rg 0 200 x.2.1 ∧ Rg 1 1000000000 x.2.2 ∧ ∀ (y : S3) (b : B), Sm y.1 → Sm y.2.1 → Sm y.2.2 → b.val = .lst [.int y.1, .int y.2.1, .int y.2.2] → Q b
theorem ok_law_spoilt (T : Blt mg) (TX : Errs K mg cs) (TC : ClsT K mg CS) (F_law_stir : Fn P w K mg base "_law_stir" 1 ["cell", "k"] (spD K r_law_stir)) (F : Fun K "_law_spoilt" "_law_spoilt" s_law_spoilt f fd) : FnOk P w K mg base CX0 2 f fd ["ends", "cell"] (spD K r_law_spoilt) := by
  refine okD F sc_law_spoilt (fun ds Q h => by obtain ⟨x, c, rfl, h1, h2, h3, q⟩ := h; rfl) fun cdv A outer s H E hr => ⟨_, (dss_cons (ds_setP (i := 2) sc_law_spoilt.nd rfl (Or.inl rfl) (de_op od_mod (de_fn F_law_stir (hr.mono (by decide)) (by rfl) (da_cons (dv 1) (da_cons de_int da_nil))) de_int))
      (dss_cons (ds_if (dt_cmp od_ne (de_op od_mod (de_fn F_law_stir (hr.mono (by decide)) (by rfl) (da_cons (dv 1) (da_cons de_int da_nil))) de_int) de_int (nomark _)) (dss_one (ds_ret (dv 0))) dss_nil)
      (dss_cons (ds_if (dt_cmp od_eq (dv 2) de_int (nomark _)) (dss_one (ds_ret (de_lst (da_cons (de_ix (dv 0) de_int) (da_cons (de_ix (dv 0) de_int) (da_cons (de_ix (dv 0) de_int) da_nil)))))) dss_nil)
      (dss_cons (ds_if (dt_cmp od_eq (dv 2) de_int (nomark _)) (dss_one (ds_ret (de_lst (da_cons (de_ix (dv 0) de_int) (da_cons (de_ix (dv 0) de_int) (da_cons (de_ix (dv 0) de_int) da_nil)))))) dss_nil)
      (dss_cons (ds_if (dt_cmp od_eq (dv 2) de_int (nomark _)) (dss_one (ds_ret (de_lst (da_cons (de_op od_sub (de_op od_sub de_int de_int) (de_op od_mod (de_fn F_law_stir (hr.mono (by decide)) (by rfl) (da_cons (dv 1) (da_cons de_int da_nil))) de_int)) (da_cons (de_ix (dv 0) de_int) (da_cons (de_ix (dv 0) de_int) da_nil)))))) dss_nil)
      (dss_cons (ds_if (dt_cmp od_eq (dv 2) de_int (nomark _)) (dss_one (ds_ret (de_lst (da_cons (de_ix (dv 0) de_int) (da_cons (de_op od_plus de_int (de_op od_times (de_fn F_law_stir (hr.mono (by decide)) (by rfl) (da_cons (dv 1) (da_cons de_int da_nil))) (de_op od_pow de_int de_int))) (da_cons (de_ix (dv 0) de_int) da_nil)))))) dss_nil)
      (dss_one (ds_ret (de_lst (da_cons (de_ix (dv 0) de_int) (da_cons (de_ix (dv 0) de_int) (da_cons (de_ix (de_lst (da_cons de_int (da_cons (de_op od_plus (de_op od_pow de_int de_int) de_int) (da_cons (de_neg de_int) (da_cons (de_op od_pow de_int de_int) da_nil))))) (de_op od_mod (de_fn F_law_stir (hr.mono (by decide)) (by rfl) (da_cons (dv 1) (da_cons de_int da_nil))) de_int)) da_nil)))))))))))), fun ds Q h => ?_⟩
  obtain ⟨x, c, rfl, h1, h2, h3, q⟩ := h
  have a0 := stirX0 c 12
  have a1 := stirX1 c 12
  have s1 : Sm x.1 := sm_of (by have := h1.1; lia) (by have := h1.2; lia)
  have s2 : Sm x.2.1 := sm_of (by have := h2.1; lia) (by have := h2.2; lia)
  have s3 : Sm x.2.2 := sm_of (by have := h3.1; lia) (by have := h3.2; lia)
  repeat (first | dsimp only [r_law_stir] | walk_at "rs1" | walk_at "rsx")
  have e15 : (10 : Int) ^ Int.toNat 15 = 1000000000000000 := by decide
  have e9 : (10 : Int) ^ Int.toNat 9 = 1000000000 := by decide
  have e29 : (10 : Int) ^ Int.toNat 29 = 100000000000000000000000000000 := by decide
  rw [e15, e9, e29]
  have m5 := stir_mod c 12 5 (by decide)
  have m4 := stir_mod c 12 4 (by decide)
  obtain ⟨v, hv, v1⟩ := ix4s (lo := -5) (hi := 100000000000000000000000000000) (a := 0) (b := 1000000000 + 1) (c := -5) (d := 100000000000000000000000000000) m4.1 m4.2 ⟨by decide, by decide⟩ ⟨by decide, by decide⟩ ⟨by decide, by decide⟩ ⟨by decide, by decide⟩
  have sv : Sm v := sm_of (by have := v1.1; lia) (by have := v1.2; lia)
  refine ⟨by decide, by decide, fun _ => q x _ s1 s2 s3 rfl, fun _ => ⟨fun _ => q (x.2.1, x.1, x.2.2) _ s2 s1 s3 rfl, fun _ => ⟨fun _ => q (x.1, x.1, x.2.2) _ s1 s1 s3 rfl, fun _ => ⟨fun _ => ⟨by decide, q (0 - 1 - stirX c 12 % 5, x.2.1, x.2.2) _ (sm_of (by dsimp only; lia) (by dsimp only; lia)) s2 s3 rfl⟩, fun _ => ⟨fun _ => ⟨⟨by decide, by decide, by decide⟩, mulRr (by decide), q (x.1, 201 + stirX c 12 * 1000000000000000, x.2.2) _ s1 (sm_of (by dsimp only; lia) (by dsimp only; lia)) s3 rfl⟩, fun _ => ⟨⟨by decide, by decide, by decide⟩, ⟨by decide, by decide, by decide⟩, by decide, _, hv, q (x.1, x.2.1, v) _ s1 s2 sv rfl⟩⟩⟩⟩⟩⟩
theorem cT_go {t : DTT} {σ : St} {H : Hp} {Q : Bool → Hp → Prop} (ρ : DEnv) (b : Bool) (re : RepE K H σ ρ) (h : t ρ fun c => c = b) (k : ∀ H', Same H H' → Q b H') : cT K t σ H Q :=
  ⟨H, ρ, _, Same.refl _, re, h, fun c H' G' e w => by subst e; exact k H' w.hh⟩
def dueT (i : Nat) : Str := if i = 0 then "full" else if i = 1 then "measure" else "way"
theorem due3 {k : Str} {x : S3} {hs ks : KV3} (h : dueN k x hs ks < 4) : dueN k x hs ks < 3 := by
  unfold dueN at *
  by_cases f1 : 12 ≤ (allOf k hs ks).length
  · rw [if_pos f1]; decide
  rw [if_neg f1] at h ⊢
  by_cases f2 : badS k x = 1
  · rw [if_pos f2]; decide
  rw [if_neg f2] at h ⊢
  by_cases f3 : badS k x = 2
  · rw [if_pos f3]; decide
  rw [if_neg f3] at h
  exact absurd h (by decide)
set_option tactic.hygienic true in
theorem due_no {k : Str} {x : S3} {hs ks : KV3} (h : ¬ dueN k x hs ks < 4) : (allOf k hs ks).length < 12 ∧ badS k x = 0 := by
  unfold dueN at h
  by_cases f1 : 12 ≤ (allOf k hs ks).length
  · rw [if_pos f1] at h; exact absurd (by decide) h
  rw [if_neg f1] at h
  by_cases f2 : badS k x = 1
  · rw [if_pos f2] at h; exact absurd (by decide) h
  rw [if_neg f2] at h
  by_cases f3 : badS k x = 2
  · rw [if_pos f3] at h; exact absurd (by decide) h
  refine ⟨by lia, ?_⟩
  unfold badS at f2 f3 ⊢
  split
  · rename_i z; rw [if_pos z] at f2; exact absurd rfl f2
  · rename_i z
    rw [if_neg z] at f3
    split
    · rename_i y; rw [if_pos y] at f3; exact absurd rfl f3
    · rfl
inductive LpP (CS : Addr) : List V → Hp → VK → Prop
  | mk {H : Hp} {Q : VK} (a dx b c : Addr) (g n : Int) (hs ks : KV3) (k : Str) (x : S3) (O : Ob CS H a dx b c g n hs ks) (hk : k = hotW ∨ k = coldW) (nh : hs.length ≤ 12) (nk : ks.length ≤ 12) (s1 : Sm x.1) (s2 : Sm x.2.1) (s3 : Sm x.2.2) (q1 : dueN k x hs ks < 4 → ∀ H', Same H H' → Q (.str (dueT (dueN k x hs ks))) H')
      (q2 : ¬ dueN k x hs ks < 4 → ∀ H2, Ob CS H2 a dx b c g (n + 1) (putH k hs (n + 1) x) (putC k ks (n + 1) x) → Kept [a, b, c] H H2 → Q (.int (n + 1)) H2) : LpP CS [.ref a, .str k, .int x.1, .int x.2.1, .int x.2.2] H Q
def spLP (cs : Cls) (CS : Addr) : Sp := fun vs H Q _ => LpP CS vs H Q
inductive LpC (CS : Addr) (H : Hp) (a dx b c : Addr) (g n : Int) (hs ks : KV3) (k : Str) (x : S3) (s : V → St) : St → Hp → Prop
  | no {H2 : Hp} (d : dueN k x hs ks < 4) (s2 : Same H H2) : LpC CS H a dx b c g n hs ks k x s (s (.str (dueT (dueN k x hs ks)))) H2
  | yes {H2 : Hp} (d : ¬ dueN k x hs ks < 4) (O : Ob CS H2 a dx b c g (n + 1) (putH k hs (n + 1) x) (putC k ks (n + 1) x)) (k2 : Kept [a, b, c] H H2) : LpC CS H a dx b c g n hs ks k x s (s (.int (n + 1))) H2
theorem three_go (TX : Errs K mg cs) {i : Nat} {D : Ends} {σ : St} {H : Hp} (hi : i < 3) (q : D.nx (σ.set 5 (some (.str (dueT i)))) H) : tClause K (.ref cs.Full) (fun cls D σ H => ∀ ea : Addr, tAsg (tC (.str "full")) (gName 5) D σ H) (tClause K (.ref cs.NoMeasure) (fun cls D σ H => ∀ ea : Addr, tAsg (tC (.str "measure")) (gName 5) D σ H) (tClause K (.ref cs.WrongWay) (fun cls D σ H => ∀ ea : Addr, tAsg (tC (.str "way")) (gName 5) D σ H) (fun _ _ _ _ => False))) (.ref (clsAt cs i)) D σ H := by
  obtain rfl | rfl | rfl : i = 0 ∨ i = 1 ∨ i = 2 := by lia
  · exact ⟨true, TX.ex_Full_Full, iteT fun ea => q⟩
  · exact ⟨false, TX.ex_NoMeasure_Full, iteF ⟨true, TX.ex_NoMeasure_NoMeasure, iteT fun ea => q⟩⟩
  · exact ⟨false, TX.ex_WrongWay_Full, iteF ⟨false, TX.ex_WrongWay_NoMeasure, iteF ⟨true, TX.ex_WrongWay_WrongWay, iteT fun ea => q⟩⟩⟩
theorem ok_law_put (T : Blt mg) (TX : Errs K mg cs) (TC : ClsT K mg CS) {a_Streams_put_hot : Addr} {fd_Streams_put_hot : FuncData} (FV_Streams_put_hot : FnOk P w K mg base (CXe P w) 5 a_Streams_put_hot fd_Streams_put_hot ["self", "start", "goal", "rate"] (spPut hotW cs CS)) (MV_Streams_put_hot : Meth K CS "put_hot" a_Streams_put_hot) (BV_Streams_put_hot : Binds K fd_Streams_put_hot ["self", "start", "goal", "rate"] []) {a_Streams_put_cold : Addr} {fd_Streams_put_cold : FuncData} (FV_Streams_put_cold : FnOk P w K mg base (CXe P w) 5 a_Streams_put_cold fd_Streams_put_cold ["self", "start", "goal", "rate"] (spPut coldW cs CS)) (MV_Streams_put_cold : Meth K CS "put_cold" a_Streams_put_cold) (BV_Streams_put_cold : Binds K fd_Streams_put_cold ["self", "start", "goal", "rate"] []) (F : Fun K "_law_put" "_law_put" s_law_put f fd) : FnOk P w K mg base CX0 6 f fd ["streams", "kind", "start", "goal", "rate"] (spLP cs CS) := by
  refine FnOk.drop (F.okX sc_law_put (fun vs H Q E h => ?_) fun cdv A outer s H vs Q E hr h => ?_) fun _ _ _ _ h => h
  · cases (show LpP CS vs H Q from h)
    rfl
  · cases (show LpP CS vs H Q from h) with | mk a dx b c g n hs ks k x O hk nh nk s1 s2 s3 q1 q2 =>
    refine any_fun fun En eD => any_cons (ps_set (i := 5) sc_law_put.nd rfl (Or.inl rfl) pe_non) ?_
    rw [← eD] at q1 q2
    clear eD
    show tAny _ _ _ [some (.ref a), some (.str k), some (.int x.1), some (.int x.2.1), some (.int x.2.2), some .non] H
    refine any_cut (LpC CS H a dx b c g n hs ks k x fun v => [some (.ref a), some (.str k), some (.int x.1), some (.int x.2.1), some (.int x.2.2), some v]) (ps_try body_cx (tb_if (pt_cmpR op_eqK (pv 1) pe_str (nomark _)) (tb_set (i := 5) sc_law_put.nd rfl (Or.inl rfl) (ex_meth (pv 0) TC.cl MV_Streams_put_hot FV_Streams_put_hot (hr.mono (by decide)) BV_Streams_put_hot (pa_cons (pv 2) (pa_cons (pv 3) (pa_cons (pv 4) pa_nil))))) (tb_set (i := 5) sc_law_put.nd rfl (Or.inl rfl) (ex_meth (pv 0) TC.cl MV_Streams_put_cold FV_Streams_put_cold (hr.mono (by decide)) BV_Streams_put_cold (pa_cons (pv 2) (pa_cons (pv 3) (pa_cons (pv 4) pa_nil)))))) (ph_cons (by rfl) TX.x_Full.at_ (fun ea oe cls hcl => pss_one (ps_set (i := 5) sc_law_put.nd rfl (Or.inl rfl) pe_str)) (ph_cons (by rfl) TX.x_NoMeasure.at_ (fun ea oe cls hcl => pss_one (ps_set (i := 5) sc_law_put.nd rfl (Or.inl rfl) pe_str)) (ph_cons (by rfl) TX.x_WrongWay.at_ (fun ea oe cls hcl => pss_one (ps_set (i := 5) sc_law_put.nd rfl (Or.inl rfl) pe_str)) ph_nil)))) (fun N _ hN => ⟨_, rfl, rfl, _, rfl, ite2 (fun z2 => ?_) fun z2 => ?_⟩) fun σ H2 w => ?_
    · obtain rfl : k = hotW := V.str.inj (of_decide_eq_true z2)
      refine ⟨_, rfl, a, dx, _, rfl, O.ia, rfl, _, rfl, _, rfl, _, rfl, ?_⟩
      dsimp only [tCons, tC, tNil]
      by_cases f : dueN hotW x hs ks < 4
      · exact put_no O.ia O.hb O.hc nh nk s1 s2 s3 f fun H2 s2 => three_go TX (due3 f) (hN _ _ (.no f s2))
      · exact put_yes O hk nh nk (due_no f).1 (due_no f).2 s1 s2 s3 fun H2 O2 k2 => hN _ _ (.yes f O2 k2)
    · obtain rfl : k = coldW := hk.resolve_left fun z => z2 (decide_eq_true (congrArg V.str z))
      refine ⟨_, rfl, a, dx, _, rfl, O.ia, rfl, _, rfl, _, rfl, _, rfl, ?_⟩
      dsimp only [tCons, tC, tNil]
      by_cases f : dueN coldW x hs ks < 4
      · exact put_no O.ia O.hb O.hc nh nk s1 s2 s3 f fun H2 s2 => three_go TX (due3 f) (hN _ _ (.no f s2))
      · exact put_yes O hk nh nk (due_no f).1 (due_no f).2 s1 s2 s3 fun H2 O2 k2 => hN _ _ (.yes f O2 k2)
    · cases w with
      | no d s2 => exact any_one (ps_ret (pv 5)) ⟨_, rfl, q1 d H2 s2⟩
      | yes d O2 k2 => exact any_one (ps_ret (pv 5)) ⟨_, rfl, q2 d H2 O2 k2⟩
inductive LoP (CS : Addr) : List V → Hp → VK → Prop
  | mk {H : Hp} {Q : VK} (a dx b c : Addr) (g n i : Int) (hs ks : KV3) (O : Ob CS H a dx b c g n hs ks) (hi : Sm i) (q1 : hasK hs i = false → hasK ks i = false → ∀ H', Same H H' → Q .non H')
      (q2 : hasK hs i = true ∨ hasK ks i = true → ∀ t x H2, ((i, x) ∈ hs ∨ (i, x) ∈ ks) → H2 t = some (.tup [.int x.1, .int x.2.1, .int x.2.2]) → Ob CS H2 a dx b c g n (dropL hs i) (dropL ks i) → Kept [a, b, c] H H2 → Q (.ref t) H2) : LoP CS [.ref a, .int i] H Q
def spLO (cs : Cls) (CS : Addr) : Sp := fun vs H Q _ => LoP CS vs H Q
theorem ok_law_out (T : Blt mg) (TX : Errs K mg cs) (TC : ClsT K mg CS) {a_Streams_take_out : Addr} {fd_Streams_take_out : FuncData} (FV_Streams_take_out : FnOk P w K mg base (CXe P w) 2 a_Streams_take_out fd_Streams_take_out ["self", "number"] (spOut cs CS)) (MV_Streams_take_out : Meth K CS "take_out" a_Streams_take_out) (BV_Streams_take_out : Binds K fd_Streams_take_out ["self", "number"] []) (F : Fun K "_law_out" "_law_out" s_law_out f fd) : FnOk P w K mg base CX0 3 f fd ["streams", "number"] (spLO cs CS) := by
  refine FnOk.drop (F.okX sc_law_out (fun vs H Q E h => ?_) fun cdv A outer s H vs Q E hr h => ?_) fun _ _ _ _ h => h
  · cases (show LoP CS vs H Q from h)
    rfl
  · cases (show LoP CS vs H Q from h) with | mk a dx b c g n i hs ks O hi q1 q2 =>
    refine any_go (any_cons (ps_set (i := 2) sc_law_out.nd rfl (Or.inl rfl) pe_non) ?_)
    refine any_cons (ps_try body_cx (tb_set (i := 2) sc_law_out.nd rfl (Or.inl rfl) (ex_meth (pv 0) TC.cl MV_Streams_take_out FV_Streams_take_out (hr.mono (by decide)) BV_Streams_take_out (pa_cons (pv 1) pa_nil))) (ph_cons (by rfl) TX.x_NoStream.at_ (fun ea oe cls hcl => pss_one (ps_set (i := 2) sc_law_out.nd rfl (Or.inl rfl) pe_non)) ph_nil)) ⟨_, rfl, a, dx, _, rfl, O.ia, rfl, _, rfl, ?_⟩
    dsimp only [tCons, tC, tNil]
    by_cases f : hasK hs i = true ∨ hasK ks i = true
    · exact out_yes O hi f fun t x H2 m e O2 k2 => any_one (ps_ret (pv 2)) ⟨_, rfl, q2 f t x H2 m e O2 k2⟩
    · have f1 : hasK hs i = false := Bool.eq_false_iff.mpr fun z => f (.inl z)
      have f2 : hasK ks i = false := Bool.eq_false_iff.mpr fun z => f (.inr z)
      refine ⟨a, dx, b, c, g, n, i, hs, ks, rfl, O.ia, O.hb, O.hc, hi, ?_⟩
      rw [if_neg (by rw [f1]; decide), if_neg (by rw [f2]; decide)]
      exact fun H2 s2 => ⟨true, TX.ex_NoStream_NoStream, iteT fun ea => any_one (ps_ret (pv 2)) ⟨_, rfl, q1 f1 f2 H2 s2⟩⟩
def lastW : Str := "last"
structure Rw (H : Hp) (r lh lk : Addr) (n : Int) (hs ks : KV3) : Prop where
  er : H r = some (rowsO lh lk n)
  ne : lh ≠ lk
  eh : LsAt H lh hs
  ek : LsAt H lk ks
theorem Rw.mono {H H2 : Hp} {r lh lk : Addr} {n : Int} {hs ks : KV3} (R : Rw H r lh lk n hs ks) (s : Same H H2) : Rw H2 r lh lk n hs ks :=
  ⟨s _ _ R.er, R.ne, R.eh.on (fun o e => s _ _ e) fun t xs e => s _ _ e, R.ek.on (fun o e => s _ _ e) fun t xs e => s _ _ e⟩
def kL (k : Str) (lh lk : Addr) : Addr := if k = hotW then lh else lk
theorem Rw.of {H : Hp} {r lh lk : Addr} {n : Int} {hs ks : KV3} {k : Str} (R : Rw H r lh lk n hs ks) (hk : k = hotW ∨ k = coldW) : DGet H r (.str k) (some (.ref (kL k lh lk))) ∧ LsAt H (kL k lh lk) (allOf k hs ks) := by
  have g := DGet.k (k := Sum.inr k) R.er
  rcases hk with rfl | rfl
  · exact ⟨g, R.eh⟩
  · exact ⟨g, R.ek⟩
theorem Rw.last {H : Hp} {r lh lk : Addr} {n : Int} {hs ks : KV3} (R : Rw H r lh lk n hs ks) : DGet H r (.str lastW) (some (.int n)) := DGet.k (k := Sum.inr lastW) R.er
def dueR (k : Str) (x : S3) (hs ks : KV3) : Str := if dueN k x hs ks < 4 then dueT (dueN k x hs ks) else ""
theorem bad1 {k : Str} {x : S3} : badS k x = 1 ↔ (x.1 < 0 ∨ 200 < x.1 ∨ x.2.1 < 0 ∨ 200 < x.2.1 ∨ x.2.2 < 1 ∨ 1000000000 < x.2.2) := by
  unfold badS
  constructor
  · intro z
    split at z
    · assumption
    · split at z <;> lia
  · intro z; rw [if_pos z]
theorem bad2 {k : Str} {x : S3} (h : ¬ badS k x = 1) : badS k x = 2 ↔ ((k = hotW ∧ x.1 ≤ x.2.1) ∨ (k = coldW ∧ x.2.1 ≤ x.1)) := by
  have h' := fun w => h (bad1.mpr w)
  unfold badS
  rw [if_neg h']
  constructor
  · intro z
    split at z
    · assumption
    · lia
  · intro z; rw [if_pos z]
inductive DuP : List V → Hp → VK → Prop
  | mk {H : Hp} {Q : VK} (r lh lk : Addr) (n : Int) (hs ks : KV3) (k : Str) (x : S3) (R : Rw H r lh lk n hs ks) (hk : k = hotW ∨ k = coldW) (nh : hs.length ≤ 12) (nk : ks.length ≤ 12) (q : ∀ H', Same H H' → Q (.str (dueR k x hs ks)) H') : DuP [.ref r, .str k, .int x.1, .int x.2.1, .int x.2.2] H Q
def spDue : Sp := fun vs H Q _ => DuP vs H Q
theorem ok_law_due (T : Blt mg) (TX : Errs K mg cs) (TC : ClsT K mg CS) (F : Fun K "_law_due" "_law_due" s_law_due f fd) : FnOk P w K mg base CX0 1 f fd ["rows", "kind", "start", "goal", "rate"] spDue := by
  refine F.ok sc_law_due (fun vs H Q E h => ?_) fun cdv A outer s H vs Q E hr h => ?_
  · cases (show DuP vs H Q from h)
    rfl
  · cases (show DuP vs H Q from h) with | mk r lh lk n hs ks k x R hk nh nk q =>
    refine any_go ?_
    obtain ⟨g, vs, e, pr⟩ := R.of hk
    have len := Paired.length pr
    refine any_cons (ps_if (pt_cmpR op_eqK (pe_callB call_len_seq (by rfl) T.b_len (by rfl) (pa_cons (pe_dget (hu_of hr) (pv 0) (pv 1) (fun _ _ => rfl)) pa_nil)) pe_int (nomark _)) (pss_one (ps_ret pe_str)) pss_nil) ⟨_, rfl, _, rfl, r, _, rfl, g, _, vs, rfl, .inl (.of e), ?_⟩
    have re : RepE K H [some (.ref r), some (.str k), some (.int x.1), some (.int x.2.1), some (.int x.2.2)] [none, some (.p (.str k)), some (.p (.int x.1)), some (.p (.int x.2.1)), some (.p (.int x.2.2))] := repE_skip (repE_cons (.str _) (repE_cons (.int _) (repE_cons (.int _) (repE_cons (.int _) repE_nil))))
    have vn : (V.int vs.length = V.int 12) ↔ 12 ≤ (allOf k hs ks).length := by
      have : (allOf k hs ks).length ≤ 12 := by unfold allOf; split <;> assumption
      constructor
      · intro z; have := V.int.inj z; lia
      · intro z; exact congrArg V.int (by lia)
    refine ⟨rfl, _, rfl, ite2 (fun z => ?_) fun z => ?_⟩
    · have d0 : dueN k x hs ks = 0 := by unfold dueN; rw [if_pos (vn.mp (of_decide_eq_true z))]
      have := q H (Same.refl _)
      unfold dueR at this
      rw [d0] at this
      exact this
    have nz : ¬ 12 ≤ (allOf k hs ks).length := fun w => z (decide_eq_true (vn.mpr w))
    refine any_cons (ps_if ((DW.dt (dw_or (dt_cmp od_lt (de_callB (cd_min2 rfl) (by rfl) T.b_min PyProof.Rows.boot_min (da_cons (dv 2) (da_cons (dv 3) da_nil))) de_int (nomark _)) (dw_or (dt_cmp od_gt (de_callB (cd_max2 rfl) (by rfl) T.b_max PyProof.Rows.boot_max (da_cons (dv 2) (da_cons (dv 3) da_nil))) de_int (nomark _)) (dw_or (dt_cmp od_lt (dv 4) de_int (nomark _)) (dw_or1 (dt_cmp od_gt (dv 4) (de_op od_pow de_int de_int) (nomark _)))))))).pt (pss_one (ps_ret pe_str)) pss_nil) (cT_go _ (decide (badS k x = 1)) re ?_ fun H1 s1 => ?_)
    · walk_at "rs"
      refine ⟨fun z => (decide_eq_true (bad1.mpr ?_)).symm, fun y1 => ⟨fun z => (decide_eq_true (bad1.mpr ?_)).symm, fun y2 => ⟨fun z => (decide_eq_true (bad1.mpr ?_)).symm, fun y3 => ⟨⟨by decide, by decide, by decide⟩, decide_eq_decide.mpr (Iff.trans ?_ bad1.symm)⟩⟩⟩⟩
      · have := of_decide_eq_true z
        split at this <;> lia
      · have := of_decide_eq_true z
        split at this <;> lia
      · have := of_decide_eq_true z
        lia
      · have e9 : (10 : Int) ^ Int.toNat 9 = 1000000000 := by decide
        rw [e9]
        have y1 := of_decide_eq_false y1
        have y2 := of_decide_eq_false y2
        have y3 := of_decide_eq_false y3
        constructor
        · intro z; lia
        · intro z; split at y1 <;> split at y2 <;> lia
    refine ite2 (fun z1 => ?_) fun z1 => ?_
    · have d0 : dueN k x hs ks = 1 := by unfold dueN; rw [if_neg nz, if_pos (of_decide_eq_true z1)]
      have := q H1 s1
      unfold dueR at this
      rw [d0] at this
      exact this
    have z1' : ¬ badS k x = 1 := fun w => z1 (decide_eq_true w)
    refine any_cons (ps_if ((DW.dt (dw_or (DW.dt (dw_and (dt_cmp od_eq (dv 1) de_str (nomark _)) (dw_and1 (dt_cmp od_ge (dv 3) (dv 2) (nomark _))))) (dw_or1 (DW.dt (dw_and (dt_cmp od_eq (dv 1) de_str (nomark _)) (dw_and1 (dt_cmp od_le (dv 3) (dv 2) (nomark _))))))))).pt (pss_one (ps_ret pe_str)) pss_nil) (cT_go _ (decide (badS k x = 2)) (fun i d e => (by obtain ⟨v, h1, h2⟩ := re i d e; exact ⟨v, h1, h2.mono s1⟩)) ?_ fun H2 s2 => ?_)
    · walk_at "rs"
      have b2 := bad2 (k := k) (x := x) z1'
      refine ⟨fun a1 => ⟨fun a2 => (decide_eq_true (b2.mpr (.inl ⟨of_decide_eq_true a1, of_decide_eq_true a2⟩))).symm, fun a2 => ⟨fun a3 => absurd ((of_decide_eq_true a1).symm.trans (of_decide_eq_true a3)) hc_ne, fun a3 => (decide_eq_false fun w => ?_).symm⟩⟩, fun a1 => ⟨(fun w => nomatch w), fun _ => ⟨fun a3 => decide_eq_decide.mpr ⟨fun w => b2.mpr (.inr ⟨of_decide_eq_true a3, w⟩), fun w => ?_⟩, fun a3 => (decide_eq_false fun w => ?_).symm⟩⟩⟩
      · rcases b2.mp w with w | w
        · exact of_decide_eq_false a2 w.2
        · exact of_decide_eq_false a3 w.1
      · rcases b2.mp w with w | w
        · exact absurd w.1 (of_decide_eq_false a1)
        · exact w.2
      · rcases b2.mp w with w | w
        · exact of_decide_eq_false a1 w.1
        · exact of_decide_eq_false a3 w.1
    refine ite2 (fun z2 => ?_) fun z2 => ?_
    · have d0 : dueN k x hs ks = 2 := by unfold dueN; rw [if_neg nz, if_neg z1', if_pos (of_decide_eq_true z2)]
      have := q H2 (s1.trans s2)
      unfold dueR at this
      rw [d0] at this
      exact this
    have z2' : ¬ badS k x = 2 := fun w => z2 (decide_eq_true w)
    have d0 : dueN k x hs ks = 9 := by unfold dueN; rw [if_neg nz, if_neg z1', if_neg z2']
    refine any_one (ps_ret pe_str) ?_
    have := q H2 (s1.trans s2)
    unfold dueR at this
    rw [d0] at this
    exact this
structure Bo (CS : Addr) (H : Hp) (a dx b c r lh lk : Addr) (g n : Int) (hs ks : KV3) : Prop where
  ob : Ob CS H a dx b c g n hs ks
  kw : Rw H r lh lk n hs ks
  rb : r ≠ b
  rc : r ≠ c
  h12 : hs.length ≤ 12
  k12 : ks.length ≤ 12
section
variable {H H2 : Hp} {a dx b c r lh lk : Addr} {g n : Int} {hs ks : KV3}
theorem Bo.mono (B : Bo CS H a dx b c r lh lk g n hs ks) (s : Same H H2) : Bo CS H2 a dx b c r lh lk g n hs ks := ⟨B.ob.mono s, B.kw.mono s, B.rb, B.rc, B.h12, B.k12⟩
theorem Rw.keep (R : Rw H r lh lk n hs ks) (e : ∀ y ∈ [r, lh, lk], ∀ o, H y = some o → H2 y = some o) (kt : ∀ t xs, H t = some (.tup xs) → H2 t = some (.tup xs)) : Rw H2 r lh lk n hs ks :=
  ⟨e _ (by simp) _ R.er, R.ne, R.eh.on (e _ (by simp)) kt, R.ek.on (e _ (by simp)) kt⟩
theorem Ob.keep (O : Ob CS H a dx b c g n hs ks) (e : ∀ y ∈ [a, b, c], ∀ o, H y = some o → H2 y = some o) (kt : ∀ t xs, H t = some (.tup xs) → H2 t = some (.tup xs)) : Ob CS H2 a dx b c g n hs ks :=
  ⟨O.ne, e _ (by simp) _ O.ia, dki_on O.hb (e _ (by simp)) kt, dki_on O.hc (e _ (by simp)) kt, O.n0, O.nh, O.nk, O.dj⟩
theorem Rw.tup (R : Rw H r lh lk n hs ks) {y : Addr} {xs : List V} (e : H y = some (.tup xs)) : y ∉ [r, lh, lk] := by
  obtain ⟨_, e1, _⟩ := R.eh
  obtain ⟨_, e2, _⟩ := R.ek
  have e0 := R.er
  intro m
  rcases List.mem_cons.mp m with rfl | m
  · rw [e0] at e; cases e
  rcases List.mem_cons.mp m with rfl | m
  · rw [e1] at e; cases e
  rw [List.mem_singleton.mp m, e2] at e; cases e
theorem Rw.there {r lh lk : Addr} (R : Rw H r lh lk n hs ks) {y : Addr} (h : y ∈ [r, lh, lk]) : H y ≠ none := by
  obtain ⟨_, e1, _⟩ := R.eh
  obtain ⟨_, e2, _⟩ := R.ek
  intro z
  rcases List.mem_cons.mp h with rfl | h
  · rw [R.er] at z; cases z
  rcases List.mem_cons.mp h with rfl | h
  · rw [e1] at z; cases z
  rw [List.mem_singleton.mp h, e2] at z; cases z
theorem Bo.off (B : Bo CS H a dx b c r lh lk g n hs ks) : ∀ y ∈ [r, lh, lk], y ∉ [a, b, c] := by
  obtain ⟨_, e1, _⟩ := B.kw.eh
  obtain ⟨_, e2, _⟩ := B.kw.ek
  intro y m
  rcases List.mem_cons.mp m with rfl | m
  · have : y ≠ a := ne_of B.kw.er B.ob.ia (by intro z; cases z)
    simp [this, B.rb, B.rc]
  rcases List.mem_cons.mp m with rfl | m
  · exact B.ob.lst e1
  rw [List.mem_singleton.mp m]
  exact B.ob.lst e2
theorem Bo.kept (B : Bo CS H a dx b c r lh lk g n hs ks) (k2 : Kept [a, b, c] H H2) : Rw H2 r lh lk n hs ks :=
  B.kw.keep (fun y hy o e => k2 y o e (B.off y hy)) fun t xs e => k2 _ _ e (B.ob.tup e)
abbrev six (a b c r lh lk : Addr) : List Addr := [a, b, c, r, lh, lk]
theorem Kept.six (k : Kept [a, b, c] H H2) : Kept (six a b c r lh lk) H H2 := fun y o e m => k y o e fun z => m (by
  rcases List.mem_cons.mp z with rfl | z
  · simp
  rcases List.mem_cons.mp z with rfl | z
  · simp
  rw [List.mem_singleton.mp z]; simp)
set_option tactic.hygienic true in
theorem putH_len {k : Str} {x : S3} (lt : (allOf k hs ks).length < 12) (h12 : hs.length ≤ 12) : (putH k hs (n + 1) x).length ≤ 12 := by
  unfold putH
  unfold allOf at lt
  split
  · rename_i z; rw [if_pos z] at lt; rw [List.length_append]; exact lt
  · exact h12
set_option tactic.hygienic true in
theorem putC_len {k : Str} {x : S3} (lt : (allOf k hs ks).length < 12) (k12 : ks.length ≤ 12) : (putC k ks (n + 1) x).length ≤ 12 := by
  unfold putC
  unfold allOf at lt
  split
  · exact k12
  · rename_i z; rw [if_neg z] at lt; rw [List.length_append]; exact lt
theorem putK_last (n m : Int) : putK [((Sum.inr ("hot" : Str) : Key), V.ref lh), (Sum.inr ("cold" : Str), .ref lk), (Sum.inr ("last" : Str), .int n)] (Sum.inr lastW) (.int m) = [((Sum.inr ("hot" : Str) : Key), V.ref lh), (Sum.inr ("cold" : Str), .ref lk), (Sum.inr ("last" : Str), .int m)] := by
  unfold putK
  rfl
theorem upd_at {H : Hp} {x y : Addr} {o : HO} (h : x = y) : upd H x o y = some o := by
  subst h
  exact upd_same
theorem add_row {k : Str} {x : S3} {t q : Addr} {vs : List V} {hs' ks' : KV3} (R : Rw H r lh lk n hs ks) (off : ∀ y ∈ [r, lh, lk], y ∉ [a, b, c]) (hk : k = hotW ∨ k = coldW) (lt : (allOf k hs ks).length < 12) (h12 : hs.length ≤ 12) (k12 : ks.length ≤ 12)
    (e1 : hs' = putH k hs (n + 1) x) (e2 : ks' = putC k ks (n + 1) x) (O : Ob CS H a dx b c g (n + 1) hs' ks') (ht : (upd H r (rowsO lh lk (n + 1))) t = none) (hq : (upd (upd H r (rowsO lh lk (n + 1))) t (.tup [.int x.1, .int x.2.1, .int x.2.2])) q = none) (ev : H (kL k lh lk) = some (.lst vs)) :
    Bo CS (upd (upd (upd (upd H r (rowsO lh lk (n + 1))) t (.tup [.int x.1, .int x.2.1, .int x.2.2])) q (.tup [.int (n + 1), .ref t])) (kL k lh lk) (.lst (vs ++ [.ref q]))) a dx b c r lh lk g (n + 1) hs' ks' ∧
    Kept (six a b c r lh lk) H (upd (upd (upd (upd H r (rowsO lh lk (n + 1))) t (.tup [.int x.1, .int x.2.1, .int x.2.2])) q (.tup [.int (n + 1), .ref t])) (kL k lh lk) (.lst (vs ++ [.ref q]))) := by
  have kr : kL k lh lk ≠ r := ne_of ev R.er (by intro z; cases z)
  have key : ∀ y o, H y = some o → y ≠ r → y ≠ kL k lh lk → (upd (upd (upd (upd H r (rowsO lh lk (n + 1))) t (.tup [.int x.1, .int x.2.1, .int x.2.2])) q (.tup [.int (n + 1), .ref t])) (kL k lh lk) (.lst (vs ++ [.ref q]))) y = some o := fun y o e n1 n2 => by
    have e1 : (upd H r (rowsO lh lk (n + 1))) y = some o := by rw [upd_ne n1]; exact e
    have e2 : (upd (upd H r (rowsO lh lk (n + 1))) t (.tup [.int x.1, .int x.2.1, .int x.2.2])) y = some o := by rw [upd_ne (ne_of_none e1 ht)]; exact e1
    rw [upd_ne n2, upd_ne (ne_of_none e2 hq)]
    exact e2
  have ki : kL k lh lk = lh ∨ kL k lh lk = lk := by unfold kL; split; exact .inl rfl; exact .inr rfl
  have km : kL k lh lk ∈ [r, lh, lk] := by rcases ki with z | z <;> rw [z] <;> simp
  have ka : kL k lh lk ∉ [a, b, c] := off _ km
  have ra : r ∉ [a, b, c] := off _ (by simp)
  have kt : ∀ y xs, H y = some (.tup xs) → (upd (upd (upd (upd H r (rowsO lh lk (n + 1))) t (.tup [.int x.1, .int x.2.1, .int x.2.2])) q (.tup [.int (n + 1), .ref t])) (kL k lh lk) (.lst (vs ++ [.ref q]))) y = some (.tup xs) := fun y xs e =>
    key y _ e (ne_of e R.er (by intro z; cases z)) (ne_of e ev (by intro z; cases z))
  have evr : (upd H r (rowsO lh lk (n + 1))) (kL k lh lk) = some (.lst vs) := by rw [upd_ne kr]; exact ev
  have evt : (upd (upd H r (rowsO lh lk (n + 1))) t (.tup [.int x.1, .int x.2.1, .int x.2.2])) (kL k lh lk) = some (.lst vs) := by rw [upd_ne (ne_of_none evr ht)]; exact evr
  have ert : (upd (upd H r (rowsO lh lk (n + 1))) t (.tup [.int x.1, .int x.2.1, .int x.2.2])) r = some (rowsO lh lk (n + 1)) := by rw [upd_ne (ne_of_none upd_same ht)]; exact upd_same
  have er' : (upd (upd (upd (upd H r (rowsO lh lk (n + 1))) t (.tup [.int x.1, .int x.2.1, .int x.2.2])) q (.tup [.int (n + 1), .ref t])) (kL k lh lk) (.lst (vs ++ [.ref q]))) r = some (rowsO lh lk (n + 1)) := by
    rw [upd_ne kr.symm, upd_ne (ne_of_none ert hq)]; exact ert
  have pq : PrAt (upd (upd (upd (upd H r (rowsO lh lk (n + 1))) t (.tup [.int x.1, .int x.2.1, .int x.2.2])) q (.tup [.int (n + 1), .ref t])) (kL k lh lk) (.lst (vs ++ [.ref q]))) (.ref q) (n + 1, x) := by
    refine ⟨q, t, rfl, ?_, ?_⟩
    · rw [upd_ne (ne_of_none evt hq).symm]; exact upd_same
    · rw [upd_ne (ne_of_none evr ht).symm, upd_ne (ne_of_none upd_same hq)]; exact upd_same
  refine ⟨⟨O.keep (fun y hy o e => key y o e (fun z => ra (z ▸ hy)) fun z => ka (z ▸ hy)) kt, ⟨er', R.ne, ?_, ?_⟩, fun z => ra (by simp [z]), fun z => ra (by simp [z]), by rw [e1]; exact putH_len lt h12, by rw [e2]; exact putC_len lt k12⟩, fun y o e m => key y o e (fun z => m (by simp [z])) fun z => m (by rcases ki with w | w <;> simp [z, w])⟩
  · rw [e1]
    unfold putH
    by_cases z : k = hotW
    · rw [if_pos z]
      have kl : kL k lh lk = lh := if_pos z
      obtain ⟨vs', ev', pr⟩ := R.eh
      rw [← kl, ev] at ev'
      cases ev'
      exact ⟨_, upd_at kl, Paired.snoc (PrsAt.on pr kt) pq⟩
    · rw [if_neg z]
      have kl : kL k lh lk = lk := if_neg z
      obtain ⟨vs', ev', pr⟩ := R.eh
      exact ⟨vs', key _ _ ev' (ne_of ev' R.er (by intro z; cases z)) (by rw [kl]; exact R.ne), PrsAt.on pr kt⟩
  · rw [e2]
    unfold putC
    by_cases z : k = hotW
    · rw [if_pos z]
      have kl : kL k lh lk = lh := if_pos z
      obtain ⟨vs', ev', pr⟩ := R.ek
      exact ⟨vs', key _ _ ev' (ne_of ev' R.er (by intro z; cases z)) (by rw [kl]; exact R.ne.symm), PrsAt.on pr kt⟩
    · rw [if_neg z]
      have kl : kL k lh lk = lk := if_neg z
      obtain ⟨vs', ev', pr⟩ := R.ek
      rw [← kl, ev] at ev'
      cases ev'
      exact ⟨_, upd_at kl, Paired.snoc (PrsAt.on pr kt) pq⟩
end
def After (CS : Addr) (H : Hp) (a dx b c r lh lk : Addr) (g n : Int) (Q : VK) : Prop := ∀ H' n' hs' ks', Bo CS H' a dx b c r lh lk g n' hs' ks' → n ≤ n' → n' ≤ n + 1 → Kept (six a b c r lh lk) H H' → Q (.bl true) H'
def r_law_is : DR := fun ds P => ∃ a b : Int, ds = [.int a, .int b] ∧ P (.p (.bl (decide (a = b))))
theorem ok_law_is (T : Blt mg) (TX : Errs K mg cs) (TC : ClsT K mg CS) (F : Fun K "_law_is" "_law_is" s_law_is f fd) : FnOk P w K mg base CX0 1 f fd ["found", "due"] (spD K r_law_is) := by
  refine okD F sc_law_is (fun ds Q h => by obtain ⟨a, b, rfl, q⟩ := h; rfl) fun cdv A outer s H E hr => ⟨_, (dss_one (ds_ret (de_and (de_isi (T := "int") (by simp) (by rfl) T.b_isinstance (dv 0) (pe_bltn (v := .ty "int") (by rfl) T.b_int PyProof.Rows.boot_int rfl)) (de_and (de_not (de_isi (T := "bool") (by simp) (by rfl) T.b_isinstance (dv 0) (pe_bltn (v := .ty "bool") (by rfl) T.b_bool PyProof.Rows.boot_bool rfl))) (de_one (de_cmp od_eq (dv 0) (dv 1) (nomark _))))))), fun ds Q h => ?_⟩
  obtain ⟨a, b, rfl, q⟩ := h
  try dsimp only [dSeq, dNext, dRet, dRetN, dRetO, dIfS, dSet, dSetP, dSetF, dSetD, dSetDP, dAug, dAsg, dApp, dAppF, dSetIx, dSetIxF, dAugIx, dDrop, dFor, dForD, dForS, dVar, dC, dOp, dI, dIC, dEqS, dNeS, dIsN, dNotN, dUn, dNeg, dNotV, dAndV, dOrV, dTst, dNot, dAnd, dOr, dIfE, dChain, dNil, dCons, dTup, dLst, dCall, dCB, dLen, dII, dAbs, dInt, dCopy, dIx, dNoPart, dPart, dSl, dSlS, dAdd, dMul, dIsi, dTrue, dget, dput, frz, frz1, B.val, startD, Tg.d, putN, diList, diTup, diRng1, diRng2, diRevr1, di_enumerateT, di_zipT, di_reversedT, onlyP, frD, dLC, List.map, List.length, isD]
  exact ⟨fun _ => ⟨fun _ => q, fun z => nomatch z⟩, fun z => nomatch z⟩
inductive PrP (CS : Addr) : List V → Hp → VK → Prop
  | mk {H : Hp} {Q : VK} (a dx b c r lh lk : Addr) (g n ce ba : Int) (hs ks : KV3) (B : Bo CS H a dx b c r lh lk g n hs ks) (ba0 : 0 ≤ ba) (ba1 : ba < 200) (q : After CS H a dx b c r lh lk g n Q) : PrP CS [.ref a, .ref r, .int ce, .int ba] H Q
def spPR (CS : Addr) : Sp := fun vs H Q _ => PrP CS vs H Q
theorem rep_l3 {G : Hp} {v : V} {x y z : Int} (r : Rep K G v (.lst [.int x, .int y, .int z])) : ∃ t, v = .ref t ∧ G t = some (.lst [.int x, .int y, .int z]) := by
  obtain ⟨t, vs, rfl, e, rr⟩ := Rep.lst_inv r
  obtain rfl := reps_ints (ns := [x, y, z]) rr
  exact ⟨t, rfl, e⟩
theorem rep_3l {G : Hp} {t : Addr} {x y z : Int} (e : G t = some (.lst [.int x, .int y, .int z])) : Rep K G (.ref t) (.lst [.int x, .int y, .int z]) := Rep.lst' e (.cons (.int _) (.cons (.int _) (.cons (.int _) .nil)))
abbrev sP (a r : Addr) (ce ba : Int) (k l h t e s g d f : Option V) : St := [some (.ref a), some (.ref r), some (.int ce), some (.int ba), k, l, h, t, e, s, g, d, f]
inductive P4 (H : Hp) (s : Option V → Option V → Option V → Addr → St) : St → Hp → Prop
  | mk (x : S3) (p : Addr) (l h t : Option V) {H1 : Hp} (x1 : Rg 0 200 x.1) (x2 : Rg 0 200 x.2.1) (x3 : Rg 1 1000000000 x.2.2) (ep : H1 p = some (.lst [.int x.1, .int x.2.1, .int x.2.2])) (s1 : Same H H1) : P4 H s (s l h t p) H1
inductive P7 (CS : Addr) (H : Hp) (a dx b c : Addr) (g n : Int) (hs ks : KV3) (k : Str) (x : S3) (s : V → St) : St → Hp → Prop
  | no {H2 : Hp} (d : dueN k x hs ks < 4) (s2 : Same H H2) : P7 CS H a dx b c g n hs ks k x s (s (.str (dueR k x hs ks))) H2
  | yes {H2 : Hp} (d : ¬ dueN k x hs ks < 4) (O : Ob CS H2 a dx b c g (n + 1) (putH k hs (n + 1) x) (putC k ks (n + 1) x)) (k2 : Kept [a, b, c] H H2) : P7 CS H a dx b c g n hs ks k x s (s (.int (n + 1))) H2
theorem seq3 {σ : St} {H : Hp} {Q : St → Hp → Prop} {i j k : Nat} {p : Addr} {x y z : V} (ep : H p = some (.lst [x, y, z])) (q : Q (((σ.set i (some x)).set j (some y)).set k (some z)) H) : gSeq K 3 (gCons (gName i) (gCons (gName j) (gCons (gName k) gNil))) (.ref p) σ H Q :=
  ⟨p, _, rfl, .inr (SqL.of ep), rfl, _, _, rfl, _, _, rfl, _, _, rfl, rfl, q⟩
theorem due_go {H : Hp} {Q : VK} {E : XK} {r lh lk : Addr} {n : Int} {hs ks : KV3} {k : Str} {x : S3} (R : Rw H r lh lk n hs ks) (hk : k = hotW ∨ k = coldW) (h12 : hs.length ≤ 12) (k12 : ks.length ≤ 12) (q : ∀ H', Same H H' → Q (.str (dueR k x hs ks)) H') : spDue [.ref r, .str k, .int x.1, .int x.2.1, .int x.2.2] H Q E :=
  .mk r lh lk n hs ks k x R hk h12 k12 q
theorem put_try {H : Hp} {Q : VK} {E : XK} {a dx b c : Addr} {g n : Int} {hs ks : KV3} {k : Str} {x : S3} (O : Ob CS H a dx b c g n hs ks) (hk : k = hotW ∨ k = coldW) (h12 : hs.length ≤ 12) (k12 : ks.length ≤ 12) (y1 : Sm x.1) (y2 : Sm x.2.1) (y3 : Sm x.2.2) (q1 : dueN k x hs ks < 4 → ∀ H2, Same H H2 → Q (.str (dueT (dueN k x hs ks))) H2) (q2 : ¬ dueN k x hs ks < 4 → ∀ H2, Ob CS H2 a dx b c g (n + 1) (putH k hs (n + 1) x) (putC k ks (n + 1) x) → Kept [a, b, c] H H2 → Q (.int (n + 1)) H2) : spLP cs CS [.ref a, .str k, .int x.1, .int x.2.1, .int x.2.2] H Q E :=
  .mk a dx b c g n hs ks k x O hk h12 k12 y1 y2 y3 q1 q2
theorem dueT_ne {i : Nat} (h : i = 0 ∨ i = 1 ∨ i = 2) : decide (V.str (dueT i) = V.str "") = false := by
  obtain rfl | rfl | rfl := h
  all_goals decide
theorem ok_law_put_right (T : Blt mg) (TX : Errs K mg cs) (TC : ClsT K mg CS) (F_law_stream : Fn P w K mg base "_law_stream" 2 ["cell", "base"] (spD K r_law_stream)) (F_law_spoilt : Fn P w K mg base "_law_spoilt" 2 ["ends", "cell"] (spD K r_law_spoilt)) (F_law_due : Fn P w K mg base "_law_due" 1 ["rows", "kind", "start", "goal", "rate"] spDue) (F_law_put : Fn P w K mg base "_law_put" 6 ["streams", "kind", "start", "goal", "rate"] (spLP cs CS)) (F_law_is : Fn P w K mg base "_law_is" 1 ["found", "due"] (spD K r_law_is)) (F_law_stir : Fn P w K mg base "_law_stir" 1 ["cell", "k"] (spD K r_law_stir)) (F : Fun K "_law_put_right" "_law_put_right" s_law_put_right f fd) : FnOk P w K mg base CX0 7 f fd ["streams", "rows", "cell", "base"] (spPR CS) := by
  refine F.ok sc_law_put_right (fun vs H Q E h => ?_) fun cdv A outer s H vs Q E hr h => ?_
  · cases (show PrP CS vs H Q from h)
    rfl
  · cases (show PrP CS vs H Q from h) with | mk a dx b c r lh lk g n ce ba hs ks B ba0 ba1 q =>
    refine any_fun fun En eD => ?_
    rw [← eD] at q
    clear eD
    refine any_cons (ps_set (i := 4) sc_law_put_right.nd rfl (Or.inl rfl) ((de_ix (de_lst (da_cons de_str (da_cons de_str da_nil))) (de_op od_mod (de_fn F_law_stir (hr.mono (by decide)) (by rfl) (da_cons (dv 2) (da_cons de_int da_nil))) de_int))).pe) (cE_strE [none, none, some (.p (.int ce))] (fun k => k = hotW ∨ k = coldW) (repE_skip (repE_skip (repE_cons (.int _) repE_nil))) ?_ fun k H1 hk s1 => ?_)
    · repeat (first | dsimp only [r_law_stir] | walk_at "rs1" | walk_at "rsx")
      have m := stir_mod ce 1 2 (by decide)
      obtain z | z : stirX ce 1 % 2 = 0 ∨ stirX ce 1 % 2 = 1 := by lia
      · rw [z]; exact ⟨by decide, _, rfl, hotW, .inl rfl, rfl⟩
      · rw [z]; exact ⟨by decide, _, rfl, coldW, .inr rfl, rfl⟩
    refine any_cons (ps_asg ((de_fn F_law_stream (hr.mono (by decide)) (by rfl) (da_cons (dv 2) (da_cons (dv 3) da_nil)))).pe (pg_seq rfl (pgs_cons (pg_name (i := 5) sc_law_put_right.nd rfl (Or.inl rfl)) (pgs_cons (pg_name (i := 6) sc_law_put_right.nd rfl (Or.inl rfl)) (pgs_cons (pg_name (i := 7) sc_law_put_right.nd rfl (Or.inl rfl)) pgs_nil))))) (cE_any [none, none, some (.p (.int ce)), some (.p (.int ba))] (fun b => ∃ x : S3, (Rg 0 200 x.1 ∧ Rg 0 200 x.2.1 ∧ Rg 1 1000000000 x.2.2) ∧ b.val = .lst [.int x.1, .int x.2.1, .int x.2.2]) (repE_skip (repE_skip (repE_cons (.int _) (repE_cons (.int _) repE_nil)))) ?_ fun b0 v H2 ⟨x, hx, e⟩ s2 r2 => ?_)
    · walk_at "rs"
      exact ⟨ce, ba, rfl, ba0, ba1, fun l h t h1 h2 h3 => ⟨(l, h, t), ⟨h1, h2, h3⟩, rfl⟩⟩
    rw [e] at r2
    obtain ⟨p, rfl, ep⟩ := rep_l3 r2
    replace s2 := s1.trans s2
    clear r2 e s1
    refine seq3 ep ?_
    clear ep p
    refine any_cons (ps_set (i := 8) sc_law_put_right.nd rfl (Or.inl rfl) (pe_lst (pa_cons (pv 5) (pa_cons (pv 6) (pa_cons (pv 7) pa_nil))))) (asgQ (lst3 rfl rfl rfl fun p hp => ?_))
    refine any_cut (P4 H fun l h t p => sP a r ce ba (some (.str k)) l h t (some (.ref p)) none none none none) (ps_if (pt_cmpR op_eqK (pv 4) pe_str (nomark _)) (pss_one (ps_set (i := 8) sc_law_put_right.nd rfl (Or.inl rfl) (pe_lst (pa_cons (pv 6) (pa_cons (pv 5) (pa_cons (pv 7) pa_nil)))))) pss_nil) (fun N _ hN => ?_) ?_
    · exact ⟨_, rfl, rfl, _, rfl, ite2 (fun z => asgQ (lst3 rfl rfl rfl fun p2 hp2 => hN _ _ (.mk (x.2.1, x.1, x.2.2) p2 _ _ _ hx.2.1 hx.1 hx.2.2 upd_same ((s2.trans (same_new hp)).trans (same_new hp2))))) fun z => hN _ _ (.mk x p _ _ _ hx.1 hx.2.1 hx.2.2 upd_same (s2.trans (same_new hp)))⟩
    clear s2 hp p hx
    intro σ H3 w
    cases w with | mk x p l h t x1 x2 x3 ep s3 =>
    refine any_cons (ps_asg ((de_fn F_law_spoilt (hr.mono (by decide)) (by rfl) (da_cons (dv 8) (da_cons (dv 2) da_nil)))).pe (pg_seq rfl (pgs_cons (pg_name (i := 9) sc_law_put_right.nd rfl (Or.inl rfl)) (pgs_cons (pg_name (i := 10) sc_law_put_right.nd rfl (Or.inl rfl)) (pgs_cons (pg_name (i := 7) sc_law_put_right.nd rfl (Or.inl rfl)) pgs_nil))))) (cE_any [none, none, some (.p (.int ce)), none, none, none, none, none, some (.p (.lst [.int x.1, .int x.2.1, .int x.2.2]))] (fun b => ∃ y : S3, (Sm y.1 ∧ Sm y.2.1 ∧ Sm y.2.2) ∧ b.val = .lst [.int y.1, .int y.2.1, .int y.2.2]) (repE_skip (repE_skip (repE_cons (.int _) (repE_skip (repE_skip (repE_skip (repE_skip (repE_skip (repE_cons (rep_3l ep) repE_nil))))))))) ?_ fun b0 v H4 ⟨y, hy, e⟩ s4 r4 => ?_)
    · walk_at "rs"
      exact ⟨x, ce, rfl, x1, x2, x3, fun y b h1 h2 h3 e => ⟨y, ⟨h1, h2, h3⟩, e⟩⟩
    rw [e] at r4
    obtain ⟨p', rfl, ep'⟩ := rep_l3 r4
    replace s4 := s3.trans s4
    clear r4 e s3 ep x1 x2 x3
    refine seq3 ep' ?_
    clear ep' p'
    obtain ⟨y1, y2, y3⟩ := hy
    show tAny _ _ _ (sP a r ce ba (some (.str k)) l h (some (.int y.2.2)) (some (.ref p)) (some (.int y.1)) (some (.int y.2.1)) none none) H4
    have B4 := B.mono s4
    refine any_cons (ps_set (i := 11) sc_law_put_right.nd rfl (Or.inl rfl) (pe_fn F_law_due (hr.mono (by decide)) (by rfl) (pa_cons (pv 1) (pa_cons (pv 4) (pa_cons (pv 9) (pa_cons (pv 10) (pa_cons (pv 7) pa_nil))))))) (asgQ (callQ (vars5 rfl rfl rfl rfl rfl (due_go B4.kw hk B4.h12 B4.k12 fun H5 s5 => ?_))))
    replace s5 := s4.trans s5
    replace B4 := B.mono s5
    clear s4
    refine any_cut (P7 CS H a dx b c g n hs ks k y fun v => sP a r ce ba (some (.str k)) l h (some (.int y.2.2)) (some (.ref p)) (some (.int y.1)) (some (.int y.2.1)) (some (.str (dueR k y hs ks))) (some v)) (ps_set (i := 12) sc_law_put_right.nd rfl (Or.inl rfl) (pe_fn F_law_put (hr.mono (by decide)) (by rfl) (pa_cons (pv 0) (pa_cons (pv 4) (pa_cons (pv 9) (pa_cons (pv 10) (pa_cons (pv 7) pa_nil))))))) (fun N _ hN => ?_) ?_
    · refine asgQ (callQ (vars5 rfl rfl rfl rfl rfl (put_try B4.ob hk B4.h12 B4.k12 y1 y2 y3 (fun d H6 s6 => ?_) fun d H6 O6 k6 => hN _ _ (.yes d O6 ((Kept.of s5).trans k6)))))
      have := P7.no (CS := CS) (a := a) (dx := dx) (b := b) (c := c) (g := g) (n := n) (s := fun v => sP a r ce ba (some (.str k)) l h (some (.int y.2.2)) (some (.ref p)) (some (.int y.1)) (some (.int y.2.1)) (some (.str (dueR k y hs ks))) (some v)) d (s5.trans s6)
      have e : dueR k y hs ks = dueT (dueN k y hs ks) := if_pos d
      have := hN _ _ this
      rw [e] at this ⊢
      exact this
    clear s5 B4 y1 y2 y3
    intro σ H1 w
    cases w with
    | no d s1 =>
      have e : dueR k y hs ks = dueT (dueN k y hs ks) := if_pos d
      refine any_cons (ps_if (pt_cmpR op_neK (pv 11) pe_str (nomark _)) (pss_one (ps_ret (pe_cmpR op_eqK (pv 12) (pv 11) (nomark _)))) pss_nil) ⟨_, rfl, rfl, _, rfl, ite2 (fun z => ⟨_, rfl, _, rfl, rfl, ?_⟩) fun z => absurd ?_ z⟩
      · show En.rt (.bl (decide (V.str (dueR k y hs ks) = V.str (dueR k y hs ks)))) H1
        rw [decide_eq_true rfl]
        exact q H1 n hs ks (B.mono s1) (Int.le_refl _) (by lia) (Kept.of s1)
      · rw [e, dueT_ne (by have := due3 d; lia)]
        rfl
    | yes d O1 k1 =>
    have e : dueR k y hs ks = "" := if_neg d
    have R1 := B.kept k1
    refine any_cons (ps_if (pt_cmpR op_neK (pv 11) pe_str (nomark _)) (pss_one (ps_ret (pe_cmpR op_eqK (pv 12) (pv 11) (nomark _)))) pss_nil) ⟨_, rfl, rfl, _, rfl, ite2 (fun z => absurd z ?_) fun z => ?_⟩
    · rw [e]; decide
    refine any_cons (ps_dput (hu_of hr) (pv 1) pe_str (pe_op op_add (pe_dget (hu_of hr) (pv 1) pe_str (fun _ _ => rfl)) pe_int) rfl) ⟨_, rfl, r, _, rfl, R1.last, _, _, rfl, rfl, _, rfl, r, _, rfl, DPut.k (k := Sum.inr lastW) R1.er (lt1000 (Nat.le_of_ble_eq_true rfl)), ?_⟩
    rw [putK_last]
    obtain ⟨gk, vs, ev, pr⟩ := R1.of hk
    have gk' : DGet (upd H1 r (rowsO lh lk (n + 1))) r (.str k) (some (.ref (kL k lh lk))) := by rcases hk with rfl | rfl <;> exact DGet.k (k := Sum.inr _) upd_same
    have gl' : DGet (upd H1 r (rowsO lh lk (n + 1))) r (.str lastW) (some (.int (n + 1))) := DGet.k (k := Sum.inr lastW) upd_same
    have kr : kL k lh lk ≠ r := ne_of ev R1.er (by intro z; cases z)
    have ev1 : (upd H1 r (rowsO lh lk (n + 1))) (kL k lh lk) = some (.lst vs) := by rw [upd_ne kr]; exact ev
    have lv : vs.length ≤ 12 := by rw [Paired.length pr]; unfold allOf; split; exact B.h12; exact B.k12
    refine any_cons (ps_expr (pe_bm PySem.F.plainAttrs_list PySem.F.slot_list_append PySem.F.type_list_append mt_append (pe_dget (hu_of hr) (pv 1) (pv 4) (fun _ _ => rfl)) (pa_cons (pe_tup (pa_cons (pe_dget (hu_of hr) (pv 1) pe_str (fun _ _ => rfl)) (pa_cons (pe_tup (pa_cons (pv 9) (pa_cons (pv 10) (pa_cons (pv 7) pa_nil)))) pa_nil))) pa_nil))) ⟨_, rfl, _, rfl, r, _, rfl, gk', .inl ⟨rfl, _, SqL.of ev1⟩, _, rfl, r, _, rfl, gl', _, rfl, _, rfl, _, rfl, small_len (Nat.le_of_ble_eq_true rfl), fun t ht => ⟨small_len (Nat.le_of_ble_eq_true rfl), fun u hu => ?_⟩⟩
    obtain ⟨B3, k3⟩ := add_row R1 B.off hk (due_no d).1 B.h12 B.k12 rfl rfl O1 ht hu ev
    refine ⟨_, vs, .ref u, rfl, rfl, same_new hu _ _ (same_new ht _ _ ev1), lt1000 (by lia), ?_⟩
    refine any_one (ps_ret (pe_fn F_law_is (hr.mono (by decide)) (by rfl) (pa_cons (pv 12) (pa_cons (pe_dget (hu_of hr) (pv 1) pe_str (fun _ _ => rfl)) pa_nil)))) (retQ (callQ (argQ (varQ rfl (argQ (dgetC rfl B3.kw.last (spD_bl (E := E0) (ds := [.int (n + 1), .int (n + 1)]) true (.cons (.int _) (.cons (.int _) .nil)) ⟨_, _, rfl, by rw [decide_eq_true rfl]⟩ fun H7 s7 => ?_)))))))
    exact q _ _ _ _ (B3.mono s7) (by lia) (Int.le_refl _) ((k1.six.trans k3).trans (Kept.of s7))
open Classical in
noncomputable def tupsL (H : Hp) (l : Addr) : Hp := fun y => if y = l ∨ ∃ xs, H y = some (.tup xs) then H y else none
section
variable {H H2 : Hp} {l y : Addr} {i : Int}
set_option tactic.hygienic true in
theorem tupsL_same (kl : ∀ o, H l = some o → H2 l = some o) (kt : ∀ t xs, H t = some (.tup xs) → H2 t = some (.tup xs)) : Same (tupsL H l) H2 := fun y o e => by
  unfold tupsL at e
  split at e
  · rename_i z
    rcases z with rfl | ⟨xs, z⟩
    · exact kl _ e
    · rw [z] at e; cases e; exact kt _ _ z
  · cases e
theorem tupsL_at : tupsL H l l = H l := if_pos (.inl rfl)
theorem tupsL_tup {xs : List V} (e : H y = some (.tup xs)) : tupsL H l y = some (.tup xs) := by
  unfold tupsL
  rw [if_pos (.inr ⟨xs, e⟩)]
  exact e
def midL (l : KV3) (i : Int) (j : Nat) : KV3 := dropL (l.take j) i ++ l.drop j
theorem midL_all {l : KV3} {j : Nat} (h : l.length ≤ j) : midL l i j = dropL l i := by
  unfold midL
  rw [List.take_of_length_le h, List.drop_of_length_le h, List.append_nil]
theorem midL_at {l : KV3} {j : Nat} {p : Int × S3} (e : l[j]? = some p) : midL l i j = dropL (l.take j) i ++ p :: l.drop (j + 1) := by
  obtain ⟨h, rfl⟩ := List.getElem?_eq_some_iff.mp e
  unfold midL
  rw [List.drop_eq_getElem_cons h]
theorem take_at {l : KV3} {j : Nat} {p : Int × S3} (e : l[j]? = some p) : l.take (j + 1) = l.take j ++ [p] := by
  obtain ⟨h, rfl⟩ := List.getElem?_eq_some_iff.mp e
  rw [List.take_append_getElem h]
theorem midL_hit {l : KV3} {j : Nat} {p : Int × S3} (e : l[j]? = some p) (h : p.1 = i) : midL l i (j + 1) = dropL (l.take j) i ++ l.drop (j + 1) := by
  unfold midL
  rw [take_at e]
  unfold dropL
  rw [List.filter_append, List.filter_cons_of_neg (by simp [h])]
  simp
theorem midL_miss {l : KV3} {j : Nat} {p : Int × S3} (e : l[j]? = some p) (h : p.1 ≠ i) : midL l i (j + 1) = midL l i j := by
  rw [midL_at e]
  unfold midL
  rw [take_at e]
  unfold dropL
  rw [List.filter_append, List.filter_cons_of_pos (by simp [h])]
  simp
def DueIs (H : Hp) (dv : V) (i : Int) (seen : KV3) : Prop := (hasK seen i = false ∧ dv = .non) ∨ ∃ t x, dv = .ref t ∧ H t = some (.tup [.int x.1, .int x.2.1, .int x.2.2]) ∧ (i, x) ∈ seen
theorem DueIs.on {dv : V} {seen : KV3} (D : DueIs H dv i seen) (kt : ∀ t xs, H t = some (.tup xs) → H2 t = some (.tup xs)) : DueIs H2 dv i seen := by
  rcases D with D | ⟨t, x, e, h, m⟩
  · exact .inl D
  · exact .inr ⟨t, x, e, kt _ _ h, m⟩
theorem DueIs.miss {dv : V} {seen : KV3} {p : Int × S3} (D : DueIs H dv i seen) (h : p.1 ≠ i) : DueIs H dv i (seen ++ [p]) := by
  rcases D with ⟨D, e⟩ | ⟨t, x, e, w, m⟩
  · refine .inl ⟨?_, e⟩
    unfold hasK at D ⊢
    have D := of_decide_eq_false D
    refine decide_eq_false fun z => ?_
    rw [List.map_append, List.mem_append] at z
    rcases z with z | z
    · exact D z
    · exact h (List.mem_singleton.mp z).symm
  · exact .inr ⟨t, x, e, w, List.mem_append_left _ m⟩
def selH (k : Str) (l hs : KV3) : KV3 := if k = hotW then l else hs
def selC (k : Str) (l ks : KV3) : KV3 := if k = hotW then ks else l
theorem all_sel (k : Str) (l hs ks : KV3) : allOf k (selH k l hs) (selC k l ks) = l := by
  unfold allOf selH selC
  split <;> rfl
theorem selH_all (k : Str) (hs ks : KV3) : selH k (allOf k hs ks) hs = hs := by
  unfold allOf selH
  split <;> rfl
theorem selC_all (k : Str) (hs ks : KV3) : selC k (allOf k hs ks) ks = ks := by
  unfold allOf selC
  split <;> rfl
theorem Rw.setL {r lh lk : Addr} {n : Int} {hs ks l l' : KV3} {k : Str} {vs : List V} (R : Rw H r lh lk n (selH k l hs) (selC k l ks)) (pr : PrsAt H vs l') :
    Rw (upd H (kL k lh lk) (.lst vs)) r lh lk n (selH k l' hs) (selC k l' ks) ∧ Kept [lh, lk] H (upd H (kL k lh lk) (.lst vs)) := by
  obtain ⟨v1, e1, p1⟩ := R.eh
  obtain ⟨v2, e2, p2⟩ := R.ek
  have er := R.er
  have kt : ∀ t xs, H t = some (.tup xs) → (upd H (kL k lh lk) (.lst vs)) t = some (.tup xs) := fun t xs e => by
    unfold kL
    split
    · rw [upd_ne (ne_of e e1 (by intro z; cases z))]; exact e
    · rw [upd_ne (ne_of e e2 (by intro z; cases z))]; exact e
  by_cases z : k = hotW
  · have kl : kL k lh lk = lh := if_pos z
    have sh : ∀ l hs, selH k l hs = l := fun l hs => if_pos z
    have sc : ∀ l ks, selC k l ks = ks := fun l ks => if_pos z
    rw [sh] at p1
    rw [sc] at p2
    rw [sh, sc]
    rw [kl] at kt ⊢
    refine ⟨⟨by rw [upd_ne (ne_of er e1 (by intro z; cases z))]; exact er, R.ne, ⟨_, upd_same, PrsAt.on pr kt⟩, ⟨_, by rw [upd_ne R.ne.symm]; exact e2, PrsAt.on p2 kt⟩⟩, fun y o e m => by rw [upd_ne fun z => m (by simp [z])]; exact e⟩
  · have kl : kL k lh lk = lk := if_neg z
    have sh : ∀ l hs, selH k l hs = hs := fun l hs => if_neg z
    have sc : ∀ l ks, selC k l ks = l := fun l ks => if_neg z
    rw [sh] at p1
    rw [sc] at p2
    rw [sh, sc]
    rw [kl] at kt ⊢
    refine ⟨⟨by rw [upd_ne (ne_of er e2 (by intro z; cases z))]; exact er, R.ne, ⟨_, by rw [upd_ne R.ne]; exact e1, PrsAt.on p1 kt⟩, ⟨_, upd_same, PrsAt.on pr kt⟩⟩, fun y o e m => by rw [upd_ne fun z => m (by simp [z])]; exact e⟩
theorem nos_pr (p : Int × S3) : nos (dPr p) = true ∧ dep (dPr p) ≤ 60 := by
  unfold dPr d3
  simp only [nos_tup, noss_cons, noss_nil, nos_int, dep_tup, deps_cons, deps_nil, dep_int]
  decide
theorem peq_pr {z p : Int × S3} (h : z.1 ≠ p.1) : peq (dPr z) (dPr p) = false := by
  unfold dPr
  unfold peq
  unfold peqs
  have : peq (.int z.1) (.int p.1) = false := by unfold peq; simpa using h
  rw [this]
  rfl
theorem peq_pr_self (p : Int × S3) : peq (dPr p) (dPr p) = true := by
  unfold dPr d3
  simp [peq, peqs]
theorem nodup_val : ∀ {l : KV3} {x x' : S3}, (l.map (·.1)).Nodup → (i, x) ∈ l → (i, x') ∈ l → x = x'
  | [], _, _, _, h, _ => nomatch h
  | p :: r, x, x', nd, h, h' => by
    rw [List.map_cons, List.nodup_cons] at nd
    rcases List.mem_cons.mp h with e | h
    · rcases List.mem_cons.mp h' with e' | h'
      · rw [← e] at e'; exact (congrArg Prod.snd e').symm
      · exact absurd (List.mem_map.mpr ⟨_, h', by rw [← e]⟩) nd.1
    · rcases List.mem_cons.mp h' with e' | h'
      · exact absurd (List.mem_map.mpr ⟨_, h, by rw [← e']⟩) nd.1
      · exact nodup_val nd.2 h h'
theorem Ob.uniq {a dx b c : Addr} {g n : Int} {hs ks : KV3} {x x' : S3} (O : Ob CS H a dx b c g n hs ks) (m : (i, x) ∈ hs ∨ (i, x) ∈ ks) (m' : (i, x') ∈ hs ++ ks) : x = x' := by
  rcases m with m | m <;> rcases List.mem_append.mp m' with m' | m'
  · exact nodup_val O.nh.1 m m'
  · exact (O.dj _ m _ m' rfl).elim
  · exact (O.dj _ m' _ m rfl).elim
  · exact nodup_val O.nk.1 m m'
theorem hasK_of {l : KV3} {x : S3} (h : (i, x) ∈ l) : hasK l i = true := decide_eq_true (List.mem_map.mpr ⟨_, h, rfl⟩)
theorem alk_d3 (x y : S3) : Alk (d3 x) (d3 y) := .tup fun i a b e1 e2 => by
  have h : ∀ (ns : List Int) (i : Nat) (a : D), (ns.map D.int)[i]? = some a → ∃ n, a = .int n := fun ns i a e => by
    rw [List.getElem?_map] at e
    obtain ⟨n, _, z⟩ := Option.map_eq_some_iff.mp e
    exact ⟨n, z.symm⟩
  obtain ⟨n, rfl⟩ := h [x.1, x.2.1, x.2.2] i a e1
  obtain ⟨m, rfl⟩ := h [y.1, y.2.1, y.2.2] i b e2
  exact .int n m
theorem alk_pr (p q : Int × S3) : Alk (dPr p) (dPr q) := .tup fun i a b e1 e2 => by
  cases i with
  | zero => cases e1; cases e2; exact .int _ _
  | succ i => cases i with
    | zero => cases e1; cases e2; exact alk_d3 p.2 q.2
    | succ i => exact absurd e1 (by simp)
theorem nos_d3 (x : S3) : nos (d3 x) = true ∧ dep (d3 x) = 1 := by
  unfold d3
  simp only [nos_tup, noss_cons, noss_nil, nos_int, dep_tup, deps_cons, deps_nil, dep_int]
  decide
theorem peq_d3 (x : S3) : peq (d3 x) (d3 x) = true := by
  unfold d3
  simp [peq, peqs]
def Ph (m : Nat) (hs ks : KV3) (i : Int) (h' k' seen : KV3) : Prop := (m = 0 ∧ h' = hs ∧ k' = ks ∧ seen = []) ∨ (m = 1 ∧ h' = dropL hs i ∧ k' = ks ∧ seen = hs) ∨ (m = 2 ∧ h' = dropL hs i ∧ k' = dropL ks i ∧ seen = hs ++ ks)
theorem paired_erase {α β : Type} {F : α → β → Prop} : ∀ {l : List α} {r : List β} (j : Nat), Paired F l r → Paired F (l.eraseIdx j) (r.eraseIdx j)
  | _, _, _, .nil => by simp only [List.eraseIdx_nil]; exact .nil
  | _, _, 0, .cons _ t => t
  | _, _, j + 1, .cons f t => .cons f (paired_erase j t)
theorem erase_mid (u v : KV3) (p : Int × S3) : (u ++ p :: v).eraseIdx u.length = u ++ v := by
  rw [List.eraseIdx_append_of_length_le (Nat.le_refl _), Nat.sub_self]
  rfl
theorem kept_two {lh lk a b c r : Addr} (k : Kept [lh, lk] H H2) : Kept (six a b c r lh lk) H H2 := fun y o e m => k y o e fun z => m (by
  rcases List.mem_cons.mp z with rfl | z
  · simp
  rw [List.mem_singleton.mp z]; simp)
end
theorem Rw.rep {H : Hp} {r lh lk : Addr} {n : Int} {hs ks : KV3} (R : Rw H r lh lk n hs ks) : Rep K H (.ref r) (.ext (.rws n hs ks)) := .ext ⟨lh, lk, R.er, R.eh, R.ek⟩
def nums1 (l : KV3) : List D := l.map fun p => D.int p.1
theorem nos_nums1 (l : KV3) : nos (.lst (nums1 l)) = true ∧ dep (.lst (nums1 l)) ≤ 60 := by
  rw [nos_lst, dep_lst]
  have : noss (nums1 l) = true ∧ deps (nums1 l) ≤ 1 := by
    unfold nums1
    induction l with
    | nil => exact ⟨rfl, Nat.zero_le _⟩
    | cons p r ih =>
      rw [List.map_cons, noss_cons, deps_cons, nos_int, dep_int]
      refine ⟨by rw [ih.1]; rfl, ?_⟩
      have := ih.2
      lia
  exact ⟨this.1, by have := this.2; lia⟩
theorem peq_nums1 (l : KV3) : peq (.lst (nums1 l)) (.lst []) = decide (l = []) := by
  cases l with
  | nil => rfl
  | cons p r => unfold nums1 peq; rfl
inductive OrP (CS : Addr) : List V → Hp → VK → Prop
  | mk {H : Hp} {Q : VK} (a dx b c r lh lk : Addr) (g n ce : Int) (hs ks : KV3) (B : Bo CS H a dx b c r lh lk g n hs ks) (n4 : n ≤ 10000) (q : After CS H a dx b c r lh lk g n Q) : OrP CS [.ref a, .ref r, .int ce] H Q
def spOR (CS : Addr) : Sp := fun vs H Q _ => OrP CS vs H Q
abbrev sO (a r : Addr) (ce : Int) (so nu du ki on : Option V) : St := [some (.ref a), some (.ref r), some (.int ce), so, nu, du, ki, on]
inductive O5 (Hl : Hp) (r lh lk : Addr) (n i : Int) (hs ks : KV3) (s : V → Option V → Option V → St) (m : Nat) : St → Hp → Prop
  | mk (dv : V) (kd on : Option V) (h' k' seen : KV3) {H' : Hp} (R : Rw H' r lh lk n h' k') (kp : Kept [lh, lk] Hl H') (du : DueIs H' dv i seen) (ph : Ph m hs ks i h' k' seen) : O5 Hl r lh lk n i hs ks s m (s dv kd on) H'
inductive O6 (H5 : Hp) (r lh lk : Addr) (n i : Int) (k : Str) (l0 h' k' seen : KV3) (s : V → Option V → St) (j : Nat) : St → Hp → Prop
  | mk (dv : V) (on : Option V) {H' : Hp} (R : Rw H' r lh lk n (selH k (midL l0 i j) h') (selC k (midL l0 i j) k')) (kp : Kept [lh, lk] H5 H') (du : DueIs H' dv i (seen ++ l0.take j)) : O6 H5 r lh lk n i k l0 h' k' seen s j (s dv on) H'
theorem O5.kp {Hl : Hp} {r lh lk : Addr} {n i : Int} {hs ks : KV3} {s : V → Option V → Option V → St} {m : Nat} {σ : St} {H' : Hp} : O5 Hl r lh lk n i hs ks s m σ H' → Kept [lh, lk] Hl H'
  | .mk _ _ _ _ _ _ _ k _ _ => k
theorem O6.kp {H5 : Hp} {r lh lk : Addr} {n i : Int} {k : Str} {l0 h' k' seen : KV3} {s : V → Option V → St} {j : Nat} {σ : St} {H' : Hp} : O6 H5 r lh lk n i k l0 h' k' seen s j σ H' → Kept [lh, lk] H5 H'
  | .mk _ _ _ k _ => k
inductive O4 (H : Hp) (s : Int → St) : St → Hp → Prop
  | mk (i : Int) {H1 : Hp} (hi : Sm i) (s1 : Same H H1) : O4 H s (s i) H1
theorem new_off {H : Hp} {r lh lk l : Addr} {n : Int} {hs ks : KV3} (R : Rw H r lh lk n hs ks) (hl : H l = none) : l ∉ [lh, lk] := fun z => R.there (List.mem_cons_of_mem _ z) hl
theorem ok_law_out_right (T : Blt mg) (TX : Errs K mg cs) (TC : ClsT K mg CS) (F_law_out : Fn P w K mg base "_law_out" 3 ["streams", "number"] (spLO cs CS)) (F_law_stir : Fn P w K mg base "_law_stir" 1 ["cell", "k"] (spD K r_law_stir)) (F : Fun K "_law_out_right" "_law_out_right" s_law_out_right f fd) : FnOk P w K mg base CX0 4 f fd ["streams", "rows", "cell"] (spOR CS) := by
  refine F.ok sc_law_out_right (fun vs H Q E h => ?_) fun cdv A outer s H vs Q E hr h => ?_
  · cases (show OrP CS vs H Q from h)
    rfl
  · cases (show OrP CS vs H Q from h) with | mk a dx b c r lh lk g n ce hs ks B n4 q =>
    refine any_fun fun En eD => ?_
    rw [← eD] at q
    clear eD
    refine any_cons (pv_setLC (i := 3) sc_law_out_right.nd rfl (Or.inl rfl) (g := (.t [0, 1])) (tc := dTrue) (te := (dVar 0)) (sc0 := defScope s_law_out_right) (N0 := ["streams", "rows", "cell", "some", "number", "due", "kind", "one"]) ["number", "one"] [none, none] rfl (di_list (de_op od_plus (de_rws hr (dv 1) de_str) (de_rws hr (dv 1) de_str))) (fun _ _ _ _ _ => (pg_seq rfl (pgs_cons (pg_name (i := 0) (show (["number", "one"] : List Str).Nodup by decide +kernel) rfl (Or.inl rfl)) (pgs_cons (pg_name (i := 1) (show (["number", "one"] : List Str).Nodup by decide +kernel) rfl (Or.inl rfl)) pgs_nil)))) (fun _ _ _ _ _ => difs_nil) (fun _ _ _ _ _ => (dv 0))) ?_
    refine cE_lst [none, some (.p (.ext (.rws n hs ks)))] (nums1 (hs ++ ks)) (repE_skip (repE_cons B.kw.rep repE_nil)) ?_ fun so vs H1 s1 _ e1 r1 => ?_
    · repeat (first | walk_at "rs1" | walk_at "rsx" | set_option simprocs false in simp only [getR_hot, getR_cold])
      have ll : (hs ++ ks).length ≤ 24 := by have := B.h12; have := B.k12; rw [List.length_append]; lia
      refine ⟨by rw [List.length_map, List.length_map]; exact Nat.le_of_lt (lt1000 (by rw [List.length_append] at ll; lia)), ?_⟩
      rw [← List.map_append]
      refine lc_funE (xs := hs ++ ks) (e := dPr) (fun d => match d with | .tup [.int i, _] => some (.int i) | _ => none) (fun p => some (.int p.1)) (fun r _ => rfl) (by lia) (fun p hp => ?_) ?_
      · unfold dPr
        walk_at "rs"
        exact ⟨fun _ => trivial, fun z => nomatch z⟩
      · unfold nums1
        rw [List.filterMap_eq_map']
    have rso : Rep K H1 (.ref so) (.lst (nums1 (hs ++ ks))) := Rep.lst' e1 r1
    clear e1 r1 vs
    refine any_cons (ps_set (i := 4) sc_law_out_right.nd rfl (Or.inl rfl) ((de_op od_sub (de_op od_mod (de_fn F_law_stir (hr.mono (by decide)) (by rfl) (da_cons (dv 2) (da_cons de_int da_nil))) (de_op od_plus (de_rws hr (dv 1) de_str) de_int)) de_int)).pe) (cE_intE [none, some (.p (.ext (.rws n hs ks))), some (.p (.int ce))] Sm (repE_skip (repE_cons (B.mono s1).kw.rep (repE_cons (.int _) repE_nil))) ?_ fun i0 H2 hi0 s2 => ?_)
    · repeat (first | dsimp only [r_law_stir] | walk_at "rs1" | walk_at "rsx" | set_option simprocs false in simp only [getR_last])
      have n0 := B.ob.n0
      have m := stir_mod ce 1 (n + 3) (by lia)
      exact ⟨by lia, _, sm_of (by lia) (by lia), rfl⟩
    replace rso := rso.mono s2
    replace s2 := s1.trans s2
    clear s1
    refine any_cut (O4 H fun i => sO a r ce (some (.ref so)) (some (.int i)) none none none) (ps_if ((DW.dt (dw_and (dt_cmp (od_neD hr) (dv 3) (de_lst da_nil) (nomark _)) (dw_and1 (dt_cmp od_gt (de_op od_mod (de_fn F_law_stir (hr.mono (by decide)) (by rfl) (da_cons (dv 2) (da_cons de_int da_nil))) de_int) de_int (nomark _)))))).pt (pss_one (ps_set (i := 4) sc_law_out_right.nd rfl (Or.inl rfl) ((de_ix (dv 3) (de_op od_mod (de_fn F_law_stir (hr.mono (by decide)) (by rfl) (da_cons (dv 2) (da_cons de_int da_nil))) (de_callB cd_len (by rfl) T.b_len PySem.boot_len (da_cons (dv 3) da_nil))))).pe)) pss_nil) (fun N _ hN => ?_) ?_
    · have re : RepE K H2 (sO a r ce (some (.ref so)) (some (.int i0)) none none none) [none, none, some (.p (.int ce)), some (.p (.lst (nums1 (hs ++ ks))))] := repE_skip (repE_skip (repE_cons (.int _) (repE_cons rso repE_nil)))
      refine cT_go _ (decide (0 < (hs ++ ks).length ∧ 0 < stirX ce 2 % 4)) re ?_ fun H3 s3 => ?_
      · repeat (first | dsimp only [r_law_stir] | walk_at "rs1" | walk_at "rsx")
        obtain ⟨w1, w2⟩ := nos_nums1 (hs ++ ks)
        refine ⟨⟨.lst fun _ _ _ _ e => absurd e (by simp), w2⟩, ?_⟩
        rw [peq_nums1]
        have m := stir_mod ce 2 4 (by decide)
        refine ⟨fun z => ⟨by decide, decide_eq_decide.mpr ⟨fun w => ⟨?_, w⟩, fun w => w.2⟩⟩, fun z => (decide_eq_false fun w => ?_).symm⟩
        · cases e : hs ++ ks with
          | nil => rw [e] at z; cases z
          | cons _ _ => exact Nat.succ_pos _
        · cases e : hs ++ ks with
          | nil => rw [e] at w; exact absurd w.1 (by decide)
          | cons _ _ => rw [e] at z; cases z
      · refine ite2 (fun z => ?_) fun z => hN _ _ (.mk i0 hi0 (s2.trans s3))
        have z' := of_decide_eq_true z
        refine cE_intE _ Sm (re.mono s3) ?_ fun i H4 hi s4 => hN _ _ (.mk i hi ((s2.trans s3).trans s4))
        · repeat (first | dsimp only [r_law_stir] | walk_at "rs1" | walk_at "rsx")
          have ln : (nums1 (hs ++ ks)).length = (hs ++ ks).length := List.length_map _
          rw [ln]
          have l0 : (0 : Int) < ((hs ++ ks).length : Int) := by have := z'.1; lia
          have m0 := Int.emod_nonneg (stirX ce 3) (b := ((hs ++ ks).length : Int)) (by lia)
          have m1 := Int.emod_lt_of_pos (stirX ce 3) l0
          obtain ⟨w, hw⟩ := Int.eq_ofNat_of_zero_le m0
          rw [hw] at m1 ⊢
          have wl : w < (hs ++ ks).length := by lia
          have n0 := B.ob.n0
          refine ⟨l0, _, atI_of (List.getElem?_eq_getElem wl), _, ?_, rfl⟩
          have mem := List.getElem_mem wl
          rcases List.mem_append.mp mem with h | h
          · have := B.ob.nh.2 _ h; exact sm_of (by lia) (by lia)
          · have := B.ob.nk.2 _ h; exact sm_of (by lia) (by lia)
    clear s2 rso hi0 i0 H2
    intro σ H1 w
    cases w with | mk i hi s1 =>
    refine any_cons (ps_set (i := 5) sc_law_out_right.nd rfl (Or.inl rfl) pe_non) ?_
    refine any_cons (ps_for PassesOwn.never rfl (pi_list (pe_lst (pa_cons pe_str (pa_cons pe_str pa_nil)))) (pg_name (i := 6) sc_law_out_right.nd rfl (Or.inl rfl)) pss_any) ⟨small_len (Nat.le_of_ble_eq_true rfl), fun l hl => ⟨l, rfl, ⟨_, SqL.of upd_same⟩, ?_⟩⟩
    have hun := hr.units
    have B1 := B.mono s1
    have nl : l ∉ [lh, lk] := new_off B1.kw hl
    have sl := same_new (o := .lst [.str hotW, .str coldW]) hl
    have Bl := B1.mono sl
    have el : (upd H1 l (.lst [.str hotW, .str coldW])) l = some (.lst [.str hotW, .str coldW]) := upd_same
    have s0 := s1.trans sl
    show ∃ W : Nat → Nat → St → Hp → Prop, (∃ m, W 0 m (sO a r ce (some (.ref so)) (some (.int i)) (some .non) none none) (upd H1 l (.lst [.str hotW, .str coldW]))) ∧ _
    generalize (upd H1 l (.lst [.str hotW, .str coldW])) = Hl at *
    clear sl s1 hl B1 H1
    have itl := itd_list (K := K) (G := tupsL Hl l) (a := l) (vs := [.str hotW, .str coldW]) (ds := [.str hotW, .str coldW]) (SqL.of (tupsL_at.trans el)) (.cons (.str _) (.cons (.str _) .nil))
    have ktl : ∀ {H' : Hp}, Kept [lh, lk] Hl H' → ∀ t xs, Hl t = some (.tup xs) → H' t = some (.tup xs) := fun k t xs e => k t _ e fun z => Bl.kw.tup e (List.mem_cons_of_mem _ z)
    refine for_itdD itl (O5 Hl r lh lk n i hs ks fun dv kd on => sO a r ce (some (.ref so)) (some (.int i)) (some dv) kd on) (.mk .non none none hs ks [] Bl.kw (Kept.of (Same.refl _)) (.inl ⟨rfl, rfl⟩) (.inl ⟨rfl, rfl, rfl, rfl⟩))
      (fun m σ H' w => tupsL_same (fun o e => w.kp _ _ e nl) (ktl w.kp)) ?_ ?_
    · intro m d x σ H3 H4 D1 _ hD1 hx w s4 rx
      cases w with | mk dv kd on h' k' seen R kp du ph =>
      obtain ⟨k, rfl, hk, nx⟩ : ∃ k : Str, d = .str k ∧ (k = hotW ∨ k = coldW) ∧ Ph (m + 1) hs ks i (selH k (dropL (allOf k h' k') i) h') (selC k (dropL (allOf k h' k') i) k') (seen ++ allOf k h' k') := by
        rcases ph with ⟨rfl, rfl, rfl, rfl⟩ | ⟨rfl, rfl, rfl, rfl⟩ | ⟨rfl, _⟩
        · exact ⟨hotW, (Option.some.inj hx).symm, .inl rfl, .inr (.inl ⟨rfl, rfl, rfl, rfl⟩)⟩
        · exact ⟨coldW, (Option.some.inj hx).symm, .inr rfl, .inr (.inr ⟨rfl, rfl, rfl, rfl⟩)⟩
        · cases hx
      clear hx ph
      obtain rfl := rx.str_inv
      clear rx
      have R4 := R.mono s4
      have k4 := kp.trans (Kept.of s4)
      have du4 := du.on fun t xs e => s4 _ _ e
      clear R kp du s4 H3
      obtain ⟨gk, vs, ev, pr⟩ := R4.of hk
      show tAny _ _ _ (sO a r ce (some (.ref so)) (some (.int i)) (some dv) (some (.str k)) on) H4
      refine any_one (ps_for PassesOwn.never rfl (pi_list (pe_callTy call_list_of (by rfl) T.b_list (by rfl) (pa_cons (pe_dget (hu_of hr) (pv 1) (pv 6) (fun _ _ => rfl)) pa_nil))) (pg_name (i := 7) sc_law_out_right.nd rfl (Or.inl rfl)) pss_any) ⟨_, rfl, _, rfl, r, _, rfl, gk, _, vs, rfl, .inl (SqL.of ev), fun l2 hl2 => ⟨l2, rfl, ⟨_, SqL.of upd_same⟩, ?_⟩⟩
      have s5 := same_new (o := .lst vs) hl2
      have el2 : (upd H4 l2 (.lst vs)) l2 = some (.lst vs) := upd_same
      have n2 : l2 ∉ [lh, lk] := new_off R4 hl2
      have R5 := R4.mono s5
      have k5 := k4.trans (Kept.of s5)
      have du5 := du4.on fun t xs e => s5 _ _ e
      have pr5 := PrsAt.on pr fun t xs e => s5 _ _ e
      clear R4 k4 du4 pr gk ev
      generalize (upd H4 l2 (.lst vs)) = H5 at *
      clear s5 hl2 H4
      have it2 := itd_list (K := K) (G := tupsL H5 l2) (SqL.of (tupsL_at.trans el2)) (PrsAt.reps (K := K) (PrsAt.on pr5 fun t xs e => tupsL_tup (l := l2) e))
      have kt5 : ∀ {H' : Hp}, Kept [lh, lk] H5 H' → ∀ t xs, H5 t = some (.tup xs) → H' t = some (.tup xs) := fun k t xs e => k t _ e fun z => R5.tup e (List.mem_cons_of_mem _ z)
      clear el2 pr5 vs
      generalize hl0 : allOf k h' k' = l0 at *
      refine for_itdD it2 (O6 H5 r lh lk n i k l0 h' k' seen fun dv on => sO a r ce (some (.ref so)) (some (.int i)) (some dv) (some (.str k)) on) (.mk dv on ?_ (Kept.of (Same.refl _)) ?_)
        (fun m σ H' w => tupsL_same (fun o e => w.kp _ _ e n2) (kt5 w.kp)) ?_ ?_
      · show Rw H5 r lh lk n (selH k l0 h') (selC k l0 k')
        rw [← hl0, selH_all, selC_all]
        exact R5
      · rw [List.take_zero, List.append_nil]; exact du5
      · intro j d x σ H6 H7 D2 _ hD2 hx w s7 rx
        cases w with | mk dv on R6 k6 du6 =>
        rw [List.getElem?_map] at hx
        obtain ⟨p, hp, rfl⟩ := Option.map_eq_some_iff.mp hx
        obtain ⟨u, t, rfl, eu, et⟩ := rep_pr rx
        have R7 := R6.mono s7
        have k7 := k6.trans (Kept.of s7)
        have du7 := du6.on fun t xs e => s7 _ _ e
        clear hx rx R6 k6 du6 s7 H6
        refine any_one (ps_if (pt_cmpR op_eqK (pe_ix ix_seq (pv 7) pe_int (fun _ _ => rfl)) (pv 4) (nomark _)) pss_any pss_any) ⟨_, rfl, .inr (.inl ⟨u, _, 0, _, rfl, rfl, SqT.of eu, rfl, _, rfl, rfl, _, rfl, ite2 (fun z => ?_) fun z => ?_⟩)⟩
        · have pi : p.1 = i := V.int.inj (of_decide_eq_true z)
          have m1 := midL_at (i := i) hp
          obtain ⟨gk, vs, ev, pr⟩ := R7.of hk
          rw [all_sel, m1] at pr
          refine any_cons (ps_set (i := 5) sc_law_out_right.nd rfl (Or.inl rfl) (pe_ix ix_seq (pv 7) pe_int (fun _ _ => rfl))) ⟨_, rfl, .inr (.inl ⟨u, _, 1, _, rfl, rfl, SqT.of eu, rfl, ?_⟩)⟩
          refine any_one (ps_expr (pe_bm PySem.F.plainAttrs_list PySem.F.slot_list_remove PySem.F.type_list_remove mt_remove (pe_dget (hu_of hr) (pv 1) (pv 6) (fun _ _ => rfl)) (pa_cons (pv 7) pa_nil))) ⟨_, rfl, _, rfl, r, _, rfl, gk, .inl ⟨rfl, _, SqL.of ev⟩, _, rfl, ?_⟩
          refine RemP.mk _ vs (.ref u) (dropL (l0.take j) i).length H7 _ (dPr p) ev (Same.refl _) pr.reps (PrAt.rep ⟨u, t, rfl, eu, et⟩) (fun z hz => ?_) ?_ ?_ (fun z hz => ?_) (fun m z hm hz => ?_) ?_
          · obtain ⟨w, _, rfl⟩ := List.mem_map.mp hz
            exact ⟨alk_pr w p, (nos_pr w).2⟩
          · exact Nat.lt_trans (Nat.add_lt_add_left (show 62 < 64 by decide) _) hun
          · simp
          · rw [List.getElem?_map, List.getElem?_append_right (Nat.le_refl _), Nat.sub_self] at hz
            cases hz
            exact peq_pr_self p
          · rw [List.getElem?_map, List.getElem?_append_left hm] at hz
            obtain ⟨w, ew, rfl⟩ := Option.map_eq_some_iff.mp hz
            have := of_decide_eq_true (List.mem_filter.mp (List.mem_of_getElem? ew)).2
            exact peq_pr (by rw [pi]; exact this)
          · have pe := paired_erase (dropL (l0.take j) i).length pr
            rw [erase_mid] at pe
            obtain ⟨R8, k8⟩ := R7.setL pe
            refine hD2 _ _ (.mk (.ref t) _ (by rw [midL_hit hp pi]; exact R8) (k7.trans k8) (.inr ⟨t, p.2, rfl, k8 _ _ et fun z => R7.tup et (List.mem_cons_of_mem _ z), ?_⟩))
            rw [take_at hp, ← pi]
            exact List.mem_append_right _ (List.mem_append_right _ List.mem_cons_self)
        · have pi : p.1 ≠ i := fun w => z (decide_eq_true (congrArg V.int w))
          refine any_nil (hD2 _ _ (.mk dv _ (by rw [midL_miss hp pi]; exact R7) k7 ?_))
          rw [take_at hp, ← List.append_assoc]
          exact du7.miss pi
      · intro σ H6 w
        cases w with | mk dv on R6 k6 du6 =>
        rw [List.length_map] at R6 du6
        rw [midL_all (Nat.le_refl _)] at R6
        rw [List.take_length] at du6
        exact hD1 _ _ (.mk dv _ on _ _ _ R6 (k5.trans k6) du6 nx)
    · intro σ H' w
      cases w with | mk dv kd on h' k' seen R kp du ph =>
      obtain ⟨rfl, rfl, rfl⟩ : h' = dropL hs i ∧ k' = dropL ks i ∧ seen = hs ++ ks := by
        rcases ph with ⟨z, _⟩ | ⟨z, _⟩ | ⟨_, z⟩
        · exact absurd z (by decide)
        · exact absurd z (by decide)
        · exact z
      have O' : Ob CS H' a dx b c g n hs ks := Bl.ob.keep (fun y hy o e => kp _ _ e fun z => Bl.off y (List.mem_cons_of_mem _ z) hy) (ktl kp)
      have kh : Kept (six a b c r lh lk) H H' := (Kept.of s0).trans (kept_two kp)
      refine any_one (ps_ret (pe_cmpR op_eqD (pe_fn F_law_out (hr.mono (by decide)) (by rfl) (pa_cons (pv 0) (pa_cons (pv 4) pa_nil))) (pv 5) (nomark _))) ⟨_, rfl, _, rfl, .mk a dx b c g n i hs ks O' hi (fun f1 f2 H2 s2 => ⟨_, rfl, ?_⟩) fun f t x H2 mem et O2 k2 => ⟨_, rfl, ?_⟩⟩
      · rcases du with ⟨_, rfl⟩ | ⟨t, x, _, _, m⟩
        · refine ⟨H2, .non, .non, Same.refl _, .non, .non, .non, Nat.lt_trans (Nat.add_lt_add_left (show 0 < 64 by decide) _) hun, ?_⟩
          rw [dropL_no f1, dropL_no f2] at R
          exact q H2 n hs ks ⟨O'.mono s2, R.mono s2, B.rb, B.rc, B.h12, B.k12⟩ (Int.le_refl _) (by lia) (kh.trans (Kept.of s2))
        · rcases List.mem_append.mp m with m | m
          · rw [hasK_of m] at f1; cases f1
          · rw [hasK_of m] at f2; cases f2
      · rcases du with ⟨w, _⟩ | ⟨t', x', rfl, et', m'⟩
        · have : hasK (hs ++ ks) i = true := by
            rcases mem with m | m
            · exact hasK_of (List.mem_append_left _ m)
            · exact hasK_of (List.mem_append_right _ m)
          rw [this] at w
          cases w
        · obtain rfl := O'.uniq mem m'
          refine ⟨H2, d3 x, d3 x, Same.refl _, rep_3 et, rep_3 (k2 _ _ et' (O'.tup et')), alk_d3 x x, ?_, ?_⟩
          · rw [(nos_d3 x).2]
            exact Nat.lt_trans (Nat.add_lt_add_left (show 1 < 64 by decide) _) hun
          · show En.rt (.bl (peq (d3 x) (d3 x))) H2
            rw [peq_d3]
            have R2 : Rw H2 r lh lk n (dropL hs i) (dropL ks i) := R.keep (fun y hy o e => k2 y o e (Bl.off y hy)) fun t xs e => k2 _ _ e (O'.tup e)
            exact q H2 n _ _ ⟨O2, R2, B.rb, B.rc, Nat.le_trans (List.length_filter_le _ _) B.h12, Nat.le_trans (List.length_filter_le _ _) B.k12⟩ (Int.le_refl _) (by lia) (kh.trans k2.six)
def T3 (H : Hp) (v : V) (x : S3) : Prop := ∃ t, v = .ref t ∧ H t = some (.tup [.int x.1, .int x.2.1, .int x.2.2])
abbrev T3s (H : Hp) : List V → List S3 → Prop := Paired (T3 H)
section
variable {H H2 G : Hp} {M : List Addr}
theorem T3s.on {vs : List V} {A : List S3} (h : T3s H vs A) (kt : ∀ t xs, H t = some (.tup xs) → H2 t = some (.tup xs)) : T3s H2 vs A := Paired.imp' (by rintro _ _ ⟨t, e, h1⟩;exact ⟨t, e, kt _ _ h1⟩) h
theorem T3s.reps {vs : List V} {A : List S3} (h : T3s H vs A) : Reps K H vs (A.map d3) := by
  induction h with
  | nil => exact .nil
  | cons f _ ih => obtain ⟨t, rfl, e⟩ := f; exact .cons (rep_3 e) ih
theorem reps_t3 : ∀ {vs : List V} {A : List S3}, Reps K H vs (A.map d3) → T3s H vs A
  | _, [], h => by cases h; exact .nil
  | _, x :: A, h => by cases h with | cons a t => exact .cons (rep3 a) (reps_t3 t)
def L3 (H : Hp) (l : Addr) (A : List S3) : Prop := ∃ vs, H l = some (.lst vs) ∧ T3s H vs A
theorem L3.on {l : Addr} {A : List S3} (h : L3 H l A) (kb : ∀ o, H l = some o → H2 l = some o) (kt : ∀ t xs, H t = some (.tup xs) → H2 t = some (.tup xs)) : L3 H2 l A := by
  obtain ⟨vs, e, p⟩ := h
  exact ⟨vs, kb _ e, T3s.on p kt⟩
structure Wk3 (H : Hp) (p l1 l2 : Addr) (g : Int) (A B : List S3) : Prop where
  ep : H p = some (.tup [.int g, .ref l1, .ref l2])
  e1 : L3 H l1 A
  e2 : L3 H l2 B
  ne : l1 ≠ l2
abbrev dWs (g : Int) (A B : List S3) : D := .tup [.int g, .lst (A.map d3), .lst (B.map d3)]
variable {p l1 l2 : Addr} {g : Int} {A B : List S3}
theorem Wk3.on (W : Wk3 H p l1 l2 g A B) (kl : ∀ y ∈ [l1, l2], ∀ o, H y = some o → H2 y = some o) (kt : ∀ t xs, H t = some (.tup xs) → H2 t = some (.tup xs)) : Wk3 H2 p l1 l2 g A B :=
  ⟨kt _ _ W.ep, W.e1.on (kl _ (by simp)) kt, W.e2.on (kl _ (by simp)) kt, W.ne⟩
theorem Wk3.mono (W : Wk3 H p l1 l2 g A B) (s : Same H H2) : Wk3 H2 p l1 l2 g A B := W.on (fun y _ o e => s _ _ e) fun t xs e => s _ _ e
theorem Wk3.rep (W : Wk3 H p l1 l2 g A B) : Rep K H (.ref p) (dWs g A B) := by
  obtain ⟨v1, e1, t1⟩ := W.e1
  obtain ⟨v2, e2, t2⟩ := W.e2
  exact Rep.tup' W.ep (.cons (.int _) (.cons (Rep.lst' e1 t1.reps) (.cons (Rep.lst' e2 t2.reps) .nil)))
theorem wk_inv {H' G' : Hp} {v : V} (w : Wd H G H' G') (r : BRes K H G' H' v (.n (.wk g) [.lst (A.map d3), .lst (B.map d3)])) : ∃ p l1 l2, v = .ref p ∧ Wk3 H' p l1 l2 g A B ∧ H l1 = none ∧ H l2 = none := by
  obtain ⟨p, as, rfl, nd, pr, b, c, rfl, e⟩ := r
  cases pr with | cons r1 pr => cases pr with | cons r2 pr =>
    obtain ⟨n1, _, v1, e1, t1⟩ := r1
    obtain ⟨n2, _, v2, e2, t2⟩ := r2
    refine ⟨p, b, c, rfl, ⟨w.gh _ _ e, ⟨v1, e1, T3s.on (reps_t3 t1) fun t xs e => w.gh _ _ e⟩, ⟨v2, e2, T3s.on (reps_t3 t2) fun t xs e => w.gh _ _ e⟩, fun z => ?_⟩, n1, n2⟩
    rw [z] at nd
    simp at nd
open Classical in
noncomputable def wo (M : List Addr) (H : Hp) : Hp := fun y => if y ∈ M then none else H y
theorem wo_same : Same (wo M H) H := fun y o e => by
  unfold wo at e
  split at e
  · cases e
  · exact e
theorem wo_get {y : Addr} {o : HO} (n : y ∉ M) (e : H y = some o) : wo M H y = some o := by
  unfold wo
  rw [if_neg n]
  exact e
theorem wo_kept (k : Kept M H H2) : Same (wo M H) (wo M H2) := fun y o e => by
  by_cases z : y ∈ M
  · unfold wo at e; rw [if_pos z] at e; cases e
  · exact wo_get z (k _ _ (wo_same _ _ e) z)
theorem wo_tup {y : Addr} {xs : List V} (cm : ∀ y ∈ M, Chg H y) (e : H y = some (.tup xs)) : wo M H y = some (.tup xs) := wo_get (fun z => by
  obtain ⟨o, e2, n⟩ := cm y z
  rw [e] at e2
  exact n xs (Option.some.inj e2).symm) e
abbrev dHp (w : Int × List S3 × List S3) : D := .tup [dWs w.1 w.2.1 w.2.2, dWs w.1 w.2.1 w.2.2]
def HeldAt (K : PySem.W.Frag) (H : Hp) (M : List Addr) (hl : Addr) (ps : List (Int × List S3 × List S3)) : Prop := ∃ vs, H hl = some (.lst vs) ∧ Reps K (wo M H) vs (ps.map dHp)
theorem HeldAt.kept {hl : Addr} {ps : List (Int × List S3 × List S3)} (h : HeldAt K H M hl ps) (k : Kept M H H2) (e : ∀ o, H hl = some o → H2 hl = some o) : HeldAt K H2 M hl ps := by
  obtain ⟨vs, e1, r⟩ := h
  exact ⟨vs, e _ e1, Reps.mono (wo_kept k) r⟩
theorem Wk3.wo (W : Wk3 H p l1 l2 g A B) (cm : ∀ y ∈ M, Chg H y) (n1 : l1 ∉ M) (n2 : l2 ∉ M) : Wk3 (wo M H) p l1 l2 g A B :=
  W.on (fun y hy o e => wo_get (by
    rcases List.mem_cons.mp hy with rfl | hy
    · exact n1
    · rw [List.mem_singleton.mp hy]; exact n2) e) fun t xs e => wo_tup cm e
theorem HeldAt.add {hl q : Addr} {vs : List V} {ps : List (Int × List S3 × List S3)} {v1 v2 : V} (cm : ∀ y ∈ M, Chg H y) (hm : hl ∈ M) (e : H hl = some (.lst vs)) (r : Reps K (wo M H) vs (ps.map dHp)) (hq : H q = none) (r1 : Rep K (WS.wo M H) v1 (dWs g A B)) (r2 : Rep K (WS.wo M H) v2 (dWs g A B)) :
    HeldAt K (upd (upd H q (.tup [v1, v2])) hl (.lst (vs ++ [.ref q]))) M hl (ps ++ [(g, A, B)]) := by
  have nq : q ∉ M := fun z => (cm q z).there hq
  have kk : Kept M H (upd (upd H q (.tup [v1, v2])) hl (.lst (vs ++ [.ref q]))) := fun y o e n => by
    rw [upd_ne fun (z : y = hl) => n (by rw [z]; exact hm)]
    exact same_new hq _ _ e
  have sw := wo_kept kk
  refine ⟨_, upd_same, ?_⟩
  rw [List.map_append]
  refine Paired.snoc (Reps.mono sw r) (Rep.tup' (wo_get nq ?_) (.cons (r1.mono sw) (.cons (r2.mono sw) .nil)))
  rw [upd_ne fun (z : q = hl) => nq (by rw [z]; exact hm)]
  exact upd_same
end
def r_law_plain : DR := fun ds Q => ∃ A : List S3, ds = [.lst (A.map d3)] ∧ Q (.p (.bl true))
theorem ok_law_plain (T : Blt mg) (TX : Errs K mg cs) (TC : ClsT K mg CS) (F : Fun K "_law_plain" "_law_plain" s_law_plain f fd) : FnOk P w K mg base CX0 1 f fd ["streams"] (spD K r_law_plain) := by
  refine F.ok sc_law_plain (fun vs H Q E h => ?_) fun cdv A outer s H vs Q E hr h => ?_
  · obtain ⟨ds, G, P, sg, r, ⟨A, rfl, _⟩, _⟩ := h
    have := Paired.length r
    exact this
  · obtain ⟨ds, G, P0, sg, r, ⟨B, rfl, q⟩, kk⟩ := h
    obtain ⟨v, rfl, rv⟩ := reps1 r
    obtain ⟨y, vs, rfl, ey, rr⟩ := Rep.lst_inv rv
    refine any_go (any_cons (ps_for PassesOwn.never rfl (pi_list (pv 0)) (pg_name (i := 1) sc_law_plain.nd rfl (Or.inl rfl)) pss_any) ⟨_, rfl, y, rfl, ⟨_, SqL.of (sg _ _ ey)⟩, ?_⟩)
    refine for_itdD (itd_list (SqL.of ey) rr) (fun i σ H' => ∃ y1 y2, σ = [some (.ref y), y1, y2] ∧ Same H H') ⟨none, none, rfl, Same.refl _⟩ (by rintro i σ H' ⟨_, _, _, s'⟩;exact sg.trans s') ?_ ?_
    · rintro i d x σ H3 H4 D1 _ hD1 hx ⟨y1, y2, rfl, s3⟩ s4 rx
      rw [List.getElem?_map] at hx
      obtain ⟨z, _, rfl⟩ := Option.map_eq_some_iff.mp hx
      obtain ⟨t, rfl, et⟩ := rep3 rx
      replace s4 := s3.trans s4
      clear hx rx s3
      show tAny _ _ _ [some (.ref y), some (.ref t), y2] H4
      refine any_one (ps_for PassesOwn.never rfl (pi_tup (pv 1)) (pg_name (i := 2) sc_law_plain.nd rfl (Or.inl rfl)) pss_any) ⟨_, rfl, t, rfl, ⟨_, SqT.of et⟩, ?_⟩
      refine for_itdD (itd_tup (G := H4) (SqT.of et) (.cons (.int _) (.cons (.int _) (.cons (.int _) .nil)))) (fun i σ H' => ∃ y2, σ = [some (.ref y), some (.ref t), y2] ∧ Same H4 H') ⟨_, rfl, Same.refl _⟩ (by rintro i σ H' ⟨_, _, s'⟩;exact s') ?_ (by rintro σ H5 ⟨y2, e, s5⟩;exact hD1 _ _ ⟨_, _, e, s4.trans s5⟩)
      rintro j d x σ H5 H6 D2 _ hD2 hx ⟨y2, rfl, s5⟩ s6 rx
      obtain ⟨w, rfl⟩ : ∃ w : Int, d = .int w := by
        have hx' : ([z.1, z.2.1, z.2.2].map D.int)[j]? = some d := hx
        rw [List.getElem?_map] at hx'
        obtain ⟨w, _, e⟩ := Option.map_eq_some_iff.mp hx'
        exact ⟨w, e.symm⟩
      obtain rfl := rx.int_inv
      refine any_one (ps_if ((DW.dt (dw_or (dt_not (dt_val (de_isi (T := "int") (by simp) (by rfl) T.b_isinstance (dv 2) (pe_bltn (v := .ty "int") (by rfl) T.b_int PyProof.Rows.boot_int rfl)))) (dw_or1 (dt_val (de_isi (T := "bool") (by simp) (by rfl) T.b_isinstance (dv 2) (pe_bltn (v := .ty "bool") (by rfl) T.b_bool PyProof.Rows.boot_bool rfl))))))).pt pss_any pss_any) (cT_go [none, none, some (.p (.int w))] false (repE_skip (repE_skip (repE_cons (.int _) repE_nil))) ?_ fun H7 s7 => any_nil (hD2 _ _ ⟨_, rfl, (s5.trans s6).trans s7⟩))
      repeat (first | dsimp only [isD] | walk_at "rs1" | walk_at "rsx")
      exact ⟨(fun z => nomatch z), fun _ => trivial⟩
    · rintro σ H' ⟨y1, y2, rfl, s'⟩
      exact any_one (ps_ret pe_bl) (kk (.p (.bl true)) _ H' G q ⟨s', Same.refl _, sg.trans s', fun _ _ => rfl⟩ (.bl true))
structure Sn (H Hk : Hp) (p l1 l2 q f1 f2 : Addr) (g : Int) (A B A' B' : List S3) : Prop where
  sm : Same H Hk
  d : Wk3 Hk p l1 l2 g A B
  f : Wk3 Hk q f1 f2 g A' B'
  n1 : H l1 = none
  n2 : H l2 = none
  n3 : H f1 = none
  n4 : H f2 = none
  d1 : f1 ≠ l1
  d2 : f1 ≠ l2
  d3' : f2 ≠ l1
  d4 : f2 ≠ l2
section
variable {H Hk H2 : Hp} {p l1 l2 q f1 f2 : Addr} {g : Int} {A B A' B' C : List S3} {vs : List V}
theorem Sn.mono (S : Sn H Hk p l1 l2 q f1 f2 g A B A' B') (s : Same Hk H2) : Sn H H2 p l1 l2 q f1 f2 g A B A' B' := ⟨S.sm.trans s, S.d.mono s, S.f.mono s, S.n1, S.n2, S.n3, S.n4, S.d1, S.d2, S.d3', S.d4⟩
theorem upd_new {y : Addr} {o : HO} (s : Same H Hk) (n : H y = none) : Same H (upd Hk y o) := fun x u e => by
  rw [upd_ne (ne_of_none e n)]
  exact s _ _ e
theorem Sn.set1 (S : Sn H Hk p l1 l2 q f1 f2 g A B A' B') (t : T3s Hk vs C) : Sn H (upd Hk f1 (.lst vs)) p l1 l2 q f1 f2 g A B C B' := by
  obtain ⟨us, e, _⟩ := S.f.e1
  have kt : ∀ t xs, Hk t = some (.tup xs) → (upd Hk f1 (.lst vs)) t = some (.tup xs) := fun t xs e2 => by rw [upd_ne (ne_of e2 e (by intro z; cases z))]; exact e2
  refine ⟨upd_new S.sm S.n3, S.d.on (fun y hy o e2 => ?_) kt, ⟨kt _ _ S.f.ep, ⟨_, upd_same, T3s.on t kt⟩, S.f.e2.on (fun o e2 => by rw [upd_ne S.f.ne.symm]; exact e2) kt, S.f.ne⟩, S.n1, S.n2, S.n3, S.n4, S.d1, S.d2, S.d3', S.d4⟩
  rcases List.mem_cons.mp hy with rfl | hy
  · rw [upd_ne S.d1.symm]; exact e2
  · rw [List.mem_singleton.mp hy] at e2 ⊢; rw [upd_ne S.d2.symm]; exact e2
theorem Sn.set2 (S : Sn H Hk p l1 l2 q f1 f2 g A B A' B') (t : T3s Hk vs C) : Sn H (upd Hk f2 (.lst vs)) p l1 l2 q f1 f2 g A B A' C := by
  obtain ⟨us, e, _⟩ := S.f.e2
  have kt : ∀ t xs, Hk t = some (.tup xs) → (upd Hk f2 (.lst vs)) t = some (.tup xs) := fun t xs e2 => by rw [upd_ne (ne_of e2 e (by intro z; cases z))]; exact e2
  refine ⟨upd_new S.sm S.n4, S.d.on (fun y hy o e2 => ?_) kt, ⟨kt _ _ S.f.ep, S.f.e1.on (fun o e2 => by rw [upd_ne S.f.ne]; exact e2) kt, ⟨_, upd_same, T3s.on t kt⟩, S.f.ne⟩, S.n1, S.n2, S.n3, S.n4, S.d1, S.d2, S.d3', S.d4⟩
  rcases List.mem_cons.mp hy with rfl | hy
  · rw [upd_ne S.d3'.symm]; exact e2
  · rw [List.mem_singleton.mp hy] at e2 ⊢; rw [upd_ne S.d4.symm]; exact e2
end
inductive SnP (K : PySem.W.Frag) (CS : Addr) : List V → Hp → VK → Prop
  | mk {H : Hp} {Q : VK} (a dx b c r lh lk hl : Addr) (g n : Int) (hs ks : KV3) (M : List Addr) (ps : List (Int × List S3 × List S3)) (B : Bo CS H a dx b c r lh lk g n hs ks) (n6 : hl ∉ six a b c r lh lk) (hm : hl ∈ M) (cm : ∀ y ∈ M, Chg H y) (held : HeldAt K H M hl ps) (pl : ps.length ≤ 900)
      (q : ∀ H' ps', Kept [hl] H H' → HeldAt K H' M hl ps' → ps'.length = ps.length + 2 → Q (.bl true) H') : SnP K CS [.ref a, .ref r, .int g, .ref hl] H Q
def spSeen (K : PySem.W.Frag) (CS : Addr) : Sp := fun vs H Q _ => SnP K CS vs H Q
abbrev sS (a r : Addr) (g : Int) (hl : Addr) (du fo : Option V) : St := [some (.ref a), some (.ref r), some (.int g), some (.ref hl), du, fo]
theorem cE_n {t : DT} {σ : St} {H : Hp} {Q : VK} {g : Int} {A B : List S3} (ρ : DEnv) (re : RepE K H σ ρ) (h : t ρ fun b => b = .n (.wk g) [.lst (A.map d3), .lst (B.map d3)]) (k : ∀ p l1 l2 H', Same H H' → Wk3 H' p l1 l2 g A B → H l1 = none → H l2 = none → Q (.ref p) H') : cE K t σ H Q :=
  ⟨H, ρ, _, Same.refl _, re, h, fun b v H' G' e w r => by
    subst e
    obtain ⟨p, l1, l2, rfl, W, n1, n2⟩ := wk_inv w r
    exact k p l1 l2 H' w.hh W n1 n2⟩
theorem noss_d3s (A : List S3) : noss (A.map d3) = true ∧ deps (A.map d3) ≤ 1 := by
  induction A with
  | nil => exact ⟨rfl, Nat.zero_le _⟩
  | cons x r ih =>
    rw [List.map_cons, noss_cons, deps_cons, (nos_d3 x).1, (nos_d3 x).2]
    refine ⟨by rw [ih.1]; rfl, ?_⟩
    have := ih.2
    lia
theorem nos_dl (A : List S3) : nos (.lst (A.map d3)) = true ∧ dep (.lst (A.map d3)) ≤ 60 := by
  rw [nos_lst, dep_lst]
  exact ⟨(noss_d3s A).1, by have := (noss_d3s A).2; lia⟩
theorem nos_dw (g : Int) (A B : List S3) : nos (dWs g A B) = true ∧ dep (dWs g A B) ≤ 60 := by
  have a := noss_d3s A
  have b := noss_d3s B
  simp only [nos_tup, nos_lst, noss_cons, noss_nil, nos_int, dep_tup, dep_lst, deps_cons, deps_nil, dep_int, a.1, b.1]
  exact ⟨rfl, by lia⟩
theorem sn_of {H H1 H2 : Hp} {p l1 l2 q f1 f2 : Addr} {g : Int} {A B C D : List S3} (s1 : Same H H1) (s2 : Same H1 H2) (W1 : Wk3 H1 p l1 l2 g A B) (W2 : Wk3 H2 q f1 f2 g C D) (n1 : H l1 = none) (n2 : H l2 = none) (n3 : H1 f1 = none) (n4 : H1 f2 = none) : Sn H H2 p l1 l2 q f1 f2 g A B C D := by
  obtain ⟨_, e1, _⟩ := W1.e1
  obtain ⟨_, e2, _⟩ := W1.e2
  exact ⟨s1.trans s2, W1.mono s2, W2, n1, n2, s1.free n3, s1.free n4, (ne_of_none e1 n3).symm, (ne_of_none e2 n3).symm, (ne_of_none e1 n4).symm, (ne_of_none e2 n4).symm⟩
abbrev rLof (K : PySem.W.Frag) : List V → Hp → VK → Prop := fun xs H Q => ∃ p ys, xs = [.ref p] ∧ (SqL K H p ys ∨ SqT K H p ys) ∧ ∀ l, H l = none → Q (.ref l) (upd H l (.lst ys))
theorem sn_app {H H2 : Hp} {σ : St} {En : Ends} {p l1 l2 q f1 f2 : Addr} {g : Int} {A B C D : List S3} (S : Sn H H2 p l1 l2 q f1 f2 g A B C D) (h5 : σ[5]? = some (some (.ref q))) (lc : C.length ≤ 12) (k : ∀ H3, Sn H H3 p l1 l2 q f1 f2 g A B (C ++ [(90, 30, 1)]) D → En.nx σ H3) : tDrop (tBM K "list" rAppend (tOp (rIx K) (tVar 5) (tC (.int 1))) (tCons (tTup (tCons (tC (.int 90)) (tCons (tC (.int 30)) (tCons (tC (.int 1)) tNil)))) tNil)) En σ H2 := by
  obtain ⟨v1, e1, t1⟩ := S.f.e1
  have lv1 := Paired.length t1
  exact ⟨_, h5, .inr (.inl ⟨q, _, 1, _, rfl, rfl, SqT.of S.f.ep, rfl, .inl ⟨rfl, _, SqL.of e1⟩, small_len (Nat.le_of_ble_eq_true rfl), fun t ht => ⟨f1, v1, .ref t, rfl, rfl, same_new ht _ _ e1, lt1000 (by lia), k _ ((S.mono (same_new ht)).set1 (C := C ++ [(90, 30, 1)]) (Paired.snoc (T3s.on t1 fun t xs e => same_new ht _ _ e) ⟨t, rfl, upd_same⟩))⟩⟩)⟩
theorem sn_ins {H H2 : Hp} {σ : St} {En : Ends} {p l1 l2 q f1 f2 : Addr} {g : Int} {A B C D : List S3} (S : Sn H H2 p l1 l2 q f1 f2 g A B C D) (h5 : σ[5]? = some (some (.ref q))) (lc : D.length ≤ 12) (k : ∀ H3, Sn H H3 p l1 l2 q f1 f2 g A B C ((30, 90, 1) :: D) → En.nx σ H3) : tDrop (tBM K "list" rInsert (tOp (rIx K) (tVar 5) (tC (.int 2))) (tCons (tC (.int 0)) (tCons (tTup (tCons (tC (.int 30)) (tCons (tC (.int 90)) (tCons (tC (.int 1)) tNil)))) tNil))) En σ H2 := by
  obtain ⟨v2, e2, t2⟩ := S.f.e2
  have lv2 := Paired.length t2
  exact ⟨_, h5, .inr (.inl ⟨q, _, 2, _, rfl, rfl, SqT.of S.f.ep, rfl, .inl ⟨rfl, _, SqL.of e2⟩, small_len (Nat.le_of_ble_eq_true rfl), fun t ht => ⟨f2, v2, 0, .ref t, rfl, rfl, same_new ht _ _ e2, by decide, by decide, lt1000 (by lia), k _ ((S.mono (same_new ht)).set2 (C := (30, 90, 1) :: D) (vs := .ref t :: v2) (.cons ⟨t, rfl, upd_same⟩ (T3s.on t2 fun t xs e => same_new ht _ _ e)))⟩⟩)⟩
theorem sn_held {H H5 : Hp} {σ : St} {En : Ends} {p l1 l2 q' f1 f2 hl : Addr} {g : Int} {X Y X' Y' : List S3} {M : List Addr} {ps : List (Int × List S3 × List S3)} (S4 : Sn H H5 p l1 l2 q' f1 f2 g X Y X' Y') (hm : hl ∈ M) (cm : ∀ y ∈ M, Chg H y) (held : HeldAt K H M hl ps) (pl : ps.length ≤ 900) (h3 : σ[3]? = some (some (.ref hl))) (h5 : σ[5]? = some (some (.ref q'))) (h2 : σ[2]? = some (some (.int g)))
    (k : ∀ H7, Kept [hl] H H7 → (∀ y ∈ M, Chg H7 y) → Wk3 H7 p l1 l2 g X Y → HeldAt K H7 M hl (ps ++ [(g, X', Y')]) → En.nx σ H7) :
    tDrop (tBM K "list" rAppend (tVar 3) (tCons (tTup (tCons (tVar 5) (tCons (tTup (tCons (tVar 2) (tCons (tCB (rLof K) (tCons (tOp (rIx K) (tVar 5) (tC (.int 1))) tNil)) (tCons (tCB (rLof K) (tCons (tOp (rIx K) (tVar 5) (tC (.int 2))) tNil)) tNil)))) tNil))) tNil)) En σ H5 := by
  have nM : ∀ y, H y = none → y ∉ M := fun y e z => (cm y z).there e
  have cm5 : ∀ y ∈ M, Chg H5 y := fun y hy => by
    obtain ⟨o, e, n⟩ := cm y hy
    exact ⟨o, S4.sm _ _ e, n⟩
  obtain ⟨vs, ehl, rhl⟩ := held.kept (Kept.of S4.sm) fun o e => S4.sm _ _ e
  have lvs : vs.length ≤ 900 := by rw [Paired.length rhl, List.length_map]; exact pl
  obtain ⟨v1, e1, t1⟩ := S4.f.e1
  obtain ⟨v2, e2, t2⟩ := S4.f.e2
  refine ⟨_, h3, .inl ⟨rfl, _, SqL.of ehl⟩, _, h5, _, h2, _, h5, .inr (.inl ⟨q', _, 1, _, rfl, rfl, SqT.of S4.f.ep, rfl, f1, v1, rfl, .inl (SqL.of e1), fun m1 hm1 => ?_⟩)⟩
  have sa := same_new (o := .lst v1) hm1
  refine ⟨_, h5, .inr (.inl ⟨q', _, 2, _, rfl, rfl, SqT.of (sa _ _ S4.f.ep), rfl, f2, v2, rfl, .inl (SqL.of (sa _ _ e2)), fun m2 hm2 => ?_⟩)⟩
  have sb := same_new (o := .lst v2) hm2
  refine ⟨small_len (Nat.le_of_ble_eq_true rfl), fun t ht => ⟨small_len (Nat.le_of_ble_eq_true rfl), fun u hu => ?_⟩⟩
  have sc := same_new (o := .tup [.int g, .ref m1, .ref m2]) ht
  have s6 := (sa.trans sb).trans sc
  have Wc : Wk3 (upd (upd (upd H5 m1 (.lst v1)) m2 (.lst v2)) t (.tup [.int g, .ref m1, .ref m2])) t m1 m2 g X' Y' :=
    ⟨upd_same, ⟨v1, sc _ _ (sb _ _ upd_same), T3s.on t1 fun t xs e => s6 _ _ e⟩, ⟨v2, sc _ _ upd_same, T3s.on t2 fun t xs e => s6 _ _ e⟩, ne_of_none upd_same hm2⟩
  have Sc := S4.mono s6
  have nm1 : m1 ∉ M := fun z => (cm5 m1 z).there hm1
  have nm2 : m2 ∉ M := fun z => (cm5 m2 z).there (sa.free hm2)
  have rc := Reps.mono (wo_kept (M := M) (Kept.of s6)) rhl
  have ec := s6 _ _ ehl
  have n3 := nM _ S4.n3
  have n4 := nM _ S4.n4
  have sm := Sc.sm
  dsimp only [tNil]
  generalize (upd (upd (upd H5 m1 (.lst v1)) m2 (.lst v2)) t (.tup [.int g, .ref m1, .ref m2])) = Hc at *
  clear s6 sc sb sa ht hm2 hm1 S4 e1 e2 t1 t2 ehl rhl cm5 v1 v2 H5
  have cmc : ∀ y ∈ M, Chg Hc y := fun y hy => by
    obtain ⟨o, e, n⟩ := cm y hy
    exact ⟨o, sm _ _ e, n⟩
  have h7 := HeldAt.add cmc hm ec rc hu (Sc.f.wo cmc n3 n4).rep (Wc.wo cmc nm1 nm2).rep
  refine ⟨hl, vs, .ref u, rfl, rfl, same_new hu _ _ ec, lt1000 (by lia), ?_⟩
  have ehl : ∃ vs, H hl = some (.lst vs) := held.elim fun vs z => ⟨vs, z.1⟩
  have k7 : Kept [hl] H (upd (upd Hc u (.tup [.ref q', .ref t])) hl (.lst (vs ++ [.ref u]))) := fun y o e n => by
    rw [upd_ne fun z => n (by simp [z])]
    exact same_new hu _ _ (sm _ _ e)
  have kc7 : ∀ y o, Hc y = some o → y ≠ hl → (upd (upd Hc u (.tup [.ref q', .ref t])) hl (.lst (vs ++ [.ref u]))) y = some o := fun y o e n => by
    rw [upd_ne n]
    exact same_new hu _ _ e
  have nhl : ∀ y, H y = none → y ≠ hl := fun y e z => by
    obtain ⟨_, e2⟩ := ehl
    rw [z, e2] at e
    cases e
  have D7 : Wk3 (upd (upd Hc u (.tup [.ref q', .ref t])) hl (.lst (vs ++ [.ref u]))) p l1 l2 g X Y := Sc.d.on (fun y hy o e => kc7 y o e (by
    rcases List.mem_cons.mp hy with rfl | hy
    · exact nhl _ Sc.n1
    · rw [List.mem_singleton.mp hy]; exact nhl _ Sc.n2)) fun t xs e => kc7 t _ e (ne_of e ec (by intro z; cases z))
  have cm7 : ∀ y ∈ M, Chg (upd (upd Hc u (.tup [.ref q', .ref t])) hl (.lst (vs ++ [.ref u]))) y := fun y hy => by
    by_cases z : y = hl
    · rw [z]; exact ⟨_, upd_same, fun _ w => nomatch w⟩
    · obtain ⟨o, e, n⟩ := cmc y hy
      exact ⟨o, kc7 y o e z, n⟩
  exact k _ k7 cm7 D7 h7
theorem held_last {H : Hp} {M : List Addr} {hl u : Addr} {ps : List (Int × List S3 × List S3)} {w : Int × List S3 × List S3} {vs : List V} {x y : V} (h : HeldAt K H M hl (ps ++ [w])) (el : H hl = some (.lst (vs ++ [.ref u]))) (lv : vs.length = ps.length) (eu : H u = some (.tup [x, y])) : Rep K H x (dWs w.1 w.2.1 w.2.2) ∧ Rep K H y (dWs w.1 w.2.1 w.2.2) := by
  obtain ⟨ws, ew, r⟩ := h
  rw [el] at ew
  cases ew
  have rp := paired_at r vs.length (.ref u) (dHp w) (by rw [List.getElem?_append_right (Nat.le_refl _), Nat.sub_self]; rfl) (by
    rw [List.getElem?_map, lv, List.getElem?_append_right (Nat.le_refl _), Nat.sub_self]
    rfl)
  obtain ⟨u', us, eu', ex, rr⟩ := Rep.tup_st (rp.mono wo_same)
  cases eu'
  rw [eu] at ex
  cases ex
  cases rr with | cons ra rr => cases rr with | cons rb rr => exact ⟨ra, rb⟩
theorem ok_law_seen (T : Blt mg) (TX : Errs K mg cs) (TC : ClsT K mg CS) (FM_Streams_works : MtD P w K mg base CS "works" 1 ["self"] (r_Streams_works CS)) (F_law_plain : Fn P w K mg base "_law_plain" 1 ["streams"] (spD K r_law_plain)) (F : Fun K "_law_seen" "_law_seen" s_law_seen f fd) : FnOk P w K mg base CX0 2 f fd ["streams", "rows", "gap", "held"] (spSeen K CS) := by
  refine F.ok sc_law_seen (fun vs H Q E h => ?_) fun cdv A outer s H vs Q E hr h => ?_
  · cases (show SnP K CS vs H Q from h)
    rfl
  · cases (show SnP K CS vs H Q from h) with | mk a dx b c r lh lk hl g n hs ks M ps B n6 hm cm held pl q =>
    obtain ⟨fw, fdw, Fw, mw, bw⟩ := FM_Streams_works.ex
    have hun := hr.units
    refine any_fun fun En eD => ?_
    rw [← eD] at q
    clear eD
    refine any_cons (ps_set (i := 4) sc_law_seen.nd rfl (Or.inl rfl) ((de_tupW (dv 2) (de_lc (g := (.t [0, 1])) (tc := dTrue) (te := (dVar 1)) (sc0 := defScope s_law_seen) (N0 := ["streams", "rows", "gap", "held", "due", "found"]) ["number", "one"] [none, none] rfl (di_list (de_rws hr (dv 1) de_str)) (fun _ _ _ _ _ => (pg_seq rfl (pgs_cons (pg_name (i := 0) (show (["number", "one"] : List Str).Nodup by decide +kernel) rfl (Or.inl rfl)) (pgs_cons (pg_name (i := 1) (show (["number", "one"] : List Str).Nodup by decide +kernel) rfl (Or.inl rfl)) pgs_nil)))) (fun _ _ _ _ _ => difs_nil) (fun _ _ _ _ _ => (dv 1))) (de_lc (g := (.t [0, 1])) (tc := dTrue) (te := (dVar 1)) (sc0 := defScope s_law_seen) (N0 := ["streams", "rows", "gap", "held", "due", "found"]) ["number", "one"] [none, none] rfl (di_list (de_rws hr (dv 1) de_str)) (fun _ _ _ _ _ => (pg_seq rfl (pgs_cons (pg_name (i := 0) (show (["number", "one"] : List Str).Nodup by decide +kernel) rfl (Or.inl rfl)) (pgs_cons (pg_name (i := 1) (show (["number", "one"] : List Str).Nodup by decide +kernel) rfl (Or.inl rfl)) pgs_nil)))) (fun _ _ _ _ _ => difs_nil) (fun _ _ _ _ _ => (dv 1))))).pe) ?_
    refine cE_n (g := g) (A := vals hs) (B := vals ks) [none, some (.p (.ext (.rws n hs ks))), some (.p (.int g))] (repE_skip (repE_cons B.kw.rep (repE_cons (.int _) repE_nil))) ?_ fun p l1 l2 H1 s1 W1 n1 n2 => ?_
    · repeat (first | walk_at "rs1" | walk_at "rsx" | set_option simprocs false in simp only [getR_hot, getR_cold])
      have one : ∀ (l : KV3) (Q : DL.B → Prop), l.length ≤ 12 → Q (.o (.lst ((vals l).map d3))) → lcI (l.map dPr) (Tg.t [0, 1]) dTrue (dVar 1) [none, none] Q := fun l Q ll q => by
        refine lc_funE (xs := l) (e := dPr) (fun d => match d with | .tup [_, x] => some x | _ => none) (fun p => some (d3 p.2)) (fun r _ => rfl) (by lia) (fun p hp => ?_) ?_
        · unfold dPr
          walk_at "rs"
          exact ⟨fun _ => trivial, fun z => nomatch z⟩
        · rw [List.filterMap_eq_map']
          unfold vals at q
          rw [List.map_map] at q
          exact q
      exact one hs _ B.h12 (one ks _ B.k12 rfl)
    have B1 := B.mono s1
    refine any_cons (ps_set (i := 5) sc_law_seen.nd rfl (Or.inl rfl) (pe_meth0 (pv 0) TC.cl mw Fw (hr.mono (by decide)) bw .nil pass0)) ⟨_, rfl, a, dx, _, rfl, B1.ob.ia, rfl, [oD CS g hs ks n], H1, fun b => b = .n (.wk g) [.lst ((vals hs).map d3), .lst ((vals ks).map d3)], Same.refl _, .cons B1.ob.rep .nil, ⟨g, hs, ks, n, rfl, rfl⟩, fun b0 v H2 G2 e w r2 => ?_⟩
    subst e
    obtain ⟨q', f1, f2, rfl, W2, n3, n4⟩ := wk_inv w r2
    have S := sn_of s1 w.hh W1 W2 n1 n2 n3 n4
    clear s1 W1 n1 n2 n3 n4 W2 w r2 G2 B1
    show tAny _ _ _ (sS a r g hl (some (.ref p)) (some (.ref q'))) H2
    have lh12 : (vals hs).length ≤ 12 := by unfold vals; rw [List.length_map]; exact B.h12
    have lk12 : (vals ks).length ≤ 12 := by unfold vals; rw [List.length_map]; exact B.k12
    generalize hX : vals hs = X at *
    generalize hY : vals ks = Y at *
    refine any_cons (ps_if ((DW.dt (dw_or (dt_not (dt_val (de_isi (T := "tuple") (by simp) (by rfl) T.b_isinstance (dv 5) (pe_bltn (v := .ty "tuple") (by rfl) T.b_tuple PyProof.Rows.boot_tuple rfl)))) (dw_or (dt_cmp (od_neD hr) (dv 5) (dv 4) (nomark _)) (dw_or1 (dt_not (dt_val (de_fn F_law_plain (hr.mono (by decide)) (by rfl) (da_cons (de_op od_plus (de_ix (dv 5) de_int) (de_ix (dv 5) de_int)) da_nil))))))))).pt (pss_one (ps_ret pe_bl)) pss_nil) ?_
    refine cT_go [none, none, none, none, some (.p (dWs g X Y)), some (.p (dWs g X Y))] false (repE_skip (repE_skip (repE_skip (repE_skip (repE_cons S.d.rep (repE_cons S.f.rep repE_nil)))))) ?_ fun H2 s2 => ?_
    · repeat (first | dsimp only [isD] | walk_at "rs1" | walk_at "rsx")
      refine ⟨(fun z => nomatch z), fun _ => ⟨⟨Alk.refl _ (nos_dw g X Y).1, (nos_dw g X Y).2⟩, ?_⟩⟩
      rw [peq_refl _ (nos_dw g X Y).1]
      exact ⟨(fun z => nomatch z), fun _ => ⟨small_len (by rw [List.length_map, List.length_map]; lia), X ++ Y, by rw [List.map_append], rfl⟩⟩
    replace S := S.mono s2
    clear s2
    refine any_cons (ps_expr (pe_bm PySem.F.plainAttrs_list PySem.F.slot_list_append PySem.F.type_list_append mt_append (pe_ix ix_seq (pv 5) pe_int (fun _ _ => rfl)) (pa_cons (pe_tup (pa_cons pe_int (pa_cons pe_int (pa_cons pe_int pa_nil)))) pa_nil))) (sn_app S rfl lh12 fun H3 S3 => ?_)
    refine any_cons (ps_expr (pe_bm PySem.F.plainAttrs_list PySem.F.slot_list_insert PySem.F.type_list_insert mt_insert (pe_ix ix_seq (pv 5) pe_int (fun _ _ => rfl)) (pa_cons pe_int (pa_cons (pe_tup (pa_cons pe_int (pa_cons pe_int (pa_cons pe_int pa_nil)))) pa_nil)))) (sn_ins S3 rfl lk12 fun H4 S4 => ?_)
    clear S S3
    refine any_cons (ps_if ((DW.dt (dw_or (dt_cmp (od_neD hr) (de_ix (dv 5) de_int) (de_op od_plus (de_ix (dv 4) de_int) (de_lst (da_cons (de_tup (da_cons de_int (da_cons de_int (da_cons de_int da_nil)))) da_nil))) (nomark _)) (dw_or1 (dt_cmp (od_neD hr) (de_ix (dv 5) de_int) (de_op od_plus (de_lst (da_cons (de_tup (da_cons de_int (da_cons de_int (da_cons de_int da_nil)))) da_nil)) (de_ix (dv 4) de_int)) (nomark _)))))).pt (pss_one (ps_ret pe_bl)) pss_nil) ?_
    refine cT_go [none, none, none, none, some (.p (dWs g X Y)), some (.p (dWs g (X ++ [(90, 30, 1)]) ((30, 90, 1) :: Y)))] false (repE_skip (repE_skip (repE_skip (repE_skip (repE_cons S4.d.rep (repE_cons S4.f.rep repE_nil)))))) ?_ fun H5 s5 => ?_
    · walk_at "rs"
      have z1 : X.map d3 ++ [D.tup [D.int 90, D.int 30, D.int 1]] = (X ++ [(90, 30, 1)]).map d3 := by rw [List.map_append]; rfl
      have z2 : [D.tup [D.int 30, D.int 90, D.int 1]] ++ Y.map d3 = ((30, 90, 1) :: Y).map d3 := rfl
      rw [z1, z2]
      have w1 := nos_dl (X ++ [(90, 30, 1)])
      have w2 := nos_dl ((30, 90, 1) :: Y)
      refine ⟨small_len (by rw [List.length_map]; lia), ⟨Alk.refl _ w1.1, w1.2⟩, ?_⟩
      rw [peq_refl _ w1.1]
      refine ⟨(fun z => nomatch z), fun _ => ⟨small_len (by rw [List.length_map]; lia), ⟨Alk.refl _ w2.1, w2.2⟩, ?_⟩⟩
      show (!peq (D.lst (((30, 90, 1) :: Y).map d3)) (D.lst (((30, 90, 1) :: Y).map d3))) = false
      rw [peq_refl _ w2.1]
      rfl
    replace S4 := S4.mono s5
    clear s5 H4
    have n1 : l1 ∉ M := fun z => (cm l1 z).there S4.n1
    have n2 : l2 ∉ M := fun z => (cm l2 z).there S4.n2
    refine any_cons (ps_expr (pe_bm PySem.F.plainAttrs_list PySem.F.slot_list_append PySem.F.type_list_append mt_append (pv 3) (pa_cons (pe_tup (pa_cons (pv 5) (pa_cons (pe_tup (pa_cons (pv 2) (pa_cons (pe_callTy call_list_of (by rfl) T.b_list (by rfl) (pa_cons (pe_ix ix_seq (pv 5) pe_int (fun _ _ => rfl)) pa_nil)) (pa_cons (pe_callTy call_list_of (by rfl) T.b_list (by rfl) (pa_cons (pe_ix ix_seq (pv 5) pe_int (fun _ _ => rfl)) pa_nil)) pa_nil)))) pa_nil))) pa_nil))) (sn_held S4 hm cm held pl rfl rfl rfl fun H7 k7 cm7 D7 h7 => ?_)
    have O7 : Ob CS H7 a dx b c g n hs ks := B.ob.keep (fun y hy o e => k7 y o e fun z => n6 (by
      rw [← List.mem_singleton.mp z]
      rcases List.mem_cons.mp hy with rfl | hy
      · simp
      rcases List.mem_cons.mp hy with rfl | hy
      · simp
      rw [List.mem_singleton.mp hy]; simp)) fun t xs e => k7 t _ e fun z => by
        obtain ⟨_, e2, _⟩ := held
        rw [List.mem_singleton.mp z, e2] at e
        cases e
    clear S4 cm held
    obtain ⟨vs, e7, r7⟩ := h7
    have lvs : vs.length ≤ 901 := by rw [Paired.length r7, List.length_map, List.length_append]; show _ + 1 ≤ 901; lia
    refine any_cons (ps_expr (pe_bm PySem.F.plainAttrs_list PySem.F.slot_list_append PySem.F.type_list_append mt_append (pv 3) (pa_cons (pe_tup (pa_cons (pe_meth0 (pv 0) TC.cl mw Fw (hr.mono (by decide)) bw .nil pass0) (pa_cons (pv 4) pa_nil))) pa_nil))) ⟨_, rfl, .inl ⟨rfl, _, SqL.of e7⟩, _, rfl, a, dx, _, rfl, O7.ia, rfl, [oD CS g hs ks n], H7, fun b => b = .n (.wk g) [.lst (X.map d3), .lst (Y.map d3)], Same.refl _, .cons O7.rep .nil, ⟨g, hs, ks, n, rfl, by rw [hX, hY]⟩, fun b0 v H8 G8 e w r8 => ?_⟩
    subst e
    obtain ⟨p3, k1, k2, rfl, W8, n5, n6⟩ := wk_inv w r8
    refine ⟨_, rfl, small_len (Nat.le_of_ble_eq_true rfl), fun u hu => ⟨hl, vs, .ref u, rfl, rfl, same_new hu _ _ (w.hh _ _ e7), lt1000 (by lia), ?_⟩⟩
    have cm8 : ∀ y ∈ M, Chg H8 y := fun y hy => by
      obtain ⟨o, e, n⟩ := cm7 y hy
      exact ⟨o, w.hh _ _ e, n⟩
    have D8 := D7.mono w.hh
    have h9 := HeldAt.add cm8 hm (w.hh _ _ e7) (Reps.mono (wo_kept (Kept.of w.hh)) r7) hu (W8.wo cm8 (fun z => (cm7 _ z).there n5) (fun z => (cm7 _ z).there n6)).rep (D8.wo cm8 n1 n2).rep
    have kc9 : ∀ y o, H8 y = some o → y ≠ hl → (upd (upd H8 u (.tup [.ref p3, .ref p])) hl (.lst (vs ++ [.ref u]))) y = some o := fun y o e n => by
      rw [upd_ne n]
      exact same_new hu _ _ e
    have uh : u ≠ hl := (ne_of_none (w.hh _ _ e7) hu).symm
    have eu : (upd (upd H8 u (.tup [.ref p3, .ref p])) hl (.lst (vs ++ [.ref u]))) u = some (.tup [.ref p3, .ref p]) := by rw [upd_ne uh]; exact upd_same
    have el : (upd (upd H8 u (.tup [.ref p3, .ref p])) hl (.lst (vs ++ [.ref u]))) hl = some (.lst (vs ++ [.ref u])) := upd_same
    have k9 : Kept [hl] H (upd (upd H8 u (.tup [.ref p3, .ref p])) hl (.lst (vs ++ [.ref u]))) := fun y o e n => kc9 y o (w.hh _ _ (k7 y o e n)) fun z => n (by simp [z])
    show tAny _ _ _ (sS a r g hl (some (.ref p)) (some (.ref q'))) (upd (upd H8 u (.tup [.ref p3, .ref p])) hl (.lst (vs ++ [.ref u])))
    generalize upd (upd H8 u (.tup [.ref p3, .ref p])) hl (.lst (vs ++ [.ref u])) = H9 at h9 eu el k9 ⊢
    obtain ⟨ra, rb⟩ := held_last h9 el (by rw [Paired.length r7, List.length_map]) eu
    refine any_one (ps_ret (pe_cmpR op_eqD (pe_ix ix_seq (pe_ix ix_seq (pv 3) ((de_neg de_int)).pe (fun _ _ => rfl)) pe_int (fun _ _ => rfl)) (pv 4) (nomark _))) ?_
    refine ⟨_, rfl, cE_int [] (-1) repE_nil ?_ fun H10 s10 => .inl ⟨hl, _, -1, .ref u, rfl, rfl, SqL.of (s10 _ _ el), atI_last _ _, .inr (.inl ⟨u, _, 0, .ref p3, rfl, rfl, SqT.of (s10 _ _ eu), rfl, _, rfl, ?_⟩)⟩⟩
    · walk_at "rs"
    refine ⟨H10, dWs g X Y, dWs g X Y, Same.refl _, ra.mono s10, rb.mono s10, Alk.refl _ (nos_dw g X Y).1, Nat.lt_of_le_of_lt (Nat.add_le_add_left (nos_dw g X Y).2 _) (Nat.lt_trans (Nat.add_lt_add_left (show 60 < 64 by decide) _) hun), ?_⟩
    show En.rt (.bl (peq (dWs g X Y) (dWs g X Y))) H10
    rw [peq_refl _ (nos_dw g X Y).1]
    exact q H10 _ (k9.trans (Kept.of s10)) (h9.kept (Kept.of s10) fun o e => s10 _ _ e) (by rw [List.length_append, List.length_append]; rfl)
structure Ad where
  a : Addr
  dx : Addr
  b : Addr
  c : Addr
  r : Addr
  lh : Addr
  lk : Addr
abbrev BoA (CS : Addr) (H : Hp) (A : Ad) (g n : Int) (hs ks : KV3) : Prop := Bo CS H A.a A.dx A.b A.c A.r A.lh A.lk g n hs ks
abbrev sixA (A : Ad) : List Addr := six A.a A.b A.c A.r A.lh A.lk
abbrev allM (A : Bool → Ad) (hl : Addr) : List Addr := hl :: (sixA (A false) ++ sixA (A true))
section
variable {H0 H H2 : Hp} {lb lr lg hl : Addr} {A : Bool → Ad} {g n : Bool → Int} {hs ks : Bool → KV3} {ps : List (Int × List S3 × List S3)}
theorem Bo.chg {a dx b c r lh lk : Addr} {g n : Int} {hs ks : KV3} (B : Bo CS H a dx b c r lh lk g n hs ks) : ∀ y ∈ six a b c r lh lk, Chg H y := by
  obtain ⟨_, eb, _⟩ := B.ob.hb
  obtain ⟨_, ec, _⟩ := B.ob.hc
  obtain ⟨_, e1, _⟩ := B.kw.eh
  obtain ⟨_, e2, _⟩ := B.kw.ek
  intro y hy
  rcases List.mem_cons.mp hy with rfl | hy
  · exact ⟨_, B.ob.ia, fun _ z => nomatch z⟩
  rcases List.mem_cons.mp hy with rfl | hy
  · exact ⟨_, eb, fun _ z => nomatch z⟩
  rcases List.mem_cons.mp hy with rfl | hy
  · exact ⟨_, ec, fun _ z => nomatch z⟩
  rcases List.mem_cons.mp hy with rfl | hy
  · exact ⟨_, B.kw.er, fun _ z => nomatch z⟩
  rcases List.mem_cons.mp hy with rfl | hy
  · exact ⟨_, e1, fun _ z => nomatch z⟩
  rw [List.mem_singleton.mp hy]
  exact ⟨_, e2, fun _ z => nomatch z⟩
theorem Bo.stay {a dx b c r lh lk : Addr} {g n : Int} {hs ks : KV3} (B : Bo CS H a dx b c r lh lk g n hs ks) (e : ∀ y ∈ six a b c r lh lk, ∀ o, H y = some o → H2 y = some o) (kt : ∀ t xs, H t = some (.tup xs) → H2 t = some (.tup xs)) : Bo CS H2 a dx b c r lh lk g n hs ks :=
  ⟨B.ob.keep (fun y hy => e y (by
      rcases List.mem_cons.mp hy with rfl | hy
      · simp
      rcases List.mem_cons.mp hy with rfl | hy
      · simp
      rw [List.mem_singleton.mp hy]; simp)) kt, B.kw.keep (fun y hy => e y (by
      rcases List.mem_cons.mp hy with rfl | hy
      · simp
      rcases List.mem_cons.mp hy with rfl | hy
      · simp
      rw [List.mem_singleton.mp hy]; simp)) kt, B.rb, B.rc, B.h12, B.k12⟩
structure S29 (K : PySem.W.Frag) (CS : Addr) (H0 H : Hp) (lb lr lg hl : Addr) (A : Bool → Ad) (g n : Bool → Int) (hs ks : Bool → KV3) (ps : List (Int × List S3 × List S3)) : Prop where
  sm : Same H0 H
  bo : ∀ j, BoA CS H (A j) (g j) (n j) (hs j) (ks j)
  dj : ∀ y, y ∈ sixA (A false) → y ∈ sixA (A true) → False
  hn : ∀ j, hl ∉ sixA (A j)
  eb : H lb = some (.lst [.ref (A false).a, .ref (A true).a])
  er : H lr = some (.lst [.ref (A false).r, .ref (A true).r])
  eg : H lg = some (.lst [.int (g false), .int (g true)])
  nb : ∀ y ∈ [lb, lr, lg], y ∉ allM A hl
  nw : ∀ y ∈ allM A hl, H0 y = none
  held : HeldAt K H (allM A hl) hl ps
theorem S29.chg (S : S29 K CS H0 H lb lr lg hl A g n hs ks ps) : ∀ y ∈ allM A hl, Chg H y := by
  intro y hy
  rcases List.mem_cons.mp hy with rfl | hy
  · obtain ⟨vs, e, _⟩ := S.held
    exact ⟨_, e, fun _ z => nomatch z⟩
  rcases List.mem_append.mp hy with hy | hy
  · exact (S.bo false).chg y hy
  · exact (S.bo true).chg y hy
theorem S29.mem (j : Bool) {y : Addr} (h : y ∈ sixA (A j)) : y ∈ allM A hl := by
  cases j
  · exact List.mem_cons_of_mem _ (List.mem_append_left _ h)
  · exact List.mem_cons_of_mem _ (List.mem_append_right _ h)
theorem S29.tup (S : S29 K CS H0 H lb lr lg hl A g n hs ks ps) {y : Addr} {xs : List V} (e : H y = some (.tup xs)) : y ∉ allM A hl := fun z => by
  obtain ⟨o, e2, w⟩ := S.chg y z
  rw [e] at e2
  exact w xs (Option.some.inj e2).symm
theorem S29.mono (S : S29 K CS H0 H lb lr lg hl A g n hs ks ps) (s : Same H H2) : S29 K CS H0 H2 lb lr lg hl A g n hs ks ps :=
  ⟨S.sm.trans s, fun j => (S.bo j).mono s, S.dj, S.hn, s _ _ S.eb, s _ _ S.er, s _ _ S.eg, S.nb, S.nw, S.held.kept (Kept.of s) fun o e => s _ _ e⟩
def put1 {α : Type} (f : Bool → α) (j : Bool) (x : α) : Bool → α := fun i => if i = j then x else f i
theorem S29.deed (S : S29 K CS H0 H lb lr lg hl A g n hs ks ps) (j : Bool) {n' : Int} {hs' ks' : KV3} (B : BoA CS H2 (A j) (g j) n' hs' ks') (k : Kept (sixA (A j)) H H2) : S29 K CS H0 H2 lb lr lg hl A g (put1 n j n') (put1 hs j hs') (put1 ks j ks') ps := by
  have kM : Kept (allM A hl) H H2 := fun y o e m => k y o e fun z => m (S29.mem j z)
  have kt : ∀ t xs, H t = some (.tup xs) → H2 t = some (.tup xs) := fun t xs e => kM _ _ e (S.tup e)
  have kn : ∀ y o, H y = some o → y ∈ [lb, lr, lg] → H2 y = some o := fun y o e m => kM _ _ e (S.nb y m)
  have s0 : Same H0 H2 := fun y o e => kM y o (S.sm _ _ e) fun z => by
    rw [S.nw y z] at e
    cases e
  refine ⟨s0, fun i => ?_, S.dj, S.hn, kn _ _ S.eb (by simp), kn _ _ S.er (by simp), kn _ _ S.eg (by simp), S.nb, S.nw, S.held.kept kM fun o e => k _ _ e (S.hn j)⟩
  by_cases z : i = j
  · subst z
    unfold put1
    rw [if_pos rfl, if_pos rfl, if_pos rfl]
    exact B
  · unfold put1
    rw [if_neg z, if_neg z, if_neg z]
    refine (S.bo i).stay (fun y hy o e => k y o e fun w => ?_) kt
    cases i <;> cases j
    · exact z rfl
    · exact S.dj y hy w
    · exact S.dj y w hy
    · exact z rfl
theorem S29.seen (S : S29 K CS H0 H lb lr lg hl A g n hs ks ps) {ps' : List (Int × List S3 × List S3)} (k : Kept [hl] H H2) (h : HeldAt K H2 (allM A hl) hl ps') : S29 K CS H0 H2 lb lr lg hl A g n hs ks ps' := by
  have kM : Kept (allM A hl) H H2 := fun y o e m => k y o e fun z => m (by rw [List.mem_singleton.mp z]; exact List.mem_cons_self)
  have kt : ∀ t xs, H t = some (.tup xs) → H2 t = some (.tup xs) := fun t xs e => kM _ _ e (S.tup e)
  have kn : ∀ y o, H y = some o → y ∈ [lb, lr, lg] → H2 y = some o := fun y o e m => kM _ _ e (S.nb y m)
  have s0 : Same H0 H2 := fun y o e => kM y o (S.sm _ _ e) fun z => by
    rw [S.nw y z] at e
    cases e
  exact ⟨s0, fun i => (S.bo i).stay (fun y hy o e => k y o e fun w => S.hn i (by rw [← List.mem_singleton.mp w]; exact hy)) kt, S.dj, S.hn, kn _ _ S.eb (by simp), kn _ _ S.er (by simp), kn _ _ S.eg (by simp), S.nb, S.nw, h⟩
end
theorem ok_law_stream (T : Blt mg) (TX : Errs K mg cs) (TC : ClsT K mg CS) (F_law_stir : Fn P w K mg base "_law_stir" 1 ["cell", "k"] (spD K r_law_stir)) (F : Fun K "_law_stream" "_law_stream" s_law_stream f fd) : FnOk P w K mg base CX0 2 f fd ["cell", "base"] (spD K r_law_stream) := by
  refine okD F sc_law_stream (fun ds Q h => by obtain ⟨c, b, rfl, b0, b1, q⟩ := h; rfl) fun cdv A outer s H E hr => ⟨_, (dss_cons (ds_setP (i := 2) sc_law_stream.nd rfl (Or.inl rfl) (de_callB (cd_min2 rfl) (by rfl) T.b_min PyProof.Rows.boot_min (da_cons (de_op od_plus (dv 1) (de_op od_mod (de_fn F_law_stir (hr.mono (by decide)) (by rfl) (da_cons (dv 0) (da_cons de_int da_nil))) de_int)) (da_cons de_int da_nil))))
      (dss_cons (ds_setP (i := 3) sc_law_stream.nd rfl (Or.inl rfl) (de_callB (cd_min2 rfl) (by rfl) T.b_min PyProof.Rows.boot_min (da_cons (de_op od_plus (de_op od_plus (dv 2) de_int) (de_op od_mod (de_fn F_law_stir (hr.mono (by decide)) (by rfl) (da_cons (dv 0) (da_cons de_int da_nil))) de_int)) (da_cons de_int da_nil))))
      (dss_cons (ds_if (dt_cmp od_eq (de_op od_mod (de_fn F_law_stir (hr.mono (by decide)) (by rfl) (da_cons (dv 0) (da_cons de_int da_nil))) de_int) de_int (nomark _)) (dss_cons (ds_setP (i := 2) sc_law_stream.nd rfl (Or.inl rfl) (de_ix (de_lst (da_cons de_int (da_cons (dv 2) da_nil))) (de_op od_mod (de_fn F_law_stir (hr.mono (by decide)) (by rfl) (da_cons (dv 0) (da_cons de_int da_nil))) de_int)))
      (dss_one (ds_setP (i := 3) sc_law_stream.nd rfl (Or.inl rfl) (de_ix (de_lst (da_cons de_int (da_cons (dv 3) da_nil))) (de_op od_mod (de_fn F_law_stir (hr.mono (by decide)) (by rfl) (da_cons (dv 0) (da_cons de_int da_nil))) de_int))))) dss_nil)
      (dss_cons (ds_setP (i := 4) sc_law_stream.nd rfl (Or.inl rfl) (de_op od_plus (de_op od_times (de_fn F_law_stir (hr.mono (by decide)) (by rfl) (da_cons (dv 0) (da_cons de_int da_nil))) de_int) (de_op od_mod (de_fn F_law_stir (hr.mono (by decide)) (by rfl) (da_cons (dv 0) (da_cons de_int da_nil))) de_int)))
      (dss_cons (ds_setP (i := 5) sc_law_stream.nd rfl (Or.inl rfl) (de_ix (de_lst (da_cons (de_op od_plus de_int (de_op od_mod (dv 4) de_int)) (da_cons (de_op od_plus de_int (de_op od_mod (dv 4) (de_op od_pow de_int de_int))) (da_cons (de_op od_pow de_int de_int) da_nil)))) (de_op od_mod (de_fn F_law_stir (hr.mono (by decide)) (by rfl) (da_cons (dv 0) (da_cons de_int da_nil))) de_int)))
      (dss_one (ds_ret (de_lst (da_cons (dv 2) (da_cons (dv 3) (da_cons (dv 5) da_nil))))))))))), fun ds Q h => ?_⟩
  obtain ⟨c, b, rfl, b0, b1, q⟩ := h
  refine cutT (fun ρ => ∃ low : Int, Rg 0 199 low ∧ ρ = [some (.p (.int c)), some (.p (.int b)), some (.p (.int low)), none, none, none]) ?_ fun N hN => ?_
  rotate_left
  · repeat (first | dsimp only [r_law_stir] | walk_at "rs1" | walk_at "rsx")
    have m := stir_mod c 2 12 (by decide)
    exact ⟨by decide, hN _ ⟨_, ⟨by split <;> lia, by split <;> lia⟩, rfl⟩⟩
  rintro ρ ⟨low, hl, rfl⟩
  refine cutT (fun ρ => ∃ high : Int, Rg 0 200 high ∧ ρ = [some (.p (.int c)), some (.p (.int b)), some (.p (.int low)), some (.p (.int high)), none, none]) ?_ fun N hN => ?_
  rotate_left
  · repeat (first | dsimp only [r_law_stir] | walk_at "rs1" | walk_at "rsx")
    have m := stir_mod c 3 12 (by decide)
    unfold Rg at hl
    exact ⟨by decide, hN _ ⟨_, ⟨by split <;> lia, by split <;> lia⟩, rfl⟩⟩
  rintro ρ ⟨high, hh, rfl⟩
  replace hl : Rg 0 200 low := ⟨hl.1, by have := hl.2; lia⟩
  refine cutT (fun ρ => ∃ low high : Int, Rg 0 200 low ∧ Rg 0 200 high ∧ ρ = [some (.p (.int c)), some (.p (.int b)), some (.p (.int low)), some (.p (.int high)), none, none]) ?_ fun N hN => ?_
  rotate_left
  · repeat (first | dsimp only [r_law_stir] | walk_at "rs1" | walk_at "rsx")
    have m5 := stir_mod c 5 2 (by decide)
    have m6 := stir_mod c 6 2 (by decide)
    obtain ⟨v, hv, v1⟩ := ix2r (a := 0) (b := low) (lo := 0) (hi := 200) m5.1 m5.2 ⟨by decide, by decide⟩ hl
    obtain ⟨w, hw, w1⟩ := ix2r (a := 200) (b := high) (lo := 0) (hi := 200) m6.1 m6.2 ⟨by decide, by decide⟩ hh
    exact ⟨by decide, fun _ => ⟨by decide, _, hv, by decide, _, hw, hN _ ⟨v, w, v1, w1, rfl⟩⟩, fun _ => hN _ ⟨low, high, hl, hh, rfl⟩⟩
  clear hl hh low high
  rintro ρ ⟨low, high, hl, hh, rfl⟩
  refine cutT (fun ρ => ∃ far : Int, 0 ≤ far ∧ ρ = [some (.p (.int c)), some (.p (.int b)), some (.p (.int low)), some (.p (.int high)), some (.p (.int far)), none]) ?_ fun N hN => ?_
  rotate_left
  · repeat (first | dsimp only [r_law_stir] | walk_at "rs1" | walk_at "rsx")
    have m := stir_mod c 14 8 (by decide)
    have s := stirX0 c 7
    exact ⟨mulRr (by decide), by decide, hN _ ⟨_, by lia, rfl⟩⟩
  rintro ρ ⟨far, f0, rfl⟩
  refine cutT (fun ρ => ∃ rate : Int, Rg 1 1000000000 rate ∧ ρ = [some (.p (.int c)), some (.p (.int b)), some (.p (.int low)), some (.p (.int high)), some (.p (.int far)), some (.p (.int rate))]) ?_ fun N hN => ?_
  rotate_left
  · repeat (first | dsimp only [r_law_stir] | walk_at "rs1" | walk_at "rsx")
    have e9 : (10 : Int) ^ Int.toNat 9 = 1000000000 := by decide
    rw [e9]
    have m := stir_mod c 8 3 (by decide)
    have a1 := Int.emod_nonneg far (b := 9) (by decide)
    have a2 := Int.emod_lt_of_pos far (b := 9) (by decide)
    have a3 := Int.emod_nonneg far (b := 1000000000) (by decide)
    have a4 := Int.emod_lt_of_pos far (b := 1000000000) (by decide)
    obtain ⟨v, hv, v1⟩ := ix3r (a := 1 + far % 9) (b := 1 + far % 1000000000) (c := 1000000000) (lo := 1) (hi := 1000000000) m.1 m.2 ⟨by lia, by lia⟩ ⟨by lia, by lia⟩ ⟨by lia, by lia⟩
    have cp : CPow 10 9 := ⟨by decide, by decide, by decide⟩
    exact ⟨by decide, cp, by decide, cp, by decide, _, hv, hN _ ⟨v, v1, rfl⟩⟩
  rintro ρ ⟨rate, hr, rfl⟩
  walk_at "rs"
  exact q low high rate hl hh hr
theorem pps_rows {X : Cx} {a b c : Str} {z : Int} {j1 j2 j3 j4 : Nat} {p1 p2 p3 q1 q2 q3 pos : Pos} : PPs X pos [some (.Constant (.str a) j1 p1), some (.Constant (.str b) j2 p2), some (.Constant (.str c) j3 p3)] [.List [] q1, .List [] q2, .Constant (.int z) j4 q3] [(tC (.str a), tLst tNil), (tC (.str b), tLst tNil), (tC (.str c), tC (.int z))] :=
  pps_cons pe_str (pe_lst pa_nil) (pps_cons pe_str (pe_lst pa_nil) (pps_cons pe_str pe_int pps_nil))
abbrev tHot (a b c : Str) (z : Int) : TE := tDisp [(tC (.str a), tLst tNil), (tC (.str b), tLst tNil), (tC (.str c), tC (.int z))]
theorem all3 {α : Type} {a b c : α} : ([some a, some b, some c] : List (Option α)).all (·.isSome) = true := rfl
theorem len3 {α β : Type} {a b c : α} {x y z : β} : [a, b, c].length = [x, y, z].length := rfl
theorem le15 {α : Type} {a b c : α} : [a, b, c].length ≤ 15 := show (3 : Nat) ≤ 15 by decide
theorem pe_rows0 {X : Cx} {a b c : Str} {z : Int} {j1 j2 j3 j4 : Nat} {p1 p2 p3 q1 q2 q3 pos : Pos} : PE X (.Dict [some (.Constant (.str a) j1 p1), some (.Constant (.str b) j2 p2), some (.Constant (.str c) j3 p3)] [.List [] q1, .List [] q2, .Constant (.int z) j4 q3] pos) (tHot a b c z) := by
  with_reducible exact pe_disp pps_rows all3 len3 (List.cons_ne_nil _ _) le15
theorem star_dict {ks : List (Option Expr)} {vs es : List Expr} {p : Pos} {env : Env} : starEach (.Dict ks vs p :: es) env = (false, eval (.Dict ks vs p) env) :: starEach es env := by
  rfl
theorem pa_dict {X : Cx} {ks : List (Option Expr)} {vs es : List Expr} {p : Pos} {te : TE} {t : TA} (ha : PE X (.Dict ks vs p) te) (hr : PA X es t) : PA X (.Dict ks vs p :: es) (tCons te t) :=
  pa_cons ha hr star_dict
theorem pe_rows2 {X : Cx} {ks ks' : List (Option Expr)} {vs vs' : List Expr} {p p' lp : Pos} {te te' : TE} (h1 : PE X (.Dict ks vs p) te) (h2 : PE X (.Dict ks' vs' p') te') : PE X (.List [.Dict ks vs p, .Dict ks' vs' p'] lp) (tLst (tCons te (tCons te' tNil))) :=
  pe_lst (pa_dict h1 (pa_dict h2 pa_nil))
theorem sw_rows {ks ks' : List (Option Expr)} {vs vs' : List Expr} {p p' lp : Pos} {n : Option Expr} {l : Nat} {env : Env} : swapsWith (.List [.Dict ks vs p, .Dict ks' vs' p'] lp) n l env = pure false := by
  rfl
theorem ps_rows2 {X : Cx} {i : Nat} {x a b c a' b' c' : Str} {z z' : Int} {j1 j2 j3 j4 j1' j2' j3' j4' : Nat} {p1 p2 p3 q1 q2 q3 p p1' p2' p3' q1' q2' q3' p' lp pos pos' : Pos} (hN : X.N.Nodup) (hi : X.N[i]? = some x) (hx : Loc X.env.scope x) (hf : X.fn x = true ∨ X.env.scope.names.lookup x = some .local) :
    PS X (.Assign [.Name x pos'] (.List [.Dict [some (.Constant (.str a) j1 p1), some (.Constant (.str b) j2 p2), some (.Constant (.str c) j3 p3)] [.List [] q1, .List [] q2, .Constant (.int z) j4 q3] p, .Dict [some (.Constant (.str a') j1' p1'), some (.Constant (.str b') j2' p2'), some (.Constant (.str c') j3' p3')] [.List [] q1', .List [] q2', .Constant (.int z') j4' q3'] p'] lp) pos) (tAsg (tLst (tCons (tHot a b c z) (tCons (tHot a' b' c' z') tNil))) (gName i)) :=
  by with_reducible exact ps_set hN hi hx (pe_rows2 pe_rows0 pe_rows0) sw_rows hf
section
variable {H0 H H1 H2 : Hp} {a dx b c : Addr} {g n : Int} {hs ks : KV3}
theorem Run.since (R : Run CS H H2 a dx b c g n hs ks) (s : Same H0 H) : Run CS H0 H2 a dx b c g n hs ks := ⟨R.ob, s.trans R.sm, s.free R.na, s.free R.nb, s.free R.nc⟩
theorem Run.updL (R : Run CS H0 H a dx b c g n hs ks) {D : Addr} {xs : List V} {o : HO} (n0 : H0 D = none) (e : H D = some (.lst xs)) : Run CS H0 (L2.upd H D o) a dx b c g n hs ks :=
  R.upd n0 (R.ob.lst e) fun xs z => by rw [e] at z; cases z
theorem Ob.there (O : Ob CS H a dx b c g n hs ks) {y : Addr} (h : y ∈ [a, b, c]) : H y ≠ none := by
  obtain ⟨eb, xb, _⟩ := O.hb
  obtain ⟨ec, xc, _⟩ := O.hc
  intro z
  rcases List.mem_cons.mp h with rfl | h
  · rw [O.ia] at z; cases z
  rcases List.mem_cons.mp h with rfl | h
  · rw [xb] at z; cases z
  rw [List.mem_singleton.mp h, xc] at z; cases z
theorem fresh3 {x y z : Addr} (hx : H x = none) (hy : H y = none) (hz : H z = none) {u : Addr} (h : u ∈ [x, y, z]) : H u = none := by
  rcases List.mem_cons.mp h with rfl | h
  · exact hx
  rcases List.mem_cons.mp h with rfl | h
  · exact hy
  rw [List.mem_singleton.mp h]; exact hz
end
abbrev glst (g : Bool → Int) : HO := .lst [.int (g false), .int (g true)]
inductive BW (CS : Addr) (H : Hp) (lg D : Addr) (g : Bool → Int) : Nat → Nat → List V → St → Hp → Prop
  | zero (y : Option V) {H3 : Hp} (nD : H D = none) (eg : H3 lg = some (glst g)) (eD : H3 D = some (.lst [])) (s : Same H H3) : BW CS H lg D g 0 2 [] [y] H3
  | one (y : Option V) {H3 : Hp} (a dx b c : Addr) (nD : H D = none) (eg : H3 lg = some (glst g)) (eD : H3 D = some (.lst [.ref a])) (R : Run CS H H3 a dx b c (g false) 0 [] []) : BW CS H lg D g 1 1 [.ref a] [y] H3
  | two (y : Option V) {H3 : Hp} (a dx b c a' dx' b' c' : Addr) (eg : H3 lg = some (glst g)) (eD : H3 D = some (.lst [.ref a, .ref a'])) (R : Run CS H H3 a dx b c (g false) 0 [] []) (R' : Run CS H H3 a' dx' b' c' (g true) 0 [] []) (dj : ∀ y ∈ [a, b, c], y ∉ [a', b', c']) : BW CS H lg D g 2 0 [.ref a, .ref a'] [y] H3
theorem make_go {H : Hp} {v : V} {g : Int} {y : Option V} {F : St → VK} {R : St → Hp → Prop} (ev : v = .int g) (k : ∀ x dx b c (H2 : Hp), Run CS H H2 x dx b c g 0 [] [] → F [some v] (.ref x) H2) : gName 0 v [y] H fun σ2 H2 => tTrue σ2 H2 fun b H3 => if b = true then tMake CS (spInit CS) [] E0 (tCons (tVar 0) tNil) σ2 H3 (F σ2) else R σ2 H3 := by
  subst ev
  show (if true = true then tMake CS (spInit CS) [] E0 (tCons (tVar 0) tNil) [some (V.int g)] H (F [some (V.int g)]) else R [some (V.int g)] H)
  rw [if_pos rfl]
  exact ⟨_, rfl, fun x dx hx hd hne => ⟨x, dx, g, rfl, upd_same, fun b c hb hc hbc => ⟨rfl, k x dx b c _ (run_new (Same.refl H) hx hd hb hc hbc)⟩⟩⟩
theorem both_ok {H H1 : Hp} {lg : Addr} {g : Bool → Int} {σ : St} {Q : VK} (eσ : σ[2]? = some (some (.ref lg))) (s1 : Same H H1) (elg : H1 lg = some (glst g))
    (k : ∀ lb a0 dx0 b0 c0 a1 dx1 b1 c1 H2, Run CS H H2 a0 dx0 b0 c0 (g false) 0 [] [] → Run CS H H2 a1 dx1 b1 c1 (g true) 0 [] [] → (∀ y ∈ [a0, b0, c0], y ∉ [a1, b1, c1]) → H2 lb = some (.lst [.ref a0, .ref a1]) → H2 lg = some (glst g) → Q (.ref lb) H2) :
    tLC (iList K (tVar 2)) [none] (gName 0) tTrue (tMake CS (spInit CS) [] E0 (tCons (tVar 0) tNil)) σ H1 Q := by
  refine ⟨_, eσ, lg, rfl, ⟨_, SqL.of elg⟩, fun D hD => ⟨BW CS H lg D g, ⟨2, .zero none (s1.free hD) (same_new hD _ _ elg) upd_same (s1.trans (same_new hD))⟩, fun i m ys σ3 H3 h => ?_⟩⟩
  cases h with
  | zero y nD eg eD s3 =>
    refine .inr ⟨⟨_, _, SqL.of eg, rfl⟩, BW CS H lg D g 1 1, fun _ _ _ h => ⟨1, by decide, h⟩, fun v H' hv => ?_⟩
    cases hv.1
    refine make_go (Option.some.inj (hv.2 _ (SqL.of eg))).symm fun x dx b c H4 R => ?_
    have eD' := R.sm _ _ eD
    exact ⟨eD', lt1000 (Nat.zero_le _), .one _ x dx b c nD (by rw [upd_ne (ne_of eg eD (by intro z; cases z))]; exact R.sm _ _ eg) upd_same ((R.since s3).updL nD eD')⟩
  | one y a dx b c nD eg eD R =>
    refine .inr ⟨⟨_, _, SqL.of eg, rfl⟩, BW CS H lg D g 2 0, fun _ _ _ h => ⟨0, by decide, h⟩, fun v H' hv => ?_⟩
    cases hv.1
    refine make_go (Option.some.inj (hv.2 _ (SqL.of eg))).symm fun x dx' b' c' H4 R' => ?_
    have eD' := R'.sm _ _ eD
    exact ⟨eD', lt1000 (Nat.le_of_ble_eq_true rfl), .two _ a dx b c x dx' b' c' (by rw [upd_ne (ne_of eg eD (by intro z; cases z))]; exact R'.sm _ _ eg) upd_same ((R.mono R'.sm).updL nD eD') ((R'.since R.sm).updL nD eD') fun y hy hy' => R.ob.there hy (fresh3 R'.na R'.nb R'.nc hy')⟩
  | two y a dx b c a' dx' b' c' eg eD R R' dj => exact .inl ⟨⟨_, SqL.of eg, Nat.le_refl _⟩, k D a dx b c a' dx' b' c' H3 R R' dj eD eg⟩
theorem hot_ok {σ : St} {H : Hp} {Q : VK} (k : ∀ r lh lk H2, H r = none → H lh = none → H lk = none → Rw H2 r lh lk 0 [] [] → Same H H2 → Q (.ref r) H2) : tHot "hot" "cold" "last" 0 σ H Q := by
  intro r hr
  refine ⟨small_len (Nat.le_of_ble_eq_true rfl), fun lh hl => ⟨small_len (Nat.le_of_ble_eq_true rfl), fun lk hk => ?_⟩⟩
  have er : (upd (upd (upd H r (.dK [])) lh (.lst [])) lk (.lst [])) r = some (.dK []) := same_new hk _ _ (same_new hl _ _ upd_same)
  have rl : r ≠ lh := ne_of_none upd_same hl
  have rk : r ≠ lk := ne_of_none (same_new hl _ _ upd_same) hk
  have lk' : lh ≠ lk := ne_of_none upd_same hk
  have hl0 : H lh = none := by rw [upd_ne (Ne.symm rl)] at hl; exact hl
  have hk0 : H lk = none := (same_new hr).free ((same_new hl).free hk)
  refine ⟨er, [(Sum.inr "hot", .ref lh), (Sum.inr "cold", .ref lk), (Sum.inr "last", .int 0)], rfl, Nat.le_of_ble_eq_true rfl, k r lh lk _ hr hl0 hk0 ⟨?_, lk', ⟨[], ?_, .nil⟩, ⟨[], ?_, .nil⟩⟩ ?_⟩
  · rw [upd_same]; rfl
  · rw [upd_ne (Ne.symm rl), upd_ne lk']; exact upd_same
  · rw [upd_ne (Ne.symm rk)]; exact upd_same
  · intro y o e
    rw [upd_ne (ne_of_none e hr)]
    exact same_new hk _ _ (same_new hl _ _ (same_new hr _ _ e))
theorem start29 {H Hb Hr Hs : Hp} {lb lg lr hl a0 dx0 b0 c0 a1 dx1 b1 c1 r0 lh0 lk0 r1 lh1 lk1 : Addr} {g : Bool → Int} (R0 : Run CS H Hb a0 dx0 b0 c0 (g false) 0 [] []) (R1 : Run CS H Hb a1 dx1 b1 c1 (g true) 0 [] []) (dj : ∀ y ∈ [a0, b0, c0], y ∉ [a1, b1, c1]) (eb : Hb lb = some (.lst [.ref a0, .ref a1])) (eg : Hb lg = some (glst g))
    (hr0 : Hb r0 = none) (hh0 : Hb lh0 = none) (hk0 : Hb lk0 = none) (W0 : Rw Hr r0 lh0 lk0 0 [] []) (sb : Same Hb Hr) (hr1 : Hr r1 = none) (hh1 : Hr lh1 = none) (hk1 : Hr lk1 = none) (W1 : Rw Hs r1 lh1 lk1 0 [] []) (sr : Same Hr Hs) (hlr : Hs lr = none) (hhl : (upd Hs lr (.lst [.ref r0, .ref r1])) hl = none) :
    S29 K CS H (upd (upd Hs lr (.lst [.ref r0, .ref r1])) hl (.lst [])) lb lr lg hl (fun j => if j then ⟨a1, dx1, b1, c1, r1, lh1, lk1⟩ else ⟨a0, dx0, b0, c0, r0, lh0, lk0⟩) g (fun _ => 0) (fun _ => []) (fun _ => []) [] := by
  have s1 : Same Hs (upd Hs lr (.lst [.ref r0, .ref r1])) := same_new hlr
  have s2 : Same (upd Hs lr (.lst [.ref r0, .ref r1])) (upd (upd Hs lr (.lst [.ref r0, .ref r1])) hl (.lst [])) := same_new hhl
  have s12 := s1.trans s2
  have sbs : Same Hb Hs := sb.trans sr
  have hls : Hs hl = none := s1.free hhl
  have n0 : ∀ y ∈ [r0, lh0, lk0], Hb y = none := fun y hy => fresh3 hr0 hh0 hk0 hy
  have n1 : ∀ y ∈ [r1, lh1, lk1], Hr y = none := fun y hy => fresh3 hr1 hh1 hk1 hy
  have t0 : ∀ y ∈ [a0, b0, c0], Hb y ≠ none := fun y hy => R0.ob.there hy
  have t1 : ∀ y ∈ [a1, b1, c1], Hb y ≠ none := fun y hy => R1.ob.there hy
  have u0 : ∀ y ∈ [r0, lh0, lk0], Hr y ≠ none := fun y hy => W0.there hy
  have u1 : ∀ y ∈ [r1, lh1, lk1], Hs y ≠ none := fun y hy => W1.there hy
  have up : ∀ {X Y : Hp} {y : Addr}, Same X Y → X y ≠ none → Y y ≠ none := fun s h z => h (s.free z)
  have spl : ∀ {a b c r lh lk y : Addr}, y ∈ six a b c r lh lk → y ∈ [a, b, c] ∨ y ∈ [r, lh, lk] := fun h => by
    simp only [six, List.mem_cons, List.not_mem_nil, or_false] at h ⊢
    rcases h with h | h | h | h | h | h <;> simp [h]
  have all0 : ∀ y ∈ six a0 b0 c0 r0 lh0 lk0, Hs y ≠ none := fun y hy => (spl hy).elim (fun h => up sbs (t0 y h)) fun h => up sr (u0 y h)
  have all1 : ∀ y ∈ six a1 b1 c1 r1 lh1 lk1, Hs y ≠ none := fun y hy => (spl hy).elim (fun h => up sbs (t1 y h)) fun h => u1 y h
  have off : ∀ {y : Addr} {xs : List V}, Hb y = some (.lst xs) → y ∉ six a0 b0 c0 r0 lh0 lk0 ∧ y ∉ six a1 b1 c1 r1 lh1 lk1 := fun {y xs} e => by
    have e' : Hr y ≠ none := fun z => by rw [sb _ _ e] at z; cases z
    refine ⟨fun h => (spl h).elim (fun h => R0.ob.lst e h) fun h => ?_, fun h => (spl h).elim (fun h => R1.ob.lst e h) fun h => e' (n1 y h)⟩
    rw [n0 y h] at e; cases e
  refine ⟨R0.sm.trans (sbs.trans s12), fun j => ?_, ?_, fun j => ?_, s12 _ _ (sbs _ _ eb), s2 _ _ upd_same, s12 _ _ (sbs _ _ eg), ?_, ?_, ⟨[], upd_same, .nil⟩⟩
  · cases j
    · refine ⟨R0.ob.mono (sbs.trans s12), W0.mono (sr.trans s12), fun z => t0 b0 (by simp) ?_, fun z => t0 c0 (by simp) ?_, Nat.zero_le _, Nat.zero_le _⟩
      · exact (show r0 = b0 from z) ▸ hr0
      · exact (show r0 = c0 from z) ▸ hr0
    · refine ⟨R1.ob.mono (sbs.trans s12), W1.mono s12, fun z => up sb (t1 b1 (by simp)) ?_, fun z => up sb (t1 c1 (by simp)) ?_, Nat.zero_le _, Nat.zero_le _⟩
      · exact (show r1 = b1 from z) ▸ hr1
      · exact (show r1 = c1 from z) ▸ hr1
  · intro y h0 h1
    rcases spl h0 with h0 | h0 <;> rcases spl h1 with h1 | h1
    · exact dj y h0 h1
    · exact up sb (t0 y h0) (n1 y h1)
    · exact t1 y h1 (n0 y h0)
    · exact u0 y h0 (n1 y h1)
  · cases j
    · exact fun h => all0 hl h hls
    · exact fun h => all1 hl h hls
  · intro y hy
    have key : ∀ {y : Addr}, Hs y ≠ none ∨ y = lr → y ≠ hl := fun {y} h z => by
      subst z
      rcases h with h | h
      · exact h hls
      · subst h; rw [upd_same] at hhl; cases hhl
    have mk : ∀ {y : Addr}, (Hs y ≠ none ∨ y = lr) → y ∉ six a0 b0 c0 r0 lh0 lk0 → y ∉ six a1 b1 c1 r1 lh1 lk1 → y ∉ hl :: (six a0 b0 c0 r0 lh0 lk0 ++ six a1 b1 c1 r1 lh1 lk1) := fun h h0 h1 z =>
      (List.mem_cons.mp z).elim (key h) fun z => (List.mem_append.mp z).elim h0 h1
    have lst : ∀ {y : Addr} {xs : List V}, Hb y = some (.lst xs) → y ∉ hl :: (six a0 b0 c0 r0 lh0 lk0 ++ six a1 b1 c1 r1 lh1 lk1) := fun e => mk (.inl fun z => by rw [sbs _ _ e] at z; cases z) (off e).1 (off e).2
    rcases List.mem_cons.mp hy with rfl | hy
    · exact lst eb
    rcases List.mem_cons.mp hy with rfl | hy
    · exact mk (.inr rfl) (fun h => all0 y h hlr) fun h => all1 y h hlr
    rw [List.mem_singleton.mp hy]
    exact lst eg
  · intro y hy
    rcases List.mem_cons.mp hy with rfl | hy
    · exact R0.sm.free (sbs.free hls)
    rcases List.mem_append.mp hy with hy | hy
    · exact (spl hy).elim (fun h => fresh3 R0.na R0.nb R0.nc h) fun h => R0.sm.free (n0 y h)
    · exact (spl hy).elim (fun h => fresh3 R1.na R1.nb R1.nc h) fun h => R0.sm.free (sb.free (n1 y h))
theorem S29.rebase {H0 G H : Hp} {lb lr lg hl : Addr} {A : Bool → Ad} {g n : Bool → Int} {hs ks : Bool → KV3} {ps : List (Int × List S3 × List S3)} (S : S29 K CS H0 H lb lr lg hl A g n hs ks ps) (s : Same G H) (h : ∀ y ∈ allM A hl, G y = none) : S29 K CS G H lb lr lg hl A g n hs ks ps :=
  ⟨s, S.bo, S.dj, S.hn, S.eb, S.er, S.eg, S.nb, h, S.held⟩
section
variable {H H2 : Hp} {a dx b c r lh lk : Addr} {g n : Int} {hs ks : KV3}
theorem Rw.setLast (R : Rw H r lh lk n hs ks) (m : Int) : Rw (L2.upd H r (rowsO lh lk m)) r lh lk m hs ks := by
  obtain ⟨_, e1, _⟩ := id R.eh
  obtain ⟨_, e2, _⟩ := id R.ek
  have kt : ∀ t xs, H t = some (.tup xs) → L2.upd H r (rowsO lh lk m) t = some (.tup xs) := fun t xs e => by rw [upd_ne (ne_of e R.er (by intro z; cases z))]; exact e
  exact ⟨upd_same, R.ne, R.eh.on (fun o e => by rw [upd_ne (ne_of e1 R.er (by intro z; cases z))]; exact e) kt, R.ek.on (fun o e => by rw [upd_ne (ne_of e2 R.er (by intro z; cases z))]; exact e) kt⟩
theorem Ob.other (O : Ob CS H a dx b c g n hs ks) {r : Addr} {kvs : List (Key × V)} {o : HO} (m : r ∉ [a, b, c]) (e : H r = some (.dK kvs)) : Ob CS (L2.upd H r o) a dx b c g n hs ks :=
  O.keep (fun y hy u e' => by rw [upd_ne fun (z : y = r) => m (z ▸ hy)]; exact e') fun t xs e' => by rw [upd_ne (ne_of e' e (by intro z; cases z))]; exact e'
theorem Kept.upd {M : List Addr} {r : Addr} {o : HO} (k : Kept M H H2) (m : r ∈ M) : Kept M H (L2.upd H2 r o) := fun y u e h => by
  rw [upd_ne fun (z : y = r) => h (z ▸ m)]
  exact k y u e h
end
def jI (j : Bool) : Int := if j = true then 1 else 0
theorem at2 {α : Type} (f : Bool → α) (j : Bool) : atI [f false, f true] (jI j) = some (f j) := by cases j <;> rfl
theorem unit_lt {u m : Nat} (h : u + 64 < cLine) (hm : m ≤ 64) : u + m < cLine := by lia
section
variable {H0 H : Hp} {lb lr lg hl : Addr} {A : Bool → Ad} {g n : Bool → Int} {hs ks : Bool → KV3} {ps : List (Int × List S3 × List S3)} {Q : VK} {E : XK}
theorem S29.look (S : S29 K CS H0 H lb lr lg hl A g n hs ks ps) (j : Bool) (l9 : ps.length ≤ 900) (k : ∀ H' ps', ps'.length = ps.length + 2 → S29 K CS H0 H' lb lr lg hl A g n hs ks ps' → Q (.bl true) H') : spSeen K CS [.ref (A j).a, .ref (A j).r, .int (g j), .ref hl] H Q E :=
  .mk _ _ _ _ _ _ _ _ _ _ _ _ (allM A hl) ps (S.bo j) (S.hn j) List.mem_cons_self S.chg S.held l9 fun H' ps' k1 h1 e => k H' ps' e (S.seen k1 h1)
theorem S29.outR (S : S29 K CS H0 H lb lr lg hl A g n hs ks ps) (j : Bool) {ce : Int} (l9 : n j ≤ 10000) (k : ∀ H' n' hs' ks', n' ≤ n j + 1 → S29 K CS H0 H' lb lr lg hl A g (put1 n j n') (put1 hs j hs') (put1 ks j ks') ps → Q (.bl true) H') : spOR CS [.ref (A j).a, .ref (A j).r, .int ce] H Q E :=
  .mk _ _ _ _ _ _ _ _ _ _ _ _ (S.bo j) l9 fun H' n' hs' ks' B _ h2 kk => k H' n' hs' ks' h2 (S.deed j B kk)
theorem S29.putR (S : S29 K CS H0 H lb lr lg hl A g n hs ks ps) (j : Bool) {ce ba : Int} (b0 : 0 ≤ ba) (b1 : ba < 200) (k : ∀ H' n' hs' ks', n' ≤ n j + 1 → S29 K CS H0 H' lb lr lg hl A g (put1 n j n') (put1 hs j hs') (put1 ks j ks') ps → Q (.bl true) H') : spPR CS [.ref (A j).a, .ref (A j).r, .int ce, .int ba] H Q E :=
  .mk _ _ _ _ _ _ _ _ _ _ _ _ _ (S.bo j) b0 b1 fun H' n' hs' ks' B _ h2 kk => k H' n' hs' ks' h2 (S.deed j B kk)
end
section
variable {H0 H : Hp} {lb lr lg hl : Addr} {A : Bool → Ad} {g n : Bool → Int} {hs ks : Bool → KV3} {ps : List (Int × List S3 × List S3)} {Q : VK} {E : XK} {σ : St} {tj : TE} {j : Bool}
theorem S29.two (S : S29 K CS H0 H lb lr lg hl A g n hs ks ps) (h4 : σ[4]? = some (some (.ref lb))) (h5 : σ[5]? = some (some (.ref lr))) (hj : ∀ Q' : VK, Q' (.int (jI j)) H → tj σ H Q') {r : TA} {Q : List V → Hp → Prop} (q : r σ H fun xs H2 => Q (.ref (A j).a :: .ref (A j).r :: xs) H2) : tCons (tOp (rIx K) (tVar 4) tj) (tCons (tOp (rIx K) (tVar 5) tj) r) σ H Q :=
  ixVL h4 hj (SqL.of S.eb) (at2 (fun j => V.ref (A j).a) j) (ixVL h5 hj (SqL.of S.er) (at2 (fun j => V.ref (A j).r) j) q)
theorem S29.lookT (S : S29 K CS H0 H lb lr lg hl A g n hs ks ps) (h4 : σ[4]? = some (some (.ref lb))) (h5 : σ[5]? = some (some (.ref lr))) (h2 : σ[2]? = some (some (.ref lg))) (h6 : σ[6]? = some (some (.ref hl))) (hj : ∀ Q' : VK, Q' (.int (jI j)) H → tj σ H Q') (l9 : ps.length ≤ 900) (k : ∀ H' ps', ps'.length = ps.length + 2 → S29 K CS H0 H' lb lr lg hl A g n hs ks ps' → Q (.bl true) H') :
    tCall (spSeen K CS) [] E (tCons (tOp (rIx K) (tVar 4) tj) (tCons (tOp (rIx K) (tVar 5) tj) (tCons (tOp (rIx K) (tVar 2) tj) (tCons (tVar 6) tNil)))) σ H Q :=
  S.two h4 h5 hj (ixVL h2 hj (SqL.of S.eg) (at2 (fun j => V.int (g j)) j) (varQ h6 (S.look (E := E) j l9 k)))
theorem S29.outT (S : S29 K CS H0 H lb lr lg hl A g n hs ks ps) (h4 : σ[4]? = some (some (.ref lb))) (h5 : σ[5]? = some (some (.ref lr))) {ce : Int} (h8 : σ[8]? = some (some (.int ce))) (hj : ∀ Q' : VK, Q' (.int (jI j)) H → tj σ H Q') (l9 : n j ≤ 10000) (k : ∀ H' n' hs' ks', n' ≤ n j + 1 → S29 K CS H0 H' lb lr lg hl A g (put1 n j n') (put1 hs j hs') (put1 ks j ks') ps → Q (.bl true) H') :
    tCall (spOR CS) [] E (tCons (tOp (rIx K) (tVar 4) tj) (tCons (tOp (rIx K) (tVar 5) tj) (tCons (tVar 8) tNil))) σ H Q :=
  S.two h4 h5 hj (varQ h8 (S.outR (E := E) j l9 k))
theorem S29.putT (S : S29 K CS H0 H lb lr lg hl A g n hs ks ps) (h4 : σ[4]? = some (some (.ref lb))) (h5 : σ[5]? = some (some (.ref lr))) {ce ba : Int} (h8 : σ[8]? = some (some (.int ce))) (h3 : σ[3]? = some (some (.int ba))) (hj : ∀ Q' : VK, Q' (.int (jI j)) H → tj σ H Q') (b0 : 0 ≤ ba) (b1 : ba < 200) (k : ∀ H' n' hs' ks', n' ≤ n j + 1 → S29 K CS H0 H' lb lr lg hl A g (put1 n j n') (put1 hs j hs') (put1 ks j ks') ps → Q (.bl true) H') :
    tCall (spPR CS) [] E (tCons (tOp (rIx K) (tVar 4) tj) (tCons (tOp (rIx K) (tVar 5) tj) (tCons (tVar 8) (tCons (tVar 3) tNil)))) σ H Q :=
  S.two h4 h5 hj (varQ h8 (varQ h3 (S.putR (E := E) j b0 b1 k)))
theorem methT {m : Str} {sp : Sp} {ta : TA} {a dx : Addr} {fs : List (Str × V)} {y : V} (h4 : σ[4]? = some (some (.ref lb))) (eb : H lb = some (.lst [.ref a, y])) (ia : H a = some (.ins CS dx fs)) (lk : fs.lookup m = none) (q : ta σ H fun vs H2 => sp (.ref a :: (vs ++ [])) H2 Q E) : tMeth CS m sp [] E (tOp (rIx K) (tVar 4) (tC (.int 0))) ta σ H Q :=
  ixCL h4 (SqL.of eb) rfl ⟨a, dx, fs, rfl, ia, lk, q⟩
end
theorem put1_le {n : Bool → Int} {j : Bool} {n' m0 m1 : Int} (h : n' ≤ n j + 1) (h0 : n false ≤ m0) (h1 : n true ≤ m1) : put1 n j n' false ≤ m0 + 1 ∧ put1 n j n' true ≤ m1 + 1 := by
  unfold put1
  cases j
  · exact ⟨by rw [if_pos rfl]; lia, by rw [if_neg (by decide)]; lia⟩
  · exact ⟨by rw [if_neg (by decide)]; lia, by rw [if_pos rfl]; lia⟩
theorem fm_none {α : Type} : ∀ ps : List α, (ps.filterMap fun _ => (none : Option D)) = []
  | [] => rfl
  | _ :: ps => fm_none ps
theorem start29k {H Hb Hr Hs : Hp} {lb lg lr hl a0 dx0 b0 c0 a1 dx1 b1 c1 r0 lh0 lk0 r1 lh1 lk1 : Addr} {g : Bool → Int} (R0 : Run CS H Hb a0 dx0 b0 c0 (g false) 0 [] []) (R1 : Run CS H Hb a1 dx1 b1 c1 (g true) 0 [] []) (dj : ∀ y ∈ [a0, b0, c0], y ∉ [a1, b1, c1]) (eb : Hb lb = some (.lst [.ref a0, .ref a1])) (eg : Hb lg = some (glst g))
    (hr0 : Hb r0 = none) (hh0 : Hb lh0 = none) (hk0 : Hb lk0 = none) (W0 : Rw Hr r0 lh0 lk0 0 [] []) (sb : Same Hb Hr) (hr1 : Hr r1 = none) (hh1 : Hr lh1 = none) (hk1 : Hr lk1 = none) (W1 : Rw Hs r1 lh1 lk1 0 [] []) (sr : Same Hr Hs) (hlr : Hs lr = none) (hhl : (upd Hs lr (.lst [.ref r0, .ref r1])) hl = none)
    {R : Prop} (k : ∀ A, S29 K CS H (upd (upd Hs lr (.lst [.ref r0, .ref r1])) hl (.lst [])) lb lr lg hl A g (fun _ => 0) (fun _ => []) (fun _ => []) [] → R) : R := k _ (start29 R0 R1 dj eb eg hr0 hh0 hk0 W0 sb hr1 hh1 hk1 W1 sr hlr hhl)
abbrev s9 (sc : Addr) (fi ga ba bo ro he k ce at' go : Option V) : St := [some (.ref sc), fi, ga, ba, bo, ro, he, k, ce, at', go]
section
variable (K : PySem.W.Frag) (CS : Addr) (H0 : Hp) (lb lr lg hl : Addr) (A : Bool → Ad) (g : Bool → Int)
inductive W1 (s : Option V → St) (i : Nat) : St → Hp → Prop
  | mk (y : Option V) {H : Hp} (n : Bool → Int) (hs ks : Bool → KV3) (n0 : n false = (i : Int)) (n1 : n true = 0) (h0 : hs false = []) (k0 : ks false = []) (S : S29 K CS H0 H lb lr lg hl A g n hs ks []) : W1 s i (s y) H
inductive W2 (H1 : Hp) (n : Bool → Int) (σ : St) : St → Hp → Prop
  | mk {H : Hp} (O : Ob CS H (A false).a (A false).dx (A false).b (A false).c (g false) (n false + 1) [(n false + 1, (90, 30, 4))] []) (R : Rw H (A false).r (A false).lh (A false).lk (n false + 1) [] []) (k : Kept (sixA (A false)) H1 H) : W2 H1 n σ σ H
inductive W3 (s : Option V → Option V → Option V → St) (i : Nat) : St → Hp → Prop
  | mk (y8 y9 y10 : Option V) {H : Hp} (n : Bool → Int) (hs ks : Bool → KV3) (ps : List (Int × List S3 × List S3)) (hi : i ≤ 62) (b0 : n false ≤ 299 + (i : Int)) (b1 : n true ≤ (i : Int)) (bp : ps.length ≤ 2 * i) (S : S29 K CS H0 H lb lr lg hl A g n hs ks ps) : W3 s i (s y8 y9 y10) H
inductive W4 (ps : List (Int × List S3 × List S3)) (m0 m1 : Int) (σ : St) : St → Hp → Prop
  | mk {H : Hp} (n : Bool → Int) (hs ks : Bool → KV3) (b : n false ≤ m0 ∧ n true ≤ m1) (S : S29 K CS H0 H lb lr lg hl A g n hs ks ps) : W4 ps m0 m1 σ σ H
end
theorem W3.sm {K : PySem.W.Frag} {CS : Addr} {H0 : Hp} {lb lr lg hl : Addr} {A : Bool → Ad} {g : Bool → Int} {s : Option V → Option V → Option V → St} {i : Nat} {σ : St} {H : Hp} : W3 K CS H0 lb lr lg hl A g s i σ H → Same H0 H
  | .mk _ _ _ _ _ _ _ _ _ _ _ S => S.sm
def r_law : DR := fun ds P => ∃ ns : List Int, ds = [.scr ns] ∧ ns.length ≤ 63 ∧ P (.p (.bl true))
theorem ok_law (T : Blt mg) (TX : Errs K mg cs) (TC : ClsT K mg CS) (F_law_cell_at : Fn P w K mg base "_law_cell_at" 1 ["script", "k"] (spD K r_law_cell_at)) (F_law_stir : Fn P w K mg base "_law_stir" 1 ["cell", "k"] (spD K r_law_stir)) {a_Streams___init__ : Addr} {fd_Streams___init__ : FuncData} (FV_Streams___init__ : FnOk P w K mg base CX0 1 a_Streams___init__ fd_Streams___init__ ["self", "gap"] (spInit CS)) (MV_Streams___init__ : Meth K CS "__init__" a_Streams___init__) (BV_Streams___init__ : Binds K fd_Streams___init__ ["self", "gap"] []) (MK : Mk K CS a_Streams___init__) {a_Streams_put_hot : Addr} {fd_Streams_put_hot : FuncData} (FV_Streams_put_hot : FnOk P w K mg base (CXe P w) 5 a_Streams_put_hot fd_Streams_put_hot ["self", "start", "goal", "rate"] (spPut hotW cs CS)) (MV_Streams_put_hot : Meth K CS "put_hot" a_Streams_put_hot) (BV_Streams_put_hot : Binds K fd_Streams_put_hot ["self", "start", "goal", "rate"] []) (F_law_out_right : Fn P w K mg base "_law_out_right" 4 ["streams", "rows", "cell"] (spOR CS)) (F_law_put_right : Fn P w K mg base "_law_put_right" 7 ["streams", "rows", "cell", "base"] (spPR CS)) (F_law_seen : Fn P w K mg base "_law_seen" 2 ["streams", "rows", "gap", "held"] (spSeen K CS)) (F_law_is : Fn P w K mg base "_law_is" 1 ["found", "due"] (spD K r_law_is)) {a_Streams_take_out : Addr} {fd_Streams_take_out : FuncData} (FV_Streams_take_out : FnOk P w K mg base (CXe P w) 2 a_Streams_take_out fd_Streams_take_out ["self", "number"] (spOut cs CS)) (MV_Streams_take_out : Meth K CS "take_out" a_Streams_take_out) (BV_Streams_take_out : Binds K fd_Streams_take_out ["self", "number"] []) (F : Fun K "law" "law" s_law f fd) : FnOk P w K mg base CX0 8 f fd ["script"] (spD K r_law) := by
  refine FnOk.drop (F.okX sc_law (fun vs H Q E h => ?_) fun cdv A outer s H vs Q E hr h => any_fun fun En eD => ?_) fun _ _ _ _ h => h
  · obtain ⟨ds, G, P0, sg, r, ⟨ns, rfl, _⟩, _⟩ := h
    have := Paired.length r
    exact this
  · obtain ⟨ds, G, P0, sg, r, ⟨ns, rfl, hn, q⟩, kk⟩ := h
    obtain ⟨v, rfl, rv⟩ := reps1 r
    have hun := hr.units
    obtain ⟨sc, rfl, hsc⟩ : ∃ sc, v = .ref sc ∧ SqL K G sc (ns.map V.int) := by cases rv with | scr e => exact ⟨_, rfl, e⟩
    have done : ∀ H2, Same H H2 → En.rt (.bl true) H2 := fun H2 s2 => by
      rw [eD]
      exact kk (.p (.bl true)) _ H2 G q ⟨s2, Same.refl _, sg.trans s2, fun _ _ => rfl⟩ (.bl true)
    replace hsc := sg.seq hsc
    clear rv r kk eD q sg G
    refine any_cons (ps_set (i := 1) sc_law.nd rfl (Or.inl rfl) ((de_fn F_law_cell_at (hr.mono (by decide)) (by rfl) (da_cons (dv 0) (da_cons de_int da_nil)))).pe) (cE_intE [some (.p (.scr ns))] (fun _ => True) (repE_cons (.scr hsc) repE_nil) ?_ fun f H1 _ s1 => ?_)
    · walk_at "rs"
      exact ⟨ns, 0, rfl, by decide, _, rfl⟩
    refine any_cons (ps_set (i := 2) sc_law.nd rfl (Or.inl rfl) ((de_lst (da_cons (de_op od_mod (de_fn F_law_stir (hr.mono (by decide)) (by rfl) (da_cons (dv 1) (da_cons de_int da_nil))) de_int) (da_cons (de_op od_mod (de_fn F_law_stir (hr.mono (by decide)) (by rfl) (da_cons (dv 1) (da_cons de_int da_nil))) de_int) da_nil)))).pe) (cE_is [none, some (.p (.int f))] [stirX f 0 % 51, stirX f 1 % 51] (repE_skip (repE_cons (.int f) repE_nil)) ?_ fun lg H2 s2 el => ?_)
    · repeat (first | dsimp only [r_law_stir] | walk_at "rs1" | walk_at "rsx")
      exact ⟨by decide, by decide, trivial⟩
    obtain ⟨g, elg⟩ : ∃ g : Bool → Int, H2 lg = some (glst g) := ⟨fun j => if j then stirX f 1 % 51 else stirX f 0 % 51, el⟩
    replace s2 := s1.trans s2
    clear el s1
    refine any_cons (ps_set (i := 3) sc_law.nd rfl (Or.inl rfl) ((de_op od_mod (de_fn F_law_stir (hr.mono (by decide)) (by rfl) (da_cons (dv 1) (da_cons de_int da_nil))) de_int)).pe) (cE_intE [none, some (.p (.int f))] (fun n => 0 ≤ n ∧ n < 200) (repE_skip (repE_cons (.int f) repE_nil)) ?_ fun ba H3 ⟨ba0, ba1⟩ s3 => ?_)
    · repeat (first | dsimp only [r_law_stir] | walk_at "rs1" | walk_at "rsx")
      exact ⟨by decide, _, stir_mod f 2 200 (by decide), rfl⟩
    replace elg := s3 _ _ elg
    replace s3 := s2.trans s3
    clear s2
    refine any_cons (ps_setLC (i := 4) (sc0 := defScope s_law) (N0 := ["script", "first", "gaps", "base", "both", "rows", "held", "k", "cell", "at", "good"]) sc_law.nd rfl (Or.inl rfl) ["gap"] [none] rfl (pi_list (pv 2)) (fun _ _ _ _ _ => pg_name (i := 0) (show (["gap"] : List Str).Nodup by decide +kernel) rfl (Or.inl rfl)) (fun _ _ _ _ _ => pifs_nil) (fun _ _ _ _ _ => pe_make MK FV_Streams___init__ (hr.mono (by decide)) (by rfl) TC.at_ BV_Streams___init__ .nil pass0 (pa_cons (pv 0) pa_nil))) (both_ok rfl s3 elg fun lb a0 dx0 b0 c0 a1 dx1 b1 c1 Hb R0 R1 dj eb eg => ?_)
    clear s3 elg
    refine any_cons (t := tAsg (tLst (tCons (tHot "hot" "cold" "last" 0) (tCons (tHot "hot" "cold" "last" 0) tNil))) (gName 5)) (by with_reducible exact ps_rows2 (i := 5) (by with_unfolding_all exact sc_law.nd) (by with_unfolding_all rfl) (by with_unfolding_all exact Or.inl rfl) (by with_unfolding_all first | exact .inl rfl | exact .inr rfl)) ?_
    dsimp only [tAsg, tLst, tCons, tNil]
    refine hot_ok fun r0 lh0 lk0 Hr hr0 hh0 hk0 W0 sb => ?_
    refine hot_ok fun r1 lh1 lk1 Hs hr1 hh1 hk1 W1 sr => ⟨small_len (Nat.le_of_ble_eq_true rfl), fun lr hlr => ?_⟩
    refine any_cons (ps_set (i := 6) sc_law.nd rfl (Or.inl rfl) (pe_lst pa_nil)) ⟨small_len (Nat.le_of_ble_eq_true rfl), fun hl hhl => ?_⟩
    refine start29k (K := K) R0 R1 dj eb eg hr0 hh0 hk0 W0 sb hr1 hh1 hk1 W1 sr hlr hhl fun AA S => ?_
    clear R0 R1 dj eb eg hr0 hh0 hk0 W0 sb hr1 hh1 hk1 W1 sr hlr hhl
    show tAny _ _ _ (s9 sc (some (.int f)) (some (.ref lg)) (some (.int ba)) (some (.ref lb)) (some (.ref lr)) (some (.ref hl)) none none none none) _
    refine any_cut (fun σ H5 => ∃ j, j ≤ 299 ∧ WS.W1 K CS H lb lr lg hl AA g (fun y => s9 sc (some (.int f)) (some (.ref lg)) (some (.int ba)) (some (.ref lb)) (some (.ref lr)) (some (.ref hl)) y none none none) j σ H5) (ps_for PassesOwn.leaving rfl (pi_range1 (by rfl) T.b_range (pa_cons ((de_ix (de_lst (da_cons de_int (da_cons (de_op od_mod (de_fn F_law_stir (hr.mono (by decide)) (by rfl) (da_cons (dv 1) (da_cons de_int da_nil))) de_int) da_nil))) (de_callTy cd_int (by rfl) T.b_int PyProof.Rows.boot_int (da_cons (de_cmp od_eq (de_op od_mod (de_fn F_law_stir (hr.mono (by decide)) (by rfl) (da_cons (dv 1) (da_cons de_int da_nil))) de_int) de_int (nomark _)) da_nil)))).pe pa_nil)) (pg_name (i := 7) sc_law.nd rfl (Or.inl rfl)) pss_any) (fun D1 _ hD1 => ?_) ?_
    · refine cE_intE [none, some (.p (.int f))] (fun j => 0 ≤ j ∧ j ≤ 299) (repE_skip (repE_cons (.int f) repE_nil)) ?_ fun j H5 ⟨j0, j1⟩ s5 => ?_
      · repeat (first | dsimp only [r_law_stir] | walk_at "rs1" | walk_at "rsx")
        have m := stir_mod f 4 300 (by decide)
        refine ⟨by decide, by decide, ?_⟩
        by_cases z : decide (stirX f 3 % 4 = 1) = true
        · rw [if_pos z]; exact ⟨_, rfl, _, ⟨m.1, by lia⟩, rfl⟩
        · rw [if_neg z]; exact ⟨_, rfl, 0, ⟨by decide, by decide⟩, rfl⟩
      refine ⟨_, rfl, by lia, by lia, for_rng (WS.W1 K CS H lb lr lg hl AA g fun y => s9 sc (some (.int f)) (some (.ref lg)) (some (.int ba)) (some (.ref lb)) (some (.ref lr)) (some (.ref hl)) y none none none) (.mk none _ _ _ rfl rfl rfl rfl (S.mono s5)) (fun i σ H6 D2 _ hD2 hi w => ?_) fun σ H6 w => hD1 _ _ ⟨_, by lia, w⟩⟩
      cases w with | mk y n hs ks n0 n1 h0 k0 S6 =>
      have hi9 : i < 300 := by lia
      clear S s5 hi hD1
      have B := S6.bo false
      rw [h0, k0] at B
      show tAny _ _ D2 (s9 sc (some (.int f)) (some (.ref lg)) (some (.int ba)) (some (.ref lb)) (some (.ref lr)) (some (.ref hl)) (some (.int i)) none none none) H6
      refine any_cut (W2 CS AA g H6 n (s9 sc (some (.int f)) (some (.ref lg)) (some (.int ba)) (some (.ref lb)) (some (.ref lr)) (some (.ref hl)) (some (.int i)) none none none)) (ps_dput (hu_of hr) (pe_ix ix_seq (pv 5) pe_int (fun _ _ => rfl)) pe_str (pe_meth (pe_ix ix_seq (pv 4) pe_int (fun _ _ => rfl)) TC.cl MV_Streams_put_hot FV_Streams_put_hot (hr.mono (by decide)) BV_Streams_put_hot .nil (body_cx.passes fun _ _ _ h => h) (pa_cons pe_int (pa_cons pe_int (pa_cons pe_int pa_nil)))) rfl) (fun D3 _ hD3 => ?_) fun σ H7 w => ?_
      · refine methT rfl S6.eb B.ob.ia rfl ?_
        dsimp only [tCons, tC, tNil]
        refine put_yes (x := (90, 30, 4)) B.ob (.inl rfl) B.h12 B.k12 (by decide) (by decide) (smK (by decide) (by decide)) (smK (by decide) (by decide)) (smK (by decide) (by decide)) fun H7 O7 k7 => ?_
        have R7 := B.kept k7
        refine ixCL rfl (SqL.of (k7.six _ _ S6.er fun z => S6.nb lr (by simp) (S29.mem false z))) rfl ⟨(AA false).r, _, rfl, DPut.k (k := Sum.inr lastW) R7.er (lt1000 (Nat.le_of_ble_eq_true rfl)), ?_⟩
        rw [putK_last]
        exact hD3 _ _ ⟨O7.other (B.off _ (by simp)) R7.er, R7.setLast _, k7.six.upd (by simp)⟩
      cases w with | mk O7 R7 k7 =>
      refine any_one (ps_if (PW.pt (pw_or (pt_not (pt_val (pe_fn F_law_is (hr.mono (by decide)) (by rfl) (pa_cons (pe_dget (hu_of hr) (pe_ix ix_seq (pv 5) pe_int (fun _ _ => rfl)) pe_str (fun _ _ => rfl)) (pa_cons (pe_op op_add (pv 7) pe_int) pa_nil))))) (pw_or1 (pt_cmpR op_neD (pe_meth (pe_ix ix_seq (pv 4) pe_int (fun _ _ => rfl)) TC.cl MV_Streams_take_out FV_Streams_take_out (hr.mono (by decide)) BV_Streams_take_out .nil (body_cx.passes fun _ _ _ h => h) (pa_cons (pe_op op_add (pv 7) pe_int) pa_nil)) (pe_tup (pa_cons pe_int (pa_cons pe_int (pa_cons pe_int pa_nil)))) (nomark _))))) pss_any pss_any) (ixCL rfl (SqL.of (k7 _ _ S6.er fun z => S6.nb lr (by simp) (S29.mem false z))) rfl ⟨(AA false).r, _, rfl, R7.last, _, rfl, _, _, rfl, rfl, ?_⟩)
      have en : n false + 1 = (i : Int) + 1 := by lia
      dsimp only [tNil]
      refine spD_bl (ds := [.int (n false + 1), .int (i + 1)]) true (.cons (.int _) (.cons (.int _) .nil)) ⟨_, _, rfl, by rw [decide_eq_true en]⟩ fun H8 s8 => ⟨true, rfl, ite2 (fun z => absurd z (by decide)) fun _ => ?_⟩
      have O8 := O7.mono s8
      have hk1 : hasK [(n false + 1, ((90, 30, 4) : S3))] ((i : Int) + 1) = true := decide_eq_true (by rw [en]; exact List.mem_cons_self)
      refine methT rfl (s8 _ _ (k7 _ _ S6.eb fun z => S6.nb lb (by simp) (S29.mem false z))) O8.ia rfl ⟨_, rfl, _, _, rfl, rfl, ?_⟩
      dsimp only [tNil]
      refine out_yes O8 (smK (by lia) (by lia)) (.inl hk1) fun t x H9 mem et O9 k9 => ?_
      have ex : x = (90, 30, 4) := by
        rcases mem with mem | mem
        · exact (Prod.mk.inj (List.mem_singleton.mp mem)).2
        · cases mem
      subst ex
      have d0 : dropL [(n false + 1, ((90, 30, 4) : S3))] ((i : Int) + 1) = [] := by unfold dropL; rw [en]; simp
      rw [d0, show dropL [] ((i : Int) + 1) = [] from rfl] at O9
      have R9 : Rw H9 (AA false).r (AA false).lh (AA false).lk (n false + 1) [] [] := (R7.mono s8).keep (fun y hy o e => k9 y o e (B.off y hy)) fun t xs e => k9 _ _ e (O8.tup e)
      have S9 := S6.deed false ⟨O9, R9, B.rb, B.rc, Nat.zero_le _, Nat.zero_le _⟩ ((k7.trans (Kept.of s8)).trans k9.six)
      refine ⟨small_len (Nat.le_of_ble_eq_true rfl), fun q hq => ⟨_, d3 (90, 30, 4), d3 (90, 30, 4), Same.refl _, rep_3 (x := (90, 30, 4)) (same_new hq _ _ et), rep_3 (x := (90, 30, 4)) upd_same, alk_d3 _ _, unit_lt hun (show dep (d3 (90, 30, 4)) ≤ 64 from Nat.le_of_ble_eq_true rfl), _, rfl, ite2 (fun z => absurd z (by rw [peq_refl _ rfl]; decide)) fun _ => any_nil (hD2 _ _ ?_)⟩⟩
      exact .mk _ _ _ _ (by unfold put1; rw [if_pos rfl]; lia) (by unfold put1; rw [if_neg (by decide)]; exact n1) rfl rfl (S9.mono (same_new hq))
    clear S
    rintro σ H5 ⟨j0, hj0, w⟩
    cases w with | mk y7 n hs ks n0 n1 h0 k0 S =>
    refine any_cut (fun σ H6 => ∃ Gs i, Same H Gs ∧ W3 K CS Gs lb lr lg hl AA g (fun y8 y9 y10 => s9 sc (some (.int f)) (some (.ref lg)) (some (.int ba)) (some (.ref lb)) (some (.ref lr)) (some (.ref hl)) y7 y8 y9 y10) i σ H6) (ps_for PassesOwn.leaving rfl ((di_list (de_slice (dv 0) (do_some de_int) (do_some de_int)))).pi (pg_name (i := 8) sc_law.nd rfl (Or.inl rfl)) pss_any) (fun D1 _ hD1 => ?_) ?_
    · have shg : Same H (wo (allM AA hl) H5) := fun y o e => wo_get (fun z => by rw [S.nw y z] at e; cases e) (S.sm _ _ e)
      refine ⟨wo (allM AA hl) H5, [some (.p (.scr ns))], fun xs => xs = (cutL ns (some 1) (some 63)).map D.int, wo_same, repE_cons (.scr (shg.seq hsc)) repE_nil, ?_, fun xs J H6 Gs e w it => ?_⟩
      · walk_at "rs"
      subst e
      have gn : ∀ y ∈ allM AA hl, Gs y = none := fun y hy => by
        rw [w.old y (S.chg y hy)]
        unfold wo
        rw [if_pos hy]
      have lc : ((cutL ns (some 1) (some 63)).map D.int).length ≤ 62 := by
        rw [List.length_map]
        unfold cutL
        rw [List.length_take, List.length_drop]
        rw [show HT.sIx ns.length 0 (some 1) = min 1 ns.length from rfl]
        lia
      replace shg := shg.trans w.gg
      replace S := (S.mono w.hh).rebase w.gh gn
      clear gn w
      refine for_itdD it (W3 K CS Gs lb lr lg hl AA g fun y8 y9 y10 => s9 sc (some (.int f)) (some (.ref lg)) (some (.int ba)) (some (.ref lb)) (some (.ref lr)) (some (.ref hl)) y7 y8 y9 y10) (.mk none none none n hs ks [] (Nat.zero_le _) (by lia) (by lia) (Nat.zero_le _) S) (fun i σ H3 w => w.sm) (fun i d x σ H7 H8 D2 _ hD2 hx w s8 rx => ?_) fun σ H7 w => hD1 _ _ ⟨Gs, _, shg, w⟩
      obtain ⟨ce, rfl⟩ : ∃ ce : Int, d = .int ce := by
        rw [List.getElem?_map] at hx
        obtain ⟨c, _, e⟩ := Option.map_eq_some_iff.mp hx
        exact ⟨c, e.symm⟩
      obtain rfl := rep_i rx
      have hi2 : i + 1 ≤ 62 := Nat.le_trans (List.getElem?_eq_some_iff.mp hx).1 lc
      clear S n0 n1 h0 k0 n hs ks hx lc it hD1
      cases w with | mk y8 y9 y10 n hs ks ps hi b0 b1 bp S =>
      replace S := S.mono s8
      clear s8
      show tAny _ _ D2 (s9 sc (some (.int f)) (some (.ref lg)) (some (.int ba)) (some (.ref lb)) (some (.ref lr)) (some (.ref hl)) y7 (some (.int ce)) y9 y10) H8
      refine any_cons (ps_set (i := 9) sc_law.nd rfl (Or.inl rfl) ((de_callTy cd_int (by rfl) T.b_int PyProof.Rows.boot_int (da_cons (de_cmp od_eq (de_op od_mod (de_fn F_law_stir (hr.mono (by decide)) (by rfl) (da_cons (dv 8) (da_cons de_int da_nil))) de_int) de_int (nomark _)) da_nil))).pe) (cE_intE [none, none, none, none, none, none, none, none, some (.p (.int ce))] (fun n => ∃ j, n = jI j) (repE_skip (repE_skip (repE_skip (repE_skip (repE_skip (repE_skip (repE_skip (repE_skip (repE_cons (.int ce) repE_nil))))))))) ?_ fun n9 H9 ⟨j, ej⟩ s9 => ?_)
      · repeat (first | dsimp only [r_law_stir] | walk_at "rs1" | walk_at "rsx")
        exact ⟨by decide, _, ⟨decide (stirX ce 13 % 4 = 1), rfl⟩, rfl⟩
      subst ej
      replace S := S.mono s9
      clear s9
      refine any_cons (ps_set (i := 10) sc_law.nd rfl (Or.inl rfl) pe_bl) ?_
      show tAny _ _ D2 (s9 sc (some (.int f)) (some (.ref lg)) (some (.int ba)) (some (.ref lb)) (some (.ref lr)) (some (.ref hl)) y7 (some (.int ce)) (some (.int (jI j))) (some (.bl true))) H9
      refine any_cut (W4 K CS Gs lb lr lg hl AA g ps (299 + (i : Int) + 1) ((i : Int) + 1) (s9 sc (some (.int f)) (some (.ref lg)) (some (.int ba)) (some (.ref lb)) (some (.ref lr)) (some (.ref hl)) y7 (some (.int ce)) (some (.int (jI j))) (some (.bl true)))) (ps_if (pt_cmpR op_eqK ((de_op od_mod (de_fn F_law_stir (hr.mono (by decide)) (by rfl) (da_cons (dv 8) (da_cons de_int da_nil))) de_int)).pe pe_int (nomark _)) pss_any pss_any) (fun D3 _ hD3 => ?_) fun σ HA w => ?_
      · refine cE_intE [none, none, none, none, none, none, none, none, some (.p (.int ce))] (fun _ => True) (repE_skip (repE_skip (repE_skip (repE_skip (repE_skip (repE_skip (repE_skip (repE_skip (repE_cons (.int ce) repE_nil))))))))) ?_ fun nA HA _ sA => ?_
        · repeat (first | dsimp only [r_law_stir] | walk_at "rs1" | walk_at "rsx")
          exact ⟨by decide, _, rfl⟩
        replace S := S.mono sA
        refine ⟨rfl, _, rfl, ite2 (fun _ => any_one (ps_set (i := 10) sc_law.nd rfl (Or.inl rfl) (pe_fn F_law_out_right (hr.mono (by decide)) (by rfl) (pa_cons (pe_ix ix_seq (pv 4) (pv 9) (fun _ _ => rfl)) (pa_cons (pe_ix ix_seq (pv 5) (pv 9) (fun _ _ => rfl)) (pa_cons (pv 8) pa_nil))))) ?_) fun _ => any_one (ps_set (i := 10) sc_law.nd rfl (Or.inl rfl) (pe_fn F_law_put_right (hr.mono (by decide)) (by rfl) (pa_cons (pe_ix ix_seq (pv 4) (pv 9) (fun _ _ => rfl)) (pa_cons (pe_ix ix_seq (pv 5) (pv 9) (fun _ _ => rfl)) (pa_cons (pv 8) (pa_cons (pv 3) pa_nil)))))) ?_⟩
        · exact S.outT rfl rfl rfl (fun Q' q => ⟨_, rfl, q⟩) (by cases j <;> lia) fun HB n' hs' ks' h' SB => hD3 _ _ (.mk _ _ _ (put1_le h' b0 b1) SB)
        · exact S.putT rfl rfl rfl rfl (fun Q' q => ⟨_, rfl, q⟩) ba0 ba1 fun HB n' hs' ks' h' SB => hD3 _ _ (.mk _ _ _ (put1_le h' b0 b1) SB)
      clear S b0 b1 n hs ks
      cases w with | mk n hs ks b S =>
      refine any_one (ps_if (PW.pt (pw_or (pt_not (pt_val (pv 10))) (pw_or1 (pt_not (pt_val (pe_fn F_law_seen (hr.mono (by decide)) (by rfl) (pa_cons (pe_ix ix_seq (pv 4) (pv 9) (fun _ _ => rfl)) (pa_cons (pe_ix ix_seq (pv 5) (pv 9) (fun _ _ => rfl)) (pa_cons (pe_ix ix_seq (pv 2) (pv 9) (fun _ _ => rfl)) (pa_cons (pv 6) pa_nil)))))))))) pss_any pss_any) ⟨_, rfl, true, rfl, ite2 (fun z => absurd z (by decide)) fun _ => ?_⟩
      exact S.lookT rfl rfl rfl rfl (fun Q' q => ⟨_, rfl, q⟩) (by lia) fun HB ps' l' SB => ⟨true, rfl, ite2 (fun z => absurd z (by decide)) fun _ => any_nil (hD2 _ _ (.mk _ _ _ n hs ks ps' hi2 (by lia) (by lia) (by lia) SB))⟩
    clear S n0 n1 h0 k0 n hs ks
    rintro σ H6 ⟨Gs, i, shg, w⟩
    cases w with | mk y8 y9 y10 n hs ks ps hi b0 b1 bp S =>
    refine any_cut (fun σ H7 => ∃ ps, ps.length ≤ 128 ∧ σ = s9 sc (some (.int f)) (some (.ref lg)) (some (.int ba)) (some (.ref lb)) (some (.ref lr)) (some (.ref hl)) y7 y8 y9 y10 ∧ S29 K CS Gs H7 lb lr lg hl AA g n hs ks ps) (ps_if (PW.pt (pw_or (pt_not (pt_val (pe_fn F_law_seen (hr.mono (by decide)) (by rfl) (pa_cons (pe_ix ix_seq (pv 4) pe_int (fun _ _ => rfl)) (pa_cons (pe_ix ix_seq (pv 5) pe_int (fun _ _ => rfl)) (pa_cons (pe_ix ix_seq (pv 2) pe_int (fun _ _ => rfl)) (pa_cons (pv 6) pa_nil))))))) (pw_or1 (pt_not (pt_val (pe_fn F_law_seen (hr.mono (by decide)) (by rfl) (pa_cons (pe_ix ix_seq (pv 4) pe_int (fun _ _ => rfl)) (pa_cons (pe_ix ix_seq (pv 5) pe_int (fun _ _ => rfl)) (pa_cons (pe_ix ix_seq (pv 2) pe_int (fun _ _ => rfl)) (pa_cons (pv 6) pa_nil)))))))))) pss_any pss_any) (fun D1 _ hD1 => ?_) ?_
    · refine S.lookT (j := false) rfl rfl rfl rfl (fun Q' q => q) (by lia) fun H7 ps2 l2 S2 => ⟨true, rfl, ite2 (fun z => absurd z (by decide)) fun _ => ?_⟩
      exact S2.lookT (j := true) rfl rfl rfl rfl (fun Q' q => q) (by lia) fun H8 ps3 l3 SC => ⟨true, rfl, ite2 (fun z => absurd z (by decide)) fun _ => any_nil (hD1 _ _ ⟨ps3, by lia, rfl, SC⟩)⟩
    clear S hi b0 b1 bp ps
    rintro σ H7 ⟨ps, lp, rfl, S⟩
    obtain ⟨vs, eh, rr⟩ := S.held
    refine any_one (ps_ret ((de_cmp (od_eqD hr) (de_lc (g := (.n 0)) (tc := (dTst (dOp _ (dOp dIx (dVar 0) (dC _)) (dOp dIx (dVar 0) (dC _))))) (te := (dVar 0)) (sc0 := defScope s_law) (N0 := ["script", "first", "gaps", "base", "both", "rows", "held", "k", "cell", "at", "good"]) ["one"] [none] rfl (di_list (dv 6)) (fun _ _ _ _ _ => (pg_name (i := 0) (show (["one"] : List Str).Nodup by decide +kernel) rfl (Or.inl rfl))) (fun _ _ _ _ _ => (difs_one (dt_cmp (od_neD hr) (de_ix (dv 0) de_int) (de_ix (dv 0) de_int) (nomark _)))) (fun _ _ _ _ _ => (dv 0))) (de_lst da_nil) (nomark _))).pe) (cE_bl [none, none, none, none, none, none, some (.p (.lst (ps.map dHp)))] true (repE_skip (repE_skip (repE_skip (repE_skip (repE_skip (repE_skip (repE_cons (Rep.lst' eh (Reps.mono wo_same rr)) repE_nil))))))) ?_ fun H8 s8 => done _ ((shg.trans S.sm).trans s8))
    · walk_at "rs"
      refine lc_funE (xs := ps) (e := dHp) (fun _ => none) (fun _ => none) (fun _ _ => rfl) (by lia) (fun w _ => ?_) ?_
      · unfold dHp
        walk_at "rs"
        obtain ⟨m1, m2⟩ := nos_dw w.1 w.2.1 w.2.2
        refine ⟨⟨Alk.refl _ m1, m2⟩, ?_⟩
        rw [peq_refl _ m1]
        exact ⟨fun z => (nomatch z), fun _ => trivial⟩
      · rw [fm_none ps]
        exact ⟨⟨.lst fun _ _ _ _ e => absurd e (by simp), Nat.le_of_ble_eq_true rfl⟩, rfl⟩
end
end WS
namespace WS
open PySem L2 DL
theorem of_len1 {α : Type} {P : List α → Prop} (h : ∀ x0, P [x0]) : ∀ us : List α, us.length = 1 → P us := fun us hl => match us, hl with | [x0], _ => h x0
theorem of_len2 {α : Type} {P : List α → Prop} (h : ∀ x0 x1, P [x0, x1]) : ∀ us : List α, us.length = 2 → P us := fun us hl => match us, hl with | [x0, x1], _ => h x0 x1
theorem of_len3 {α : Type} {P : List α → Prop} (h : ∀ x0 x1 x2, P [x0, x1, x2]) : ∀ us : List α, us.length = 3 → P us := fun us hl => match us, hl with | [x0, x1, x2], _ => h x0 x1 x2
theorem of_len4 {α : Type} {P : List α → Prop} (h : ∀ x0 x1 x2 x3, P [x0, x1, x2, x3]) : ∀ us : List α, us.length = 4 → P us := fun us hl => match us, hl with | [x0, x1, x2, x3], _ => h x0 x1 x2 x3
theorem of_len5 {α : Type} {P : List α → Prop} (h : ∀ x0 x1 x2 x3 x4, P [x0, x1, x2, x3, x4]) : ∀ us : List α, us.length = 5 → P us := fun us hl => match us, hl with | [x0, x1, x2, x3, x4], _ => h x0 x1 x2 x3 x4
theorem all_mk {l : PySem.W.OpenLaw} {w : World} {K : PySem.W.Frag} {h : Heap} {mg : Str → Option Value} {fa : Addr} (X : K.In h) (G : h.Ns mainGlobals mg) (hfa : mg "law" = some (.ref fa))
    {CS : Addr}
    {f1 : Addr} {od1 an1 : Option Addr} {sl1 : Array (Option Value)} {oc1 kV1 dc1 pm1 cd1 ct1 : Value}
    {f2 : Addr} {od2 an2 : Option Addr} {sl2 : Array (Option Value)} {oc2 kV2 dc2 pm2 cd2 ct2 : Value}
    {f3 : Addr} {od3 an3 : Option Addr} {sl3 : Array (Option Value)} {oc3 kV3 dc3 pm3 cd3 ct3 : Value}
    {f4 : Addr} {od4 an4 : Option Addr} {sl4 : Array (Option Value)} {oc4 kV4 dc4 pm4 cd4 ct4 : Value}
    {f5 : Addr} {od5 an5 : Option Addr} {sl5 : Array (Option Value)} {oc5 kV5 dc5 pm5 cd5 ct5 : Value}
    {f6 : Addr} {od6 an6 : Option Addr} {sl6 : Array (Option Value)} {oc6 kV6 dc6 pm6 cd6 ct6 : Value}
    {f7 : Addr} {od7 an7 : Option Addr} {sl7 : Array (Option Value)} {oc7 kV7 dc7 pm7 cd7 ct7 : Value}
    {f8 : Addr} {od8 an8 : Option Addr} {sl8 : Array (Option Value)} {oc8 kV8 dc8 pm8 cd8 ct8 : Value}
    {f9 : Addr} {od9 an9 : Option Addr} {sl9 : Array (Option Value)} {oc9 kV9 dc9 pm9 cd9 ct9 : Value}
    {f10 : Addr} {od10 an10 : Option Addr} {sl10 : Array (Option Value)} {oc10 kV10 dc10 pm10 cd10 ct10 : Value}
    {f11 : Addr} {od11 an11 : Option Addr} {sl11 : Array (Option Value)} {oc11 kV11 dc11 pm11 cd11 ct11 : Value}
    {f12 : Addr} {od12 an12 : Option Addr} {sl12 : Array (Option Value)} {oc12 kV12 dc12 pm12 cd12 ct12 : Value}
    {f13 : Addr} {od13 an13 : Option Addr} {sl13 : Array (Option Value)} {oc13 kV13 dc13 pm13 cd13 ct13 : Value}
    {f14 : Addr} {od14 an14 : Option Addr} {sl14 : Array (Option Value)} {oc14 kV14 dc14 pm14 cd14 ct14 : Value}
    {f15 : Addr} {od15 an15 : Option Addr} {sl15 : Array (Option Value)} {oc15 kV15 dc15 pm15 cd15 ct15 : Value}
    {f16 : Addr} {od16 an16 : Option Addr} {sl16 : Array (Option Value)} {oc16 kV16 dc16 pm16 cd16 ct16 : Value}
    {f17 : Addr} {od17 an17 : Option Addr} {sl17 : Array (Option Value)} {oc17 kV17 dc17 pm17 cd17 ct17 : Value}
    {f18 : Addr} {od18 an18 : Option Addr} {sl18 : Array (Option Value)} {oc18 kV18 dc18 pm18 cd18 ct18 : Value}
    {f19 : Addr} {od19 an19 : Option Addr} {sl19 : Array (Option Value)} {oc19 kV19 dc19 pm19 cd19 ct19 : Value}
    {f20 : Addr} {od20 an20 : Option Addr} {sl20 : Array (Option Value)} {oc20 kV20 dc20 pm20 cd20 ct20 : Value}
    {f21 : Addr} {od21 an21 : Option Addr} {sl21 : Array (Option Value)} {oc21 kV21 dc21 pm21 cd21 ct21 : Value}
    {f22 : Addr} {od22 an22 : Option Addr} {sl22 : Array (Option Value)} {oc22 kV22 dc22 pm22 cd22 ct22 : Value}
    {f23 : Addr} {od23 an23 : Option Addr} {sl23 : Array (Option Value)} {oc23 kV23 dc23 pm23 cd23 ct23 : Value}
    {f24 : Addr} {od24 an24 : Option Addr} {sl24 : Array (Option Value)} {oc24 kV24 dc24 pm24 cd24 ct24 : Value}
    {tk1 : Tok}
    {tk2 : Tok}
    {tk3 : Tok}
    {tk4 : Tok}
    {ec1 : Addr} {ed1 : ClassData}
    {ec2 : Addr} {ed2 : ClassData}
    {ec3 : Addr} {ed3 : ClassData}
    {ec4 : Addr} {ed4 : ClassData}
    {ec5 : Addr} {ed5 : ClassData}
    (qC : PySem.W.nsIn K mainGlobals "Streams" = some (some (.ref CS))) (qpg : PySem.W.plainGet K CS Str.empty = true) (qhd : PySem.W.hasDictIn K CS = true) (qpo : PySem.W.plainOver K CS = true) (qsa : PySem.W.findIn K (.ref CS) "__setattr__" = some (some (.builtin "object.__setattr__"))) (qmk : PySem.W.makesIn K CS = true) (qkc : PySem.W.keepIn K (.ref CS) = true)
    (a1 : PySem.W.nsIn K mainGlobals "_law_cell_at" = some (some (.ref f1))) (l1 : K.lookup f1 = some ⟨oc1, od1, .func (PySem.W.fnOf "_law_cell_at" "_law_cell_at" (defArgs s_law_cell_at) (defBody s_law_cell_at) (defScope s_law_cell_at) .none kV1 dc1 pm1 an1 cd1 ct1), sl1⟩) (c1 : PySem.W.codeIn K cd1 "_law_cell_at" = true) (k1 : PySem.W.keepIn K (.ref f1) = true)
    (a2 : PySem.W.nsIn K mainGlobals "_law_stir" = some (some (.ref f2))) (l2 : K.lookup f2 = some ⟨oc2, od2, .func (PySem.W.fnOf "_law_stir" "_law_stir" (defArgs s_law_stir) (defBody s_law_stir) (defScope s_law_stir) .none kV2 dc2 pm2 an2 cd2 ct2), sl2⟩) (c2 : PySem.W.codeIn K cd2 "_law_stir" = true) (k2 : PySem.W.keepIn K (.ref f2) = true)
    (a3 : PySem.W.findIn K (.ref CS) "__init__" = some (some (.ref f3))) (i3 : PySem.W.isFn K (.ref f3) = true) (l3 : K.lookup f3 = some ⟨oc3, od3, .func (PySem.W.fnOf "__init__" "Streams.__init__" (defArgs s_Streams___init__) (defBody s_Streams___init__) (defScope s_Streams___init__) .none kV3 dc3 pm3 an3 cd3 ct3), sl3⟩) (c3 : PySem.W.codeIn K cd3 "Streams.__init__" = true) (k3 : PySem.W.keepIn K (.ref f3) = true)
    (a4 : PySem.W.nsIn K mainGlobals "check_within" = some (some (.ref f4))) (l4 : K.lookup f4 = some ⟨oc4, od4, .func (PySem.W.fnOf "check_within" "check_within" (defArgs s_check_within) (defBody s_check_within) (defScope s_check_within) .none kV4 dc4 pm4 an4 cd4 ct4), sl4⟩) (c4 : PySem.W.codeIn K cd4 "check_within" = true) (k4 : PySem.W.keepIn K (.ref f4) = true)
    (a5 : PySem.W.nsIn K mainGlobals "check_stream" = some (some (.ref f5))) (l5 : K.lookup f5 = some ⟨oc5, od5, .func (PySem.W.fnOf "check_stream" "check_stream" (defArgs s_check_stream) (defBody s_check_stream) (defScope s_check_stream) .none kV5 dc5 pm5 an5 cd5 ct5), sl5⟩) (c5 : PySem.W.codeIn K cd5 "check_stream" = true) (k5 : PySem.W.keepIn K (.ref f5) = true)
    (a6 : PySem.W.findIn K (.ref CS) "all_of" = some (some (.ref f6))) (i6 : PySem.W.isFn K (.ref f6) = true) (l6 : K.lookup f6 = some ⟨oc6, od6, .func (PySem.W.fnOf "all_of" "Streams.all_of" (defArgs s_Streams_all_of) (defBody s_Streams_all_of) (defScope s_Streams_all_of) .none kV6 dc6 pm6 an6 cd6 ct6), sl6⟩) (c6 : PySem.W.codeIn K cd6 "Streams.all_of" = true) (k6 : PySem.W.keepIn K (.ref f6) = true)
    (a7 : PySem.W.findIn K (.ref CS) "check_new" = some (some (.ref f7))) (i7 : PySem.W.isFn K (.ref f7) = true) (l7 : K.lookup f7 = some ⟨oc7, od7, .func (PySem.W.fnOf "check_new" "Streams.check_new" (defArgs s_Streams_check_new) (defBody s_Streams_check_new) (defScope s_Streams_check_new) .none kV7 dc7 pm7 an7 cd7 ct7), sl7⟩) (c7 : PySem.W.codeIn K cd7 "Streams.check_new" = true) (k7 : PySem.W.keepIn K (.ref f7) = true)
    (a8 : PySem.W.findIn K (.ref CS) "put_in" = some (some (.ref f8))) (i8 : PySem.W.isFn K (.ref f8) = true) (l8 : K.lookup f8 = some ⟨oc8, od8, .func (PySem.W.fnOf "put_in" "Streams.put_in" (defArgs s_Streams_put_in) (defBody s_Streams_put_in) (defScope s_Streams_put_in) .none kV8 dc8 pm8 an8 cd8 ct8), sl8⟩) (c8 : PySem.W.codeIn K cd8 "Streams.put_in" = true) (k8 : PySem.W.keepIn K (.ref f8) = true)
    (a9 : PySem.W.findIn K (.ref CS) "put_hot" = some (some (.ref f9))) (i9 : PySem.W.isFn K (.ref f9) = true) (l9 : K.lookup f9 = some ⟨oc9, od9, .func (PySem.W.fnOf "put_hot" "Streams.put_hot" (defArgs s_Streams_put_hot) (defBody s_Streams_put_hot) (defScope s_Streams_put_hot) .none kV9 dc9 pm9 an9 cd9 ct9), sl9⟩) (c9 : PySem.W.codeIn K cd9 "Streams.put_hot" = true) (k9 : PySem.W.keepIn K (.ref f9) = true)
    (a10 : PySem.W.findIn K (.ref CS) "home_of" = some (some (.ref f10))) (i10 : PySem.W.isFn K (.ref f10) = true) (l10 : K.lookup f10 = some ⟨oc10, od10, .func (PySem.W.fnOf "home_of" "Streams.home_of" (defArgs s_Streams_home_of) (defBody s_Streams_home_of) (defScope s_Streams_home_of) .none kV10 dc10 pm10 an10 cd10 ct10), sl10⟩) (c10 : PySem.W.codeIn K cd10 "Streams.home_of" = true) (k10 : PySem.W.keepIn K (.ref f10) = true)
    (a11 : PySem.W.findIn K (.ref CS) "take_out" = some (some (.ref f11))) (i11 : PySem.W.isFn K (.ref f11) = true) (l11 : K.lookup f11 = some ⟨oc11, od11, .func (PySem.W.fnOf "take_out" "Streams.take_out" (defArgs s_Streams_take_out) (defBody s_Streams_take_out) (defScope s_Streams_take_out) .none kV11 dc11 pm11 an11 cd11 ct11), sl11⟩) (c11 : PySem.W.codeIn K cd11 "Streams.take_out" = true) (k11 : PySem.W.keepIn K (.ref f11) = true)
    (a12 : PySem.W.nsIn K mainGlobals "_law_out" = some (some (.ref f12))) (l12 : K.lookup f12 = some ⟨oc12, od12, .func (PySem.W.fnOf "_law_out" "_law_out" (defArgs s_law_out) (defBody s_law_out) (defScope s_law_out) .none kV12 dc12 pm12 an12 cd12 ct12), sl12⟩) (c12 : PySem.W.codeIn K cd12 "_law_out" = true) (k12 : PySem.W.keepIn K (.ref f12) = true)
    (a13 : PySem.W.nsIn K mainGlobals "_law_out_right" = some (some (.ref f13))) (l13 : K.lookup f13 = some ⟨oc13, od13, .func (PySem.W.fnOf "_law_out_right" "_law_out_right" (defArgs s_law_out_right) (defBody s_law_out_right) (defScope s_law_out_right) .none kV13 dc13 pm13 an13 cd13 ct13), sl13⟩) (c13 : PySem.W.codeIn K cd13 "_law_out_right" = true) (k13 : PySem.W.keepIn K (.ref f13) = true)
    (a14 : PySem.W.nsIn K mainGlobals "_law_stream" = some (some (.ref f14))) (l14 : K.lookup f14 = some ⟨oc14, od14, .func (PySem.W.fnOf "_law_stream" "_law_stream" (defArgs s_law_stream) (defBody s_law_stream) (defScope s_law_stream) .none kV14 dc14 pm14 an14 cd14 ct14), sl14⟩) (c14 : PySem.W.codeIn K cd14 "_law_stream" = true) (k14 : PySem.W.keepIn K (.ref f14) = true)
    (a15 : PySem.W.nsIn K mainGlobals "_law_spoilt" = some (some (.ref f15))) (l15 : K.lookup f15 = some ⟨oc15, od15, .func (PySem.W.fnOf "_law_spoilt" "_law_spoilt" (defArgs s_law_spoilt) (defBody s_law_spoilt) (defScope s_law_spoilt) .none kV15 dc15 pm15 an15 cd15 ct15), sl15⟩) (c15 : PySem.W.codeIn K cd15 "_law_spoilt" = true) (k15 : PySem.W.keepIn K (.ref f15) = true)
    (a16 : PySem.W.nsIn K mainGlobals "_law_due" = some (some (.ref f16))) (l16 : K.lookup f16 = some ⟨oc16, od16, .func (PySem.W.fnOf "_law_due" "_law_due" (defArgs s_law_due) (defBody s_law_due) (defScope s_law_due) .none kV16 dc16 pm16 an16 cd16 ct16), sl16⟩) (c16 : PySem.W.codeIn K cd16 "_law_due" = true) (k16 : PySem.W.keepIn K (.ref f16) = true)
    (a17 : PySem.W.findIn K (.ref CS) "put_cold" = some (some (.ref f17))) (i17 : PySem.W.isFn K (.ref f17) = true) (l17 : K.lookup f17 = some ⟨oc17, od17, .func (PySem.W.fnOf "put_cold" "Streams.put_cold" (defArgs s_Streams_put_cold) (defBody s_Streams_put_cold) (defScope s_Streams_put_cold) .none kV17 dc17 pm17 an17 cd17 ct17), sl17⟩) (c17 : PySem.W.codeIn K cd17 "Streams.put_cold" = true) (k17 : PySem.W.keepIn K (.ref f17) = true)
    (a18 : PySem.W.nsIn K mainGlobals "_law_put" = some (some (.ref f18))) (l18 : K.lookup f18 = some ⟨oc18, od18, .func (PySem.W.fnOf "_law_put" "_law_put" (defArgs s_law_put) (defBody s_law_put) (defScope s_law_put) .none kV18 dc18 pm18 an18 cd18 ct18), sl18⟩) (c18 : PySem.W.codeIn K cd18 "_law_put" = true) (k18 : PySem.W.keepIn K (.ref f18) = true)
    (a19 : PySem.W.nsIn K mainGlobals "_law_is" = some (some (.ref f19))) (l19 : K.lookup f19 = some ⟨oc19, od19, .func (PySem.W.fnOf "_law_is" "_law_is" (defArgs s_law_is) (defBody s_law_is) (defScope s_law_is) .none kV19 dc19 pm19 an19 cd19 ct19), sl19⟩) (c19 : PySem.W.codeIn K cd19 "_law_is" = true) (k19 : PySem.W.keepIn K (.ref f19) = true)
    (a20 : PySem.W.nsIn K mainGlobals "_law_put_right" = some (some (.ref f20))) (l20 : K.lookup f20 = some ⟨oc20, od20, .func (PySem.W.fnOf "_law_put_right" "_law_put_right" (defArgs s_law_put_right) (defBody s_law_put_right) (defScope s_law_put_right) .none kV20 dc20 pm20 an20 cd20 ct20), sl20⟩) (c20 : PySem.W.codeIn K cd20 "_law_put_right" = true) (k20 : PySem.W.keepIn K (.ref f20) = true)
    (a21 : PySem.W.findIn K (.ref CS) "works" = some (some (.ref f21))) (i21 : PySem.W.isFn K (.ref f21) = true) (l21 : K.lookup f21 = some ⟨oc21, od21, .func (PySem.W.fnOf "works" "Streams.works" (defArgs s_Streams_works) (defBody s_Streams_works) (defScope s_Streams_works) .none kV21 dc21 pm21 an21 cd21 ct21), sl21⟩) (c21 : PySem.W.codeIn K cd21 "Streams.works" = true) (k21 : PySem.W.keepIn K (.ref f21) = true)
    (a22 : PySem.W.nsIn K mainGlobals "_law_plain" = some (some (.ref f22))) (l22 : K.lookup f22 = some ⟨oc22, od22, .func (PySem.W.fnOf "_law_plain" "_law_plain" (defArgs s_law_plain) (defBody s_law_plain) (defScope s_law_plain) .none kV22 dc22 pm22 an22 cd22 ct22), sl22⟩) (c22 : PySem.W.codeIn K cd22 "_law_plain" = true) (k22 : PySem.W.keepIn K (.ref f22) = true)
    (a23 : PySem.W.nsIn K mainGlobals "_law_seen" = some (some (.ref f23))) (l23 : K.lookup f23 = some ⟨oc23, od23, .func (PySem.W.fnOf "_law_seen" "_law_seen" (defArgs s_law_seen) (defBody s_law_seen) (defScope s_law_seen) .none kV23 dc23 pm23 an23 cd23 ct23), sl23⟩) (c23 : PySem.W.codeIn K cd23 "_law_seen" = true) (k23 : PySem.W.keepIn K (.ref f23) = true)
    (a24 : PySem.W.nsIn K mainGlobals "law" = some (some (.ref f24))) (l24 : K.lookup f24 = some ⟨oc24, od24, .func (PySem.W.fnOf "law" "law" (defArgs s_law) (defBody s_law) (defScope s_law) .none kV24 dc24 pm24 an24 cd24 ct24), sl24⟩) (c24 : PySem.W.codeIn K cd24 "law" = true) (k24 : PySem.W.keepIn K (.ref f24) = true)
    (z1 : PySem.W.nsIn K mainGlobals "len" = some none)
    (z2 : PySem.W.nsIn K mainGlobals "list" = some none)
    (z3 : PySem.W.nsIn K mainGlobals "min" = some none)
    (z4 : PySem.W.nsIn K mainGlobals "max" = some none)
    (z5 : PySem.W.nsIn K mainGlobals "isinstance" = some none)
    (z6 : PySem.W.nsIn K mainGlobals "int" = some none)
    (z7 : PySem.W.nsIn K mainGlobals "bool" = some none)
    (z8 : PySem.W.nsIn K mainGlobals "tuple" = some none)
    (z9 : PySem.W.nsIn K mainGlobals "range" = some none)
    (y1 : PySem.W.nsIn K mainGlobals "MOST_DEGREE" = some (some (.int 200 tk1)))
    (y2 : PySem.W.nsIn K mainGlobals "LEAST_RATE" = some (some (.int 1 tk2)))
    (y3 : PySem.W.nsIn K mainGlobals "MOST_RATE" = some (some (.int 1000000000 tk3)))
    (y4 : PySem.W.nsIn K mainGlobals "MOST_OF_A_KIND" = some (some (.int 12 tk4)))
    (ea1 : PySem.W.nsIn K mainGlobals "HeatError" = some (some (.ref ec1))) (eb1 : L2.errC K ec1 = true)
    (eg1 : PySem.W.findIn K (.ref ec1) "__getattribute__" = some (some (.builtin "BaseException.__getattribute__")))
    (eh1 : PySem.W.findIn K (.ref ec1) "__getattr__" = some none)
    (ei1 : PySem.W.findIn K (.ref ec1) "__class__" = some (some (.builtin "object.__class__")))
    (ej1 : PySem.W.mroIn K ec1 (.type "object") = some true)
    (ek1 : PySem.W.mroIn K ec1 (.type "BaseException") = some true)
    (el1 : PySem.W.clsIn K ec1 = some ed1)
    (ea2 : PySem.W.nsIn K mainGlobals "NoMeasure" = some (some (.ref ec2))) (eb2 : L2.errC K ec2 = true)
    (eg2 : PySem.W.findIn K (.ref ec2) "__getattribute__" = some (some (.builtin "BaseException.__getattribute__")))
    (eh2 : PySem.W.findIn K (.ref ec2) "__getattr__" = some none)
    (ei2 : PySem.W.findIn K (.ref ec2) "__class__" = some (some (.builtin "object.__class__")))
    (ej2 : PySem.W.mroIn K ec2 (.type "object") = some true)
    (ek2 : PySem.W.mroIn K ec2 (.type "BaseException") = some true)
    (el2 : PySem.W.clsIn K ec2 = some ed2)
    (ea3 : PySem.W.nsIn K mainGlobals "WrongWay" = some (some (.ref ec3))) (eb3 : L2.errC K ec3 = true)
    (eg3 : PySem.W.findIn K (.ref ec3) "__getattribute__" = some (some (.builtin "BaseException.__getattribute__")))
    (eh3 : PySem.W.findIn K (.ref ec3) "__getattr__" = some none)
    (ei3 : PySem.W.findIn K (.ref ec3) "__class__" = some (some (.builtin "object.__class__")))
    (ej3 : PySem.W.mroIn K ec3 (.type "object") = some true)
    (ek3 : PySem.W.mroIn K ec3 (.type "BaseException") = some true)
    (el3 : PySem.W.clsIn K ec3 = some ed3)
    (ea4 : PySem.W.nsIn K mainGlobals "Full" = some (some (.ref ec4))) (eb4 : L2.errC K ec4 = true)
    (eg4 : PySem.W.findIn K (.ref ec4) "__getattribute__" = some (some (.builtin "BaseException.__getattribute__")))
    (eh4 : PySem.W.findIn K (.ref ec4) "__getattr__" = some none)
    (ei4 : PySem.W.findIn K (.ref ec4) "__class__" = some (some (.builtin "object.__class__")))
    (ej4 : PySem.W.mroIn K ec4 (.type "object") = some true)
    (ek4 : PySem.W.mroIn K ec4 (.type "BaseException") = some true)
    (el4 : PySem.W.clsIn K ec4 = some ed4)
    (ea5 : PySem.W.nsIn K mainGlobals "NoStream" = some (some (.ref ec5))) (eb5 : L2.errC K ec5 = true)
    (eg5 : PySem.W.findIn K (.ref ec5) "__getattribute__" = some (some (.builtin "BaseException.__getattribute__")))
    (eh5 : PySem.W.findIn K (.ref ec5) "__getattr__" = some none)
    (ei5 : PySem.W.findIn K (.ref ec5) "__class__" = some (some (.builtin "object.__class__")))
    (ej5 : PySem.W.mroIn K ec5 (.type "object") = some true)
    (ek5 : PySem.W.mroIn K ec5 (.type "BaseException") = some true)
    (el5 : PySem.W.clsIn K ec5 = some ed5)
    (em1 : PySem.W.specialIn K (.builtin "object.__class__") "__get__" = some (some (.builtin "getset_descriptor.__get__"))) (em2 : PySem.W.takesIn K (.builtin "object.__class__") = some true)
    (ef1 : PySem.W.kitOne K (.ref ec2) (.ref ec1) = some true)
    (ef2 : PySem.W.exmOne K (.ref ec2) (.ref ec1) = some true)
    (ef3 : PySem.W.kitOne K (.ref ec2) (.ref ec2) = some true)
    (ef4 : PySem.W.exmOne K (.ref ec2) (.ref ec2) = some true)
    (ef5 : PySem.W.kitOne K (.ref ec2) (.ref ec3) = some false)
    (ef6 : PySem.W.exmOne K (.ref ec2) (.ref ec3) = some false)
    (ef7 : PySem.W.kitOne K (.ref ec2) (.ref ec4) = some false)
    (ef8 : PySem.W.exmOne K (.ref ec2) (.ref ec4) = some false)
    (ef9 : PySem.W.kitOne K (.ref ec2) (.ref ec5) = some false)
    (ef10 : PySem.W.exmOne K (.ref ec2) (.ref ec5) = some false)
    (ef11 : PySem.W.kitOne K (.ref ec2) (.type "ValueError") = some true)
    (ef12 : PySem.W.kitOne K (.ref ec3) (.ref ec1) = some true)
    (ef13 : PySem.W.exmOne K (.ref ec3) (.ref ec1) = some true)
    (ef14 : PySem.W.kitOne K (.ref ec3) (.ref ec2) = some false)
    (ef15 : PySem.W.exmOne K (.ref ec3) (.ref ec2) = some false)
    (ef16 : PySem.W.kitOne K (.ref ec3) (.ref ec3) = some true)
    (ef17 : PySem.W.exmOne K (.ref ec3) (.ref ec3) = some true)
    (ef18 : PySem.W.kitOne K (.ref ec3) (.ref ec4) = some false)
    (ef19 : PySem.W.exmOne K (.ref ec3) (.ref ec4) = some false)
    (ef20 : PySem.W.kitOne K (.ref ec3) (.ref ec5) = some false)
    (ef21 : PySem.W.exmOne K (.ref ec3) (.ref ec5) = some false)
    (ef22 : PySem.W.kitOne K (.ref ec3) (.type "ValueError") = some true)
    (ef23 : PySem.W.kitOne K (.ref ec4) (.ref ec1) = some true)
    (ef24 : PySem.W.exmOne K (.ref ec4) (.ref ec1) = some true)
    (ef25 : PySem.W.kitOne K (.ref ec4) (.ref ec2) = some false)
    (ef26 : PySem.W.exmOne K (.ref ec4) (.ref ec2) = some false)
    (ef27 : PySem.W.kitOne K (.ref ec4) (.ref ec3) = some false)
    (ef28 : PySem.W.exmOne K (.ref ec4) (.ref ec3) = some false)
    (ef29 : PySem.W.kitOne K (.ref ec4) (.ref ec4) = some true)
    (ef30 : PySem.W.exmOne K (.ref ec4) (.ref ec4) = some true)
    (ef31 : PySem.W.kitOne K (.ref ec4) (.ref ec5) = some false)
    (ef32 : PySem.W.exmOne K (.ref ec4) (.ref ec5) = some false)
    (ef33 : PySem.W.kitOne K (.ref ec4) (.type "ValueError") = some true)
    (ef34 : PySem.W.kitOne K (.ref ec5) (.ref ec1) = some true)
    (ef35 : PySem.W.exmOne K (.ref ec5) (.ref ec1) = some true)
    (ef36 : PySem.W.kitOne K (.ref ec5) (.ref ec2) = some false)
    (ef37 : PySem.W.exmOne K (.ref ec5) (.ref ec2) = some false)
    (ef38 : PySem.W.kitOne K (.ref ec5) (.ref ec3) = some false)
    (ef39 : PySem.W.exmOne K (.ref ec5) (.ref ec3) = some false)
    (ef40 : PySem.W.kitOne K (.ref ec5) (.ref ec4) = some false)
    (ef41 : PySem.W.exmOne K (.ref ec5) (.ref ec4) = some false)
    (ef42 : PySem.W.kitOne K (.ref ec5) (.ref ec5) = some true)
    (ef43 : PySem.W.exmOne K (.ref ec5) (.ref ec5) = some true)
    (ef44 : PySem.W.kitOne K (.ref ec5) (.type "ValueError") = some true)
    (qn1 : PySem.W.findIn K (.ref CS) "gap" = some none)
    (qn2 : PySem.W.findIn K (.ref CS) "hots" = some none)
    (qn3 : PySem.W.findIn K (.ref CS) "colds" = some none)
    (qn4 : PySem.W.findIn K (.ref CS) "spent" = some none)
    : ∃ fd : FuncData, (∀ (s : Shared) (v : Value), BindsTo s fd ⟨[v], []⟩ [("script", v)]) ∧ ∀ base : Heap, K.In base → base.Ns mainGlobals mg → FnOk l.prog w K mg base CX0 8 fa fd ["script"] (spLaw K) := by
  have e := hfa.symm.trans (PySem.W.mg_of X G a24)
  cases e
  have F1 := fun_mk (st := s_law_cell_at) l1 c1 k1
  have b1 := F1.binds (ps := ["script", "k"]) fun _ _ _ _ _ _ => of_len2 fun _ _ => rfl
  have F2 := fun_mk (st := s_law_stir) l2 c2 k2
  have b2 := F2.binds (ps := ["cell", "k"]) fun _ _ _ _ _ _ => of_len2 fun _ _ => rfl
  have F3 := fun_mk (st := s_Streams___init__) l3 c3 k3
  have b3 := F3.binds (ps := ["self", "gap"]) fun _ _ _ _ _ _ => of_len2 fun _ _ => rfl
  have F4 := fun_mk (st := s_check_within) l4 c4 k4
  have b4 := F4.binds (ps := ["number", "least", "most"]) fun _ _ _ _ _ _ => of_len3 fun _ _ _ => rfl
  have F5 := fun_mk (st := s_check_stream) l5 c5 k5
  have b5 := F5.binds (ps := ["kind", "stream"]) fun _ _ _ _ _ _ => of_len2 fun _ _ => rfl
  have F6 := fun_mk (st := s_Streams_all_of) l6 c6 k6
  have b6 := F6.binds (ps := ["self", "kind"]) fun _ _ _ _ _ _ => of_len2 fun _ _ => rfl
  have F7 := fun_mk (st := s_Streams_check_new) l7 c7 k7
  have b7 := F7.binds (ps := ["self", "kind", "stream"]) fun _ _ _ _ _ _ => of_len3 fun _ _ _ => rfl
  have F8 := fun_mk (st := s_Streams_put_in) l8 c8 k8
  have b8 := F8.binds (ps := ["self", "kind", "stream"]) fun _ _ _ _ _ _ => of_len3 fun _ _ _ => rfl
  have F9 := fun_mk (st := s_Streams_put_hot) l9 c9 k9
  have b9 := F9.binds (ps := ["self", "start", "goal", "rate"]) fun _ _ _ _ _ _ => of_len4 fun _ _ _ _ => rfl
  have F10 := fun_mk (st := s_Streams_home_of) l10 c10 k10
  have b10 := F10.binds (ps := ["self", "number"]) fun _ _ _ _ _ _ => of_len2 fun _ _ => rfl
  have F11 := fun_mk (st := s_Streams_take_out) l11 c11 k11
  have b11 := F11.binds (ps := ["self", "number"]) fun _ _ _ _ _ _ => of_len2 fun _ _ => rfl
  have F12 := fun_mk (st := s_law_out) l12 c12 k12
  have b12 := F12.binds (ps := ["streams", "number"]) fun _ _ _ _ _ _ => of_len2 fun _ _ => rfl
  have F13 := fun_mk (st := s_law_out_right) l13 c13 k13
  have b13 := F13.binds (ps := ["streams", "rows", "cell"]) fun _ _ _ _ _ _ => of_len3 fun _ _ _ => rfl
  have F14 := fun_mk (st := s_law_stream) l14 c14 k14
  have b14 := F14.binds (ps := ["cell", "base"]) fun _ _ _ _ _ _ => of_len2 fun _ _ => rfl
  have F15 := fun_mk (st := s_law_spoilt) l15 c15 k15
  have b15 := F15.binds (ps := ["ends", "cell"]) fun _ _ _ _ _ _ => of_len2 fun _ _ => rfl
  have F16 := fun_mk (st := s_law_due) l16 c16 k16
  have b16 := F16.binds (ps := ["rows", "kind", "start", "goal", "rate"]) fun _ _ _ _ _ _ => of_len5 fun _ _ _ _ _ => rfl
  have F17 := fun_mk (st := s_Streams_put_cold) l17 c17 k17
  have b17 := F17.binds (ps := ["self", "start", "goal", "rate"]) fun _ _ _ _ _ _ => of_len4 fun _ _ _ _ => rfl
  have F18 := fun_mk (st := s_law_put) l18 c18 k18
  have b18 := F18.binds (ps := ["streams", "kind", "start", "goal", "rate"]) fun _ _ _ _ _ _ => of_len5 fun _ _ _ _ _ => rfl
  have F19 := fun_mk (st := s_law_is) l19 c19 k19
  have b19 := F19.binds (ps := ["found", "due"]) fun _ _ _ _ _ _ => of_len2 fun _ _ => rfl
  have F20 := fun_mk (st := s_law_put_right) l20 c20 k20
  have b20 := F20.binds (ps := ["streams", "rows", "cell", "base"]) fun _ _ _ _ _ _ => of_len4 fun _ _ _ _ => rfl
  have F21 := fun_mk (st := s_Streams_works) l21 c21 k21
  have b21 := F21.binds (ps := ["self"]) fun _ _ _ _ _ _ => of_len1 fun _ => rfl
  have F22 := fun_mk (st := s_law_plain) l22 c22 k22
  have b22 := F22.binds (ps := ["streams"]) fun _ _ _ _ _ _ => of_len1 fun _ => rfl
  have F23 := fun_mk (st := s_law_seen) l23 c23 k23
  have b23 := F23.binds (ps := ["streams", "rows", "gap", "held"]) fun _ _ _ _ _ _ => of_len4 fun _ _ _ _ => rfl
  have F24 := fun_mk (st := s_law) l24 c24 k24
  have b24 := F24.binds (ps := ["script"]) fun _ _ _ _ _ _ => of_len1 fun _ => rfl
  have T : Blt mg := ⟨PySem.W.mg_none_of X G z1, PySem.W.mg_none_of X G z2, PySem.W.mg_none_of X G z3, PySem.W.mg_none_of X G z4, PySem.W.mg_none_of X G z5, PySem.W.mg_none_of X G z6, PySem.W.mg_none_of X G z7, PySem.W.mg_none_of X G z8, PySem.W.mg_none_of X G z9, ⟨_, PySem.W.mg_of X G y1⟩, ⟨_, PySem.W.mg_of X G y2⟩, ⟨_, PySem.W.mg_of X G y3⟩, ⟨_, PySem.W.mg_of X G y4⟩⟩
  have TX : Errs K mg ⟨ec1, ec2, ec3, ec4, ec5⟩ := ⟨⟨eb1, PySem.W.mg_of X G ea1, ⟨eg1, eh1, ei1, em1, em2, ej1, ek1, by rw [el1]; rfl⟩⟩, ⟨eb2, PySem.W.mg_of X G ea2, ⟨eg2, eh2, ei2, em1, em2, ej2, ek2, by rw [el2]; rfl⟩⟩, ⟨eb3, PySem.W.mg_of X G ea3, ⟨eg3, eh3, ei3, em1, em2, ej3, ek3, by rw [el3]; rfl⟩⟩, ⟨eb4, PySem.W.mg_of X G ea4, ⟨eg4, eh4, ei4, em1, em2, ej4, ek4, by rw [el4]; rfl⟩⟩, ⟨eb5, PySem.W.mg_of X G ea5, ⟨eg5, eh5, ei5, em1, em2, ej5, ek5, by rw [el5]; rfl⟩⟩, ef1, ef2, ef3, ef4, ef5, ef6, ef7, ef8, ef9, ef10, ef11, ef12, ef13, ef14, ef15, ef16, ef17, ef18, ef19, ef20, ef21, ef22, ef23, ef24, ef25, ef26, ef27, ef28, ef29, ef30, ef31, ef32, ef33, ef34, ef35, ef36, ef37, ef38, ef39, ef40, ef41, ef42, ef43, ef44⟩
  have TC : ClsT K mg CS := ⟨⟨qpg, qhd, qpo, qsa⟩, qn1, qn2, qn3, qn4, PySem.W.mg_of X G qC⟩
  have O1 := fun base : Heap => ok_law_cell_at (P := l.prog) (w := w) (base := base) T TX TC  F1
  have O2 := fun base : Heap => ok_law_stir (P := l.prog) (w := w) (base := base) T TX TC  F2
  have O3 := fun base : Heap => ok_Streams___init__ (P := l.prog) (w := w) (base := base) T TX TC  F3
  have O4 := fun base : Heap => ok_check_within (P := l.prog) (w := w) (base := base) T TX TC  F4
  have O5 := fun base : Heap => ok_check_stream (P := l.prog) (w := w) (base := base) T TX TC (fnx_mk F4 (PySem.W.mg_of X G a4) b4 (O4 base)) F5
  have O6 := fun base : Heap => ok_Streams_all_of (P := l.prog) (w := w) (base := base) T TX TC  F6
  have O7 := fun base : Heap => ok_Streams_check_new (P := l.prog) (w := w) (base := base) T TX TC (fnx_mk F5 (PySem.W.mg_of X G a5) b5 (O5 base)) (O6 base) ⟨a6, i6, k6⟩ b6 F7
  have O8 := fun base : Heap => ok_Streams_put_in (P := l.prog) (w := w) (base := base) T TX TC (mtx_mk (O7 base) ⟨a7, i7, k7⟩ b7) (O6 base) ⟨a6, i6, k6⟩ b6 F8
  have O9 := fun base : Heap => ok_Streams_put_hot (P := l.prog) (w := w) (base := base) T TX TC (O8 base) ⟨a8, i8, k8⟩ b8 F9
  have O10 := fun base : Heap => ok_Streams_home_of (P := l.prog) (w := w) (base := base) T TX TC  F10
  have O11 := fun base : Heap => ok_Streams_take_out (P := l.prog) (w := w) (base := base) T TX TC (O10 base) ⟨a10, i10, k10⟩ b10 F11
  have O12 := fun base : Heap => ok_law_out (P := l.prog) (w := w) (base := base) T TX TC (O11 base) ⟨a11, i11, k11⟩ b11 F12
  have O13 := fun base : Heap => ok_law_out_right (P := l.prog) (w := w) (base := base) T TX TC (fn_mk F12 (PySem.W.mg_of X G a12) b12 (O12 base)) (fn_mk F2 (PySem.W.mg_of X G a2) b2 (O2 base)) F13
  have O14 := fun base : Heap => ok_law_stream (P := l.prog) (w := w) (base := base) T TX TC (fn_mk F2 (PySem.W.mg_of X G a2) b2 (O2 base)) F14
  have O15 := fun base : Heap => ok_law_spoilt (P := l.prog) (w := w) (base := base) T TX TC (fn_mk F2 (PySem.W.mg_of X G a2) b2 (O2 base)) F15
  have O16 := fun base : Heap => ok_law_due (P := l.prog) (w := w) (base := base) T TX TC  F16
  have O17 := fun base : Heap => ok_Streams_put_cold (P := l.prog) (w := w) (base := base) T TX TC (O8 base) ⟨a8, i8, k8⟩ b8 F17
  have O18 := fun base : Heap => ok_law_put (P := l.prog) (w := w) (base := base) T TX TC (O9 base) ⟨a9, i9, k9⟩ b9 (O17 base) ⟨a17, i17, k17⟩ b17 F18
  have O19 := fun base : Heap => ok_law_is (P := l.prog) (w := w) (base := base) T TX TC  F19
  have O20 := fun base : Heap => ok_law_put_right (P := l.prog) (w := w) (base := base) T TX TC (fn_mk F14 (PySem.W.mg_of X G a14) b14 (O14 base)) (fn_mk F15 (PySem.W.mg_of X G a15) b15 (O15 base)) (fn_mk F16 (PySem.W.mg_of X G a16) b16 (O16 base)) (fn_mk F18 (PySem.W.mg_of X G a18) b18 (O18 base)) (fn_mk F19 (PySem.W.mg_of X G a19) b19 (O19 base)) (fn_mk F2 (PySem.W.mg_of X G a2) b2 (O2 base)) F20
  have O21 := fun base : Heap => ok_Streams_works (P := l.prog) (w := w) (base := base) T TX TC  F21
  have O22 := fun base : Heap => ok_law_plain (P := l.prog) (w := w) (base := base) T TX TC  F22
  have O23 := fun base : Heap => ok_law_seen (P := l.prog) (w := w) (base := base) T TX TC (mt_mk (O21 base) ⟨a21, i21, k21⟩ b21) (fn_mk F22 (PySem.W.mg_of X G a22) b22 (O22 base)) F23
  exact ⟨PySem.W.fnOf "law" "law" (defArgs s_law) (defBody s_law) (defScope s_law) .none kV24 dc24 pm24 an24 cd24 ct24, fun s v => .of_eq rfl, fun base _ _ => law_of (ok_law T TX TC (fn_mk F1 (PySem.W.mg_of X G a1) b1 (O1 base)) (fn_mk F2 (PySem.W.mg_of X G a2) b2 (O2 base)) (O3 base) ⟨a3, i3, k3⟩ b3 ⟨qmk, a3, i3, qkc⟩ (O9 base) ⟨a9, i9, k9⟩ b9 (fn_mk F13 (PySem.W.mg_of X G a13) b13 (O13 base)) (fn_mk F20 (PySem.W.mg_of X G a20) b20 (O20 base)) (fn_mk F23 (PySem.W.mg_of X G a23) b23 (O23 base)) (fn_mk F19 (PySem.W.mg_of X G a19) b19 (O19 base)) (O11 base) ⟨a11, i11, k11⟩ b11 F24)⟩
end WS
open PySem PySem.W PyProof.Rows
set_option maxRecDepth 100000 in
set_option maxHeartbeats 0 in
theorem PySem.Challenge.cw_warmshare_k29_streams_put_and_taken_holds : PySem.Challenge.rw_warmshare_k29_streams_put_and_taken.Holds := by
  w_on; o_law; z_head; (case hw => w_witness2)
  k_fill
  refine L2.walk_X (L2.walk_ofK (l := PySem.Challenge.rw_warmshare_k29_streams_put_and_taken) (n := 63) (k := 8) (x := "script") (CX := L2.CX0) (sp := DL.spLaw) rfl (by decide) rfl ⟨rfl, by decide, by decide, rfl⟩ (fun w h Y => Y) ?F (fun _ _ a ns hl _ hS => ⟨a, ns, rfl, hS, hl, fun _ => rfl⟩) fun _ _ _ _ z => z) (fun w s y => (PySem.W.X.z_facts (fun _ => by kernel_rfl) y).2.1) fun w h h' x k => PySem.W.Frag.In.keeps x k
  case F =>
    intro w mg fa h KX G hmg
    refine' WS.all_mk KX G hmg ?qC ?qpg ?qhd ?qpo ?qsa ?qmk ?qkc ?a1 ?l1 ?c1 ?k1 ?a2 ?l2 ?c2 ?k2 ?a3 ?i3 ?l3 ?c3 ?k3 ?a4 ?l4 ?c4 ?k4 ?a5 ?l5 ?c5 ?k5 ?a6 ?i6 ?l6 ?c6 ?k6 ?a7 ?i7 ?l7 ?c7 ?k7 ?a8 ?i8 ?l8 ?c8 ?k8 ?a9 ?i9 ?l9 ?c9 ?k9 ?a10 ?i10 ?l10 ?c10 ?k10 ?a11 ?i11 ?l11 ?c11 ?k11 ?a12 ?l12 ?c12 ?k12 ?a13 ?l13 ?c13 ?k13 ?a14 ?l14 ?c14 ?k14 ?a15 ?l15 ?c15 ?k15 ?a16 ?l16 ?c16 ?k16 ?a17 ?i17 ?l17 ?c17 ?k17 ?a18 ?l18 ?c18 ?k18 ?a19 ?l19 ?c19 ?k19 ?a20 ?l20 ?c20 ?k20 ?a21 ?i21 ?l21 ?c21 ?k21 ?a22 ?l22 ?c22 ?k22 ?a23 ?l23 ?c23 ?k23 ?a24 ?l24 ?c24 ?k24 ?z1 ?z2 ?z3 ?z4 ?z5 ?z6 ?z7 ?z8 ?z9 ?y1 ?y2 ?y3 ?y4 ?ea1 ?eb1 ?eg1 ?eh1 ?ei1 ?ej1 ?ek1 ?el1 ?ea2 ?eb2 ?eg2 ?eh2 ?ei2 ?ej2 ?ek2 ?el2 ?ea3 ?eb3 ?eg3 ?eh3 ?ei3 ?ej3 ?ek3 ?el3 ?ea4 ?eb4 ?eg4 ?eh4 ?ei4 ?ej4 ?ek4 ?el4 ?ea5 ?eb5 ?eg5 ?eh5 ?ei5 ?ej5 ?ek5 ?el5 ?em1 ?em2 ?ef1 ?ef2 ?ef3 ?ef4 ?ef5 ?ef6 ?ef7 ?ef8 ?ef9 ?ef10 ?ef11 ?ef12 ?ef13 ?ef14 ?ef15 ?ef16 ?ef17 ?ef18 ?ef19 ?ef20 ?ef21 ?ef22 ?ef23 ?ef24 ?ef25 ?ef26 ?ef27 ?ef28 ?ef29 ?ef30 ?ef31 ?ef32 ?ef33 ?ef34 ?ef35 ?ef36 ?ef37 ?ef38 ?ef39 ?ef40 ?ef41 ?ef42 ?ef43 ?ef44 ?qn1 ?qn2 ?qn3 ?qn4
    (case qC => k_is)
    (case qpg => k_is)
    (case qhd => k_is)
    (case qpo => k_is)
    (case qsa => k_is)
    (case qmk => k_is)
    (case qkc => k_is)
    (case a1 => k_is)
    (case l1 => k_is)
    (case c1 => k_is)
    (case k1 => k_is)
    (case a2 => k_is)
    (case l2 => k_is)
    (case c2 => k_is)
    (case k2 => k_is)
    (case a3 => k_is)
    (case i3 => k_is)
    (case l3 => k_is)
    (case c3 => k_is)
    (case k3 => k_is)
    (case a4 => k_is)
    (case l4 => k_is)
    (case c4 => k_is)
    (case k4 => k_is)
    (case a5 => k_is)
    (case l5 => k_is)
    (case c5 => k_is)
    (case k5 => k_is)
    (case a6 => k_is)
    (case i6 => k_is)
    (case l6 => k_is)
    (case c6 => k_is)
    (case k6 => k_is)
    (case a7 => k_is)
    (case i7 => k_is)
    (case l7 => k_is)
    (case c7 => k_is)
    (case k7 => k_is)
    (case a8 => k_is)
    (case i8 => k_is)
    (case l8 => k_is)
    (case c8 => k_is)
    (case k8 => k_is)
    (case a9 => k_is)
    (case i9 => k_is)
    (case l9 => k_is)
    (case c9 => k_is)
    (case k9 => k_is)
    (case a10 => k_is)
    (case i10 => k_is)
    (case l10 => k_is)
    (case c10 => k_is)
    (case k10 => k_is)
    (case a11 => k_is)
    (case i11 => k_is)
    (case l11 => k_is)
    (case c11 => k_is)
    (case k11 => k_is)
    (case a12 => k_is)
    (case l12 => k_is)
    (case c12 => k_is)
    (case k12 => k_is)
    (case a13 => k_is)
    (case l13 => k_is)
    (case c13 => k_is)
    (case k13 => k_is)
    (case a14 => k_is)
    (case l14 => k_is)
    (case c14 => k_is)
    (case k14 => k_is)
    (case a15 => k_is)
    (case l15 => k_is)
    (case c15 => k_is)
    (case k15 => k_is)
    (case a16 => k_is)
    (case l16 => k_is)
    (case c16 => k_is)
    (case k16 => k_is)
    (case a17 => k_is)
    (case i17 => k_is)
    (case l17 => k_is)
    (case c17 => k_is)
    (case k17 => k_is)
    (case a18 => k_is)
    (case l18 => k_is)
    (case c18 => k_is)
    (case k18 => k_is)
    (case a19 => k_is)
    (case l19 => k_is)
    (case c19 => k_is)
    (case k19 => k_is)
    (case a20 => k_is)
    (case l20 => k_is)
    (case c20 => k_is)
    (case k20 => k_is)
    (case a21 => k_is)
    (case i21 => k_is)
    (case l21 => k_is)
    (case c21 => k_is)
    (case k21 => k_is)
    (case a22 => k_is)
    (case l22 => k_is)
    (case c22 => k_is)
    (case k22 => k_is)
    (case a23 => k_is)
    (case l23 => k_is)
    (case c23 => k_is)
    (case k23 => k_is)
    (case a24 => k_is)
    (case l24 => k_is)
    (case c24 => k_is)
    (case k24 => k_is)
    (case z1 => k_is)
    (case z2 => k_is)
    (case z3 => k_is)
    (case z4 => k_is)
    (case z5 => k_is)
    (case z6 => k_is)
    (case z7 => k_is)
    (case z8 => k_is)
    (case z9 => k_is)
    (case y1 => k_is)
    (case y2 => k_is)
    (case y3 => k_is)
    (case y4 => k_is)
    (case ea1 => k_is)
    (case eb1 => kernel_rfl)
    (case eg1 => k_is)
    (case eh1 => k_is)
    (case ei1 => k_is)
    (case ej1 => k_is)
    (case ek1 => k_is)
    (case el1 => k_is)
    (case ea2 => k_is)
    (case eb2 => kernel_rfl)
    (case eg2 => k_is)
    (case eh2 => k_is)
    (case ei2 => k_is)
    (case ej2 => k_is)
    (case ek2 => k_is)
    (case el2 => k_is)
    (case ea3 => k_is)
    (case eb3 => kernel_rfl)
    (case eg3 => k_is)
    (case eh3 => k_is)
    (case ei3 => k_is)
    (case ej3 => k_is)
    (case ek3 => k_is)
    (case el3 => k_is)
    (case ea4 => k_is)
    (case eb4 => kernel_rfl)
    (case eg4 => k_is)
    (case eh4 => k_is)
    (case ei4 => k_is)
    (case ej4 => k_is)
    (case ek4 => k_is)
    (case el4 => k_is)
    (case ea5 => k_is)
    (case eb5 => kernel_rfl)
    (case eg5 => k_is)
    (case eh5 => k_is)
    (case ei5 => k_is)
    (case ej5 => k_is)
    (case ek5 => k_is)
    (case el5 => k_is)
    (case em1 => k_is)
    (case em2 => k_is)
    (case ef1 => kit_is)
    (case ef2 => kts_exm)
    (case ef3 => kit_is)
    (case ef4 => kts_exm)
    (case ef5 => kit_is)
    (case ef6 => kts_exm)
    (case ef7 => kit_is)
    (case ef8 => kts_exm)
    (case ef9 => kit_is)
    (case ef10 => kts_exm)
    (case ef11 => kit_is)
    (case ef12 => kit_is)
    (case ef13 => kts_exm)
    (case ef14 => kit_is)
    (case ef15 => kts_exm)
    (case ef16 => kit_is)
    (case ef17 => kts_exm)
    (case ef18 => kit_is)
    (case ef19 => kts_exm)
    (case ef20 => kit_is)
    (case ef21 => kts_exm)
    (case ef22 => kit_is)
    (case ef23 => kit_is)
    (case ef24 => kts_exm)
    (case ef25 => kit_is)
    (case ef26 => kts_exm)
    (case ef27 => kit_is)
    (case ef28 => kts_exm)
    (case ef29 => kit_is)
    (case ef30 => kts_exm)
    (case ef31 => kit_is)
    (case ef32 => kts_exm)
    (case ef33 => kit_is)
    (case ef34 => kit_is)
    (case ef35 => kts_exm)
    (case ef36 => kit_is)
    (case ef37 => kts_exm)
    (case ef38 => kit_is)
    (case ef39 => kts_exm)
    (case ef40 => kit_is)
    (case ef41 => kts_exm)
    (case ef42 => kit_is)
    (case ef43 => kts_exm)
    (case ef44 => kit_is)
    (case qn1 => k_is)
    (case qn2 => k_is)
    (case qn3 => k_is)
    (case qn4 => k_is)
#print axioms PySem.Challenge.cw_warmshare_k29_streams_put_and_taken_holds