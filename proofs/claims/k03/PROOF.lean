import PyProof.Rows.All
import Wide.All
import OpenK.AllK
import Wide.FinOn
import Lean
import PyProof.EqAt
import PyProof.EqKinds
import PyProof.TupleCall
import KE.KTryMore
import PyProof.ReprNest
import PyProof.FString4
import PySem.Challenge.RW_warmshare_k03_one_fault
set_option Elab.async false
set_option linter.all false
set_option maxRecDepth 100000
namespace L2
open PySem PySem.Spec PyProof.Rows
abbrev Key := Sum Int Str
def keyIs : Key → Value → Bool
  | .inl k, v => Value.isInt k v
  | .inr x, v => Value.isStrOf x v
def keyH (w : World) : Key → Int
  | .inl k => hashInt k
  | .inr x => hashStr w x
theorem keyIs_shape : ∀ {k : Key} {v : Value}, keyIs k v = true → (∃ i t, k = Sum.inl i ∧ v = Value.int i t) ∨ (∃ x t, k = Sum.inr x ∧ v = Value.str x t)
  | .inl i, v, h => by
    obtain ⟨t, e⟩ := Value.isInt_shape (k := i) (v := v) h
    exact .inl ⟨i, t, rfl, e⟩
  | .inr x, v, h => by
    obtain ⟨t, e⟩ := Value.isStrOf_shape (x := x) (v := v) h
    exact .inr ⟨x, t, rfl, e⟩
theorem key_ll (a b : Int) : decide ((Sum.inl a : Key) = Sum.inl b) = (a == b) := by
  by_cases e : a = b
  · subst e; simp
  · have h : ¬ (Sum.inl a : Key) = Sum.inl b := fun q => e (Sum.inl.inj q)
    rw [decide_eq_false h]
    exact (beq_eq_false_iff_ne.mpr e).symm
theorem key_rr (a b : Str) : decide ((Sum.inr a : Key) = Sum.inr b) = decide (a = b) := by
  by_cases e : a = b
  · subst e; simp
  · have h : ¬ (Sum.inr a : Key) = Sum.inr b := fun q => e (Sum.inr.inj q)
    rw [decide_eq_false h, decide_eq_false e]
theorem key_lr (a : Int) (b : Str) : decide ((Sum.inl a : Key) = Sum.inr b) = false := decide_eq_false (fun q => nomatch q)
theorem key_rl (a : Str) (b : Int) : decide ((Sum.inr a : Key) = Sum.inl b) = false := decide_eq_false (fun q => nomatch q)
def mixKind (prog : Program) (w : World) : PySem.KeyKind prog w Key where
  is := keyIs
  hash := keyH w
  inj := fun v a b ha hb => by
    rcases keyIs_shape ha with ⟨i, t, rfl, rfl⟩ | ⟨x, t, rfl, rfl⟩
    · rcases keyIs_shape hb with ⟨j, u, rfl, e⟩ | ⟨y, u, rfl, e⟩
      · injection e with e1 _; rw [e1]
      · exact nomatch e
    · rcases keyIs_shape hb with ⟨j, u, rfl, e⟩ | ⟨y, u, rfl, e⟩
      · exact nomatch e
      · injection e with e1 _; rw [e1]
  byValue := fun k v h => by
    rcases keyIs_shape h with ⟨i, t, rfl, rfl⟩ | ⟨x, t, rfl, rfl⟩ <;> rfl
  pyHash := fun hv h => by
    rcases keyIs_shape hv with ⟨i, t, rfl, rfl⟩ | ⟨x, t, rfl, rfl⟩
    · exact wpAny_pyHash_int h
    · exact wpAny_pyHash_str h
  eqBool := fun hu hv h => by
    rcases keyIs_shape hu with ⟨i, t, rfl, rfl⟩ | ⟨x, t, rfl, rfl⟩
    · rcases keyIs_shape hv with ⟨j, u, rfl, rfl⟩ | ⟨y, u, rfl, rfl⟩
      · rw [key_ll] at h; exact wpAny_eqBool_int h
      · rw [key_lr] at h; exact SeqAt.EqAt.int_str i t y u _ _ _ _ h
    · rcases keyIs_shape hv with ⟨j, u, rfl, rfl⟩ | ⟨y, u, rfl, rfl⟩
      · rw [key_rl] at h; exact SeqAt.EqAt.str_int x t j u _ _ _ _ h
      · rw [key_rr] at h; exact wpAny_eqBool_str h
  «strs» := fun k x t v h => by
    rcases keyIs_shape h with ⟨i, u, rfl, e⟩ | ⟨y, u, rfl, e⟩
    · exact nomatch e
    · injection e with e1 _
      subst e1
      cases v <;> rfl
end L2
namespace L2
open PySem PySem.Spec PyProof.Rows
inductive V where
  | non | bl (b : Bool) | int (i : Int) | str (x : Str) | byt (b : Array UInt8) | flt (b : UInt64) | ref (a : Addr) | ty (n : String)
  deriving DecidableEq
def RelV : V → Value → Prop
  | .non, u => u = Value.none
  | .bl b, u => u = Value.bool b
  | .int i, u => ∃ t, u = Value.int i t
  | .str x, u => ∃ t, u = Value.str x t
  | .byt b, u => ∃ t, u = Value.bytes b t
  | .flt b, u => ∃ t, u = Value.float b t
  | .ref a, u => u = Value.ref a
  | .ty n, u => u = Value.type n
abbrev Vals : List V → List Value → Prop := Paired RelV
theorem Vals.length {xs : List V} {us : List Value} (r : Vals xs us) : xs.length = us.length := Paired.length r
theorem Vals.get : ∀ {xs : List V} {us : List Value} {i : Nat} {x : V}, Vals xs us → xs[i]? = some x → ∃ u, us[i]? = some u ∧ RelV x u
  | _, _, _, _, .nil, e => by simp at e
  | _, _, 0, _, .cons r _, e => by simp at e; subst e; exact ⟨_, rfl, r⟩
  | _, _, i + 1, x, .cons _ t, e => by
    obtain ⟨u, h1, h2⟩ := Vals.get (i := i) (x := x) t (by simpa using e)
    exact ⟨u, by simpa using h1, h2⟩
theorem Vals.set {x : V} {u : Value} (r : RelV x u) : ∀ {xs : List V} {us : List Value} (i : Nat), Vals xs us → Vals (xs.set i x) (us.set i u)
  | _, _, _, .nil => .nil
  | _, _, 0, .cons _ t => .cons r t
  | _, _, i + 1, .cons q t => .cons q (Vals.set r i t)
theorem Vals.append : ∀ {xs ys : List V} {us ws : List Value}, Vals xs us → Vals ys ws → Vals (xs ++ ys) (us ++ ws)
  | _, _, _, _, .nil, s => s
  | _, _, _, _, .cons r t, s => .cons r (Vals.append t s)
theorem Vals.take : ∀ {xs : List V} {us : List Value} (n : Nat), Vals xs us → Vals (xs.take n) (us.take n)
  | _, _, 0, _ => .nil
  | _, _, _ + 1, .nil => .nil
  | _, _, n + 1, .cons r t => .cons r (Vals.take n t)
theorem Vals.drop : ∀ {xs : List V} {us : List Value} (n : Nat), Vals xs us → Vals (xs.drop n) (us.drop n)
  | _, _, 0, r => r
  | _, _, _ + 1, .nil => .nil
  | _, _, n + 1, .cons _ t => Vals.drop n t
def RelO : Option V → Option Value → Prop
  | some v, some u => RelV v u
  | none, none => True
  | _, _ => False
def KV {κ : Type} : List (κ × V) → List (κ × Value) → Prop := Paired fun (p : κ × V) (q : κ × Value) => p.1 = q.1 ∧ RelV p.2 q.2
def kV : Key → V
  | .inl i => .int i
  | .inr x => .str x
inductive HO where
  | lst (xs : List V)
  | tup (xs : List V)
  | dK (kvs : List (Key × V)) | dT (kvs : List (List Key × V))
  | set (S : Int → Bool) (n : Nat)
  | ins (C dx : Addr) (fs : List (Str × V))
  | own (x : Addr)
  | xd (fs : List (Str × V))
  | met (f x : Addr)
  | rng (lo hi : Int)
  | frz (o : Obj) (u : HO)
  | tbl (ps : Array Value)
  | ext (φ : Heap → Prop)
abbrev Hp := Addr → Option HO
def upd (H : Hp) (a : Addr) (o : HO) : Hp := fun b => if b = a then some o else H b
theorem upd_same {H : Hp} {a : Addr} {o : HO} : upd H a o a = some o := by unfold upd; rw [if_pos rfl]
theorem upd_ne {H : Hp} {a b : Addr} {o : HO} (h : b ≠ a) : upd H a o b = H b := by unfold upd; rw [if_neg h]
theorem ne_of_none {H : Hp} {a b : Addr} {o : HO} (h : H a = some o) (h' : H b = none) : a ≠ b := by
  intro e; subst e; rw [h] at h'; cases h'
section
variable (P : Program) (w : World)
def ObjOk (H : Hp) (h : Heap) (a : Addr) : HO → Prop
  | .lst xs => xs.length ≤ sizeLine ∧ ∃ (its : List Value) (n : Nat), Vals xs its ∧ h.get? a = some { cls := .type "list", data := .seq its.toArray n }
  | .tup xs => xs.length ≤ sizeLine ∧ ∃ its : List Value, Vals xs its ∧ IsTup h a its.toArray
  | .dK kvs => kvs.length ≤ sizeLine ∧ (a == sysModules) = false ∧ ∃ vs, KV kvs vs ∧ h.DictOf (mixKind P w) a vs
  | .dT kvs => kvs.length ≤ sizeLine ∧ (a == sysModules) = false ∧ ∃ xs : List (List Key × Addr × Value),
      Paired (fun (p : List Key × V) (q : List Key × Addr × Value) => p.1 = q.1 ∧ H q.2.1 = some (.tup (p.1.map kV)) ∧ RelV p.2 q.2.2) kvs xs ∧
      ∃ o es ep, h.get? a = some o ∧ o.ExactDict ∧ o.data = .dict es ep ∧ es.toList = xs.map (entryOfKey (tupleKind (mixKind P w))) ∧ (xs.map (·.1)).Nodup
  | .set S n => h.SetOf (intKind P w) a S n
  | .ins C dx fs => H dx = some (.own a) ∧ fs.length ≤ 1000 ∧ dx ≠ a ∧ h.get? a = some (PySem.W.instObj C dx) ∧
      ∃ mA, h.Ns1 dx mA ∧ (∀ f, RelO (fs.lookup f) (mA f)) ∧ PySem.Within mA (fs.map (·.1))
  | .own _ => ∃ o, h.get? a = some o
  | .xd fs => ∃ mA, h.Ns1 a mA ∧ ∀ f, RelO (fs.lookup f) (mA f)
  | .rng lo hi => ∃ t u v, h.get? a = some { cls := .type "range", data := .fields #[.int lo t, .int hi u, .int 1 v] }
  | .frz o u => h.get? a = some o ∧ ObjOk H h a u
  | .tbl ps => h.get? a = some { cls := .none, data := .fields ps }
  | .met f x => h.get? a = some (PySem.W.methodObj (.ref f) (.ref x))
  | .ext φ => φ h ∧ (∃ o, h.get? a = some o) ∧ ∀ h1 h2 : Heap, φ h1 → (∀ o, h1.get? a = some o → h2.get? a = some o) → φ h2
def HOk (H : Hp) (h : Heap) : Prop := ∀ a o, H a = some o → ObjOk P w H h a o
end
section
variable {P : Program} {w : World} {H H' : Hp} {h h' : Heap} {a : Addr} {o : HO}
theorem ObjOk.lt (x : ObjOk P w H h a o) : a < h.objs.size := by
  cases o with
  | lst xs => obtain ⟨_, _, _, _, e⟩ := x; exact Heap.lt_size e
  | tup xs => obtain ⟨_, _, _, p⟩ := x; exact p.lt
  | dK kvs => obtain ⟨_, _, _, _, o, _, _, e, _⟩ := x; exact Heap.lt_size e
  | dT kvs => obtain ⟨_, _, _, _, o, _, _, e, _⟩ := x; exact Heap.lt_size e
  | set S n => obtain ⟨o, _, _, _, e, _⟩ := x; exact Heap.lt_size e
  | ins C dx fs => obtain ⟨_, _, _, e, _⟩ := x; exact Heap.lt_size e
  | own y => obtain ⟨_, e⟩ := x; exact Heap.lt_size e
  | xd fs => obtain ⟨_, ⟨_, _, _, e, _⟩, _⟩ := x; exact Heap.lt_size e
  | rng lo hi => obtain ⟨_, _, _, e⟩ := x; exact Heap.lt_size e
  | frz ob u => obtain ⟨e, _⟩ := x; exact Heap.lt_size e
  | tbl ps => exact Heap.lt_size (show h.get? a = some _ from x)
  | met f y => exact Heap.lt_size (show h.get? a = some _ from x)
  | ext φ => obtain ⟨_, ⟨_, e⟩, _⟩ := x; exact Heap.lt_size e
theorem Paired.mapP {α β : Type} {F G : α → β → Prop} : ∀ {l₁ : List α} {l₂ : List β}, Paired F l₁ l₂ → (∀ a b, F a b → G a b) → Paired G l₁ l₂
  | _, _, .nil, _ => .nil
  | _, _, .cons r t, f => .cons (f _ _ r) (Paired.mapP t f)
theorem Paired.imp' {α β : Type} {F G : α → β → Prop} (f : ∀ a b, F a b → G a b) {l₁ : List α} {l₂ : List β} (r : Paired F l₁ l₂) : Paired G l₁ l₂ := Paired.mapP r f
theorem ObjOk.stay (x : ObjOk P w H h a o) (k : ∀ b u, (b = a ∨ H b = some (.own a)) → h.get? b = some u → h'.get? b = some u)
    (ho : ∀ b, H b = some (.own a) → H' b = some (.own a)) (ht : ∀ b xs, H b = some (.tup xs) → H' b = some (.tup xs)) : ObjOk P w H' h' a o := by
  induction o with
  | lst xs => obtain ⟨z, its, n, r, e⟩ := x; exact ⟨z, its, n, r, k _ _ (.inl rfl) e⟩
  | tup xs => obtain ⟨z, its, r, ob, e, c⟩ := x; exact ⟨z, its, r, ob, k _ _ (.inl rfl) e, c⟩
  | dK kvs => obtain ⟨z, y, vs, r, ob, es, ep, e, c⟩ := x; exact ⟨z, y, vs, r, ob, es, ep, k _ _ (.inl rfl) e, c⟩
  | dT kvs =>
    obtain ⟨z, y, xs, r, ob, es, ep, e, c⟩ := x
    exact ⟨z, y, xs, Paired.mapP r fun p q z => ⟨z.1, ht _ _ z.2.1, z.2.2⟩, ob, es, ep, k _ _ (.inl rfl) e, c⟩
  | set S n => obtain ⟨ob, es, ep, t, e, c⟩ := x; exact ⟨ob, es, ep, t, k _ _ (.inl rfl) e, c⟩
  | ins C dx fs =>
    obtain ⟨d, z, ne, e, mA, ⟨od, es, ep, e2, c⟩, r⟩ := x
    exact ⟨ho _ d, z, ne, k _ _ (.inl rfl) e, mA, ⟨od, es, ep, k _ _ (.inr d) e2, c⟩, r⟩
  | own y => obtain ⟨ob, e⟩ := x; exact ⟨ob, k _ _ (.inl rfl) e⟩
  | xd fs => obtain ⟨mA, ⟨od, es, ep, e, c⟩, r⟩ := x; exact ⟨mA, ⟨od, es, ep, k _ _ (.inl rfl) e, c⟩, r⟩
  | rng lo hi => obtain ⟨t, u, v, e⟩ := x; exact ⟨t, u, v, k _ _ (.inl rfl) e⟩
  | frz ob u ih => obtain ⟨e, q⟩ := x; exact ⟨k _ _ (.inl rfl) e, ih q⟩
  | tbl ps =>
    have e : h.get? a = some { cls := .none, data := .fields ps } := x
    show h'.get? a = some { cls := .none, data := .fields ps }
    exact k a _ (.inl rfl) e
  | met f y =>
    have e : h.get? a = some (PySem.W.methodObj (.ref f) (.ref y)) := x
    show h'.get? a = some (PySem.W.methodObj (.ref f) (.ref y))
    exact k a _ (.inl rfl) e
  | ext φ => obtain ⟨p, ⟨o, e⟩, st⟩ := x; exact ⟨st _ _ p fun o q => k _ _ (.inl rfl) q, ⟨o, k _ _ (.inl rfl) e⟩, st⟩
theorem HOk.lt (x : HOk P w H h) (e : H a = some o) : a < h.objs.size := (x a o e).lt
theorem HOk.fresh (x : HOk P w H h) (e : h.objs.size ≤ a) : H a = none := by
  cases q : H a with
  | none => rfl
  | some u => exact absurd (Nat.lt_of_lt_of_le (x.lt q) e) (Nat.lt_irrefl _)
theorem HOk.kept (x : HOk P w H h) (k : ∀ b u, h.get? b = some u → h'.get? b = some u) : HOk P w H h' := fun a o e =>
  (x a o e).stay (fun b u _ q => k b u q) (fun _ q => q) fun _ _ q => q
theorem HOk.laid (x : HOk P w H h) (k : ∀ b u, h.get? b = some u → h'.get? b = some u) (hp : h.objs.size ≤ a) (new : ObjOk P w (upd H a o) h' a o) : HOk P w (upd H a o) h' := fun b u e => by
  have hn := x.fresh hp
  by_cases hb : b = a
  · subst hb; rw [upd_same] at e; cases e; exact new
  · rw [upd_ne hb] at e
    exact (x b u e).stay (fun c v _ q => k c v q) (fun c q => by rw [upd_ne (ne_of_none q hn)]; exact q) fun c xs q => by rw [upd_ne (ne_of_none q hn)]; exact q
end
def Rd (H : Hp) (a : Addr) (u : HO) : Prop := H a = some u ∨ ∃ o, H a = some (.frz o u)
theorem Rd.ok {P : Program} {w : World} {H : Hp} {h : Heap} {a : Addr} {u : HO} (r : Rd H a u) (x : HOk P w H h) : ObjOk P w H h a u := by
  rcases r with r | ⟨o, r⟩
  · exact x a u r
  · obtain ⟨_, q⟩ := x a _ r
    exact q
def Mut : Option HO → Prop
  | some (.lst _) => True
  | some (.dK _) => True
  | some (.dT _) => True
  | some (.set _ _) => True
  | some (.ins _ _ _) => True
  | some (.ext _) => True
  | _ => False
section
variable {P : Program} {w : World} {H : Hp} {h h' : Heap} {x e : Addr} {o' : HO}
theorem HOk.write (ok : HOk P w H h) (mu : Mut (H x)) (he : e = x ∨ H e = some (.own x)) (k : ∀ b u, b ≠ e → h.get? b = some u → h'.get? b = some u) (heo : ∃ u, h'.get? e = some u)
    (new : ObjOk P w (upd H x o') h' x o') : HOk P w (upd H x o') h' := fun b u q => by
  have nown : ∀ c y, H c = some (.own y) → c ≠ x := fun c y r z => by subst z; rw [r] at mu; exact mu
  have ntup : ∀ c xs, H c = some (.tup xs) → c ≠ x := fun c xs r z => by subst z; rw [r] at mu; exact mu
  by_cases hb : b = x
  · subst hb; rw [upd_same] at q; cases q; exact new
  · rw [upd_ne hb] at q
    by_cases hbe : b = e
    · have q' : H b = some (.own x) := by
        rcases he with z | z
        · exact absurd (hbe.trans z) hb
        · rw [hbe]; exact z
      rw [q] at q'; cases q'
      obtain ⟨v, hv⟩ := heo
      exact ⟨v, by rw [hbe]; exact hv⟩
    · refine (ok b u q).stay (fun c v hc r => k c v ?_ r) (fun c r => by rw [upd_ne (nown c b r)]; exact r) fun c xs r => by rw [upd_ne (ntup c xs r)]; exact r
      rcases hc with rfl | hc
      · exact hbe
      · rintro rfl
        rcases he with z | z
        · exact nown c b hc z
        · rw [hc] at z; cases z; exact hb rfl
end
structure Un (fs ex : List Addr) (H H' : Hp) (h h' : Heap) : Prop where
  keep : ∀ b o, h.get? b = some o → H b = none → b ∉ fs → b ∉ ex → h'.get? b = some o
  slot : ∀ b o, h.get? b = some o → H b = none → b ∈ fs → b ∉ ex → ∃ sl, h'.get? b = some { o with slots := sl }
  free : ∀ b o, h.get? b = some o → H b = none → b ∉ ex → H' b = none
  there : ∀ b o, h.get? b = some o → b ∉ ex → ∃ o', h'.get? b = some o'
  tups : ∀ b xs, H b = some (.tup xs) → H' b = some (.tup xs)
  frzs : ∀ b o u, H b = some (.frz o u) → H' b = some (.frz o u)
  tbls : ∀ b ps, H b = some (.tbl ps) → ∃ more, H' b = some (.tbl (ps ++ more))
section
variable {fs fs' ex ex' : List Addr} {H H1 H2 : Hp} {h h1 h2 h' : Heap} {a x e : Addr} {o : HO}
theorem Un.any (u : Un fs ex H H1 h h1) {b : Addr} {ob : Obj} (q : h.get? b = some ob) (n : H b = none) (hx : b ∉ ex) : ∃ sl, h1.get? b = some { ob with slots := sl } := by
  by_cases hb : b ∈ fs
  · exact u.slot b ob q n hb hx
  · exact ⟨ob.slots, u.keep b ob q n hb hx⟩
theorem Un.trans (a : Un fs ex H H1 h h1) (b : Un fs ex H1 H2 h1 h2) : Un fs ex H H2 h h2 where
  keep := fun c ob q n hc hx => b.keep c ob (a.keep c ob q n hc hx) (a.free c ob q n hx) hc hx
  slot := fun c ob q n hc hx => by
    obtain ⟨sl, e1⟩ := a.slot c ob q n hc hx
    obtain ⟨sl', e2⟩ := b.slot c _ e1 (a.free c ob q n hx) hc hx
    exact ⟨sl', e2⟩
  free := fun c ob q n hx => by
    obtain ⟨o', e1⟩ := a.there c ob q hx
    exact b.free c o' e1 (a.free c ob q n hx) hx
  there := fun c ob q hx => by
    obtain ⟨o', e1⟩ := a.there c ob q hx
    exact b.there c o' e1 hx
  tups := fun c xs q => b.tups c xs (a.tups c xs q)
  frzs := fun c ob xs q => b.frzs c ob xs (a.frzs c ob xs q)
  tbls := fun c ps q => by
    obtain ⟨m1, e1⟩ := a.tbls c ps q
    obtain ⟨m2, e2⟩ := b.tbls c _ e1
    exact ⟨m1 ++ m2, by rw [e2, Array.append_assoc]⟩
theorem Un.kept (k : ∀ b u, h.get? b = some u → h'.get? b = some u) : Un fs ex H H h h' :=
  ⟨fun b ob q _ _ _ => k b ob q, fun b ob q _ _ _ => ⟨ob.slots, k b ob q⟩, fun _ _ _ n _ => n, fun b ob q _ => ⟨ob, k b ob q⟩, fun _ _ q => q, fun _ _ _ q => q, fun _ ps q => ⟨#[], by rw [q]; simp⟩⟩
theorem Un.refl : Un fs ex H H h h := Un.kept fun _ _ q => q
theorem Un.laid (k : ∀ b u, h.get? b = some u → h'.get? b = some u) (hp : h.objs.size ≤ a) (hn : H a = none) : Un fs ex H (upd H a o) h h' where
  keep := fun b u q _ _ _ => k b u q
  slot := fun b u q _ _ _ => ⟨u.slots, k b u q⟩
  free := fun b u q n _ => by rw [upd_ne (Nat.ne_of_lt (Nat.lt_of_lt_of_le (Heap.lt_size q) hp))]; exact n
  there := fun b u q _ => ⟨u, k b u q⟩
  tups := fun b xs q => by rw [upd_ne (ne_of_none q hn)]; exact q
  frzs := fun b u xs q => by rw [upd_ne (ne_of_none q hn)]; exact q
  tbls := fun b ps q => ⟨#[], by rw [upd_ne (ne_of_none q hn), q]; simp⟩
theorem Un.write (mu : Mut (H x)) (he : e = x ∨ H e = some (.own x)) (k : ∀ b u, b ≠ e → h.get? b = some u → h'.get? b = some u) (heo : ∃ u, h'.get? e = some u) : Un fs ex H (upd H x o) h h' := by
  have hx : ∀ b, H b = none → b ≠ x := fun b n z => by subst z; rw [n] at mu; exact mu
  have hb : ∀ b, H b = none → b ≠ e := fun b n z => by
    subst z
    rcases he with r | r
    · exact hx b n r
    · rw [n] at r; cases r
  have hm : ∀ b u, H b = some u → ¬ Mut (some u) → b ≠ x := fun b u q nm z => by subst z; rw [q] at mu; exact nm mu
  refine ⟨fun b u q n _ _ => k b u (hb b n) q, fun b u q n _ _ => ⟨u.slots, k b u (hb b n) q⟩, fun b u q n _ => by rw [upd_ne (hx b n)]; exact n, fun b u q _ => ?_,
    fun b xs q => by rw [upd_ne (hm b _ q fun z => z)]; exact q, fun b u xs q => by rw [upd_ne (hm b _ q fun z => z)]; exact q, fun b ps q => ⟨#[], by rw [upd_ne (hm b _ q fun z => z), q]; simp⟩⟩
  by_cases hbe : b = e
  · subst hbe; exact heo
  · exact ⟨u, k b u hbe q⟩
theorem Un.mono (u : Un fs ex H H1 h h1) (hs : ∀ b ∈ fs, b ∈ fs') (hx : ∀ b ∈ ex, b ∈ ex') : Un fs' ex' H H1 h h1 :=
  ⟨fun b ob q n hb he => u.keep b ob q n (fun z => hb (hs b z)) fun z => he (hx b z), fun _ _ q n _ he => u.any q n fun z => he (hx _ z), fun b ob q n he => u.free b ob q n fun z => he (hx b z), fun b ob q he => u.there b ob q fun z => he (hx b z), u.tups, u.frzs, u.tbls⟩
end
def trk (h : Heap) (H : Hp) : List Addr := (List.range h.objs.size).filter fun a => (H a).isSome
def hidT (h : Heap) (H : Hp) : Heap := PySem.W.hideAll h (trk h H)
theorem hidT_size (h : Heap) (H : Hp) : (hidT h H).objs.size = h.objs.size := PySem.W.hideAll_size _ _
theorem hidT_get {h : Heap} {H : Hp} {b : Addr} {o : Obj} (e : h.get? b = some o) (n : H b = none) : (hidT h H).get? b = some o :=
  PySem.W.hideAll_get _ e fun hm => by
    have q : (H b).isSome = true := (List.mem_filter.mp hm).2
    rw [n] at q; simp at q
theorem of_hidT {h : Heap} {H : Hp} {b : Addr} {o : Obj} (e : (hidT h H).get? b = some o) : h.get? b = some o ∧ H b = none := by
  have e' : h.get? b = some o := PySem.W.of_hideAll (trk h H) e
  refine ⟨e', ?_⟩
  cases q : H b with
  | none => rfl
  | some x =>
    have hm : b ∈ trk h H := List.mem_filter.mpr ⟨List.mem_range.mpr (Heap.lt_size e'), by simp [q]⟩
    have z : (hidT h H).get? b = none := PySem.W.hideAll_none (trk h H) hm
    rw [z] at e; cases e
def allNews (g h : Heap) (L : Addr) : List (Addr × Obj) := (List.range h.objs.size).filterMap fun a => if a = L ∨ (g.get? a).isSome = true then none else (h.get? a).map fun o => (a, o)
def rest (g h : Heap) (L d : Addr) : List (Addr × Obj) := (allNews g h L).filter fun p => decide (p.1 ≠ d)
end L2
namespace L2
open PySem PySem.Spec PyProof.Rows
structure Mod (K : PySem.W.Frag) (mg : Str → Option Value) (base : Heap) : Prop where
  kin : K.In base
  glob : base.Ns mainGlobals mg
  blt : ∃ mb, base.Ns builtinsNs mb ∧ ∀ x : Str, x ≠ "__name__" → mb x = bootBuiltins x
  nolimit : base.NoLimit
structure Cx where
  prog : Program
  w : World
  K : PySem.W.Frag
  mg : Str → Option Value
  base : Heap
  A : Around
  N : List Str
  s₀ : Shared
  H₀ : Hp
  env : Env
  outer : List Env
  stack : List Env
  ex : List Addr
  fn : Str → Bool
  calm : Bool
  pn : List (Addr × Obj)
  xe : Value → Shared → Prop
def frs (l : List Env) : List Addr := l.filterMap (·.frame)
abbrev Cx.fs (X : Cx) : List Addr := frs X.outer
def Vis (sc : Scope) (x : Str) : Prop := sc.names.lookup x = some .local ∨ sc.names.lookup x = some .cell ∨ sc.names.lookup x = some .free
def Loc (sc : Scope) (x : Str) : Prop := sc.names.lookup x = some .local ∨ sc.names.lookup x = some .cell
def Look (env : Env) (h : Heap) (m : Str → Option Value) (x : Str) (u : Value) : Prop :=
  (env.kindOf x = some .local ∧ m x = some u) ∨ ((env.kindOf x = some .cell ∨ env.kindOf x = some .free) ∧ ∃ c, env.cells.lookup x = some c ∧ h.IsCell c (some u))
structure Cx.Ok (X : Cx) : Prop where
  mod : Mod X.K X.mg X.base
  kind : X.env.scope.kind = .function
  glob : X.env.globals = mainGlobals
  blt : X.env.builtins = builtinsNs
  above : X.s₀.heap.objs.size ≤ X.env.locals
  inj : ∀ x y c, X.env.cells.lookup x = some c → X.env.cells.lookup y = some c → x = y
  has : ∀ x, (X.env.kindOf x = some .cell ∨ X.env.kindOf x = some .free) → ∃ c, X.env.cells.lookup x = some c
  cab : ∀ x c, X.fn x = true → X.env.cells.lookup x = some c → X.s₀.heap.objs.size ≤ c
  hd : X.calm = true → X.A.handled = none
  frames : X.A.frames = some X.stack
  stk : X.stack = X.outer ∨ (X.stack = X.env :: X.outer ∧ X.env.frame = some X.env.locals)
  exf : ∀ b ∈ X.ex, b ≠ X.env.locals ∧ ∀ x c, X.env.cells.lookup x = some c → c ≠ b
  bs : ∀ b o, X.base.get? b = some o → X.s₀.heap.get? b = some o ∧ X.H₀ b = none
  bsz : X.base.objs.size ≤ X.s₀.heap.objs.size
  noex : ∀ b o, X.base.get? b = some o → b ∉ X.ex
  exfs : ∀ b ∈ X.ex, b ∉ X.fs
  funs : X.s₀.heap.FunFrames X.base X.outer
  frf : ∀ b ∈ X.fs, X.H₀ b = none
structure Inv (X : Cx) (pins : List (Addr × Obj)) (σ : List (Option V)) (H : Hp) (s : Shared) : Prop where
  ok : X.Ok
  os : s.os = X.s₀.os
  bare : AllBare s.gens
  base : Un X.fs X.ex X.H₀ H X.s₀.heap s.heap
  loc : ∃ m, s.heap.Ns X.env.locals m ∧ ∀ (i : Nat) (x : Str) (v : V), X.N[i]? = some x → σ[i]? = some (some v) → Vis X.env.scope x → ∃ u, RelV v u ∧ Look X.env s.heap m x u
  cell : ∀ x c, X.env.cells.lookup x = some c → ∃ v, s.heap.IsCell c v
  free : H X.env.locals = none
  freeC : ∀ x c, X.env.cells.lookup x = some c → H c = none
  pin : ∀ p ∈ X.pn ++ pins, s.heap.get? p.1 = some p.2 ∧ H p.1 = none ∧ p.1 ≠ X.env.locals ∧ p.1 ∉ X.fs ∧ ∀ v, p.2.data ≠ .cell v
  hok : HOk X.prog X.w H s.heap
  len : σ.length = X.N.length
section
variable {X : Cx} {pins : List (Addr × Obj)} {σ : List (Option V)} {H H' : Hp} {s : Shared} {h' : Heap}
theorem Cx.Ok.nofr (ok : X.Ok) {b : Addr} {o : Obj} (e : X.base.get? b = some o) : b ∉ X.fs := fun hb => by
  have := (ok.funs.mem hb).1
  rw [e] at this; cases this
theorem Inv.bs (I : Inv X pins σ H s) : ∀ b o, X.base.get? b = some o → s.heap.get? b = some o ∧ H b = none := fun b o e =>
  ⟨I.base.keep b o (I.ok.bs b o e).1 (I.ok.bs b o e).2 (I.ok.nofr e) (I.ok.noex b o e), I.base.free b o (I.ok.bs b o e).1 (I.ok.bs b o e).2 (I.ok.noex b o e)⟩
theorem Inv.bk (I : Inv X pins σ H s) : ∀ b o, X.base.get? b = some o → s.heap.get? b = some o := fun b o e => (I.bs b o e).1
theorem Inv.mod (I : Inv X pins σ H s) : Mod X.K X.mg X.base := I.ok.mod
theorem Inv.kIn (I : Inv X pins σ H s) : X.K.In s.heap := I.ok.mod.kin.keeps I.bk
theorem Inv.lt (I : Inv X pins σ H s) : X.env.locals < s.heap.objs.size := let ⟨_, hn, _⟩ := I.loc; hn.lt
theorem Inv.sz (I : Inv X pins σ H s) : X.s₀.heap.objs.size ≤ s.heap.objs.size := Nat.le_trans I.ok.above (Nat.le_of_lt I.lt)
theorem Inv.nofs (I : Inv X pins σ H s) {a : Addr} (h : s.heap.objs.size ≤ a) : a ∉ X.fs := fun hb => by
  obtain ⟨_, o, ho, _⟩ := I.ok.funs.mem hb
  exact absurd (Nat.lt_of_lt_of_le (Heap.lt_size ho) (Nat.le_trans I.sz h)) (Nat.lt_irrefl _)
theorem Inv.cne (I : Inv X pins σ H s) : ∀ x c, X.env.cells.lookup x = some c → c ≠ X.env.locals := fun x c e z => by
  obtain ⟨v, o, ho, hd⟩ := I.cell x c e
  obtain ⟨m, ⟨o', es, ep, ho', hd', _⟩, _⟩ := I.loc
  rw [z, ho'] at ho; cases ho; rw [hd'] at hd; cases hd
theorem Inv.funs (I : Inv X pins σ H s) : s.heap.FunFrames X.base X.outer := by
  have all : ∀ (l : List Env), (∀ b ∈ frs l, b ∈ X.fs) → X.s₀.heap.FunFrames X.base l → s.heap.FunFrames X.base l := by
    intro l
    induction l with
    | nil => intro _ _; trivial
    | cons env r ih =>
      intro hs hl
      obtain ⟨hk, ⟨L, o, hf, hn, ho, hd⟩, hr⟩ := hl
      have hL : L ∈ X.fs := hs L (by unfold frs; rw [List.filterMap_cons, hf]; exact List.mem_cons_self)
      obtain ⟨sl, e⟩ := I.base.slot L o ho (I.ok.frf L hL) hL fun z => I.ok.exfs L z hL
      exact ⟨hk, ⟨L, _, hf, hn, e, hd⟩, ih (fun b hb => hs b (by unfold frs; rw [List.filterMap_cons, hf]; exact List.mem_cons_of_mem _ hb)) hr⟩
  exact all X.outer (fun _ hb => hb) I.ok.funs
theorem Inv.stack (I : Inv X pins σ H s) : s.heap.FunFrames X.base X.stack := by
  rcases I.ok.stk with e | ⟨e, hf⟩
  · rw [e]; exact I.funs
  · rw [e]
    obtain ⟨m, hn, _⟩ := I.loc
    refine .cons (by rw [I.ok.kind]; decide) hf hn ?_ I.funs
    exact Heap.get?_none_of_le (Nat.le_trans I.ok.bsz I.ok.above)
theorem Inv.stkSub (I : Inv X pins σ H s) : ∀ b ∈ frs X.stack, b ∈ X.env.locals :: X.fs := fun b hb => by
  rcases I.ok.stk with e | ⟨e, hf⟩
  · rw [e] at hb; exact List.mem_cons_of_mem _ hb
  · rw [e] at hb
    unfold frs at hb
    rw [List.filterMap_cons, hf] at hb
    exact hb
theorem Inv.stkFree (I : Inv X pins σ H s) : ∀ b ∈ frs X.stack, H b = none := fun b hb => by
  rcases List.mem_cons.mp (I.stkSub b hb) with e | hb
  · rw [e]; exact I.free
  · obtain ⟨_, o, ho, _⟩ := I.ok.funs.mem hb
    exact I.base.free b o ho (I.ok.frf b hb) fun z => I.ok.exfs b z hb
theorem Inv.step {g' : Array GenState} {t' : Nat} {d' : Drawn} {ch : List Addr} (I : Inv X pins σ H s)
    (hch : ∀ b ∈ ch, (b ∈ X.ex ∨ X.s₀.heap.objs.size ≤ b) ∧ b ≠ X.env.locals ∧ (∀ x c, X.env.cells.lookup x = some c → c ≠ b) ∧ ∀ p ∈ X.pn ++ pins, p.1 ≠ b)
    (keep : ∀ b o, b ≠ X.env.locals → b ∉ X.fs → b ∉ ch → s.heap.get? b = some o → H b = none → h'.get? b = some o)
    (slot : ∀ b o, b ≠ X.env.locals → b ∈ X.fs → b ∉ ch → s.heap.get? b = some o → H b = none → ∃ sl, h'.get? b = some { o with slots := sl }) (free : ∀ b o, b ∉ ch → s.heap.get? b = some o → H b = none → H' b = none)
    (there : ∀ b o, b ∉ ch → s.heap.get? b = some o → ∃ o', h'.get? b = some o')
    (tups : ∀ b xs, H b = some (.tup xs) → H' b = some (.tup xs)) (frzs : ∀ b o u, H b = some (.frz o u) → H' b = some (.frz o u)) (tbls : ∀ b ps, H b = some (.tbl ps) → ∃ more, H' b = some (.tbl (ps ++ more)))
    (ns : ∀ m, s.heap.Ns X.env.locals m → h'.Ns X.env.locals m) (hok : HOk X.prog X.w H' h') (hg : AllBare g') :
    Inv X pins σ H' { s with heap := h', gens := g', drawn := d', toks := t' } := by
  have neL : ∀ b o, X.s₀.heap.get? b = some o → b ≠ X.env.locals := fun b o e => Nat.ne_of_lt (Nat.lt_of_lt_of_le (Heap.lt_size e) I.ok.above)
  have neC : ∀ b o, X.s₀.heap.get? b = some o → b ∉ X.ex → b ∉ ch := fun b o e hx hb => by
    rcases (hch b hb).1 with z | z
    · exact hx z
    · exact absurd (Nat.lt_of_lt_of_le (Heap.lt_size e) z) (Nat.lt_irrefl _)
  have cellK : ∀ x c, X.env.cells.lookup x = some c → ∀ v, s.heap.IsCell c v → h'.IsCell c v := fun x c e v ⟨o, ho, hd⟩ => by
    have nch : c ∉ ch := fun z => (hch c z).2.2.1 x c e rfl
    by_cases hc : c ∈ X.fs
    · obtain ⟨sl, q⟩ := slot c o (I.cne x c e) hc nch ho (I.freeC x c e)
      exact ⟨_, q, hd⟩
    · exact ⟨o, keep c o (I.cne x c e) hc nch ho (I.freeC x c e), hd⟩
  refine ⟨I.ok, I.os, hg, ⟨fun b o e n hb hx => ?_, fun b o e n hb hx => ?_, fun b o e n hx => ?_, fun b o e hx => ?_, fun b xs e => tups b xs (I.base.tups b xs e), fun b o xs e => frzs b o xs (I.base.frzs b o xs e), fun b ps e => ?_⟩, ?_, fun x c e => ?_, ?_, fun x c e => ?_, fun p hp => ?_, hok, I.len⟩
  · exact keep b o (neL b o e) hb (neC b o e hx) (I.base.keep b o e n hb hx) (I.base.free b o e n hx)
  · obtain ⟨sl, e1⟩ := I.base.slot b o e n hb hx
    obtain ⟨sl', e2⟩ := slot b _ (neL b o e) hb (neC b o e hx) e1 (I.base.free b o e n hx)
    exact ⟨sl', e2⟩
  · obtain ⟨o', e1⟩ := I.base.there b o e hx
    exact free b o' (neC b o e hx) e1 (I.base.free b o e n hx)
  · obtain ⟨o', e1⟩ := I.base.there b o e hx
    exact there b o' (neC b o e hx) e1
  · obtain ⟨m1, e1⟩ := I.base.tbls b ps e
    obtain ⟨m2, e2⟩ := tbls b _ e1
    exact ⟨m1 ++ m2, by rw [e2, Array.append_assoc]⟩
  · obtain ⟨m, hn, hl⟩ := I.loc
    refine ⟨m, ns m hn, fun i x v e1 e2 e3 => ?_⟩
    obtain ⟨u, r, l⟩ := hl i x v e1 e2 e3
    refine ⟨u, r, ?_⟩
    rcases l with l | ⟨k, c, e, z⟩
    · exact .inl l
    · exact .inr ⟨k, c, e, cellK x c e _ z⟩
  · obtain ⟨v, z⟩ := I.cell x c e
    exact ⟨v, cellK x c e v z⟩
  · obtain ⟨m, ⟨o, _, _, ho, _⟩, _⟩ := I.loc
    exact free _ o (fun z => (hch _ z).2.1 rfl) ho I.free
  · obtain ⟨v, o, ho, hd⟩ := I.cell x c e
    exact free c o (fun z => (hch c z).2.2.1 x c e rfl) ho (I.freeC x c e)
  · obtain ⟨e, n, ne, nf, d⟩ := I.pin p hp
    have nch : p.1 ∉ ch := fun z => (hch p.1 z).2.2.2 p hp rfl
    exact ⟨keep p.1 p.2 ne nf nch e n, free p.1 p.2 nch e n, ne, nf, d⟩
theorem Inv.un {t' : Nat} (I : Inv X pins σ H s) (u : Un X.fs [] H H' s.heap h') (hok : HOk X.prog X.w H' h') : Inv X pins σ H' { s with heap := h', toks := t' } := by
  obtain ⟨m, ⟨o, es, ep, ho, r⟩, _⟩ := id I.loc
  obtain ⟨sl, hL⟩ := u.any ho I.free (by simp)
  exact I.step (g' := s.gens) (d' := s.drawn) (ch := []) (fun _ z => nomatch z) (fun b o _ hb _ e n => u.keep b o e n hb (by simp)) (fun b o _ hb _ e n => u.slot b o e n hb (by simp)) (fun b o _ e n => u.free b o e n (by simp)) (fun b o _ e => u.there b o e (by simp)) u.tups u.frzs u.tbls (fun m' hm => by
    obtain ⟨o', es', ep', ho', r'⟩ := hm
    rw [ho] at ho'; cases ho'
    exact ⟨_, es', ep', hL, r'⟩) hok I.bare
theorem Inv.call {g' : Array GenState} {t' : Nat} {d' : Drawn} {ch : List Addr} (I : Inv X pins σ H s) (u : Un (frs X.stack) ch H H' s.heap h') (hok : HOk X.prog X.w H' h') (hg : AllBare g')
    (hch : ∀ b ∈ ch, (b ∈ X.ex ∨ X.s₀.heap.objs.size ≤ b) ∧ b ≠ X.env.locals ∧ (∀ x c, X.env.cells.lookup x = some c → c ≠ b) ∧ ∀ p ∈ X.pn ++ pins, p.1 ≠ b) :
    Inv X pins σ H' { s with heap := h', gens := g', drawn := d', toks := t' } := by
  obtain ⟨m, ⟨o, es, ep, ho, r⟩, _⟩ := id I.loc
  obtain ⟨sl, hL⟩ := u.any ho I.free fun z => (hch _ z).2.1 rfl
  exact I.step (ch := ch) hch (fun b o hL hb hc e n => u.keep b o e n (fun z => (List.mem_cons.mp (I.stkSub b z)).elim hL hb) hc) (fun b o _ _ hc e n => u.any e n hc) (fun b o hc e n => u.free b o e n hc) (fun b o hc e => u.there b o e hc) u.tups u.frzs u.tbls (fun m' hm => by
    obtain ⟨o', es', ep', ho', r'⟩ := hm
    rw [ho] at ho'; cases ho'
    exact ⟨_, es', ep', hL, r'⟩) hok hg
theorem Inv.turned {t' : Nat} {it : Addr} (I : Inv X pins σ H s) (k : ∀ b o, b ≠ it → s.heap.get? b = some o → h'.get? b = some o) (hn : H it = none) (hL : it ≠ X.env.locals)
    (h1 : it ∈ X.ex ∨ X.s₀.heap.objs.size ≤ it) (h2 : ∀ x c, X.env.cells.lookup x = some c → c ≠ it) (h3 : ∀ p ∈ X.pn ++ pins, p.1 ≠ it) : Inv X pins σ H { s with heap := h', toks := t' } := by
  have nit : ∀ b u, H b = some u → b ≠ it := fun b u e z => by rw [z, hn] at e; cases e
  refine I.step (g' := s.gens) (d' := s.drawn) (ch := [it]) (fun b hb => ?_) (fun b o _ _ hc e _ => k b o (fun z => hc (by simp [z])) e) (fun b o _ _ hc e _ => ⟨o.slots, k b o (fun z => hc (by simp [z])) e⟩) (fun _ _ _ _ n => n)
    (fun b o hc e => ⟨o, k b o (fun z => hc (by simp [z])) e⟩) (fun _ _ e => e) (fun _ _ _ e => e) (fun b ps e => ⟨#[], by rw [e]; simp⟩) (fun m hm => ?_) (fun b u e => ?_) I.bare
  · have e : b = it := by simpa using hb
    subst e
    exact ⟨h1, hL, h2, h3⟩
  · obtain ⟨o, es, ep, ho, r⟩ := hm
    exact ⟨o, es, ep, k _ o (Ne.symm hL) ho, r⟩
  · refine (I.hok b u e).stay (fun c v hc q => k c v ?_ q) (fun _ q => q) fun _ _ q => q
    rcases hc with z | z
    · rw [z]; exact nit b u e
    · exact nit c _ z
theorem Inv.tok (I : Inv X pins σ H s) (t : Nat) : Inv X pins σ H { s with toks := t } := I.un (h' := s.heap) (t' := t) Un.refl I.hok
theorem Inv.kept {t' : Nat} (I : Inv X pins σ H s) (k : ∀ b u, s.heap.get? b = some u → h'.get? b = some u) : Inv X pins σ H { s with heap := h', toks := t' } := I.un (Un.kept k) (I.hok.kept k)
theorem Inv.laid {a : Addr} {o : HO} {t' : Nat} (I : Inv X pins σ H s) (k : ∀ b u, s.heap.get? b = some u → h'.get? b = some u) (hp : s.heap.objs.size ≤ a) (new : ObjOk X.prog X.w (upd H a o) h' a o) :
    Inv X pins σ (upd H a o) { s with heap := h', toks := t' } := I.un (Un.laid k hp (I.hok.fresh hp)) (I.hok.laid k hp new)
theorem Inv.write {x e : Addr} {o : HO} {t' : Nat} (I : Inv X pins σ H s) (mu : Mut (H x)) (he : e = x ∨ H e = some (.own x)) (k : ∀ b u, b ≠ e → s.heap.get? b = some u → h'.get? b = some u) (heo : ∃ u, h'.get? e = some u)
    (new : ObjOk X.prog X.w (upd H x o) h' x o) : Inv X pins σ (upd H x o) { s with heap := h', toks := t' } := I.un (Un.write mu he k heo) (I.hok.write mu he k heo new)
theorem Inv.pins_of {pins' : List (Addr × Obj)} (I : Inv X pins σ H s) (h : ∀ p ∈ pins', s.heap.get? p.1 = some p.2 ∧ H p.1 = none ∧ p.1 ≠ X.env.locals ∧ p.1 ∉ X.fs ∧ ∀ v, p.2.data ≠ .cell v) : Inv X pins' σ H s :=
  ⟨I.ok, I.os, I.bare, I.base, I.loc, I.cell, I.free, I.freeC, fun p hp => (List.mem_append.mp hp).elim (fun z => I.pin p (List.mem_append_left _ z)) (h p), I.hok, I.len⟩
theorem nodup_ix {N : List Str} (hN : N.Nodup) {i j : Nat} {x : Str} (a : N[i]? = some x) (b : N[j]? = some x) : i = j := by
  obtain ⟨h1, e1⟩ := List.getElem?_eq_some_iff.mp a
  obtain ⟨h2, e2⟩ := List.getElem?_eq_some_iff.mp b
  exact (List.getElem_inj hN).mp (e1.trans e2.symm)
theorem store_ok2 {M : Model} {A : Around} {E : Value → Shared → Prop} {i : Nat} {x : Str} {v : V} {u : Value} {Q : Unit → Shared → Prop} (I : Inv X pins σ H s) (hN : X.N.Nodup) (hi : X.N[i]? = some x) (hx : Loc X.env.scope x) (r : RelV v u)
    (h : ∀ s', Inv X pins (σ.set i (some v)) H s' → (∃ a, Heap.SameBut a s.heap s'.heap ∧ (a = X.env.locals ∨ X.env.cells.lookup x = some a)) → Q () s') (hf : X.fn x = true ∨ X.env.scope.names.lookup x = some .local := by first | exact .inl rfl | exact .inr rfl | assumption) : wpAny M A (storeName X.env x u) Q E s := by
  obtain ⟨m, hn, hl⟩ := id I.loc
  have hcls : (X.env.scope.kind == .class || (X.env.scope.kind == .module && X.env.locals != X.env.globals)) = false := by rw [I.ok.kind]; rfl
  have hiσ : i < σ.length := by rw [I.len]; exact (List.getElem?_eq_some_iff.mp hi).1
  have cne := I.cne
  have tracked : ∀ {a : Addr} {h' : Heap}, (∃ o, s.heap.get? a = some o ∧ H a = none) → Heap.SameBut a s.heap h' → HOk X.prog X.w H h' := fun {a h'} ha hs b ob e => by
    obtain ⟨_, _, hfree⟩ := ha
    refine (I.hok b ob e).stay (fun c w' hc q => (hs.2 c ?_).trans q) (fun _ q => q) fun _ _ q => q
    rintro rfl
    rcases hc with rfl | hc
    · rw [hfree] at e; cases e
    · rw [hfree] at hc; cases hc
  rcases hx with hk | hk
  · refine wpAny_storeName_local hk hn (fun h' hn' hs => ?_) hcls
    obtain ⟨oL, _, _, hoL, _⟩ := id hn
    refine h _ ⟨I.ok, I.os, I.bare, ⟨fun b o e n hb hx => ?_, fun b o e n hb hx => ?_, I.base.free, fun b o e hx => ?_, I.base.tups, I.base.frzs, I.base.tbls⟩, ⟨_, hn', fun j y v' e1 e2 e3 => ?_⟩, fun y c e => ?_, I.free, I.freeC, fun p hp => ?_, tracked ⟨oL, hoL, I.free⟩ hs, by simpa using I.len⟩ ⟨_, hs, .inl rfl⟩
    · exact (hs.2 b (Nat.ne_of_lt (Nat.lt_of_lt_of_le (Heap.lt_size e) I.ok.above))).trans (I.base.keep b o e n hb hx)
    · obtain ⟨sl, e1⟩ := I.base.slot b o e n hb hx
      exact ⟨sl, (hs.2 b (Nat.ne_of_lt (Nat.lt_of_lt_of_le (Heap.lt_size e) I.ok.above))).trans e1⟩
    · obtain ⟨o', e1⟩ := I.base.there b o e hx
      exact ⟨o', (hs.2 b (Nat.ne_of_lt (Nat.lt_of_lt_of_le (Heap.lt_size e) I.ok.above))).trans e1⟩
    · by_cases hj : j = i
      · subst hj
        rw [hi] at e1; cases e1
        rw [List.getElem?_set_self hiσ] at e2
        cases e2
        exact ⟨u, r, .inl ⟨hk, by simp⟩⟩
      · rw [List.getElem?_set_ne (Ne.symm hj)] at e2
        obtain ⟨u', r', q⟩ := hl j y v' e1 e2 e3
        refine ⟨u', r', ?_⟩
        rcases q with ⟨k, e⟩ | ⟨k, c, e, z⟩
        · refine .inl ⟨k, ?_⟩
          have : y ≠ x := fun e => hj (nodup_ix hN e1 (e ▸ hi))
          simp [this, e]
        · exact .inr ⟨k, c, e, z.sameBut hs (cne y c e)⟩
    · obtain ⟨w', z⟩ := I.cell y c e
      exact ⟨w', z.sameBut hs (cne y c e)⟩
    · obtain ⟨e, n, ne, nf, d⟩ := I.pin p hp
      exact ⟨(hs.2 p.1 ne).trans e, n, ne, nf, d⟩
  · have hfn : X.fn x = true := by
      rcases hf with z | z
      · exact z
      · rw [z] at hk; cases hk
    obtain ⟨c, hc⟩ := I.ok.has x (.inl hk)
    obtain ⟨w', z⟩ := I.cell x c hc
    refine wpAny_storeName_cell I.ok.kind hk hc z (fun h' hc' hs => ?_)
    obtain ⟨oc, hoc, hocd⟩ := id z
    refine h { s with heap := h' } ⟨I.ok, I.os, I.bare, ⟨fun b o e n hb hx => ?_, fun b o e n hb hx => ?_, I.base.free, fun b o e hx => ?_, I.base.tups, I.base.frzs, I.base.tbls⟩, ⟨m, hn.sameBut hs (Ne.symm (cne x c hc)), fun j y v' e1 e2 e3 => ?_⟩, fun y c' e => ?_, I.free, I.freeC, fun p hp => ?_, tracked ⟨oc, hoc, I.freeC x c hc⟩ hs, by simpa using I.len⟩ ⟨c, hs, .inr hc⟩
    · exact (hs.2 b (Nat.ne_of_lt (Nat.lt_of_lt_of_le (Heap.lt_size e) (I.ok.cab x c hfn hc)))).trans (I.base.keep b o e n hb hx)
    · obtain ⟨sl, e1⟩ := I.base.slot b o e n hb hx
      exact ⟨sl, (hs.2 b (Nat.ne_of_lt (Nat.lt_of_lt_of_le (Heap.lt_size e) (I.ok.cab x c hfn hc)))).trans e1⟩
    · obtain ⟨o', e1⟩ := I.base.there b o e hx
      exact ⟨o', (hs.2 b (Nat.ne_of_lt (Nat.lt_of_lt_of_le (Heap.lt_size e) (I.ok.cab x c hfn hc)))).trans e1⟩
    · by_cases hj : j = i
      · subst hj
        rw [hi] at e1; cases e1
        rw [List.getElem?_set_self hiσ] at e2
        cases e2
        exact ⟨u, r, .inr ⟨.inl hk, c, hc, hc'⟩⟩
      · rw [List.getElem?_set_ne (Ne.symm hj)] at e2
        obtain ⟨u', r', q⟩ := hl j y v' e1 e2 e3
        refine ⟨u', r', ?_⟩
        rcases q with q | ⟨k, c', e, z'⟩
        · exact .inl q
        · refine .inr ⟨k, c', e, z'.sameBut hs ?_⟩
          rintro rfl
          exact hj (nodup_ix hN e1 (I.ok.inj _ _ _ e hc ▸ hi))
    · by_cases hcc : c' = c
      · subst hcc; exact ⟨_, hc'⟩
      · obtain ⟨w2, z2⟩ := I.cell y c' e
        exact ⟨w2, z2.sameBut hs hcc⟩
    · obtain ⟨e, n, ne, nf, d⟩ := I.pin p hp
      refine ⟨(hs.2 p.1 ?_).trans e, n, ne, nf, d⟩
      intro q
      rw [q, hoc] at e
      have q' : oc = p.2 := Option.some.inj e
      exact d w' (by rw [← q']; exact hocd)
theorem store_ok {M : Model} {A : Around} {E : Value → Shared → Prop} {i : Nat} {x : Str} {v : V} {u : Value} {Q : Unit → Shared → Prop} (I : Inv X pins σ H s) (hN : X.N.Nodup) (hi : X.N[i]? = some x) (hx : Loc X.env.scope x) (r : RelV v u)
    (h : ∀ s', Inv X pins (σ.set i (some v)) H s' → Q () s') (hf : X.fn x = true ∨ X.env.scope.names.lookup x = some .local := by first | exact .inl rfl | exact .inr rfl | assumption) : wpAny M A (storeName X.env x u) Q E s :=
  store_ok2 I hN hi hx r (fun s' I' _ => h s' I') hf
theorem Inv.call' {s' : Shared} {ch : List Addr} (I : Inv X pins σ H s) (ho : s'.os = s.os) (u : Un (frs X.stack) ch H H' s.heap s'.heap) (hok : HOk X.prog X.w H' s'.heap) (hg : AllBare s'.gens)
    (hch : ∀ b ∈ ch, (b ∈ X.ex ∨ X.s₀.heap.objs.size ≤ b) ∧ b ≠ X.env.locals ∧ (∀ x c, X.env.cells.lookup x = some c → c ≠ b) ∧ ∀ p ∈ X.pn ++ pins, p.1 ≠ b) : Inv X pins σ H' s' := by
  obtain ⟨h', g', d', t', o'⟩ := s'
  have e : o' = s.os := ho
  subst e
  exact I.call (g' := g') (t' := t') (d' := d') u hok hg hch
end
abbrev XK := Value → Option Addr → Hp → Prop
abbrev St := List (Option V)
abbrev VK := V → Hp → Prop
abbrev TE := St → Hp → VK → Prop
abbrev TT := St → Hp → (Bool → Hp → Prop) → Prop
abbrev TA := St → Hp → (List V → Hp → Prop) → Prop
structure Ends where
  nx : St → Hp → Prop
  rt : VK
  bk : St → Hp → Prop := fun _ _ => False
  ct : St → Hp → Prop := fun _ _ => False
abbrev TS := Ends → St → Hp → Prop
def EP (X : Cx) (pins : List (Addr × Obj)) (σ : St) (Q : VK) (u : Value) (s' : Shared) : Prop := ∃ v H', Inv X pins σ H' s' ∧ RelV v u ∧ Q v H'
def TP (X : Cx) (pins : List (Addr × Obj)) (σ : St) (Q : Bool → Hp → Prop) (b : Bool) (s' : Shared) : Prop := ∃ H', Inv X pins σ H' s' ∧ Q b H'
def AP (X : Cx) (pins : List (Addr × Obj)) (σ : St) (Q : List V → Hp → Prop) (us : List Value) (s' : Shared) : Prop := ∃ vs H', Inv X pins σ H' s' ∧ Vals vs us ∧ Q vs H'
def SP (X : Cx) (pins : List (Addr × Obj)) (D : Ends) (f : Flow) (s' : Shared) : Prop :=
  match f with
  | .next => ∃ σ' H', Inv X pins σ' H' s' ∧ D.nx σ' H'
  | .brk => ∃ σ' H', Inv X pins σ' H' s' ∧ D.bk σ' H'
  | .cont => ∃ σ' H', Inv X pins σ' H' s' ∧ D.ct σ' H'
  | .ret u => ∃ v σ' H', Inv X pins σ' H' s' ∧ RelV v u ∧ D.rt v H'
def PE (X : Cx) (e : Expr) (t : TE) : Prop :=
  ∀ (pins : List (Addr × Obj)) (s : Shared) (σ : St) (H : Hp) (Q : VK), Inv X pins σ H s → t σ H Q → wpAny (model X.prog X.w) X.A (eval e X.env) (EP X pins σ Q) X.xe s
def PT (X : Cx) (e : Expr) (t : TT) : Prop :=
  ∀ (pins : List (Addr × Obj)) (s : Shared) (σ : St) (H : Hp) (Q : Bool → Hp → Prop), Inv X pins σ H s → t σ H Q → wpAny (model X.prog X.w) X.A (isTrue e X.env (eval e X.env)) (TP X pins σ Q) X.xe s
def PW (X : Cx) (e : Expr) (t : TT) : Prop :=
  ∀ (whole : Sem Value) (pins : List (Addr × Obj)) (s : Shared) (σ : St) (H : Hp) (Q : Bool → Hp → Prop), Inv X pins σ H s → t σ H Q → wpAny (model X.prog X.w) X.A (isTrue e X.env whole) (TP X pins σ Q) X.xe s
theorem PW.pt {X : Cx} {e : Expr} {t : TT} (h : PW X e t) : PT X e t := h _
def PA (X : Cx) (es : List Expr) (t : TA) : Prop :=
  ∀ (pos : Pos) (pins : List (Addr × Obj)) (s : Shared) (σ : St) (H : Hp) (Q : List V → Hp → Prop), Inv X pins σ H s → t σ H Q → wpAny (model X.prog X.w) X.A (spliced (backTo pos (starEach es X.env))) (AP X pins σ Q) X.xe s
def PS (X : Cx) (st : Stmt) (t : TS) : Prop :=
  ∀ (pins : List (Addr × Obj)) (s : Shared) (σ : St) (H : Hp) (D : Ends), Inv X pins σ H s → t D σ H → wpAny (model X.prog X.w) X.A (exec st X.env) (SP X pins D) X.xe s
def PSs (X : Cx) (st : List Stmt) (t : TS) : Prop :=
  ∀ (pins : List (Addr × Obj)) (s : Shared) (σ : St) (H : Hp) (D : Ends), Inv X pins σ H s → t D σ H → wpAny (model X.prog X.w) X.A (execs st X.env) (SP X pins D) X.xe s
theorem thn {α : Type} {t : Sem α} {Q Q' : α → Shared → Prop} {M : Model} {A : Around} {E : Value → Shared → Prop} {s : Shared} (h : wpAny M A t Q E s) (hQ : ∀ a s, Q a s → Q' a s) : wpAny M A t Q' E s := wpAny_mono h hQ fun _ _ x => x
end L2
namespace L2
open PySem PySem.Spec PyProof.Rows
section
variable {X : Cx}
def tVar (i : Nat) : TE := fun σ H Q => ∃ v, σ[i]? = some (some v) ∧ Q v H
def tC (v : V) : TE := fun _ H Q => Q v H
theorem pe_var {i : Nat} {x : Str} {pos : Pos} (hN : X.N[i]? = some x) (hv : Vis X.env.scope x) (hd : (x == ("__debug__" : Str)) = false := by decide) (hcd : (x == ("__classdict__" : Str)) = false := by decide) : PE X (.Name x pos) (tVar i) := by
  intro pins s σ H Q I h
  obtain ⟨v, e, h⟩ := h
  obtain ⟨m, hn, hl⟩ := I.loc
  obtain ⟨u, r, l⟩ := hl i x v hN e hv
  have fin : EP X pins σ Q u s := ⟨v, H, I, r, h⟩
  rcases l with ⟨hk, hm⟩ | ⟨hk, c, hc, hcell⟩
  · exact wpAny_Name (wpAny_loadName_local I.ok.kind hk hn hm fin) hd
  · rcases hk with hk | hk
    · exact wpAny_Name (wpAny_loadName_cell I.ok.kind hk hc hcell fin) hd
    · exact wpAny_Name (wpAny_loadName_free I.ok.kind hk hc hcell fin hcd) hd
theorem pe_int {i j pos} : PE X (.Constant (.int i) j pos) (tC (.int i)) := fun _ _ _ H _ I h => wpAny_Constant_int ⟨.int i, H, I.tok _, ⟨_, rfl⟩, h⟩
theorem pe_bl {b j pos} : PE X (.Constant (.bool b) j pos) (tC (.bl b)) := fun _ _ _ H _ I h => Constant_bool ⟨.bl b, H, I, rfl, h⟩
theorem pe_str {x j pos} : PE X (.Constant (.str x) j pos) (tC (.str x)) := fun _ _ _ H _ I h => Calls.Constant_str ⟨.str x, H, I.tok _, ⟨_, rfl⟩, h⟩
def Gl (X : Cx) (x : Str) : Prop := X.env.kindOf x = some .globalImplicit
theorem ld_glob {E : Value → Shared → Prop} {pins : List (Addr × Obj)} {s : Shared} {σ : St} {H : Hp} {x : Str} {u : Value} {pos : Pos} {Q : Value → Shared → Prop} (I : Inv X pins σ H s) (hg : Gl X x) (hm : X.mg x = some u) (h : Q u s)
    (hd : (x == ("__debug__" : Str)) = false := by decide) : wpAny (model X.prog X.w) X.A (eval (.Name x pos) X.env) Q E s :=
  Calls.Name_function_global I.ok.kind hg (Calls.loadGlobal_global (by rw [I.ok.glob]; exact I.mod.glob.keeps I.bk) hm h) hd
theorem ld_blt {E : Value → Shared → Prop} {pins : List (Addr × Obj)} {s : Shared} {σ : St} {H : Hp} {x : Str} {u : Value} {pos : Pos} {Q : Value → Shared → Prop} (I : Inv X pins σ H s) (hg : Gl X x) (hm : X.mg x = none) (hv : bootBuiltins x = some u) (h : Q u s)
    (hn : x ≠ "__name__" := by decide) (hd : (x == ("__debug__" : Str)) = false := by decide) : wpAny (model X.prog X.w) X.A (eval (.Name x pos) X.env) Q E s := by
  obtain ⟨mb, h1, h2⟩ := I.mod.blt
  exact Calls.Name_function_global I.ok.kind hg (Calls.loadGlobal_builtin (by rw [I.ok.glob]; exact I.mod.glob.keeps I.bk) hm (by rw [I.ok.blt]; exact h1.keeps I.bk) ((h2 x hn).trans hv) h) hd
theorem pe_glob {x : Str} {v : V} {u : Value} {pos : Pos} (hg : Gl X x) (hm : X.mg x = some u) (r : RelV v u) (hd : (x == ("__debug__" : Str)) = false := by decide) : PE X (.Name x pos) (tC v) :=
  fun _ _ _ H _ I h => ld_glob I hg hm ⟨v, H, I, r, h⟩ hd
theorem pe_bltn {x : Str} {v : V} {u : Value} {pos : Pos} (hg : Gl X x) (hm : X.mg x = none) (hv : bootBuiltins x = some u) (r : RelV v u) (hn : x ≠ "__name__" := by decide) (hd : (x == ("__debug__" : Str)) = false := by decide) : PE X (.Name x pos) (tC v) :=
  fun _ _ _ H _ I h => ld_blt I hg hm hv ⟨v, H, I, r, h⟩ hn hd
variable {a b : Expr} {ta tb : TE} {pos : Pos}
def tB (t : TE) : TT := fun σ H Q => t σ H fun x H1 => ∃ c, x = .bl c ∧ Q c H1
theorem pt_val {e : Expr} {t : TE} (h : PE X e t) (he : ∀ whole, isTrue e X.env whole = (do let v ← whole; standAt e.pos; holding [v] (truthy v)) := by intro _; rfl) : PT X e (tB t) := by
  intro pins s σ H Q I hw
  refine isTrue_plain (thn (h pins s σ H _ I hw) fun v s1 ⟨x, H1, I1, r1, q1⟩ => ?_) (he _)
  obtain ⟨d, rfl, q⟩ := q1
  cases r1
  exact wpAny_truthy_bool ⟨H1, I1, q⟩
variable {tA tB' : TT} {rest : List Expr}
def tAnd (t u : TT) : TT := fun σ H Q => t σ H fun c H1 => if c = true then u σ H1 Q else Q false H1
def tOr (t u : TT) : TT := fun σ H Q => t σ H fun c H1 => if c = true then Q true H1 else u σ H1 Q
def tNot (t : TT) : TT := fun σ H Q => t σ H fun c H1 => Q (!c) H1
theorem pw_and1 (ha : PT X a tA) : PW X (.BoolOp .And [a] pos) tA := by
  intro wh pins s σ H Q I h
  refine isTrue_and (thn (ha pins s σ H Q I h) fun c s1 e => ?_)
  cases c with
  | true => exact isTrue_and_nil e
  | false => exact e
theorem pw_or1 (ha : PT X a tA) : PW X (.BoolOp .Or [a] pos) tA := by
  intro wh pins s σ H Q I h
  refine isTrue_or (thn (ha pins s σ H Q I h) fun c s1 e => ?_)
  cases c with
  | false => exact isTrue_or_nil e
  | true => exact e
theorem pw_and (ha : PT X a tA) (hb : PW X (.BoolOp .And (b :: rest) pos) tB') : PW X (.BoolOp .And (a :: b :: rest) pos) (tAnd tA tB') := by
  intro wh pins s σ H Q I h
  refine isTrue_and (thn (ha pins s σ H _ I h) fun c s1 ⟨H1, I1, q1⟩ => ?_)
  cases c with
  | true => exact hb wh pins s1 σ H1 Q I1 q1
  | false => exact ⟨H1, I1, q1⟩
theorem pw_or (ha : PT X a tA) (hb : PW X (.BoolOp .Or (b :: rest) pos) tB') : PW X (.BoolOp .Or (a :: b :: rest) pos) (tOr tA tB') := by
  intro wh pins s σ H Q I h
  refine isTrue_or (thn (ha pins s σ H _ I h) fun c s1 ⟨H1, I1, q1⟩ => ?_)
  cases c with
  | true => exact ⟨H1, I1, q1⟩
  | false => exact hb wh pins s1 σ H1 Q I1 q1
theorem pt_not (ha : PT X a tA) : PT X (.UnaryOp .Not a pos) (tNot tA) := by
  intro pins s σ H Q I h
  exact isTrue_not (ha pins s σ H (fun c H1 => Q (!c) H1) I h)
def tNotV (ta : TE) : TE := fun σ H Q => ta σ H fun x H1 => ∃ c, x = .bl c ∧ Q (.bl (!c)) H1
theorem pe_not (ha : PE X a ta) : PE X (.UnaryOp .Not a pos) (tNotV ta) := by
  intro pins s σ H Q I h
  refine UnaryOp_ (thn (ha pins s σ H _ I h) fun v s1 ⟨x, H1, I1, r1, q1⟩ => ?_)
  obtain ⟨c, rfl, q1⟩ := q1
  cases r1
  exact not_of (wpAny_truthy_bool ⟨.bl (!c), H1, I1, rfl, q1⟩)
end
end L2
namespace L2
open PySem PySem.Spec PyProof.Rows
def SqL (K : PySem.W.Frag) (H : Hp) (a : Addr) (xs : List V) : Prop :=
  Rd H a (.lst xs) ∨
    ∃ (o : Obj) (its : Array Value) (n : Nat), K.lookup a = some o ∧ o.cls = .type "list" ∧ o.dict = none ∧ o.data = .seq its n ∧ its.size ≤ sizeLine ∧ Vals xs its.toList
def SqT (K : PySem.W.Frag) (H : Hp) (a : Addr) (xs : List V) : Prop :=
  Rd H a (.tup xs) ∨
    ∃ (o : Obj) (its : Array Value) (n : Nat), K.lookup a = some o ∧ o.cls = .type "tuple" ∧ o.data = .seq its n ∧ its.size ≤ sizeLine ∧ Vals xs its.toList
def absV : Value → Option V
  | .none => some .non
  | .bool b => some (.bl b)
  | .int i _ => some (.int i)
  | .str x _ => some (.str x)
  | .bytes b _ => some (.byt b)
  | .float b _ => some (.flt b)
  | .ref a => some (.ref a)
  | .type n => some (.ty n)
  | _ => none
theorem RelV.abs {x : V} {u : Value} (r : RelV x u) : absV u = some x := by
  cases x with
  | non => cases r; rfl
  | bl _ => cases r; rfl
  | int _ => obtain ⟨t, rfl⟩ := r; rfl
  | str _ => obtain ⟨t, rfl⟩ := r; rfl
  | byt _ => obtain ⟨t, rfl⟩ := r; rfl
  | flt _ => obtain ⟨t, rfl⟩ := r; rfl
  | ref _ => cases r; rfl
  | ty _ => cases r; rfl
theorem RelV.inj {x y : V} {u : Value} (r : RelV x u) (q : RelV y u) : x = y := Option.some.inj (r.abs.symm.trans q.abs)
theorem Vals.inj : ∀ {xs ys : List V} {us : List Value}, Vals xs us → Vals ys us → xs = ys
  | _, _, _, .nil, .nil => rfl
  | _, _, _, .cons r t, .cons r' t' => by rw [r.inj r', Vals.inj t t']
section
variable {X : Cx} {pins : List (Addr × Obj)} {σ : St} {H : Hp} {s : Shared} {a : Addr} {xs ys : List V}
theorem SqL.of {K : PySem.W.Frag} (h : H a = some (.lst xs)) : SqL K H a xs := .inl (.inl h)
theorem SqT.of {K : PySem.W.Frag} (h : H a = some (.tup xs)) : SqT K H a xs := .inl (.inl h)
theorem Inv.list (I : Inv X pins σ H s) (h : SqL X.K H a xs) : ∃ its : List Value, Vals xs its ∧ PlainL s.heap a its.toArray ∧ xs.length ≤ sizeLine := by
  rcases h with h | ⟨o, its, n, hk, hc, hd, hs, hz, r⟩
  · obtain ⟨z, its, n, r, e⟩ := h.ok I.hok
    exact ⟨its, r, ⟨_, n, e, rfl, rfl, rfl⟩, z⟩
  · refine ⟨its.toList, r, ⟨o, n, I.kIn a o hk, hc, hd, by simpa using hs⟩, ?_⟩
    have e := r.length
    simp only [Array.length_toList] at e
    omega
theorem Inv.tuple (I : Inv X pins σ H s) (h : SqT X.K H a xs) : ∃ its : List Value, Vals xs its ∧ IsTup s.heap a its.toArray ∧ xs.length ≤ sizeLine := by
  rcases h with h | ⟨o, its, n, hk, hc, hs, hz, r⟩
  · obtain ⟨z, its, r, p⟩ := h.ok I.hok
    exact ⟨its, r, p, z⟩
  · refine ⟨its.toList, r, ⟨o, I.kIn a o hk, hc, n, by simpa using hs⟩, ?_⟩
    have e := r.length
    simp only [Array.length_toList] at e
    omega
theorem Inv.list_inj (I : Inv X pins σ H s) (h : SqL X.K H a xs) (h' : SqL X.K H a ys) : xs = ys := by
  obtain ⟨its, r, ⟨o, n, e, _, _, d⟩, _⟩ := I.list h
  obtain ⟨its', r', ⟨o', n', e', _, _, d'⟩, _⟩ := I.list h'
  rw [e] at e'; cases e'
  rw [d] at d'
  injection d' with d1 _
  have : its = its' := by simpa using congrArg Array.toList d1
  subst this
  exact r.inj r'
theorem Inv.tuple_inj (I : Inv X pins σ H s) (h : SqT X.K H a xs) (h' : SqT X.K H a ys) : xs = ys := by
  obtain ⟨its, r, ⟨o, e, _, n, d⟩, _⟩ := I.tuple h
  obtain ⟨its', r', ⟨o', e', _, n', d'⟩, _⟩ := I.tuple h'
  rw [e] at e'; cases e'
  rw [d] at d'
  injection d' with d1 _
  have : its = its' := by simpa using congrArg Array.toList d1
  subst this
  exact r.inj r'
end
abbrev Cx.wish (X : Cx) (E : Value → Shared → Prop) : Cx := { X with xe := E }
abbrev Cx.nox (X : Cx) : Cx := X.wish fun _ _ => False
theorem Cx.Ok.wish {X : Cx} (ok : X.Ok) (E : Value → Shared → Prop) : (X.wish E).Ok :=
  ⟨ok.mod, ok.kind, ok.glob, ok.blt, ok.above, ok.inj, ok.has, ok.cab, ok.hd, ok.frames, ok.stk, ok.exf, ok.bs, ok.bsz, ok.noex, ok.exfs, ok.funs, ok.frf⟩
theorem Cx.Ok.unwish {X : Cx} {E : Value → Shared → Prop} (ok : (X.wish E).Ok) : X.Ok :=
  ⟨ok.mod, ok.kind, ok.glob, ok.blt, ok.above, ok.inj, ok.has, ok.cab, ok.hd, ok.frames, ok.stk, ok.exf, ok.bs, ok.bsz, ok.noex, ok.exfs, ok.funs, ok.frf⟩
section
variable {X : Cx} {pins : List (Addr × Obj)} {σ : St} {H : Hp} {s : Shared} {E : Value → Shared → Prop}
theorem Inv.wish (I : Inv X pins σ H s) (E : Value → Shared → Prop) : Inv (X.wish E) pins σ H s := ⟨I.ok.wish E, I.os, I.bare, I.base, I.loc, I.cell, I.free, I.freeC, I.pin, I.hok, I.len⟩
theorem Inv.unwish (I : Inv (X.wish E) pins σ H s) : Inv X pins σ H s := ⟨I.ok.unwish, I.os, I.bare, I.base, I.loc, I.cell, I.free, I.freeC, I.pin, I.hok, I.len⟩
theorem SP.unwish {D : Ends} {f : Flow} {s' : Shared} (h : SP (X.wish E) pins D f s') : SP X pins D f s' := by
  cases f with
  | next => obtain ⟨σ', H', I, q⟩ := h; exact ⟨σ', H', I.unwish, q⟩
  | brk => obtain ⟨σ', H', I, q⟩ := h; exact ⟨σ', H', I.unwish, q⟩
  | cont => obtain ⟨σ', H', I, q⟩ := h; exact ⟨σ', H', I.unwish, q⟩
  | ret u => obtain ⟨v, σ', H', I, r, q⟩ := h; exact ⟨v, σ', H', I.unwish, r, q⟩
theorem PSs.nox {st : List Stmt} {t : TS} (h : PSs X.nox st t) : PSs X st t := fun pins s σ H D I hw =>
  wpAny_mono (h pins s σ H D (I.wish _) hw) (fun _ _ q => q.unwish) fun _ _ z => False.elim z
end
section
variable {X : Cx} {st : Stmt} {rest : List Stmt} {t u : TS} {e : Expr} {te : TE} {pos : Pos}
def tNext : TS := fun D σ H => D.nx σ H
def tSeq (t u : TS) : TS := fun D σ H => t { D with nx := u D } σ H
theorem pss_nil : PSs X [] tNext := fun _ _ σ H _ I h => wpAny_execs_nil ⟨σ, H, I, h⟩
theorem pss_cons (h1 : PS X st t) (h2 : PSs X rest u) : PSs X (st :: rest) (tSeq t u) := by
  intro pins s σ H D I h
  refine wpAny_execs_cons (thn (h1 pins s σ H { D with nx := u D } I h) fun f s1 q => ?_)
  cases f with
  | next =>
    obtain ⟨σ', H', I', q⟩ := q
    exact h2 pins s1 σ' H' D I' q
  | ret v => exact q
  | brk => exact q
  | cont => exact q
theorem pss_one (h1 : PS X st t) : PSs X [st] t := by
  intro pins s σ H D I h
  refine wpAny_execs_cons (thn (h1 pins s σ H D I h) fun f s1 q => ?_)
  cases f with
  | next => exact wpAny_execs_nil q
  | ret v => exact q
  | brk => exact q
  | cont => exact q
theorem Inv.quiet {pins : List (Addr × Obj)} {σ : St} {H : Hp} {s : Shared} (I : Inv X pins σ H s) : interactive X.env = false := by simp [interactive, I.ok.kind]
def tDrop (te : TE) : TS := fun D σ H => te σ H fun _ H1 => D.nx σ H1
theorem ps_expr (he : PE X e te) (hs : swapsWith e none pos.line X.env = pure false := by rfl) : PS X (.Expr e pos) (tDrop te) := by
  intro pins s σ H D I h
  exact wpAny_Expr_any (thn (he pins s σ H _ I h) fun v s1 ⟨x, H1, I1, r1, q1⟩ => ⟨σ, H1, I1, q1⟩) I.quiet hs
def tRet (te : TE) : TS := fun D σ H => te σ H D.rt
theorem ps_ret (he : PE X e te) : PS X (.Return (some e) pos) (tRet te) := by
  intro pins s σ H D I h
  exact wpAny_Return_some (thn (he pins s σ H _ I h) fun v s1 ⟨x, H1, I1, r1, q1⟩ => ⟨x, σ, H1, I1, r1, q1⟩)
def tIfS (c : TT) (t u : TS) : TS := fun D σ H => c σ H fun b H1 => if b = true then t D σ H1 else u D σ H1
theorem ps_if {c : Expr} {a b : List Stmt} {tc : TT} (hc : PT X c tc) (ha : PSs X a t) (hb : PSs X b u) : PS X (.If c a b pos) (tIfS tc t u) := by
  intro pins s σ H D I h
  refine wpAny_If (thn (hc pins s σ H _ I h) fun d s1 ⟨H1, I1, q1⟩ => ?_)
  cases d with
  | true => exact ha pins s1 σ H1 D I1 q1
  | false => exact hb pins s1 σ H1 D I1 q1
end
abbrev TG := V → St → Hp → (St → Hp → Prop) → Prop
abbrev TGs := List V → St → Hp → (St → Hp → Prop) → Prop
def PG (X : Cx) (target : Expr) (t : TG) : Prop :=
  ∀ (pins : List (Addr × Obj)) (s : Shared) (σ : St) (H : Hp) (v : V) (u : Value) (Q : St → Hp → Prop), Inv X pins σ H s → RelV v u → t v σ H Q →
    wpAny (model X.prog X.w) X.A (assign target X.env u) (fun _ s' => ∃ σ' H', Inv X pins σ' H' s' ∧ Q σ' H') X.xe s
abbrev TSet := V → V → V → Hp → (Hp → Prop) → Prop
def PSet (X : Cx) (t : TSet) : Prop :=
  ∀ (pins : List (Addr × Obj)) (s : Shared) (σ : St) (H : Hp) (o i v : V) (ov iv u : Value) (Q : Hp → Prop), Inv X pins σ H s → RelV o ov → RelV i iv → RelV v u → t o i v H Q →
    wpAny (model X.prog X.w) X.A (setItem ov iv u) (fun _ s' => ∃ H', Inv X pins σ H' s' ∧ Q H') X.xe s
section
variable {X : Cx} {pos : Pos}
def gName (i : Nat) : TG := fun v σ H Q => Q (σ.set i (some v)) H
theorem pg_name {i : Nat} {x : Str} (hN : X.N.Nodup) (hi : X.N[i]? = some x) (hx : Loc X.env.scope x) (hf : X.fn x = true ∨ X.env.scope.names.lookup x = some .local := by first | exact .inl rfl | exact .inr rfl | assumption) : PG X (.Name x pos) (gName i) := by
  intro pins s σ H v u Q I r h
  exact wpAny_assign_Name (store_ok I hN hi hx r (fun s' I' => ⟨_, H, I', h⟩) hf)
def gNil : TGs := fun vs σ H Q => vs = [] ∧ Q σ H
def gCons (t : TG) (u : TGs) : TGs := fun vs σ H Q => ∃ v r, vs = v :: r ∧ t v σ H fun σ' H' => u r σ' H' Q
def gSub (to ti : TE) (t : TSet) : TG := fun v σ H Q => to σ H fun o H1 => ti σ H1 fun i H2 => t o i v H2 fun H3 => Q σ H3
theorem pg_sub {o i : Expr} {to ti : TE} {t : TSet} (ho : PE X o to) (hi : PE X i ti) (hs : PSet X t)
    (ha : ∀ v, assign (.Subscript o i pos) X.env v = (do
      let ov ← holding [v] (eval o X.env)
      let iv ← holding [v, ov] (eval i X.env)
      standAt pos
      holding [v, ov, iv] (setItem ov iv v)
      release [v, ov, iv] []) := by intro _; rfl) : PG X (.Subscript o i pos) (gSub to ti t) := by
  intro pins s σ H v u Q I r h
  rw [ha]
  refine wpAny_bind (wpAny_holding (thn (ho pins s σ H _ I h) fun ov s1 ⟨x, H1, I1, r1, q1⟩ => ?_))
  refine wpAny_bind (wpAny_holding (thn (hi pins s1 σ H1 _ I1 q1) fun iv s2 ⟨y, H2, I2, r2, q2⟩ => ?_))
  refine wpAny_bind (wpAny_standAt (wpAny_bind (wpAny_holding (thn (hs pins s2 σ H2 x y v ov iv u _ I2 r1 r2 r q2) fun _ s3 ⟨H3, I3, q3⟩ => ?_))))
  exact wpAny_release ⟨σ, H3, I3, q3⟩
def tAsg (te : TE) (g : TG) : TS := fun D σ H => te σ H fun x H1 => g x σ H1 D.nx
theorem ps_asg {tg e : Expr} {te : TE} {g : TG} (he : PE X e te) (hg : PG X tg g) (hs : swapsWithSole [tg] e pos.line X.env = pure false := by rfl) (hw : swappedStores [tg] e X.env = pure none := by rfl)
    (h1 : (assignEach [tg] X.env).map (·.2) = [assign tg X.env] := by rfl) : PS X (.Assign [tg] e pos) (tAsg te g) := by
  intro pins s σ H D I h
  refine wpAny_Assign_stores (thn (he pins s σ H _ I h) fun v s1 ⟨x, H1, I1, r1, q1⟩ => ?_) hs hw
  rw [h1]
  exact thn (hg pins s1 σ H1 x v _ I1 r1 q1) fun _ s2 q => q
theorem ps_set {i : Nat} {x : Str} {e : Expr} {te : TE} {pos' : Pos} (hN : X.N.Nodup) (hi : X.N[i]? = some x) (hx : Loc X.env.scope x) (he : PE X e te) (hs : swapsWith e (some (.Name x pos')) pos.line X.env = pure false := by rfl) (hf : X.fn x = true ∨ X.env.scope.names.lookup x = some .local := by first | exact .inl rfl | exact .inr rfl | assumption) :
    PS X (.Assign [.Name x pos'] e pos) (tAsg te (gName i)) := by
  intro pins s σ H D I h
  refine wpAny_Assign_Name (thn (he pins s σ H _ I h) fun v s1 ⟨y, H1, I1, r1, q1⟩ => ?_) hs
  exact store_ok I1 hN hi hx r1 (fun s2 I2 => ⟨_, H1, I2, q1⟩) hf
end
section
variable {X : Cx} {pos : Pos}
end
structure It where
  go : Nat → Hp → Prop
  yld : Nat → Hp → V → Hp → Prop
  stop : Nat → Hp → Prop
def FpOk (X : Cx) (pins : List (Addr × Obj)) (H : Hp) (b : Addr) : Prop :=
  H b = none ∧ b ≠ X.env.locals ∧ b ∉ X.fs ∧ (b ∈ X.ex ∨ X.s₀.heap.objs.size ≤ b) ∧ (∀ x c, X.env.cells.lookup x = some c → c ≠ b) ∧ ∀ p ∈ X.pn ++ pins, p.1 ≠ b
theorem Inv.fpOk {X : Cx} {pins : List (Addr × Obj)} {σ : St} {H H' : Hp} {s : Shared} {b : Addr} (I : Inv X pins σ H s) (hb : s.heap.objs.size ≤ b) (hn : H' b = none) : FpOk X pins H' b := by
  refine ⟨hn, Nat.ne_of_gt (Nat.lt_of_lt_of_le I.lt hb), I.nofs hb, .inr (Nat.le_trans I.sz hb), fun x c e z => ?_, fun p hp z => ?_⟩
  · obtain ⟨v, q⟩ := I.cell x c e
    exact absurd (Nat.lt_of_lt_of_le q.lt (by rw [z]; exact hb)) (Nat.lt_irrefl _)
  · exact absurd (Nat.lt_of_lt_of_le (Heap.lt_size (I.pin p hp).1) (by rw [z]; exact hb)) (Nat.lt_irrefl _)
structure Turn (P : Program) (w : World) (K : PySem.W.Frag) (tg : Expr) (J : It) (fp : List Addr) (it : Addr) (tn : Nat → Heap → Prop) : Prop where
  mem : it ∈ fp
  obj : ∀ i h, tn i h → ∀ b ∈ fp, ∃ o, h.get? b = some o ∧ ∀ v, o.data ≠ .cell v
  keep : ∀ i h h', tn i h → (∀ b ∈ fp, ∀ o, h.get? b = some o → h'.get? b = some o) → tn i h'
  item : ∀ (X : Cx), X.prog = P → X.w = w → X.K = K → X.calm = true → ∀ (i : Nat) (pins : List (Addr × Obj)) (s : Shared) (σ : St) (H : Hp) (E : Value → Shared → Prop), Inv X pins σ H s → (∀ b ∈ fp, FpOk X pins H b) → tn i s.heap → J.go i H →
    wpAny (model P w) X.A (pyNext (.ref it)) (fun r s1 => ∃ u, r = some u ∧
      wpAny (model P w) X.A (letOwnedTupleGo tg (.ref it) u) (fun _ s2 => ∃ x H', Inv X pins σ H' s2 ∧ RelV x u ∧ J.yld i H x H' ∧ tn (i + 1) s2.heap ∧ ∀ b ∈ fp, H' b = none) E s1) E s
  done : ∀ (X : Cx), X.prog = P → X.w = w → X.K = K → X.calm = true → ∀ (i : Nat) (pins : List (Addr × Obj)) (s : Shared) (σ : St) (H : Hp) (E : Value → Shared → Prop), Inv X pins σ H s → (∀ b ∈ fp, FpOk X pins H b) → tn i s.heap → J.stop i H →
    wpAny (model P w) X.A (pyNext (.ref it)) (fun r s1 => r = none ∧ Inv X pins σ H s1) E s
  self : ∀ (A : Around) (i : Nat) (s : Shared) (Q : Value → Shared → Prop) (E : Value → Shared → Prop), tn i s.heap → Q (.ref it) s → wpAny (model P w) A (pyIter (.ref it)) Q E s
abbrev TI := St → Hp → (It → Hp → Prop) → Prop
def PIE (X : Cx) (pins : List (Addr × Obj)) (σ : St) (tg : Expr) (R : It → Hp → Prop) (itv : Value) (s2 : Shared) : Prop :=
  ∃ (it : Addr) (fp : List Addr) (tn : Nat → Heap → Prop) (J : It) (H' : Hp), itv = .ref it ∧ Inv X pins σ H' s2 ∧ Turn X.prog X.w X.K tg J fp it tn ∧ tn 0 s2.heap ∧ (∀ b ∈ fp, FpOk X pins H' b) ∧ R J H'
def PI (X : Cx) (tg iter : Expr) (wi : TI) : Prop :=
  ∀ (pins : List (Addr × Obj)) (s : Shared) (σ : St) (H : Hp) (R : It → Hp → Prop), Inv X pins σ H s → wi σ H R →
    wpAny (model X.prog X.w) X.A (eval iter X.env) (fun v s1 => wpAny (model X.prog X.w) X.A (pyIter v) (PIE X pins σ tg R) X.xe s1) X.xe s
theorem go_of {M : Model} {A : Around} {E : Value → Shared → Prop} {s : Shared} {tg : Expr} {it : Addr} {u : Value} {o : Obj} {n : String} {vs : Array Value} {Q : Unit → Shared → Prop} (ho : s.heap.get? it = some o) (hc : o.cls = .type n) (hd : o.data = .fields vs)
    (hn : ["enumerate", "zip", "dict_itemiterator", "dict_reverseitemiterator", "odict_iterator", "itertools.zip_longest", "itertools.pairwise"].contains n = false) (hQ : Q () s) : wpAny M A (letOwnedTupleGo tg (.ref it) u) Q E s := by
  unfold letOwnedTupleGo
  cases tg <;> first
    | exact wpAny_pure hQ
    | (cases u <;> first
        | exact wpAny_pure hQ
        | (refine wpAny_bind (wpAny_load ho ?_)
           rw [hc, hd]
           show wpAny M A (if (["enumerate", "zip", "dict_itemiterator", "dict_reverseitemiterator", "odict_iterator", "itertools.zip_longest", "itertools.pairwise"].contains n && vs[0]? == some (rawInt _)) = true then _ else _) Q E s
           rw [if_neg (by intro h; rw [hn, Bool.false_and] at h; cases h)]
           exact wpAny_pure hQ))
def Itl (K : PySem.W.Frag) (a : Addr) : It :=
  ⟨fun i H => ∃ xs x, SqL K H a xs ∧ xs[i]? = some x, fun i H x H' => H' = H ∧ ∀ xs, SqL K H a xs → xs[i]? = some x, fun i H => ∃ xs, SqL K H a xs ∧ xs.length ≤ i⟩
def Itr (lo : Int) (n : Nat) : It := ⟨fun i _ => i < n, fun i H x H' => H' = H ∧ x = .int (lo + i), fun i _ => n ≤ i⟩
theorem turn_list {P : Program} {w : World} {K : PySem.W.Frag} {tg : Expr} (a it : Addr) : Turn P w K tg (Itl K a) [it] it (fun i h => h.IsListIter it a i) where
  mem := by simp
  obj := fun i h st b hb => by
    have e : b = it := by simpa using hb
    subst e
    obtain ⟨o, e, c, d⟩ := st
    exact ⟨o, e, fun v z => by rw [d] at z; cases z⟩
  keep := fun i h h' st k => st.at fun o e => k it (by simp) o e
  item := by
    intro X hP hw hK hc i pins s σ H E I hf st hg
    subst hP hw hK
    obtain ⟨xs, x, hq, hx⟩ := hg
    obtain ⟨its, rv, p, hz⟩ := I.list hq
    obtain ⟨u, hu, ru⟩ := rv.get hx
    obtain ⟨f0, f1, f2, f3, f4, f5⟩ := hf it (by simp)
    refine wpAny_pyNext_list_item st p.isList (x := u) (by simpa using hu) fun h' st' sb => ?_
    have I1 : Inv X pins σ H { s with heap := h' } := I.turned (t' := s.toks) (fun b o hb e => (sb.2 b hb).trans e) f0 f1 f3 f4 f5
    obtain ⟨o, e, c, d⟩ := id st'
    exact ⟨u, rfl, go_of (s := { s with heap := h' }) e c d (by decide) ⟨x, H, I1, ru, ⟨rfl, fun ys hy => by rw [I.list_inj hy hq]; exact hx⟩, st', fun b hb => (hf b hb).1⟩⟩
  done := by
    intro X hP hw hK hc i pins s σ H E I hf st hg
    subst hP hw hK
    obtain ⟨xs, hq, hx⟩ := hg
    obtain ⟨its, rv, p, hz⟩ := I.list hq
    obtain ⟨f0, f1, f2, f3, f4, f5⟩ := hf it (by simp)
    have hl := rv.length
    exact wpAny_pyNext_list_end (I.ok.hd hc) st p.isList (by simp; omega) fun h' eb => ⟨rfl, I.turned (t' := s.toks) (fun b o hb e => eb b o hb e) f0 f1 f3 f4 f5⟩
  self := fun _ _ _ _ _ st h => wpAny_pyIter_listiter st h
theorem turn_range {P : Program} {w : World} {K : PySem.W.Frag} {tg : Expr} (it : Addr) (lo : Int) (n : Nat) : Turn P w K tg (Itr lo n) [it] it (fun i h => IsRangeIter h it (lo + (i : Nat) * 1) ((n : Int) - (i : Nat)) 1) where
  mem := by simp
  obj := fun i h st b hb => by
    have e : b = it := by simpa using hb
    subst e
    exact ⟨_, st, fun v z => by
      have z' : Data.fields _ = Data.cell v := z
      cases z'⟩
  keep := fun i h h' st k => k it (by simp) _ st
  item := by
    intro X hP hw hK hc i pins s σ H E I hf st hg
    subst hP hw hK
    obtain ⟨f0, f1, f2, f3, f4, f5⟩ := hf it (by simp)
    have W := Walks.range (prog := X.prog) (w := X.w) (I.ok.hd hc) it lo 1 n
    refine W.item i s _ _ hg st fun v h' tk hv st' kk => ?_
    obtain ⟨t, rfl⟩ := hv
    have I1 : Inv X pins σ H { s with heap := h', toks := tk } := I.turned (fun b o hb e => kk b o (by simpa using hb) e) f0 f1 f3 f4 f5
    refine ⟨_, rfl, go_of (s := { s with heap := h', toks := tk }) (n := "range_iterator") st' rfl rfl (by decide) ⟨.int (lo + i), H, I1, ⟨t, ?_⟩, ⟨rfl, rfl⟩, st', fun b hb => (hf b hb).1⟩⟩
    rw [Int.mul_one]
  done := by
    intro X hP hw hK hc i pins s σ H E I hf st hg
    subst hP hw hK
    obtain ⟨f0, f1, f2, f3, f4, f5⟩ := hf it (by simp)
    exact wpAny_pyNext_range_end (I.ok.hd hc) st (by have : n ≤ i := hg; omega) fun h' eb => ⟨rfl, I.turned (t' := s.toks) (fun b o hb e => eb b o hb e) f0 f1 f3 f4 f5⟩
  self := fun _ _ _ _ _ st h => wpAny_pyIter_rangeiter st h
end L2
namespace L2
open PySem PySem.Spec PyProof.Rows
section
variable {X : Cx} {tg : Expr}
def iList (K : PySem.W.Frag) (tl : TE) : TI := fun σ H R => tl σ H fun x H1 => ∃ a, x = .ref a ∧ (∃ xs, SqL K H1 a xs) ∧ R (Itl K a) H1
theorem pi_list {l : Expr} {tl : TE} (hl : PE X l tl) : PI X tg l (iList X.K tl) := by
  intro pins s σ H R I h
  refine thn (hl pins s σ H _ I h) fun v s1 ⟨x, H1, I1, r1, q1⟩ => ?_
  obtain ⟨a, e, ⟨xs, hq⟩, q⟩ := q1
  subst e
  cases r1
  obtain ⟨its, rv, p, hz⟩ := I1.list hq
  refine wpAny_pyIter_list p.isList ?_
  refine ⟨s1.heap.objs.size, [s1.heap.objs.size], _, _, H1, rfl, I1.kept (t' := s1.toks) fun b o e => Heap.get?_push_of_some _ e, turn_list a _, ⟨_, Heap.get?_push_size _ rfl, rfl, rfl⟩, fun b hb => ?_, q⟩
  have e : b = s1.heap.objs.size := by simpa using hb
  subst e
  exact I1.fpOk (Nat.le_refl _) (I1.hok.fresh (Nat.le_refl _))
theorem range_it {pins : List (Addr × Obj)} {σ : St} {H : Hp} {s : Shared} {R : It → Hp → Prop} {E : Value → Shared → Prop} {lo hi : Int} {t u v : Tok} {tk : Nat} (I : Inv X pins σ H s) (h1 : -(2 ^ 62) ≤ lo) (h2 : lo < 2 ^ 62) (h3 : -(2 ^ 62) ≤ hi) (h4 : hi < 2 ^ 62)
    (q : R (Itr lo (hi - lo).toNat) H) : wpAny (model X.prog X.w) X.A (pyIter (.ref s.heap.objs.size)) (PIE X pins σ tg R) E { s with heap := s.heap.push { cls := .type "range", data := .fields #[.int lo t, .int hi u, .int 1 v] }, toks := tk } := by
  refine wpAny_pyIter_range (IsRange.new ..) (small_one h1 h2 h3 h4) ?_
  have I1 : Inv X pins σ H { s with heap := s.heap.push { cls := .type "range", data := .fields #[.int lo t, .int hi u, .int 1 v] }, toks := tk } := I.kept fun b o e => Heap.get?_push_of_some _ e
  refine ⟨(s.heap.push { cls := .type "range", data := .fields #[.int lo t, .int hi u, .int 1 v] }).objs.size, [(s.heap.push { cls := .type "range", data := .fields #[.int lo t, .int hi u, .int 1 v] }).objs.size], _, _, H, rfl,
    I1.kept (t' := tk) fun b o e => Heap.get?_push_of_some _ e, turn_range _ lo (hi - lo).toNat, ?_, fun b hb => ?_, q⟩
  · have e1 : lo + ((0 : Nat) : Int) * 1 = lo := by simp
    have e2 : (((hi - lo).toNat : Nat) : Int) - ((0 : Nat) : Int) = Builtin.Range.rangeSize lo hi 1 := by rw [rangeSize_one]; split <;> omega
    show IsRangeIter _ _ (lo + ((0 : Nat) : Int) * 1) ((((hi - lo).toNat : Nat) : Int) - ((0 : Nat) : Int)) 1
    rw [e1, e2]
    exact Heap.get?_push_size _ rfl
  · have e : b = (s.heap.push { cls := .type "range", data := .fields #[.int lo t, .int hi u, .int 1 v] }).objs.size := by simpa using hb
    subst e
    exact I1.fpOk (Nat.le_refl _) (I1.hok.fresh (Nat.le_refl _))
def iRng1 (ta : TA) : TI := fun σ H R => ta σ H fun vs H1 => ∃ j : Int, vs = [.int j] ∧ -(2 ^ 62) ≤ j ∧ j < 2 ^ 62 ∧ R (Itr 0 j.toNat) H1
theorem pi_range1 {a : Expr} {ta : TA} {p pos : Pos} (hg : Gl X "range") (hm : X.mg "range" = none) (ha : PA X [a] ta) (hs : starEach [a] X.env = [(false, eval a X.env)] := by rfl) : PI X tg (.Call (.Name "range" p) [a] [] pos) (iRng1 ta) := by
  intro pins s σ H R I h
  refine Call_ (ld_blt I hg hm boot_range (PyProof.Rows.callWith_type1 (thn (ha pos pins s σ H _ I h) fun us s1 ⟨vs, H1, I1, r1, q1⟩ => ?_) hs rfl))
  obtain ⟨j, e, q1, q2, q⟩ := q1
  subst e
  cases r1 with
  | cons r rr =>
    cases rr
    obtain ⟨t, rfl⟩ := r
    exact call_range_1 (range_it I1 (by omega) (by omega) q1 q2 (by simpa using q))
def tFor (wi : TI) (g : TG) (tb : TS) : TS := fun D σ H => wi σ H fun J H1 => ∃ W : Nat → Nat → St → Hp → Prop, (∃ m, W 0 m σ H1) ∧ ∀ i m σ H, W i m σ H →
  (J.stop i H ∧ D.nx σ H) ∨ (J.go i H ∧ ∃ N : St → Hp → Prop, (∀ σ' H', N σ' H' → ∃ m', m' < m ∧ W (i + 1) m' σ' H') ∧ ∀ x H', J.yld i H x H' → g x σ H' fun σ2 H2 => tb { D with nx := N, ct := N, bk := D.nx } σ2 H2)
def pinsAt (fp : List Addr) (h : Heap) : List (Addr × Obj) := fp.filterMap fun b => (h.get? b).map fun o => (b, o)
theorem mem_pinsAt {fp : List Addr} {h : Heap} {b : Addr} {o : Obj} (hb : b ∈ fp) (e : h.get? b = some o) : (b, o) ∈ pinsAt fp h := List.mem_filterMap.mpr ⟨b, hb, by rw [e]; rfl⟩
theorem of_pinsAt {fp : List Addr} {h : Heap} {p : Addr × Obj} (hp : p ∈ pinsAt fp h) : p.1 ∈ fp ∧ h.get? p.1 = some p.2 := by
  obtain ⟨b, hb, e⟩ := List.mem_filterMap.mp hp
  cases q : h.get? b with
  | none => rw [q] at e; cases e
  | some o =>
    rw [q] at e
    have e' : (b, o) = p := Option.some.inj e
    subst e'
    exact ⟨hb, q⟩
theorem Inv.pinned {pins : List (Addr × Obj)} {σ : St} {H : Hp} {s : Shared} {fp : List Addr} (I : Inv X pins σ H s) (hf : ∀ b ∈ fp, FpOk X pins H b) (ho : ∀ b ∈ fp, ∃ o, s.heap.get? b = some o ∧ ∀ v, o.data ≠ .cell v) : Inv X (pins ++ pinsAt fp s.heap) σ H s :=
  I.pins_of fun p hp => (List.mem_append.mp hp).elim (fun z => I.pin p (List.mem_append_right _ z)) fun z => by
    obtain ⟨hb, e⟩ := of_pinsAt z
    obtain ⟨f0, f1, f2, _⟩ := hf p.1 hb
    obtain ⟨o, e', d⟩ := ho p.1 hb
    rw [e] at e'; cases e'
    exact ⟨e, f0, f1, f2, d⟩
theorem Inv.unpinned {pins pl : List (Addr × Obj)} {σ : St} {H : Hp} {s : Shared} (I : Inv X (pins ++ pl) σ H s) : Inv X pins σ H s := I.pins_of fun p hp => I.pin p (List.mem_append_right _ (List.mem_append_left _ hp))
theorem ps_for {iter : Expr} {body : List Stmt} {wi : TI} {g : TG} {tb : TS} {pos : Pos} (hp : PassesOwn (model X.prog X.w) X.A X.env X.xe) (hc : X.calm = true) (hi : PI X tg iter wi) (hg : PG X tg g) (hb : PSs X body tb)
    (hs : ∀ x, foldedSetIterable iter X.env x = pure x := by intro _; rfl) : PS X (.For tg iter body [] pos) (tFor wi g tb) := by
  intro pins s σ H D I h
  refine wpAny_For (thn (hi pins s σ H _ I h) fun v s1 h1 => thn h1 fun itv s2 h2 => ?_) hs
  obtain ⟨it, fp, tn, J, H2, e, I2, T, st2, f2, W, ⟨m0, w0⟩, turn⟩ := h2
  subst e
  have stat : ∀ {H' : Hp}, (∀ b ∈ fp, H' b = none) → ∀ b ∈ fp, FpOk X pins H' b := fun hn b hb => ⟨hn b hb, (f2 b hb).2⟩
  refine codeAny_forLoop_any (fun n s' => ∃ i σ' H', Inv X pins σ' H' s' ∧ tn i s'.heap ∧ (∀ b ∈ fp, H' b = none) ∧ W i n σ' H') ?_ m0 ⟨0, σ, H2, I2, st2, fun b hb => (f2 b hb).1, w0⟩
  rintro n s3 ⟨i, σ3, H3, I3, st3, fr3, w3⟩
  rcases turn i n σ3 H3 w3 with ⟨stop, qn⟩ | ⟨go, N, hN, step⟩
  · refine wpAny_passesOwn hp (thn (T.done X rfl rfl rfl hc i pins s3 σ3 H3 X.xe I3 (stat fr3) st3 stop) fun r s4 ⟨hr, I4⟩ => ?_)
    subst hr
    exact wpAny_execs_nil ⟨σ3, H3, I4, qn⟩
  · refine wpAny_passesOwn hp (thn (T.item X rfl rfl rfl hc i pins s3 σ3 H3 X.xe I3 (stat fr3) st3 go) fun r s4 ⟨u, hr, h4⟩ => ?_)
    subst hr
    refine wpAny_passesOwn hp (thn h4 fun _ s5 ⟨x, H5, I5, r5, y5, st5, fr5⟩ => ?_)
    have I5' := I5.pinned (stat fr5) (T.obj _ _ st5)
    refine wpAny_passesOwn hp (thn (hg _ s5 σ3 H5 x u _ I5' r5 (step x H5 y5)) fun _ s6 ⟨σ6, H6, I6, q6⟩ => ?_)
    refine wpAny_passesOwn hp (thn (hb _ s6 σ6 H6 _ I6 q6) fun f s7 q7 => ?_)
    have again : ∀ {σ7 : St} {H7 : Hp}, Inv X (pins ++ pinsAt fp s5.heap) σ7 H7 s7 → N σ7 H7 → ∃ m, m < n ∧ ∃ i σ' H', Inv X pins σ' H' s7 ∧ tn i s7.heap ∧ (∀ b ∈ fp, H' b = none) ∧ W i m σ' H' := fun {σ7 H7} I7 n7 => by
      obtain ⟨m', hm, w7⟩ := hN σ7 H7 n7
      refine ⟨m', hm, i + 1, σ7, H7, I7.unpinned, T.keep _ _ _ st5 fun b hb o e => (I7.pin (b, o) (List.mem_append_right _ (List.mem_append_right _ (mem_pinsAt hb e)))).1, fun b hb => ?_, w7⟩
      obtain ⟨o, e, d⟩ := T.obj _ _ st5 b hb
      exact (I7.pin (b, o) (List.mem_append_right _ (List.mem_append_right _ (mem_pinsAt hb e)))).2.1
    cases f with
    | next => obtain ⟨σ7, H7, I7, n7⟩ := q7; exact again I7 n7
    | cont => obtain ⟨σ7, H7, I7, n7⟩ := q7; exact again I7 n7
    | brk => obtain ⟨σ7, H7, I7, q7⟩ := q7; exact ⟨σ7, H7, I7.unpinned, q7⟩
    | ret v => obtain ⟨x7, σ7, H7, I7, r7, q7⟩ := q7; exact ⟨x7, σ7, H7, I7.unpinned, r7, q7⟩
end
end L2
namespace L2
open PySem PySem.Spec PyProof.Rows
abbrev R2 := V → V → Hp → VK → Prop
def OpR (X : Cx) (f : Value → Value → Sem Value) (r : R2) : Prop :=
  ∀ (pins : List (Addr × Obj)) (s : Shared) (σ : St) (H : Hp) (x y : V) (v u : Value) (Q : VK), Inv X pins σ H s → RelV x v → RelV y u → r x y H Q →
    wpAny (model X.prog X.w) X.A (f v u) (EP X pins σ Q) X.xe s
def UnR (X : Cx) (f : Value → Sem Value) (r : V → Hp → VK → Prop) : Prop :=
  ∀ (pins : List (Addr × Obj)) (s : Shared) (σ : St) (H : Hp) (x : V) (v : Value) (Q : VK), Inv X pins σ H s → RelV x v → r x H Q →
    wpAny (model X.prog X.w) X.A (f v) (EP X pins σ Q) X.xe s
def CallR (X : Cx) (f : Value) (r : List V → Hp → VK → Prop) : Prop :=
  ∀ (pins : List (Addr × Obj)) (s : Shared) (σ : St) (H : Hp) (xs : List V) (us : List Value) (Q : VK), Inv X pins σ H s → Vals xs us → r xs H Q →
    wpAny (model X.prog X.w) X.A (call f us) (EP X pins σ Q) X.xe s
def tOp (r : R2) (ta tb : TE) : TE := fun σ H Q => ta σ H fun x H1 => tb σ H1 fun y H2 => r x y H2 Q
def tUn (r : V → Hp → VK → Prop) (ta : TE) : TE := fun σ H Q => ta σ H fun x H1 => r x H1 Q
def rI (C : Int → Int → Prop) (g : Int → Int → V) : R2 := fun x y H Q => ∃ i j, x = .int i ∧ y = .int j ∧ C i j ∧ Q (g i j) H
def rI0 (g : Int → Int → V) : R2 := fun x y H Q => ∃ i j, x = .int i ∧ y = .int j ∧ Q (g i j) H
def rU (g : Int → V) : V → Hp → VK → Prop := fun x H Q => ∃ i, x = .int i ∧ Q (g i) H
section
variable {X : Cx} {a b c : Expr} {ta tb tc : TE} {pos : Pos}
theorem binT (ha : PE X a ta) (hb : PE X b tb) {pins : List (Addr × Obj)} {s : Shared} {σ : St} {H : Hp} {R : V → V → Hp → Prop} (I : Inv X pins σ H s)
    (h : ta σ H fun x H1 => tb σ H1 fun y H2 => R x y H2) {Q : Value → Shared → Prop} {f : Value → Value → Sem Value}
    (hf : ∀ v u s2 x y H2, Inv X pins σ H2 s2 → RelV x v → RelV y u → R x y H2 → wpAny (model X.prog X.w) X.A (f v u) Q X.xe s2) :
    wpAny (model X.prog X.w) X.A (eval a X.env) (fun v s₁ => wpAny (model X.prog X.w) X.A (eval b X.env) (fun u s₂ => wpAny (model X.prog X.w) X.A (f v u) Q X.xe s₂) X.xe s₁) X.xe s := by
  refine thn (ha pins s σ H _ I h) fun v s1 ⟨x, H1, I1, r1, q1⟩ => ?_
  refine thn (hb pins s1 σ H1 _ I1 q1) fun u s2 ⟨y, H2, I2, r2, q2⟩ => ?_
  exact hf v u s2 x y H2 I2 r1 r2 q2
theorem pe_op {op : Operator} {r : R2} (ho : OpR X (binaryOp op) r) (ha : PE X a ta) (hb : PE X b tb) : PE X (.BinOp a op b pos) (tOp r ta tb) := by
  intro pins s σ H Q I h
  exact wpAny_BinOp (binT ha hb I h fun v u s2 x y H2 I2 rx ry q => ho pins s2 σ H2 x y v u Q I2 rx ry q)
theorem pe_un {op : UnaryOp} {r : V → Hp → VK → Prop} (ho : UnR X (unaryOp op) r) (ha : PE X a ta) : PE X (.UnaryOp op a pos) (tUn r ta) := by
  intro pins s σ H Q I h
  exact UnaryOp_ (thn (ha pins s σ H _ I h) fun v s1 ⟨x, H1, I1, r1, q1⟩ => ho pins s1 σ H1 x v Q I1 r1 q1)
theorem opI {f : Value → Value → Sem Value} {C : Int → Int → Prop} {g : Int → Int → Int}
    (rule : ∀ (i j : Int) (t u : Tok) (s : Shared) (Q : Value → Shared → Prop) (E : Value → Shared → Prop), C i j → Q (.int (g i j) s.toks) { s with toks := s.toks + 1 } → wpAny (model X.prog X.w) X.A (f (.int i t) (.int j u)) Q E s) :
    OpR X f (rI C fun i j => .int (g i j)) := by
  intro pins s σ H x y v u Q I rx ry h
  obtain ⟨i, j, rfl, rfl, hc, q⟩ := h
  obtain ⟨t, rfl⟩ := rx
  obtain ⟨t', rfl⟩ := ry
  exact rule i j t t' s _ _ hc ⟨.int (g i j), H, I.tok _, ⟨_, rfl⟩, q⟩
theorem opI0 {f : Value → Value → Sem Value} {g : Int → Int → Int}
    (rule : ∀ (i j : Int) (t u : Tok) (s : Shared) (Q : Value → Shared → Prop) (E : Value → Shared → Prop), Q (.int (g i j) s.toks) { s with toks := s.toks + 1 } → wpAny (model X.prog X.w) X.A (f (.int i t) (.int j u)) Q E s) :
    OpR X f (rI0 fun i j => .int (g i j)) := by
  intro pins s σ H x y v u Q I rx ry h
  obtain ⟨i, j, rfl, rfl, q⟩ := h
  obtain ⟨t, rfl⟩ := rx
  obtain ⟨t', rfl⟩ := ry
  exact rule i j t t' s _ _ ⟨.int (g i j), H, I.tok _, ⟨_, rfl⟩, q⟩
theorem opB0 {f : Value → Value → Sem Value} {g : Int → Int → Bool}
    (rule : ∀ (i j : Int) (t u : Tok) (s : Shared) (Q : Value → Shared → Prop) (E : Value → Shared → Prop), Q (.bool (g i j)) s → wpAny (model X.prog X.w) X.A (f (.int i t) (.int j u)) Q E s) :
    OpR X f (rI0 fun i j => .bl (g i j)) := by
  intro pins s σ H x y v u Q I rx ry h
  obtain ⟨i, j, rfl, rfl, q⟩ := h
  obtain ⟨t, rfl⟩ := rx
  obtain ⟨t', rfl⟩ := ry
  exact rule i j t t' s _ _ ⟨.bl (g i j), H, I, rfl, q⟩
def CDiv (i j : Int) : Prop := 0 < j ∧ j < 1073741824
def CPow (i j : Int) : Prop := 0 ≤ j ∧ j ≤ 1000000 ∧ i.natAbs < 2 ^ 64
def CMul (i j : Int) : Prop := (-(2 ^ 64) < i ∧ i < 2 ^ 64) ∨ (-(2 ^ 64) < j ∧ j < 2 ^ 64)
theorem CMul.ok {i j : Int} (h : CMul i j) : IntMulOk i j := by
  rcases h with ⟨h1, h2⟩ | ⟨h1, h2⟩
  · exact .of_left (intBits_le_64 h1 h2)
  · exact .of_right (intBits_le_64 h1 h2)
theorem op_add : OpR X (binaryOp .Add) (rI0 fun i j => .int (i + j)) := opI0 fun _ _ _ _ _ _ _ q => add_int q
theorem op_sub : OpR X (binaryOp .Sub) (rI0 fun i j => .int (i - j)) := opI0 fun _ _ _ _ _ _ _ q => sub_int q
theorem op_mul : OpR X (binaryOp .Mult) (rI CMul fun i j => .int (i * j)) := opI fun _ _ _ _ _ _ _ hc q => mul_int q hc.ok
theorem op_fdiv : OpR X (binaryOp .FloorDiv) (rI CDiv fun i j => .int (i / j)) := opI fun i j _ _ _ _ _ hc q => by
  have h1 : (0 : Int) < j := hc.1
  have h2 : j < 1073741824 := hc.2
  exact floordiv_int (by omega) (by rw [Int.fdiv_eq_ediv_of_nonneg i (by omega)]; exact q) (.inl (PyProof.noPylong_small (by omega)))
theorem op_mod : OpR X (binaryOp .Mod) (rI (fun _ j => 0 < j) fun i j => .int (i % j)) := opI fun i j _ _ _ _ _ hc q => by
  have h1 : (0 : Int) < j := hc
  exact mod_int' (by omega) (by rw [Int.fmod_eq_emod_of_nonneg i (by omega)]; exact q)
theorem op_pow : OpR X (binaryOp .Pow) (rI CPow fun i j => .int (i ^ j.toNat)) := opI fun _ _ _ _ _ _ _ hc q => pow_int_small hc.1 hc.2.1 hc.2.2 q
theorem unI {f : Value → Sem Value} {g : Int → Int}
    (rule : ∀ (i : Int) (t : Tok) (s : Shared) (Q : Value → Shared → Prop) (E : Value → Shared → Prop), Q (.int (g i) s.toks) { s with toks := s.toks + 1 } → wpAny (model X.prog X.w) X.A (f (.int i t)) Q E s) :
    UnR X f (rU fun i => .int (g i)) := by
  intro pins s σ H x v Q I rx h
  obtain ⟨i, rfl, q⟩ := h
  obtain ⟨t, rfl⟩ := rx
  exact rule i t s _ _ ⟨.int (g i), H, I.tok _, ⟨_, rfl⟩, q⟩
theorem un_neg : UnR X (unaryOp .USub) (rU fun i => .int (-i)) := unI fun _ _ _ _ _ q => neg_int q
end
def scal : V → V → Bool
  | .non, .non => true | .non, .int _ => true | .int _, .non => true | .non, .bl _ => true | .bl _, .non => true | .non, .str _ => true | .str _, .non => true
  | .int _, .int _ => true | .bl _, .bl _ => true | .str _, .str _ => true | .byt _, .byt _ => true
  | .int _, .str _ => true | .str _, .int _ => true | .bl _, .str _ => true | .str _, .bl _ => true
  | _, _ => false
def rEq : R2 := fun x y H Q => scal x y = true ∧ Q (.bl (decide (x = y))) H
def rNe : R2 := fun x y H Q => scal x y = true ∧ Q (.bl (!decide (x = y))) H
theorem dec_int {i j : Int} : decide (V.int i = V.int j) = (i == j) := by
  rw [Bool.eq_iff_iff]
  simp
theorem dec_bl {i j : Bool} : decide (V.bl i = V.bl j) = (i == j) := by
  rw [Bool.eq_iff_iff]
  simp
theorem dec_str {i j : Str} : decide (V.str i = V.str j) = (i == j) := by
  rw [Bool.eq_iff_iff]
  simp
theorem dec_byt {i j : Array UInt8} : decide (V.byt i = V.byt j) = (i.toList == j.toList) := by
  rw [Bool.eq_iff_iff]
  cases i
  cases j
  simp
section
variable {X : Cx} {a b c : Expr} {ta tb tc : TE} {pos : Pos}
theorem fin_bl {pins : List (Addr × Obj)} {σ : St} {H : Hp} {s : Shared} {Q : VK} {k k' : Bool} (I : Inv X pins σ H s) (q : Q (.bl k) H) (e : k = k') : EP X pins σ Q (.bool k') s := by
  subst e
  exact ⟨.bl k, H, I, rfl, q⟩
theorem op_eq : OpR X (compareOp .Eq) rEq := by
  intro pins s σ H x y v u Q I rx ry h
  obtain ⟨hs, q⟩ := h
  cases x with
  | non =>
    cases rx
    cases y with
    | non => cases ry; exact PySem.EqNone.eq_none_none (fin_bl I q (by simp))
    | bl j => cases ry; exact PySem.EqNone.eq_none_bool (fin_bl I q (by simp))
    | int j => obtain ⟨t', rfl⟩ := ry; exact PySem.EqNone.eq_none_int (fin_bl I q (by simp))
    | str j => obtain ⟨t', rfl⟩ := ry; exact PySem.EqNone.eq_none_str (fin_bl I q (by simp))
    | _ => exact absurd (show false = true from hs) Bool.false_ne_true
  | bl i =>
    cases rx
    cases y with
    | non => cases ry; exact PySem.EqNone.eq_bool_none (fin_bl I q (by simp))
    | bl j => cases ry; exact eq_bool (fin_bl I q dec_bl)
    | str j => obtain ⟨t', rfl⟩ := ry; exact PySem.EqMixed.eq_bool_str (fin_bl I q (by simp))
    | _ => exact absurd (show false = true from hs) Bool.false_ne_true
  | int i =>
    obtain ⟨t, rfl⟩ := rx
    cases y with
    | non => cases ry; exact PySem.EqNone.eq_int_none (fin_bl I q (by simp))
    | int j => obtain ⟨t', rfl⟩ := ry; exact eq_int (fin_bl I q dec_int)
    | str j => obtain ⟨t', rfl⟩ := ry; exact PySem.EqMixed.eq_int_str (fin_bl I q (by simp))
    | _ => exact absurd (show false = true from hs) Bool.false_ne_true
  | str i =>
    obtain ⟨t, rfl⟩ := rx
    cases y with
    | non => cases ry; exact PySem.EqNone.eq_str_none (fin_bl I q (by simp))
    | bl j => cases ry; exact PySem.EqMixed.eq_str_bool (fin_bl I q (by simp))
    | int j => obtain ⟨t', rfl⟩ := ry; exact PySem.EqMixed.eq_str_int (fin_bl I q (by simp))
    | str j => obtain ⟨t', rfl⟩ := ry; exact eq_str (fin_bl I q dec_str)
    | _ => exact absurd (show false = true from hs) Bool.false_ne_true
  | byt i =>
    obtain ⟨t, rfl⟩ := rx
    cases y with
    | byt j => obtain ⟨t', rfl⟩ := ry; exact PySem.W.eq_bytes (fin_bl I q dec_byt)
    | _ => exact absurd (show false = true from hs) Bool.false_ne_true
  | _ => cases y <;> exact absurd (show false = true from hs) Bool.false_ne_true
theorem op_ne : OpR X (compareOp .NotEq) rNe := by
  intro pins s σ H x y v u Q I rx ry h
  obtain ⟨hs, q⟩ := h
  cases x with
  | non =>
    cases rx
    cases y with
    | non => cases ry; exact PySem.EqNone.ne_none_none (fin_bl I q (by simp))
    | bl j => cases ry; exact PySem.EqNone.ne_none_bool (fin_bl I q (by simp))
    | int j => obtain ⟨t', rfl⟩ := ry; exact PySem.EqNone.ne_none_int (fin_bl I q (by simp))
    | str j => obtain ⟨t', rfl⟩ := ry; exact PySem.EqNone.ne_none_str (fin_bl I q (by simp))
    | _ => exact absurd (show false = true from hs) Bool.false_ne_true
  | bl i =>
    cases rx
    cases y with
    | non => cases ry; exact PySem.EqNone.ne_bool_none (fin_bl I q (by simp))
    | bl j => cases ry; exact ne_bool (fin_bl I q (congrArg not dec_bl))
    | str j => obtain ⟨t', rfl⟩ := ry; exact PySem.EqMixed.ne_bool_str (fin_bl I q (by simp))
    | _ => exact absurd (show false = true from hs) Bool.false_ne_true
  | int i =>
    obtain ⟨t, rfl⟩ := rx
    cases y with
    | non => cases ry; exact PySem.EqNone.ne_int_none (fin_bl I q (by simp))
    | int j => obtain ⟨t', rfl⟩ := ry; exact ne_int (fin_bl I q (congrArg not dec_int))
    | str j => obtain ⟨t', rfl⟩ := ry; exact PySem.EqMixed.ne_int_str (fin_bl I q (by simp))
    | _ => exact absurd (show false = true from hs) Bool.false_ne_true
  | str i =>
    obtain ⟨t, rfl⟩ := rx
    cases y with
    | non => cases ry; exact PySem.EqNone.ne_str_none (fin_bl I q (by simp))
    | bl j => cases ry; exact PySem.EqMixed.ne_str_bool (fin_bl I q (by simp))
    | int j => obtain ⟨t', rfl⟩ := ry; exact PySem.EqMixed.ne_str_int (fin_bl I q (by simp))
    | str j => obtain ⟨t', rfl⟩ := ry; exact ne_str (fin_bl I q (congrArg not dec_str))
    | _ => exact absurd (show false = true from hs) Bool.false_ne_true
  | byt i =>
    obtain ⟨t, rfl⟩ := rx
    cases y with
    | byt j => obtain ⟨t', rfl⟩ := ry; exact PySem.W.ne_bytes (fin_bl I q (congrArg not dec_byt))
    | _ => exact absurd (show false = true from hs) Bool.false_ne_true
  | _ => cases y <;> exact absurd (show false = true from hs) Bool.false_ne_true
theorem op_lt : OpR X (compareOp .Lt) (rI0 fun i j => .bl (decide (i < j))) := opB0 fun _ _ _ _ _ _ _ q => lt_int q
theorem op_le : OpR X (compareOp .LtE) (rI0 fun i j => .bl (decide (i ≤ j))) := opB0 fun _ _ _ _ _ _ _ q => le_int q
theorem op_gt : OpR X (compareOp .Gt) (rI0 fun i j => .bl (decide (j < i))) := opB0 fun _ _ _ _ _ _ _ q => gt_int q
theorem op_ge : OpR X (compareOp .GtE) (rI0 fun i j => .bl (decide (j ≤ i))) := opB0 fun _ _ _ _ _ _ _ q => ge_int q
theorem op_in_str : OpR X (compareOp .In) (fun x y H Q => ∃ i j, x = .str i ∧ y = .str j ∧ Q (.bl (!(Builtin.Str.occurrences j i 0 j.length 1).isEmpty)) H) := by
  intro pins s σ H x y v u Q I rx ry h
  obtain ⟨i, j, rfl, rfl, q⟩ := h
  obtain ⟨t, rfl⟩ := rx
  obtain ⟨t', rfl⟩ := ry
  exact in_str (fin_bl I q rfl)
theorem OpR.or {f : Value → Value → Sem Value} {r r' : R2} (h : OpR X f r) (h' : OpR X f r') : OpR X f (fun x y H Q => r x y H Q ∨ r' x y H Q) := by
  intro pins s σ H x y v u Q I rx ry q
  rcases q with q | q
  · exact h pins s σ H x y v u Q I rx ry q
  · exact h' pins s σ H x y v u Q I rx ry q
theorem nomark (b : Expr) {op : CmpOp} (h : op ≠ .In := by decide) (h2 : op ≠ .NotIn := by decide) : behindInMarks op b = false := by
  have e1 : (op == CmpOp.In) = false := by cases op <;> first | rfl | exact absurd rfl h
  have e2 : (op == CmpOp.NotIn) = false := by cases op <;> first | rfl | exact absurd rfl h2
  cases b <;> simp [behindInMarks, e1, e2]
theorem pe_cmpR {op : CmpOp} {r : R2} (ho : OpR X (compareOp op) r) (ha : PE X a ta) (hb : PE X b tb) (hm : behindInMarks op b = false) : PE X (.Compare a [op] [b] pos) (tOp r ta tb) := by
  intro pins s σ H Q I h
  exact wpAny_Compare1 (binT ha hb I h fun v u s2 x y H2 I2 rx ry q => ho pins s2 σ H2 x y v u Q I2 rx ry q) hm
def tTest (t : TE) : TT := fun σ H Q => t σ H fun x H' => ∃ k, x = .bl k ∧ Q k H'
theorem pt_cmpR {op : CmpOp} {r : R2} (ho : OpR X (compareOp op) r) (ha : PE X a ta) (hb : PE X b tb) (hm : behindInMarks op b = false) : PT X (.Compare a [op] [b] pos) (tTest (tOp r ta tb)) := by
  intro pins s σ H Q I h
  refine wpAny_isTrue_Compare1 (thn (ha pins s σ H _ I h) fun v s1 ⟨x, H1, I1, r1, q1⟩ => thn (hb pins s1 σ H1 _ I1 q1) fun u s2 ⟨y, H2, I2, r2, q2⟩ =>
    thn (ho pins s2 σ H2 x y v u _ I2 r1 r2 q2) fun c s3 ⟨z, H3, I3, r3, k, e, q3⟩ => ?_) hm
  subst e
  cases r3
  exact wpAny_truthy_bool ⟨H3, I3, q3⟩
theorem line63 : (sizeLine : Nat) < 2 ^ 63 := by rw [sizeLine_eq]; decide
theorem op_add_str : OpR X (binaryOp .Add) (fun x y H Q => ∃ i j, x = .str i ∧ y = .str j ∧ i.length + j.length ≤ sizeLine ∧ Q (.str (i ++ j)) H) := by
  intro pins s σ H x y v u Q I rx ry h
  obtain ⟨i, j, rfl, rfl, hz, q⟩ := h
  obtain ⟨t, rfl⟩ := rx
  obtain ⟨t', rfl⟩ := ry
  exact add_str (fun t' tk => ⟨.str (i ++ j), H, I.tok _, ⟨_, rfl⟩, q⟩) hz
theorem vals1 {x : V} {us : List Value} (r : Vals [x] us) : ∃ u, us = [u] ∧ RelV x u := by
  cases r with
  | cons r1 r2 => cases r2; exact ⟨_, rfl, r1⟩
theorem vals2 {x y : V} {us : List Value} (r : Vals [x, y] us) : ∃ u w', us = [u, w'] ∧ RelV x u ∧ RelV y w' := by
  cases r with
  | cons r1 r2 =>
    cases r2 with
    | cons r3 r4 => cases r4; exact ⟨_, _, rfl, r1, r3⟩
theorem call_min2 (hc : X.calm = true) : CallR X (.builtin "min") (fun xs H Q => ∃ i j, xs = [.int i, .int j] ∧ Q (.int (if j < i then j else i)) H) := by
  intro pins s σ H xs us Q I r h
  obtain ⟨i, j, rfl, q⟩ := h
  obtain ⟨u, w', rfl, ⟨t, rfl⟩, ⟨t', rfl⟩⟩ := vals2 r
  refine min_two_ints (I.ok.hd hc) fun h' tk k => ⟨_, H, I.kept k, ?_, q⟩
  by_cases hj : j < i
  · rw [if_pos hj, if_pos hj]; exact ⟨_, rfl⟩
  · rw [if_neg hj, if_neg hj]; exact ⟨_, rfl⟩
theorem call_int1 : CallR X (.type "int") (fun xs H Q => (∃ i, xs = [.int i] ∧ Q (.int i) H) ∨ ∃ k, xs = [.bl k] ∧ Q (.int (if k then 1 else 0)) H) := by
  intro pins s σ H xs us Q I r h
  rcases h with ⟨i, rfl, q⟩ | ⟨k, rfl, q⟩
  · obtain ⟨u, rfl, t, rfl⟩ := vals1 r
    exact call_int_int ⟨.int i, H, I, ⟨_, rfl⟩, q⟩
  · obtain ⟨u, rfl, r1⟩ := vals1 r
    cases r1
    exact call_int_bool ⟨.int (if k then 1 else 0), H, I.tok _, ⟨_, rfl⟩, q⟩
theorem call_str_int : CallR X (.type "str") (fun xs H Q => ∃ i, xs = [.int i] ∧ i.natAbs.log2 < 1920 ∧ Q (.str (toString i)) H) := by
  intro pins s σ H xs us Q I r h
  obtain ⟨i, rfl, hz, q⟩ := h
  obtain ⟨u, rfl, t, rfl⟩ := vals1 r
  exact PySem.P.str_of_int hz ⟨.str _, H, I.tok _, ⟨_, rfl⟩, q⟩
def LenV (K : PySem.W.Frag) (x : V) (H : Hp) (n : Nat) : Prop :=
  match x with
  | .str y => y.length ≤ sizeLine ∧ n = y.length
  | .byt y => y.size ≤ sizeLine ∧ n = y.size
  | .ref p => (∃ xs, SqL K H p xs ∧ n = xs.length) ∨ ∃ xs, SqT K H p xs ∧ n = xs.length
  | _ => False
theorem call_len : CallR X (.builtin "len") (fun xs H Q => ∃ x n, xs = [x] ∧ LenV X.K x H n ∧ Q (.int n) H) := by
  intro pins s σ H xs us Q I r h
  obtain ⟨x, n, rfl, e, q⟩ := h
  obtain ⟨u, rfl, rx⟩ := vals1 r
  have hl := line63
  have hs : sizeLine = 16777216 := sizeLine_eq
  cases x with
  | str y =>
    obtain ⟨t, rfl⟩ := rx
    obtain ⟨hy, e'⟩ : y.length ≤ sizeLine ∧ n = y.length := e
    subst e'
    exact len_str (by omega) ⟨.int _, H, I.tok _, ⟨_, rfl⟩, q⟩
  | byt y =>
    obtain ⟨t, rfl⟩ := rx
    obtain ⟨hy, e'⟩ : y.size ≤ sizeLine ∧ n = y.size := e
    subst e'
    exact PySem.W.len_bytes (by omega) ⟨.int _, H, I.tok _, ⟨_, rfl⟩, q⟩
  | ref p =>
    cases rx
    have e' : (∃ xs, SqL X.K H p xs ∧ n = xs.length) ∨ ∃ xs, SqT X.K H p xs ∧ n = xs.length := e
    rcases e' with ⟨xs, hx, e'⟩ | ⟨xs, hx, e'⟩
    · subst e'
      obtain ⟨its, r', pl, hz⟩ := I.list hx
      have hlen := r'.length
      exact Calls.call_len_list pl.isList (by simp only [List.size_toArray]; omega) ⟨.int xs.length, H, I.tok _, ⟨_, by simp only [List.size_toArray]; rw [hlen]⟩, q⟩
    · subst e'
      obtain ⟨its, r', pl, hz⟩ := I.tuple hx
      have hlen := r'.length
      exact len_tuple pl (by simp only [List.size_toArray]; omega) ⟨.int xs.length, H, I.tok _, ⟨_, by simp only [List.size_toArray]; rw [hlen]⟩, q⟩
  | _ => exact (show False from e).elim
end
end L2
namespace L2
open PySem PySem.Spec PyProof.Rows
structure ObjM (h : Heap) (x dx C : Addr) (mA : Str → Option Value) : Prop where
  obj : h.get? x = some (PySem.W.instObj C dx)
  ns : h.Ns1 dx mA
  ne : dx ≠ x
section
variable {prog : Program} {w : World} {A : Around} {E : Value → Shared → Prop} {s : Shared} {K : PySem.W.Frag} {x dx C f : Addr} {mA : Str → Option Value} {name : Str} {v : Value}
end
section
variable {P : Program} {w : World} {H H' : Hp} {h h' : Heap} {a C dx : Addr} {fs fs' : List (Str × V)}
end
structure Cls (K : PySem.W.Frag) (C : Addr) : Prop where
  pg : PySem.W.plainGet K C Str.empty = true
  hd : PySem.W.hasDictIn K C = true
  po : PySem.W.plainOver K C = true
  sa : PySem.W.findIn K (.ref C) "__setattr__" = some (some (.builtin "object.__setattr__"))
structure Con (K : PySem.W.Frag) (C : Addr) (f : Str) (v : V) (u : Value) : Prop where
  at_ : PySem.W.findIn K (.ref C) f = some (some u)
  rel : RelV v u
  get : PySem.W.specialIn K u "__get__" = some none
  cp : PySem.W.copiedNames.contains f = false
structure Meth (K : PySem.W.Frag) (C : Addr) (m : Str) (f : Addr) : Prop where
  at_ : PySem.W.findIn K (.ref C) m = some (some (.ref f))
  fn : PySem.W.isFn K (.ref f) = true
  kp : PySem.W.keepIn K (.ref f) = true
section
variable {X : Cx} {pins : List (Addr × Obj)} {σ : St} {H : Hp} {s : Shared} {a C dx : Addr} {fs : List (Str × V)} {f : Str} {v : V} {A : Around} {E : Value → Shared → Prop}
end
section
variable {X : Cx} {o e value : Expr} {f : Str} {pos pos' tpos : Pos} {ta tv : TE}
end
section
variable {X : Cx} {pins : List (Addr × Obj)} {σ : St} {H : Hp} {s : Shared} {A : Around} {E : Value → Shared → Prop} {Q : Value → Shared → Prop} {c : Value} {b : Bool}
inductive TyOf (K : PySem.W.Frag) (H : Hp) : V → Value → Prop where
  | non : TyOf K H .non (.type "NoneType")
  | bl (x : Bool) : TyOf K H (.bl x) (.type "bool")
  | int (i : Int) : TyOf K H (.int i) (.type "int")
  | str (x : Str) : TyOf K H (.str x) (.type "str")
  | flt (x : UInt64) : TyOf K H (.flt x) (.type "float")
  | lst {a : Addr} {xs : List V} (e : H a = some (.lst xs)) : TyOf K H (.ref a) (.type "list")
  | frz {a : Addr} {o : Obj} {xs : List V} (e : H a = some (.frz o (.lst xs))) : TyOf K H (.ref a) (.type "list")
  | tup {a : Addr} {xs : List V} (e : H a = some (.tup xs)) : TyOf K H (.ref a) (.type "tuple")
  | dK {a : Addr} {kvs : List (Key × V)} (e : H a = some (.dK kvs)) : TyOf K H (.ref a) (.type "dict")
  | dT {a : Addr} {kvs : List (List Key × V)} (e : H a = some (.dT kvs)) : TyOf K H (.ref a) (.type "dict")
  | ins {a C dx : Addr} {fs : List (Str × V)} (e : H a = some (.ins C dx fs)) (cl : Cls K C) (ha : PySem.W.findIn K (.ref C) "__class__" = some (some (.builtin "object.__class__")))
      (hn : PySem.W.specialIn K (.builtin "object.__class__") "__get__" = some (some (.builtin "getset_descriptor.__get__"))) (htk : PySem.W.takesIn K (.builtin "object.__class__") = some true)
      (hm : PySem.W.mroIn K C (.type "object") = some true) : TyOf K H (.ref a) (.ref C)
end
end L2
namespace L2
open PySem PySem.Spec PyProof.Rows
structure Room (k : Nat) (A : Around) : Prop where
  hd : A.handled = none
  dp : A.depth + 3 * k + 5 < recursionLimit
  un : A.units + 16 * k + 200 < cLine
  gs : A.guards = some []
theorem Room.mono {j k : Nat} {A : Around} (r : Room k A) (h : j ≤ k) : Room j A := ⟨r.hd, by have := r.dp; omega, by have := r.un; omega, r.gs⟩
theorem Room.deeper {k : Nat} {A : Around} (r : Room (k + 1) A) (env : Env) : Room k (A.deeper env) :=
  ⟨r.hd, by have := r.dp; show A.depth + 1 + 3 * k + 5 < _; omega, by have := r.un; show A.units + 3 + 16 * k + 200 < _; omega, r.gs⟩
theorem Room.depth {k : Nat} {A : Around} (r : Room k A) : A.depth < recursionLimit := by have := r.dp; omega
theorem Room.units {k : Nat} {A : Around} (r : Room k A) : A.units + 64 < cLine := by have := r.un; omega
def tNil : TA := fun _ H Q => Q [] H
def tCons (ta : TE) (tr : TA) : TA := fun σ H Q => ta σ H fun x H1 => tr σ H1 fun xs H2 => Q (x :: xs) H2
section
variable {X : Cx} {e : Expr} {es : List Expr} {te : TE} {t : TA} {pos : Pos}
theorem pa_nil : PA X [] tNil := fun _ _ _ _ H Q I h => Calls.spliced_nil ⟨[], H, I, .nil, h⟩
theorem pa_cons (ha : PE X e te) (hr : PA X es t) (hs : starEach (e :: es) X.env = (false, eval e X.env) :: starEach es X.env := by rfl) : PA X (e :: es) (tCons te t) := by
  intro pos pins s σ H Q I h
  rw [hs]
  show wpAny _ _ (spliced ((false, eval e X.env) :: backTo pos (starEach es X.env))) _ _ s
  refine Calls.spliced_cons (thn (ha pins s σ H _ I h) fun u s1 ⟨x, H1, I1, r1, q1⟩ => ?_)
  exact thn (hr pos pins s1 σ H1 _ I1 q1) fun us s2 ⟨xs, H2, I2, r2, q2⟩ => ⟨x :: xs, H2, I2, .cons r1 r2, q2⟩
def tTup (t : TA) : TE := fun σ H Q => t σ H fun xs H1 => xs.length ≤ sizeLine ∧ ∀ p, H1 p = none → Q (.ref p) (upd H1 p (.tup xs))
def tLst (t : TA) : TE := fun σ H Q => t σ H fun xs H1 => xs.length ≤ sizeLine ∧ ∀ p, H1 p = none → Q (.ref p) (upd H1 p (.lst xs))
theorem pe_tup {x1} (h : PA X es t) : PE X (.Tuple es x1 pos) (tTup t) := by
  intro pins s σ H Q I hq
  refine wpAny_Tuple_spliced (thn (h pos pins s σ H _ I hq) fun us s1 ⟨xs, H1, I1, r, z, q⟩ => ⟨by rw [← r.length]; exact z, ?_⟩)
  have hf : H1 s1.heap.objs.size = none := I1.hok.fresh (Nat.le_refl _)
  refine ⟨.ref s1.heap.objs.size, upd H1 s1.heap.objs.size (.tup xs), I1.laid (t' := s1.toks) (fun b u e => Heap.get?_push_of_some _ e) (Nat.le_refl _) ?_, rfl, q _ hf⟩
  exact ⟨z, us, r, ⟨_, Heap.get?_push_size _ rfl, rfl, _, rfl⟩⟩
theorem pe_lst (h : PA X es t) : PE X (.List es pos) (tLst t) := by
  intro pins s σ H Q I hq
  refine wpAny_List_spliced (thn (h pos pins s σ H _ I hq) fun us s1 ⟨xs, H1, I1, r, z, q⟩ => ⟨by rw [← r.length]; exact z, ?_⟩)
  have hf : H1 s1.heap.objs.size = none := I1.hok.fresh (Nat.le_refl _)
  refine ⟨.ref s1.heap.objs.size, upd H1 s1.heap.objs.size (.lst xs), I1.laid (t' := s1.toks) (fun b u e => Heap.get?_push_of_some _ e) (Nat.le_refl _) ?_, rfl, q _ hf⟩
  exact ⟨z, us, 0, r, Heap.get?_push_size _ rfl⟩
end
abbrev Sp := List V → Hp → VK → XK → Prop
abbrev CXT := List Env → Hp → Shared → XK → Value → Shared → Prop
structure Env0 (P : Program) (w : World) (K : PySem.W.Frag) (mg : Str → Option Value) (base : Heap) (A : Around) (outer : List Env) (s : Shared) (H : Hp) : Prop where
  frames : A.frames = some outer
  mod : Mod K mg base
  bs : ∀ b o, base.get? b = some o → s.heap.get? b = some o ∧ H b = none
  bsz : base.objs.size ≤ s.heap.objs.size
  funs : s.heap.FunFrames base outer
  frf : ∀ b ∈ frs outer, H b = none
  hok : HOk P w H s.heap
  bare : AllBare s.gens
def CE (outer : List Env) (P : Program) (w : World) (H : Hp) (s : Shared) (Q : VK) (u : Value) (s' : Shared) : Prop :=
  ∃ v H', s'.os = s.os ∧ AllBare s'.gens ∧ Un (frs outer) [] H H' s.heap s'.heap ∧ HOk P w H' s'.heap ∧ RelV v u ∧ Q v H'
def CR (CX : CXT) (outer : List Env) (P : Program) (w : World) (H : Hp) (s : Shared) (Q : VK) (E : XK) (r : Result) (s' : Shared) : Prop :=
  match r with
  | .ok (.ret u) => CE outer P w H s Q u s'
  | .ok _ => False
  | .error e => CX outer H s E e s'
structure FnOk (P : Program) (w : World) (K : PySem.W.Frag) (mg : Str → Option Value) (base : Heap) (CX : CXT) (k : Nat) (f : Addr) (fd : FuncData) (ps : List Str) (sp : Sp) : Prop where
  len : ∀ vs H Q E, sp vs H Q E → vs.length = ps.length
  run : ∀ (A : Around) (outer : List Env) (s : Shared) (H : Hp) (args : Args) (us : List Value) (vs : List V) (Q : VK) (E : XK), Room k A → Env0 P w K mg base A outer s H → BindsTo s fd args (ps.zip us) → Vals vs us → sp vs H Q E →
    codeAny (model P w) A (.call (.ref f) args) (CR CX outer P w H s Q E) s
theorem FnOk.imp {P : Program} {w : World} {K : PySem.W.Frag} {mg : Str → Option Value} {base : Heap} {CX : CXT} {k : Nat} {f : Addr} {fd : FuncData} {ps : List Str} {sp sp' : Sp} (F : FnOk P w K mg base CX k f fd ps sp)
    (h : ∀ vs H Q E, sp' vs H Q E → sp vs H Q E) : FnOk P w K mg base CX k f fd ps sp' :=
  ⟨fun vs H Q E q => F.len vs H Q E (h _ _ _ _ q), fun A outer s H args us vs Q E hr he hb hv hs => F.run A outer s H args us vs Q E hr he hb hv (h _ _ _ _ hs)⟩
section
variable {X : Cx} {pins : List (Addr × Obj)} {σ : St} {H : Hp} {s s' : Shared}
theorem Inv.env0 (I : Inv X pins σ H s) : Env0 X.prog X.w X.K X.mg X.base X.A X.stack s H :=
  ⟨I.ok.frames, I.ok.mod, I.bs, Nat.le_trans I.ok.bsz I.sz, I.stack, I.stkFree, I.hok, I.bare⟩
theorem Inv.after {Q : VK} {u : Value} (I : Inv X pins σ H s) (h : CE X.stack X.prog X.w H s Q u s') : EP X pins σ Q u s' := by
  obtain ⟨v, H', os, bare, un, hok, r, q⟩ := h
  obtain ⟨hh, g, d, t, os'⟩ := s'
  obtain rfl : os' = s.os := os
  exact ⟨v, H', I.call (h' := hh) (g' := g) (d' := d) (t' := t) (ch := []) un hok bare (fun b z => absurd z (by simp)), r, q⟩
end
def tCall (sp : Sp) (dvs : List V) (E : XK) (t : TA) : TE := fun σ H Q => t σ H fun vs H1 => sp (vs ++ dvs) H1 Q E
def Binds (K : PySem.W.Frag) (fd : FuncData) (ps : List Str) (ds : List Value) : Prop :=
  ∀ (s : Shared) (us : List Value), K.In s.heap → (us ++ ds).length = ps.length → BindsTo s fd ⟨us, []⟩ (ps.zip (us ++ ds))
theorem Binds.all {K : PySem.W.Frag} {fd : FuncData} {ps : List Str} (h : ∀ us : List Value, us.length = ps.length → bindArgs fd ⟨us, []⟩ = pure (ps.zip us)) : Binds K fd ps [] := fun s us _ hl => by
  rw [List.append_nil] at hl ⊢
  exact .of_eq (h us hl)
def Passes (CX : CXT) (X : Cx) (E : XK) : Prop := ∀ (pins : List (Addr × Obj)) (σ : St) (H : Hp) (s : Shared) (e : Value) (s' : Shared), Inv X pins σ H s → CX X.stack H s E e s' → X.xe e s'
section
variable {X : Cx} {CX : CXT} {k : Nat} {f C : Addr} {fd : FuncData} {ps : List Str} {sp : Sp} {dvs : List V} {ds : List Value} {E : XK} {x m : Str} {p pos apos : Pos} {e o : Expr} {es : List Expr} {ta : TE} {t : TA}
theorem run_fn {pins : List (Addr × Obj)} {σ : St} {H : Hp} {s : Shared} {Q : VK} {us : List Value} {vs : List V} (F : FnOk X.prog X.w X.K X.mg X.base CX k f fd ps sp) (hr : Room k X.A) (hb : Binds X.K fd ps ds) (hd : Vals dvs ds) (hx : Passes CX X E)
    (I : Inv X pins σ H s) (r : Vals vs us) (h : sp (vs ++ dvs) H Q E) : wpAny (model X.prog X.w) X.A (call (.ref f) us) (EP X pins σ Q) X.xe s := by
  have r2 : Vals (vs ++ dvs) (us ++ ds) := r.append hd
  have hl : (us ++ ds).length = ps.length := by rw [← r2.length]; exact F.len _ _ _ _ h
  refine wpAny_call (codeAny_mono (F.run X.A X.stack s H ⟨us, []⟩ (us ++ ds) (vs ++ dvs) Q E hr I.env0 (hb s us I.kIn hl) r2 h) fun r s' hq => ?_)
  cases r with
  | error e => exact hx pins σ H s e s' I hq
  | ok fl =>
    cases fl with
    | ret u => exact I.after hq
    | next => exact False.elim hq
    | brk => exact False.elim hq
    | cont => exact False.elim hq
theorem pe_call (F : FnOk X.prog X.w X.K X.mg X.base CX k f fd ps sp) (hr : Room k X.A) (hg : Gl X x) (hm : X.mg x = some (.ref f)) (hk : PySem.W.keepIn X.K (.ref f) = true) (hb : Binds X.K fd ps ds) (hd : Vals dvs ds) (hx : Passes CX X E)
    (ha : PA X (e :: es) t) (hdb : (x == ("__debug__" : Str)) = false := by decide) (he : starEach (e :: es) X.env = (false, eval e X.env) :: starEach es X.env := by rfl) (hpl : (backTo pos (starEach es X.env)).any (·.1) = false := by rfl) :
    PE X (.Call (.Name x p) (e :: es) [] pos) (tCall sp dvs E t) := by
  intro pins s σ H Q I h
  refine wpAny_Call_Name_kw (ld_glob I hg hm ?_ hdb)
  refine PySem.W.callWith_K (h₀ := X.base) I.ok.mod.kin hk (thn (ha pos pins s σ H _ I h) fun us s1 ⟨vs, H1, I1, r, q⟩ => ⟨I1.kIn, ?_⟩) he hpl
  exact run_fn F hr hb hd hx I1 r q
theorem pe_call0 (F : FnOk X.prog X.w X.K X.mg X.base CX k f fd ps sp) (hr : Room k X.A) (hg : Gl X x) (hm : X.mg x = some (.ref f)) (hk : PySem.W.keepIn X.K (.ref f) = true) (hb : Binds X.K fd ps ds) (hd : Vals dvs ds) (hx : Passes CX X E)
    (hdb : (x == ("__debug__" : Str)) = false := by decide) : PE X (.Call (.Name x p) [] [] pos) (tCall sp dvs E tNil) := by
  intro pins s σ H Q I h
  refine wpAny_Call_Name_kw (ld_glob I hg hm ?_ hdb)
  exact PySem.W.callWith_K0 I.kIn hk (run_fn (us := []) F hr hb hd hx I .nil h)
structure Mk (K : PySem.W.Frag) (C f : Addr) : Prop where
  makes : PySem.W.makesIn K C = true
  init : PySem.W.findIn K (.ref C) "__init__" = some (some (.ref f))
  fn : PySem.W.isFn K (.ref f) = true
  kp : PySem.W.keepIn K (.ref C) = true
end
section
variable {X : Cx} {CX : CXT} {k : Nat} {f C : Addr} {fd : FuncData} {ps ks : List Str} {sp : Sp} {E : XK} {x m : Str} {p pos apos kpos : Pos} {e o : Expr} {es : List Expr} {kws : List Keyword} {te ta : TE} {t tk : TA} {nm : Option Str}
structure KBinds (K : PySem.W.Frag) (fd : FuncData) (ps ks : List Str) (g : List Value → List Value → List Value) (gV : List V → List V → List V) : Prop where
  to : ∀ (s : Shared) (us ws : List Value), K.In s.heap → (g us ws).length = ps.length → BindsTo s fd ⟨us, ks.zip ws⟩ (ps.zip (g us ws))
  rel : ∀ {vs : List V} {us : List Value} {zs : List V} {ws : List Value}, Vals vs us → Vals zs ws → Vals (gV vs zs) (g us ws)
variable {g : List Value → List Value → List Value} {gV : List V → List V → List V}
end
structure FnScope (N P : List Str) (sc : Scope) : Prop where
  kind : sc.kind = .function
  co : sc.isCoroutine = false
  gen : sc.isGenerator = false
  nd : N.Nodup
  pre : N.take P.length = P
  par : ∀ x ∈ P, sc.names.lookup x = some .local ∨ sc.names.lookup x = some .cell
  nofree : ∀ y ∈ sc.names, y.2 ≠ .free
theorem bindL_out {kindOf : Str → Option NameKind} {x : Str} : ∀ {binds : List (Str × Value)} {m : Str → Option Value}, (∀ v, (x, v) ∉ binds) → bindL kindOf binds m x = m x
  | [], _, _ => rfl
  | (n, v) :: r, m, h => by
    unfold bindL
    rw [bindL_out fun w hw => h w (List.mem_cons_of_mem _ hw)]
    split
    · have : x ≠ n := by rintro rfl; exact h v List.mem_cons_self
      simp [this]
    · rfl
theorem bindC_out {kindOf : Str → Option NameKind} {x : Str} : ∀ {binds : List (Str × Value)} {m : Str → Option Value}, (∀ v, (x, v) ∉ binds) → bindC kindOf binds m x = m x
  | [], _, _ => rfl
  | (n, v) :: r, m, h => by
    unfold bindC
    rw [bindC_out fun w hw => h w (List.mem_cons_of_mem _ hw)]
    split
    · rfl
    · have : x ≠ n := by rintro rfl; exact h v List.mem_cons_self
      simp [this]
theorem bindL_get {kindOf : Str → Option NameKind} {x : Str} {v : Value} : ∀ {P : List Str} {vs : List Value} {i : Nat} {m : Str → Option Value}, P.Nodup → P[i]? = some x → vs[i]? = some v → kindOf x = some .local →
    bindL kindOf (P.zip vs) m x = some v
  | [], _, _, _, _, h, _, _ => by simp at h
  | _ :: _, [], _, _, _, _, h, _ => by simp at h
  | p :: P, w :: vs, 0, m, nd, h1, h2, hk => by
    simp at h1 h2; subst h1; subst h2
    show bindL kindOf ((p, w) :: P.zip vs) m p = _
    unfold bindL
    rw [bindL_out fun v hv => (List.nodup_cons.mp nd).1 (List.of_mem_zip hv).1, if_pos hk]
    simp
  | p :: P, w :: vs, i + 1, m, nd, h1, h2, hk => by
    show bindL kindOf ((p, w) :: P.zip vs) m x = _
    unfold bindL
    exact bindL_get (i := i) (List.nodup_cons.mp nd).2 (by simpa using h1) (by simpa using h2) hk
theorem bindC_get {kindOf : Str → Option NameKind} {x : Str} {v : Value} : ∀ {P : List Str} {vs : List Value} {i : Nat} {m : Str → Option Value}, P.Nodup → P[i]? = some x → vs[i]? = some v → kindOf x ≠ some .local →
    bindC kindOf (P.zip vs) m x = some v
  | [], _, _, _, _, h, _, _ => by simp at h
  | _ :: _, [], _, _, _, _, h, _ => by simp at h
  | p :: P, w :: vs, 0, m, nd, h1, h2, hk => by
    simp at h1 h2; subst h1; subst h2
    show bindC kindOf ((p, w) :: P.zip vs) m p = _
    unfold bindC
    rw [bindC_out fun v hv => (List.nodup_cons.mp nd).1 (List.of_mem_zip hv).1, if_neg hk]
    simp
  | p :: P, w :: vs, i + 1, m, nd, h1, h2, hk => by
    show bindC kindOf ((p, w) :: P.zip vs) m x = _
    unfold bindC
    exact bindC_get (i := i) (List.nodup_cons.mp nd).2 (by simpa using h1) (by simpa using h2) hk
def start (N : List Str) (vs : List V) : St := vs.map some ++ List.replicate (N.length - vs.length) none
def cxOf (CX : CXT) (P : Program) (w : World) (K : PySem.W.Frag) (mg : Str → Option Value) (base : Heap) (N : List Str) (qual : Str) (scope : Scope) (f : Addr) (cd : Value) (A : Around) (outer : List Env) (s : Shared) (H : Hp) (E : XK) : Cx where
  prog := P
  w := w
  K := K
  mg := mg
  base := base
  A := A.deeper (envOfC qual scope s.heap.objs.size f cd)
  N := N
  s₀ := s
  H₀ := H
  env := envOfC qual scope s.heap.objs.size f cd
  outer := outer
  stack := envOfC qual scope s.heap.objs.size f cd :: outer
  ex := []
  calm := true
  fn := fun _ => true
  pn := []
  xe := fun e s' => wpAny (model P w) (A.deeper (envOfC qual scope s.heap.objs.size f cd)) (leaving (envOfC qual scope s.heap.objs.size f cd) e) (fun _ s'' => CX outer H s E e s'') (fun e' s'' => CX outer H s E e' s'') s'
theorem cell_has {sc : Scope} {n : Nat} {x : Str} (h : sc.names.lookup x = some .cell) : ∃ c, (cellsFrom n sc.names []).lookup x = some c := by
  have q := PySem.W.cellsFrom_some sc.names n [] (.inl h)
  exact Option.isSome_iff_exists.mp q
theorem inv_start {CX : CXT} {P : Program} {w : World} {K : PySem.W.Frag} {mg : Str → Option Value} {base : Heap} {N ps : List Str} {qual : Str} {scope : Scope} {f : Addr} {cd : Value} {A : Around} {outer : List Env} {s s1 : Shared} {H : Hp} {E : XK} {us : List Value} {vs : List V}
    (S : FnScope N ps scope) (hd : A.handled = none) (e0 : Env0 P w K mg base A outer s H) (hl : vs.length = ps.length) (r : Vals vs us)
    (x : InCallC s s.heap.objs.size (bindL (envOfC qual scope s.heap.objs.size f cd).kindOf (ps.zip us) fun _ => none) (cellsFrom (s.heap.objs.size + 1) scope.names []) (bindC (envOfC qual scope s.heap.objs.size f cd).kindOf (ps.zip us) fun _ => none) s1) :
    Inv (cxOf CX P w K mg base N qual scope f cd A outer s H E) [] (start N vs) H s1 := by
  have hpl : ps.length ≤ N.length := by have := congrArg List.length S.pre; rw [List.length_take] at this; omega
  obtain ⟨h1, tk, rfl, hk⟩ := x.done
  have noA : ∀ b : Addr, b ∉ (cxOf CX P w K mg base N qual scope f cd A outer s H E).ex := fun b z => absurd (show b ∈ ([] : List Addr) from z) (by simp)
  refine ⟨⟨e0.mod, S.kind, rfl, rfl, Nat.le_refl _, fun y z c h1 h2 => ?_, fun y hy => ?_, fun y c _ h => ?_, fun _ => hd, Around.frames_deeper e0.frames, .inr ⟨rfl, rfl⟩, fun b z => absurd z (noA b), e0.bs, e0.bsz, fun b _ _ => noA b, fun b z => absurd z (noA b), e0.funs, e0.frf⟩,
    rfl, e0.bare, Un.kept hk, ⟨_, x.toInCall.ns, fun i y v h1 h2 h3 => ?_⟩, fun y c h => ⟨_, x.cell y c h⟩, e0.hok.fresh (Nat.le_refl _), fun y c h => ?_, fun p hp => absurd (show p ∈ ([] : List (Addr × Obj)) from hp) (by simp), e0.hok.kept hk, ?_⟩
  · exact name_of_addr x.apart (PySem.mem_of_lookup h1) (PySem.mem_of_lookup h2)
  · have hy : scope.names.lookup y = some .cell ∨ scope.names.lookup y = some .free := hy
    rcases hy with hy | hy
    · exact cell_has hy
    · exact absurd rfl (S.nofree _ (PySem.mem_of_lookup hy))
  · exact Nat.le_of_lt (x.above y c (PySem.mem_of_lookup h))
  · have hi : i < vs.length := by
      unfold start at h2
      by_cases hi : i < vs.length
      · exact hi
      · rw [List.getElem?_append_right (by simpa using hi)] at h2
        rw [List.getElem?_replicate] at h2
        split at h2 <;> cases h2
    have ha : vs[i]? = some v := by
      unfold start at h2
      rw [List.getElem?_append_left (by simpa using hi), List.getElem?_map] at h2
      cases e : vs[i]? with
      | none => rw [e] at h2; cases h2
      | some a => rw [e] at h2; cases h2; rfl
    obtain ⟨u, hu, rv⟩ := r.get ha
    have hp : ps[i]? = some y := by
      rw [← S.pre, List.getElem?_take_of_lt (by omega)]; exact h1
    have ndP : ps.Nodup := by rw [← S.pre]; exact S.nd.sublist (List.take_sublist _ _)
    refine ⟨u, rv, ?_⟩
    rcases S.par y (List.mem_of_getElem? hp) with k | k
    · exact .inl ⟨k, bindL_get ndP hp hu k⟩
    · obtain ⟨c, e⟩ := cell_has (n := s.heap.objs.size + 1) k
      refine .inr ⟨.inl k, c, e, ?_⟩
      have q := x.cell y c e
      rw [bindC_get ndP hp hu (by show scope.names.lookup y ≠ _; rw [k]; decide)] at q
      exact q
  · exact e0.hok.fresh (Nat.le_of_lt (x.above y c (PySem.mem_of_lookup h)))
  · unfold start
    show _ = N.length
    rw [List.length_append, List.length_map, List.length_replicate]
    omega
theorem fn_of {CX : CXT} {P : Program} {w : World} {K : PySem.W.Frag} {mg : Str → Option Value} {base : Heap} {k : Nat} {f : Addr} {name qual : Str} {params : Arguments} {body : List Stmt} {scope : Scope} {dV kV doc pm cdv ct oc : Value} {an od : Option Addr}
    {osl : Array (Option Value)} {N ps : List Str} {sp : Sp} (lk : K.lookup f = some ⟨oc, od, .func (PySem.W.fnOf name qual params body scope dV kV doc pm an cdv ct), osl⟩) (hcd : PySem.W.codeIn K cdv qual = true) (S : FnScope N ps scope)
    (len : ∀ vs H Q E, sp vs H Q E → vs.length = ps.length)
    (hbody : ∀ (A : Around) (outer : List Env) (s : Shared) (H : Hp) (vs : List V) (Q : VK) (E : XK), Room k (A.deeper (envOfC qual scope s.heap.objs.size f cdv)) → sp vs H Q E →
      ∃ t, PSs (cxOf CX P w K mg base N qual scope f cdv A outer s H E) body t ∧ t { nx := fun _ H' => Q .non H', rt := Q } (start N vs) H) :
    FnOk P w K mg base CX (k + 1) f (PySem.W.fnOf name qual params body scope dV kV doc pm an cdv ct) ps sp := by
  refine ⟨len, fun A outer s H args us vs Q E hr e0 hb r hsp => ?_⟩
  have hl := len _ _ _ _ hsp
  have KX : K.In s.heap := e0.mod.kin.keeps fun b o e => (e0.bs b o e).1
  have lim : s.heap.NoLimit := e0.mod.nolimit.keeps fun b o e => (e0.bs b o e).1
  have hkind : ∀ y ∈ ps.zip us, scope.names.lookup y.1 = some .local ∨ (scope.names.lookup y.1 = some .cell ∧ ((cellsFrom (s.heap.objs.size + 1) scope.names []).lookup y.1).isSome = true) := fun ⟨n, v⟩ hy => by
    rcases S.par n (List.of_mem_zip hy).1 with q | q
    · exact .inl q
    · exact .inr ⟨q, PySem.W.cellsFrom_some _ _ _ (.inl q)⟩
  refine codeAny_call_function hr.depth (KX _ _ lk) rfl S.co S.gen rfl (PySem.W.codeRec_of KX hcd) (hb _ _ _ _ ?_)
  refine wpAny_newFunctionEnv_cells S.kind hkind fun env he s1 x => ?_
  subst he
  refine ⟨lim.keeps x.toInCall.keep, codeAny_func ?_⟩
  obtain ⟨t, ht, hq⟩ := hbody A outer s H vs Q E (hr.deeper _) hsp
  have I : Inv (cxOf CX P w K mg base N qual scope f cdv A outer s H E) [] (start N vs) H s1 := inv_start S hr.hd e0 hl r x
  refine wpAny_mono (ht [] s1 (start N vs) H _ I hq) (fun fl s' hs => ?_) fun e s' hs => hs
  have fin : ∀ {σ' : St} {H' : Hp} {v : V} {u : Value}, Inv (cxOf CX P w K mg base N qual scope f cdv A outer s H E) [] σ' H' s' → RelV v u → Q v H' → CE outer P w H s Q u s' :=
    fun {σ' H' v u} J rv q => ⟨v, H', J.os, J.bare, J.base, J.hok, rv, q⟩
  cases fl with
  | ret u =>
    obtain ⟨v, σ', H', J, rv, q⟩ := hs
    exact fin J rv q
  | next =>
    obtain ⟨σ', H', J, q⟩ := hs
    exact fin (v := V.non) (u := Value.none) J rfl q
  | brk =>
    obtain ⟨_, _, _, q⟩ := hs
    exact False.elim q
  | cont =>
    obtain ⟨_, _, _, q⟩ := hs
    exact False.elim q
end L2
namespace L2
open PySem PySem.Spec PyProof.Rows
section
variable {X : Cx} {x : Str} {p pos : Pos} {e : Expr} {es : List Expr} {t : TA} {id T : String} {r : List V → Hp → VK → Prop}
def tCB (r : List V → Hp → VK → Prop) (t : TA) : TE := fun σ H Q => t σ H fun vs H1 => r vs H1 Q
theorem pe_callB (hc : CallR X (.builtin id) r) (hg : Gl X x) (hm : X.mg x = none) (hv : bootBuiltins x = some (.builtin id)) (ha : PA X (e :: es) t) (hn : x ≠ "__name__" := by decide) (hdb : (x == ("__debug__" : Str)) = false := by decide)
    (he : starEach (e :: es) X.env = (false, eval e X.env) :: starEach es X.env := by rfl) (hpl : (backTo pos (starEach es X.env)).any (·.1) = false := by rfl) : PE X (.Call (.Name x p) (e :: es) [] pos) (tCB r t) := by
  intro pins s σ H Q I h
  refine wpAny_Call_Name_kw (ld_blt I hg hm hv ?_ hn hdb)
  exact PyProof.Rows.callWith_builtin1 (thn (ha pos pins s σ H _ I h) fun us s1 ⟨vs, H1, I1, r1, q1⟩ => hc pins s1 σ H1 vs us Q I1 r1 q1) he hpl
theorem pe_callTy (hc : CallR X (.type T) r) (hg : Gl X x) (hm : X.mg x = none) (hv : bootBuiltins x = some (.type T)) (ha : PA X (e :: es) t) (hn : x ≠ "__name__" := by decide) (hdb : (x == ("__debug__" : Str)) = false := by decide)
    (he : starEach (e :: es) X.env = (false, eval e X.env) :: starEach es X.env := by rfl) (hpl : (backTo pos (starEach es X.env)).any (·.1) = false := by rfl) : PE X (.Call (.Name x p) (e :: es) [] pos) (tCB r t) := by
  intro pins s σ H Q I h
  refine wpAny_Call_Name_kw (ld_blt I hg hm hv ?_ hn hdb)
  exact PyProof.Rows.callWith_type1 (thn (ha pos pins s σ H _ I h) fun us s1 ⟨vs, H1, I1, r1, q1⟩ => hc pins s1 σ H1 vs us Q I1 r1 q1) he hpl
end
end L2
namespace HT
open PySem PyProof.Rows
section
open PySem.SeqAt
open PySem.AutoSeq1 (wpAny_loadPart')
open PySem.MeetsSeq PySem.MeetsSeq2 PySem.MeetsSeq3
end
section
variable {prog : Program} {w : World} {A : Around} {E : Value → Shared → Prop} {s : Shared}
theorem cat_tup {t b : Addr} {vs ws : List Value} {Q : Value → Shared → Prop} (ht : IsTup s.heap t vs.toArray) (hb : IsTup s.heap b ws.toArray) (hv : vs ≠ [])
    (h1 : ws = [] → Q (.ref t) s) (h2 : ws ≠ [] → Q (.ref s.heap.objs.size) { s with heap := s.heap.push { cls := .type "tuple", data := .seq (vs ++ ws).toArray } })
    (hsz : vs.length + ws.length ≤ sizeLine) : wpAny (model prog w) A (binaryOp .Add (.ref t) (.ref b)) Q E s := by
  obtain ⟨⟨cls, dd, data, sl⟩, ho, hc, n, hd⟩ := id ht
  obtain ⟨⟨cls2, dd2, data2, sl2⟩, ho2, hc2, n2, hd2⟩ := id hb
  simp only at hc hd hc2 hd2
  subst hc hd hc2 hd2
  have e : vs.toArray ++ ws.toArray = (vs ++ ws).toArray := by simp
  by_cases hw : ws = []
  · exact concat_meets ⟨_, ho, rfl⟩ ⟨_, ho2, rfl⟩ noFill_tuple_add seq_tuple_add PySem.F.slot_tuple_add PySem.F.entry_tuple_add (PySem.F.args_tuple_add_2 _ _)
      (tuple_addW1 t b vs.toArray ws.toArray n n2 dd dd2 sl sl2 (by simpa using hv) (by simp [hw])) ⟨ho, ho2, h1 hw⟩
  · refine concat_meets ⟨_, ho, rfl⟩ ⟨_, ho2, rfl⟩ noFill_tuple_add seq_tuple_add PySem.F.slot_tuple_add PySem.F.entry_tuple_add (PySem.F.args_tuple_add_2 _ _)
      (tuple_addW2 t b vs.toArray ws.toArray n n2 dd dd2 sl sl2 (by simpa using hv) (by simpa using hw) (by rw [List.size_toArray, List.size_toArray]; exact hsz)) ⟨ho, ho2, ?_⟩
    rw [e]
    exact h2 hw
def sIx (n d : Nat) : Option Int → Nat
  | none => d
  | some v => if v < 0 then (v + (n : Int)).toNat else min v.toNat n
theorem sIx_none (n d : Nat) : sIx n d none = d := rfl
theorem sIx_nat (n d k : Nat) : sIx n d (some (k : Int)) = min k n := by
  show (if (k : Int) < 0 then ((k : Int) + (n : Int)).toNat else min (k : Int).toNat n) = min k n
  rw [if_neg (by omega), Int.toNat_natCast]
theorem sIx_le (n d : Nat) (hd : d ≤ n) (o : Option Int) : sIx n d o ≤ n := by
  cases o with
  | none => exact hd
  | some v =>
    show (if v < 0 then (v + (n : Int)).toNat else min v.toNat n) ≤ n
    by_cases hv : v < 0
    · rw [if_pos hv]; omega
    · rw [if_neg hv]; exact Nat.min_le_right _ _
theorem clip_eq (v : Int) (n d : Nat) : (if v < 0 then max (v + (n : Int)) 0 else min v (n : Int)) = ((sIx n d (some v) : Nat) : Int) := by
  show (if v < 0 then max (v + (n : Int)) 0 else min v (n : Int)) = (((if v < 0 then (v + (n : Int)).toNat else min v.toNat n) : Nat) : Int)
  by_cases hv : v < 0
  · simp only [if_pos hv]; omega
  · simp only [if_neg hv]; omega
theorem adjust_gen (lo hi : Option Int) (n : Nat) : Builtin.Slice.sliceAdjust lo hi 1 (n : Int) = (((sIx n 0 lo : Nat) : Int), ((sIx n n hi : Nat) : Int)) := by
  have h1 : ¬ ((1 : Int) < 0) := by omega
  unfold Builtin.Slice.sliceAdjust
  simp only [h1, if_false]
  refine Prod.ext ?_ ?_
  · cases lo with
    | none => rfl
    | some v => exact clip_eq v n 0
  · cases hi with
    | none => rfl
    | some v => exact clip_eq v n n
theorem places_gen (i j : Nat) : Builtin.Slice.slicePlaces (i : Int) (j : Int) 1 = j - i := by
  unfold Builtin.Slice.slicePlaces
  have h1 : (1 : Int) > 0 := by omega
  simp only [h1, if_true, Int.ediv_one]
  split <;> omega
theorem slicePart_ {v : Value} {o : Option Int} {Q : Option Int → Shared → Prop} (p : IsPart v o) (h : Q o s) : wpAny (model prog w) A (Builtin.Slice.slicePartIndex v) Q E s := by
  cases p with
  | none => exact slicePart_none h
  | int i t => exact slicePart_int h
theorem sliceApplied_gen {sl : Addr} {vl vu : Value} {lo hi : Option Int} {n : Nat} {Q : Int × Int × Nat → Shared → Prop} (hs : s.heap.IsSliceOf sl vl vu .none) (pl : IsPart vl lo) (pu : IsPart vu hi)
    (h : Q (((sIx n 0 lo : Nat) : Int), 1, sIx n n hi - sIx n 0 lo) s) : wpAny (model prog w) A (Builtin.Slice.sliceApplied (.ref sl) (pure (n : Int))) Q E s := by
  obtain ⟨os, hos, hcs, hds⟩ := id hs
  unfold Builtin.Slice.sliceApplied Builtin.Slice.sliceFields
  refine wpAny_bind (wpAny_bind (wpAny_field hos hds (x := vl) rfl (wpAny_bind (wpAny_field hos hds (x := vu) rfl (wpAny_bind (wpAny_field hos hds (x := .none) rfl (wpAny_pure ?_)))))))
  refine wpAny_bind (slicePart_none ?_)
  show wpAny _ _ (if ((1 : Int) == 0) = true then _ else _) _ _ s
  rw [if_neg (by decide)]
  refine wpAny_bind (slicePart_ pl (wpAny_bind (slicePart_ pu (wpAny_bind (wpAny_pure ?_)))))
  show wpAny _ _ (match Builtin.Slice.sliceAdjust lo hi 1 (n : Int) with | (lo, hi) => pure (lo, (1 : Int), Builtin.Slice.slicePlaces lo hi 1)) _ _ s
  rw [adjust_gen lo hi n]
  show wpAny _ _ (pure (((sIx n 0 lo : Nat) : Int), (1 : Int), Builtin.Slice.slicePlaces ((sIx n 0 lo : Nat) : Int) ((sIx n n hi : Nat) : Int) 1)) _ _ s
  rw [places_gen]
  exact wpAny_pure h
theorem pick_gen (xs : Array Value) (i k : Nat) : ((List.range k).filterMap fun (m : Nat) => xs[((i : Int) + (m : Int) * 1).toNat]?).toArray = ((xs.toList.drop i).take k).toArray := by
  have e : (fun (m : Nat) => xs[((i : Int) + (m : Int) * 1).toNat]?) = fun m => xs[i + m]? := by
    funext m
    have : ((i : Int) + (m : Int) * 1).toNat = i + m := by omega
    rw [this]
  rw [e]
  have := pick_run xs i k
  rw [List.filterMap_map] at this
  have e2 : ((fun x => xs[x]?) ∘ fun x => i + x) = fun m => xs[i + m]? := rfl
  rw [e2] at this
  rw [this]
theorem getItem_tuple_cut {t sl : Addr} {items : Array Value} {vl vu : Value} {lo hi : Option Int} {Q : Value → Shared → Prop} (ht : IsTup s.heap t items) (hs : s.heap.IsSliceOf sl vl vu .none) (pl : IsPart vl lo) (pu : IsPart vu hi)
    (hw : ¬ (sIx items.size 0 lo = 0 ∧ sIx items.size items.size hi = items.size))
    (h : Q (.ref s.heap.objs.size) { s with heap := s.heap.push { cls := .type "tuple", data := .seq ((items.toList.drop (sIx items.size 0 lo)).take (sIx items.size items.size hi - sIx items.size 0 lo)).toArray } })
    (hsz : items.size ≤ sizeLine) : wpAny (model prog w) A (getItem (.ref t) (.ref sl)) Q E s := by
  have htake : sizeOk (.seq ((items.toList.drop (sIx items.size 0 lo)).take (sIx items.size items.size hi - sIx items.size 0 lo)).toArray) := by
    show ((items.toList.drop (sIx items.size 0 lo)).take (sIx items.size items.size hi - sIx items.size 0 lo)).toArray.size ≤ sizeLine
    rw [List.size_toArray, List.length_take, List.length_drop, Array.length_toList]
    omega
  have hj : sIx items.size items.size hi ≤ items.size := sIx_le _ _ (Nat.le_refl _) hi
  obtain ⟨os, hos, hcs, hds⟩ := id hs
  have hTs : s.TypeIs (.ref sl) "slice" := ⟨os, hos, hcs⟩
  unfold getItem
  try with_reducible refine wpAny_holding ?_
  first | refine wpAny_bind (wpAny_pure ?_) | skip
  refine wpAny_bind (wpAny_sequenceKey ht.typeIs (by decide) ?_)
  refine wpAny_bind (wpAny_callSpecial?_slot (name := Str.ofString "__getitem__") ht.typeIs PyProof.Rows.slot_tuple_getitem
    (wpAny_call_entry PyProof.Rows.slot_tuple_getitem ht.typeIs entry_tuple_getitem ?_ (args_tuple_getitem _ _)))
  show wpAny _ _ (Builtin.Tuple.tupleItemsOf (.ref t) >>= _) _ _ s
  refine wpAny_bind (tupleItemsOf_ ht ?_)
  refine wpAny_bind (wpAny_typeOf hTs ?_)
  rw [if_pos (by decide)]
  refine wpAny_bind (sliceApplied_gen hs pl pu ?_)
  have hno : ¬ ((((sIx items.size 0 lo : Nat) : Int) == 0 && (1 : Int) == 1 && (sIx items.size items.size hi - sIx items.size 0 lo) == items.size) = true) := by
    intro q
    rw [Bool.and_eq_true, Bool.and_eq_true] at q
    have q1 : ((sIx items.size 0 lo : Nat) : Int) = 0 := eq_of_beq q.1.1
    have q2 : sIx items.size items.size hi - sIx items.size 0 lo = items.size := eq_of_beq q.2
    exact hw ⟨by omega, by omega⟩
  show wpAny _ _ (if (((sIx items.size 0 lo : Nat) : Int) == 0 && (1 : Int) == 1 && (sIx items.size items.size hi - sIx items.size 0 lo) == items.size) = true then _ else _) _ _ s
  rw [if_neg hno, pick_gen]
  first
    | exact wpAny_bind (m := Builtin.Tuple.tupleExact _) (wpAny_newObj_type (wpAny_pure ⟨_, rfl, wpAny_pure h⟩) htake)
    | exact wpAny_bind (m := Builtin.Tuple.tupleExact _) (wpAny_newObj_type (wpAny_bind (wpAny_pure (wpAny_pure ⟨_, rfl, wpAny_pure h⟩))) htake)
    | exact wpAny_bind (wpAny_bind (m := Builtin.Tuple.tupleExact _) (wpAny_newObj_type (wpAny_pure (wpAny_pure ⟨_, rfl, wpAny_pure h⟩)) htake))
    | exact wpAny_bind (wpAny_bind (m := Builtin.Tuple.tupleExact _) (wpAny_newObj_type (wpAny_pure ⟨_, rfl, wpAny_pure h⟩) htake))
end
end HT
namespace L2
open PySem PySem.Spec PyProof.Rows
abbrev TO := St → Hp → (Option Int → Hp → Prop) → Prop
def PO (X : Cx) (e : Option Expr) (t : TO) : Prop :=
  ∀ (pins : List (Addr × Obj)) (s : Shared) (σ : St) (H : Hp) (Q : Option Int → Hp → Prop), Inv X pins σ H s → t σ H Q →
    wpAny (model X.prog X.w) X.A (evalPart e X.env) (fun u s' => ∃ o H', Inv X pins σ H' s' ∧ IsPart u o ∧ Q o H') X.xe s
def tNoPart : TO := fun _ H Q => Q none H
def tPart (t : TE) : TO := fun σ H Q => t σ H fun x H1 => ∃ i, x = .int i ∧ Q (some i) H1
section
variable {X : Cx} {e : Expr} {te : TE} {lo hi : Option Expr} {tl th : TO} {pos p2 : Pos}
theorem po_none : PO X none tNoPart := by
  intro pins s σ H Q I h
  rw [evalPart_none]
  exact wpAny_pure ⟨none, H, I, .none, h⟩
theorem po_some (h : PE X e te) : PO X (some e) (tPart te) := by
  intro pins s σ H Q I hw
  rw [evalPart_some]
  refine thn (h pins s σ H _ I hw) fun u s1 ⟨x, H1, I1, r1, q1⟩ => ?_
  obtain ⟨i, rfl, q⟩ := q1
  obtain ⟨t, rfl⟩ := r1
  exact ⟨some i, H1, I1, .int i t, q⟩
def SlR (X : Cx) (r : V → Option Int → Option Int → Hp → VK → Prop) : Prop :=
  ∀ (pins : List (Addr × Obj)) (s : Shared) (σ : St) (H : Hp) (x : V) (v vl vu : Value) (lo hi : Option Int) (sl : Addr) (Q : VK), Inv X pins σ H s → RelV x v → s.heap.IsSliceOf sl vl vu .none → IsPart vl lo → IsPart vu hi → r x lo hi H Q →
    ∃ T id, typeLookup (.type T) "__getitem__" = pure (some (.builtin id)) ∧ s.TypeIs v T ∧ wpAny (model X.prog X.w) X.A (getItem v (.ref sl)) (EP X pins σ Q) X.xe s
theorem SlR.or {r r' : V → Option Int → Option Int → Hp → VK → Prop} (h : SlR X r) (h' : SlR X r') : SlR X (fun x lo hi H Q => r x lo hi H Q ∨ r' x lo hi H Q) := by
  intro pins s σ H x v vl vu lo hi sl Q I rx hs pl pu q
  rcases q with q | q
  · exact h pins s σ H x v vl vu lo hi sl Q I rx hs pl pu q
  · exact h' pins s σ H x v vl vu lo hi sl Q I rx hs pl pu q
def tSl (r : V → Option Int → Option Int → Hp → VK → Prop) (te : TE) (tl th : TO) : TE := fun σ H Q => te σ H fun x H1 => tl σ H1 fun l H2 => th σ H2 fun u H3 => r x l u H3 Q
theorem pe_slice {r : V → Option Int → Option Int → Hp → VK → Prop} (hr : SlR X r) (he : PE X e te) (hl : PO X lo tl) (hu : PO X hi th) : PE X (.Subscript e (.Slice lo hi none p2) pos) (tSl r te tl th) := by
  intro pins s σ H Q I h
  refine Subscript_ (thn (he pins s σ H _ I h) fun v s1 ⟨x, H1, I1, r1, q1⟩ => ?_)
  refine wpAny_Slice (thn (hl pins s1 σ H1 _ I1 q1) fun vl s2 ⟨l, H2, I2, pl, q2⟩ => thn (hu pins s2 σ H2 _ I2 q2) fun vu s3 ⟨u, H3, I3, pu, q3⟩ => ?_)
  rw [evalPart_none]
  refine wpAny_pure ?_
  have I4 : Inv X pins σ H3 { s3 with heap := s3.heap.push { cls := .type "slice", data := .fields #[vl, vu, .none] } } := I3.kept (t' := s3.toks) fun b ob q => Heap.get?_push_of_some _ q
  obtain ⟨T, id, hT, ht, hg⟩ := hr pins { s3 with heap := s3.heap.push { cls := .type "slice", data := .fields #[vl, vu, .none] } } σ H3 x v vl vu l u s3.heap.objs.size Q I4 r1 (Heap.IsSliceOf.new ..) pl pu q3
  show wpAny (model X.prog X.w) X.A (subscriptTail e (.Slice lo hi none p2) v (.ref s3.heap.objs.size)) (EP X pins σ Q) X.xe { s3 with heap := s3.heap.push { cls := .type "slice", data := .fields #[vl, vu, .none] } }
  exact tail_any (ops := [.ref s3.heap.objs.size, v]) ht hT hg (by with_unfolding_all rfl)
def cutV (xs : List V) (lo hi : Option Int) : List V := (xs.drop (HT.sIx xs.length 0 lo)).take (HT.sIx xs.length xs.length hi - HT.sIx xs.length 0 lo)
theorem cutV_length (xs : List V) (lo hi : Option Int) : (cutV xs lo hi).length ≤ xs.length := by
  unfold cutV
  rw [List.length_take, List.length_drop]
  omega
def rSlT (K : PySem.W.Frag) : V → Option Int → Option Int → Hp → VK → Prop := fun x lo hi H Q => ∃ a xs, x = .ref a ∧ SqT K H a xs ∧
  ¬ (HT.sIx xs.length 0 lo = 0 ∧ HT.sIx xs.length xs.length hi = xs.length) ∧ ∀ p, H p = none → Q (.ref p) (upd H p (.tup (cutV xs lo hi)))
theorem sl_tup : SlR X (rSlT X.K) := by
  intro pins s σ H x v vl vu lo hi sl Q I rx hs pl pu h
  obtain ⟨a, xs, rfl, hx, hw, q⟩ := h
  cases rx
  obtain ⟨its, r, ht, hz⟩ := I.tuple hx
  have hlen : its.toArray.size = xs.length := by rw [List.size_toArray]; exact r.length.symm
  refine ⟨"tuple", _, PyProof.Rows.slot_tuple_getitem.lookup, ht.typeIs, ?_⟩
  refine HT.getItem_tuple_cut ht hs pl pu (by rw [hlen]; exact hw) ?_ (by rw [hlen]; exact hz)
  rw [hlen]
  refine ⟨.ref s.heap.objs.size, _, I.laid (t' := s.toks) (o := .tup (cutV xs lo hi)) (fun b ob q => Heap.get?_push_of_some _ q) (Nat.le_refl _) ?_, rfl, q _ (I.hok.fresh (Nat.le_refl _))⟩
  exact ⟨Nat.le_trans (cutV_length xs lo hi) hz, _, (r.drop (HT.sIx xs.length 0 lo)).take (HT.sIx xs.length xs.length hi - HT.sIx xs.length 0 lo), IsTup.new _ _⟩
def rCatT (K : PySem.W.Frag) : R2 := fun x y H Q => ∃ a b xs ys, x = .ref a ∧ y = .ref b ∧ SqT K H a xs ∧ SqT K H b ys ∧ xs ≠ [] ∧ xs.length + ys.length ≤ sizeLine ∧
  (ys = [] → Q (.ref a) H) ∧ (ys ≠ [] → ∀ p, H p = none → Q (.ref p) (upd H p (.tup (xs ++ ys))))
theorem Vals.nil_iff {xs : List V} {us : List Value} (r : Vals xs us) : us = [] ↔ xs = [] := by
  cases r with
  | nil => simp
  | cons _ _ => simp
theorem op_catT : OpR X (binaryOp .Add) (rCatT X.K) := by
  intro pins s σ H x y v u Q I rx ry h
  obtain ⟨a, b, xs, ys, rfl, rfl, ha, hb, hx, hz, q1, q2⟩ := h
  cases rx
  cases ry
  obtain ⟨its, r1, p1, _⟩ := I.tuple ha
  obtain ⟨its2, r2, p2, _⟩ := I.tuple hb
  refine HT.cat_tup p1 p2 (fun z => hx (r1.nil_iff.mp z)) (fun z => ⟨.ref a, H, I, rfl, q1 (r2.nil_iff.mp z)⟩) (fun z => ?_) (by rw [← r1.length, ← r2.length]; exact hz)
  refine ⟨.ref s.heap.objs.size, _, I.laid (t' := s.toks) (o := .tup (xs ++ ys)) (fun b ob q => Heap.get?_push_of_some _ q) (Nat.le_refl _) ?_, rfl, q2 (fun w => z (r2.nil_iff.mpr w)) _ (I.hok.fresh (Nat.le_refl _))⟩
  exact ⟨by rw [List.length_append]; exact hz, _, r1.append r2, IsTup.new _ _⟩
end
end L2
namespace L2
open PySem PySem.Spec PyProof.Rows
def ixN (n : Nat) (i : Int) : Option Nat := if 0 ≤ i then (if i < n then some i.toNat else none) else if -(n : Int) ≤ i then some (i + n).toNat else none
def atI {α : Type} (xs : List α) (i : Int) : Option α := (ixN xs.length i).bind fun j => xs[j]?
theorem ixN_seq {n : Nat} {i : Int} {j : Nat} (h : ixN n i = some j) : seqIndex? i n = some j ∧ j < n ∧ -(n : Int) ≤ i ∧ i < n := by
  unfold ixN at h
  by_cases h0 : 0 ≤ i
  · rw [if_pos h0] at h
    by_cases h1 : i < n
    · rw [if_pos h1] at h
      have e : i.toNat = j := Option.some.inj h
      exact ⟨by rw [seqIndex_of h0 h1, e], by omega, by omega, h1⟩
    · rw [if_neg h1] at h; cases h
  · rw [if_neg h0] at h
    by_cases h1 : -(n : Int) ≤ i
    · rw [if_pos h1] at h
      have e : (i + n).toNat = j := Option.some.inj h
      exact ⟨by rw [seqIndex_neg (by omega) h1, e], by omega, h1, by omega⟩
    · rw [if_neg h1] at h; cases h
theorem atI_get {α : Type} {xs : List α} {i : Int} {v : α} (h : atI xs i = some v) : ∃ j, seqIndex? i xs.length = some j ∧ xs[j]? = some v ∧ j < xs.length ∧ -(xs.length : Int) ≤ i ∧ i < xs.length := by
  unfold atI at h
  cases e : ixN xs.length i with
  | none => rw [e] at h; cases h
  | some j =>
    rw [e] at h
    obtain ⟨h1, h2, h3, h4⟩ := ixN_seq e
    exact ⟨j, h1, h, h2, h3, h4⟩
theorem atI_nat {α : Type} {xs : List α} {j : Nat} {v : α} (h : xs[j]? = some v) : atI xs (j : Int) = some v := by
  have hj : j < xs.length := (List.getElem?_eq_some_iff.mp h).1
  have e : ixN xs.length (j : Int) = some j := by
    unfold ixN
    rw [if_pos (by omega), if_pos (by omega)]; simp
  unfold atI; rw [e]; exact h
def PlainIx (b : Expr) : Prop := ∀ o i, subscripted b false o i = operate [o, i] (getItem o i)
def IxR (X : Cx) (r : R2) : Prop :=
  ∀ (value slice : Expr) (pins : List (Addr × Obj)) (s : Shared) (σ : St) (H : Hp) (x y : V) (v u : Value) (Q : VK), Inv X pins σ H s → RelV x v → RelV y u → r x y H Q →
    subscripted slice false v u = operate [v, u] (getItem v u) → wpAny (model X.prog X.w) X.A (subscriptTail value slice v u) (EP X pins σ Q) X.xe s
def MtR (X : Cx) (id : String) (r : V → List V → Hp → VK → Prop) : Prop :=
  ∀ (pins : List (Addr × Obj)) (s : Shared) (σ : St) (H : Hp) (x : V) (xs : List V) (v : Value) (us : List Value) (Q : VK), Inv X pins σ H s → RelV x v → Vals xs us → r x xs H Q →
    wpAny (model X.prog X.w) X.A (call (.builtin id) (v :: us)) (EP X pins σ Q) X.xe s
section
variable {X : Cx} {a b : Expr} {ta tb : TE} {pos : Pos}
theorem IxR.or {r r' : R2} (h : IxR X r) (h' : IxR X r') : IxR X (fun x y H Q => r x y H Q ∨ r' x y H Q) := by
  intro value slice pins s σ H x y v u Q I rx ry q hs
  rcases q with q | q
  · exact h value slice pins s σ H x y v u Q I rx ry q hs
  · exact h' value slice pins s σ H x y v u Q I rx ry q hs
theorem pe_ix {r : R2} (hr : IxR X r) (ha : PE X a ta) (hb : PE X b tb) (hs : PlainIx b) : PE X (.Subscript a b pos) (tOp r ta tb) := by
  intro pins s σ H Q I h
  exact Subscript_ (binT ha hb I h fun v u s2 x y H2 I2 rx ry q => hr a b pins s2 σ H2 x y v u Q I2 rx ry q (hs _ _))
def rIxL (K : PySem.W.Frag) : R2 := fun x y H Q => ∃ p xs i v, x = .ref p ∧ y = .int i ∧ SqL K H p xs ∧ atI xs i = some v ∧ Q v H
def rIxT (K : PySem.W.Frag) : R2 := fun x y H Q => ∃ p xs i v, x = .ref p ∧ y = .int i ∧ SqT K H p xs ∧ atI xs i = some v ∧ Q v H
def rIxS : R2 := fun x y H Q => ∃ z i c, x = .str z ∧ y = .int i ∧ z.length ≤ sizeLine ∧ atI z.cps.toList i = some c ∧ Q (.str ⟨#[c]⟩) H
theorem ix_list : IxR X (rIxL X.K) := by
  intro value slice pins s σ H x y v u Q I rx ry h hs
  obtain ⟨p, xs, i, z, rfl, rfl, hq, he, q⟩ := h
  cases rx
  obtain ⟨t, rfl⟩ := ry
  obtain ⟨its, r, pl, hz⟩ := I.list hq
  obtain ⟨j, h1, h2, h3, h4, h5⟩ := atI_get he
  obtain ⟨w, ew, rw'⟩ := r.get h2
  have hl := r.length
  have hn := line63
  have fin : EP X pins σ Q w s := ⟨z, H, I, rw', q⟩
  by_cases h0 : 0 ≤ i
  · have hj : i.toNat = j := by
      rw [seqIndex_of h0 h5] at h1
      exact Option.some.inj h1
    exact item_listR pl.isList h0 (by omega) (by rw [hj]; simpa using ew) fin hs
  · have hj : (i + (its.toArray.size : Int)).toNat = j := by
      rw [seqIndex_neg (by omega) h4] at h1
      rw [List.size_toArray, ← hl]
      exact Option.some.inj h1
    exact subscriptTail_builtinR (x := w) pl.isList.typeIs slot_list_getitem.lookup
      (wpAny_getItem_list_neg (Q := fun r s' => r = w ∧ EP X pins σ Q r s') pl.isList (by omega) (by rw [List.size_toArray] <;> omega) (by omega) (by rw [hj]; simpa using ew) ⟨rfl, fin⟩) hs
theorem ix_tup : IxR X (rIxT X.K) := by
  intro value slice pins s σ H x y v u Q I rx ry h hs
  obtain ⟨p, xs, i, z, rfl, rfl, hq, he, q⟩ := h
  cases rx
  obtain ⟨t, rfl⟩ := ry
  obtain ⟨its, r, pl, hz⟩ := I.tuple hq
  obtain ⟨j, h1, h2, h3, h4, h5⟩ := atI_get he
  obtain ⟨w, ew, rw'⟩ := r.get h2
  have hl := r.length
  have hn := line63
  have fin : EP X pins σ Q w s := ⟨z, H, I, rw', q⟩
  exact subscriptTail_builtinR (x := w) pl.typeIs slot_tuple_getitem.lookup
    (getItem_tuple (j := j) (Q := fun r s' => r = w ∧ EP X pins σ Q r s') pl (by omega) (by omega) (by rw [List.size_toArray, ← hl]; exact h1) (by simpa using ew) ⟨rfl, fin⟩) hs
theorem ix_str : IxR X rIxS := by
  intro value slice pins s σ H x y v u Q I rx ry h hs
  obtain ⟨z, i, c, rfl, rfl, hz, he, q⟩ := h
  obtain ⟨t, rfl⟩ := rx
  obtain ⟨t', rfl⟩ := ry
  obtain ⟨j, h1, h2, h3, h4, h5⟩ := atI_get he
  have hl : z.cps.toList.length = z.length := by simp [Str.length]
  rw [hl] at h1 h4 h5
  have hn := line63
  exact tail_any (typeIs_str s z t) slot_str_getitem.lookup (getItem_str (c := c) (by
    have e1 : decide (i < -(2 ^ 63 : Int)) = false := decide_eq_false (by omega)
    have e2 : decide (i ≥ 2 ^ 63) = false := decide_eq_false (by omega)
    rw [e1, e2, Bool.or_false]) (by rw [h1]; simpa using h2) ⟨.str ⟨#[c]⟩, H, I.tok _, ⟨_, rfl⟩, q⟩) hs
def rIx (K : PySem.W.Frag) : R2 := fun x y H Q => rIxL K x y H Q ∨ rIxT K x y H Q ∨ rIxS x y H Q
theorem ix_seq : IxR X (rIx X.K) := ix_list.or (ix_tup.or ix_str)
theorem mapSeq_set (its : List Value) (n j : Nat) (u : Value) : Obj.mapSeq (·.setIfInBounds j u) { cls := .type "list", data := .seq its.toArray n } = { cls := .type "list", data := .seq (its.set j u).toArray n } := by
  simp [Obj.mapSeq]
theorem Inv.lst {pins : List (Addr × Obj)} {σ : St} {H : Hp} {s : Shared} {p : Addr} {xs : List V} (I : Inv X pins σ H s) (h : H p = some (.lst xs)) :
    ∃ (its : List Value) (n : Nat), Vals xs its ∧ s.heap.get? p = some { cls := .type "list", data := .seq its.toArray n } ∧ xs.length ≤ sizeLine := by
  obtain ⟨z, its, n, r, e⟩ := I.hok p _ h
  exact ⟨its, n, r, e, z⟩
theorem Inv.lstUpd {pins : List (Addr × Obj)} {σ : St} {H : Hp} {s : Shared} {p : Addr} {xs ys : List V} {its its' : List Value} {n n' : Nat} {f : Obj → Obj} (I : Inv X pins σ H s) (h : H p = some (.lst xs))
    (ho : s.heap.get? p = some { cls := .type "list", data := .seq its.toArray n }) (hf : f { cls := .type "list", data := .seq its.toArray n } = { cls := .type "list", data := .seq its'.toArray n' }) (r : Vals ys its') (hz : ys.length ≤ sizeLine) (t : Nat) :
    Inv X pins σ (upd H p (.lst ys)) { s with heap := s.heap.update p f, toks := t } := by
  have e : (s.heap.update p f).get? p = some { cls := .type "list", data := .seq its'.toArray n' } := by
    rw [Heap.get?_update_self f ho (by rw [hf] <;> rfl), hf]
  refine I.write (x := p) (e := p) (by rw [h]; trivial) (.inl rfl) (fun b u hb q => (Heap.get?_update_other _ _ (Ne.symm hb)).trans q) ⟨_, e⟩ ?_
  exact ⟨hz, its', n', r, e⟩
def rSetL : V → V → V → Hp → (Hp → Prop) → Prop := fun o i v H Q => ∃ p xs k j, o = .ref p ∧ i = .int k ∧ H p = some (.lst xs) ∧ ixN xs.length k = some j ∧ Q (upd H p (.lst (xs.set j v)))
theorem set_list : PSet X rSetL := by
  intro pins s σ H o i v ov iv u Q I ro ri rv h
  obtain ⟨p, xs, k, j, rfl, rfl, hp, hj, q⟩ := h
  cases ro
  obtain ⟨t, rfl⟩ := ri
  obtain ⟨its, n, r, ho, hz⟩ := I.lst hp
  obtain ⟨h1, h2, h3, h4⟩ := ixN_seq hj
  have hl := r.length
  have hn := line63
  have I' : Inv X pins σ (upd H p (.lst (xs.set j v))) { s with heap := s.heap.update p (Obj.mapSeq (·.setIfInBounds j u)) } :=
    I.lstUpd hp ho (mapSeq_set its n j u) (r.set rv j) (by rw [List.length_set]; exact hz) s.toks
  by_cases h0 : 0 ≤ k
  · have hk : k.toNat = j := by
      rw [seqIndex_of h0 h4] at h1
      exact Option.some.inj h1
    exact PySem.W.ki_setAt ho h0 (by omega) (by rw [List.size_toArray, ← hl]; exact h4) (by rw [hk]; exact ⟨_, I', q⟩)
  · have hk : (k + (its.toArray.size : Int)).toNat = j := by
      rw [seqIndex_neg (by omega) h3] at h1
      rw [List.size_toArray, ← hl]
      exact Option.some.inj h1
    exact PySem.W.ki_setBack ho (by omega) (by rw [List.size_toArray, ← hl]; exact h3) (by omega) (by rw [hk]; exact ⟨_, I', q⟩)
theorem slice_bounds (lo hi : Option Int) (n : Nat) : (sliceBounds lo hi none n).1 = ((HT.sIx n 0 lo : Nat) : Int) ∧ (sliceBounds lo hi none n).2.1 = ((HT.sIx n n hi : Nat) : Int) ∧ (sliceBounds lo hi none n).2.2 = 1 := by
  refine ⟨?_, ?_, rfl⟩
  · cases lo with
    | none => simp [sliceBounds, HT.sIx]
    | some i =>
      simp only [sliceBounds, HT.sIx, Option.getD_none, show (1 : Int) > 0 by decide, if_true]
      by_cases h : i < 0
      · simp only [h, if_true] <;> omega
      · simp only [h, if_false] <;> omega
  · cases hi with
    | none => simp [sliceBounds, HT.sIx]
    | some i =>
      simp only [sliceBounds, HT.sIx, Option.getD_none, show (1 : Int) > 0 by decide, if_true]
      by_cases h : i < 0
      · simp only [h, if_true] <;> omega
      · simp only [h, if_false] <;> omega
theorem slicePick_cut (its : List Value) (lo hi : Option Int) : slicePick its.toArray lo hi none = ((its.drop (HT.sIx its.length 0 lo)).take (HT.sIx its.length its.length hi - HT.sIx its.length 0 lo)).toArray := by
  obtain ⟨h1, h2, h3⟩ := slice_bounds lo hi its.toArray.size
  unfold slicePick
  rw [h1, h2, h3]
  simp only [sliceRange_one, pick_run, List.size_toArray] <;> rfl
def rSlL (K : PySem.W.Frag) : V → Option Int → Option Int → Hp → VK → Prop := fun x lo hi H Q => ∃ a xs, x = .ref a ∧ SqL K H a xs ∧ ∀ p, H p = none → Q (.ref p) (upd H p (.lst (cutV xs lo hi)))
theorem sl_list : SlR X (rSlL X.K) := by
  intro pins s σ H x v vl vu lo hi sl Q I rx hs pl pu h
  obtain ⟨a, xs, rfl, hx, q⟩ := h
  cases rx
  obtain ⟨its, r, ht, hz⟩ := I.list hx
  have hlen := r.length
  refine ⟨"list", _, slot_list_getitem.lookup, ht.isList.typeIs, ?_⟩
  refine wpAny_getItem_list_slice ht.isList hs pl pu .none (by simp) ?_ (by rw [List.size_toArray] <;> omega)
  rw [slicePick_cut, ← hlen]
  refine ⟨.ref s.heap.objs.size, _, I.laid (t' := s.toks) (o := .lst (cutV xs lo hi)) (fun b ob q => Heap.get?_push_of_some _ q) (Nat.le_refl _) ?_, rfl, q _ (I.hok.fresh (Nat.le_refl _))⟩
  exact ⟨Nat.le_trans (cutV_length xs lo hi) hz, _, 0, (r.drop (HT.sIx xs.length 0 lo)).take (HT.sIx xs.length xs.length hi - HT.sIx xs.length 0 lo), Heap.get?_push_size _ rfl⟩
def flatV : V → Bool
  | .non => true
  | .bl _ => true
  | .int _ => true
  | .str _ => true
  | _ => false
def tyV (K : PySem.W.Frag) (T : String) (x : V) (H : Hp) : Prop := match x with
  | .str _ => T = "str"
  | .int _ => T = "int"
  | .ref p => (T = "list" ∧ ∃ xs, SqL K H p xs) ∨ (T = "tuple" ∧ ∃ o, K.lookup p = some o ∧ o.cls = .type "tuple" ∧ o.dict = none) ∨
      (T = "dict" ∧ ((∃ kvs, H p = some (.dK kvs)) ∨ ∃ kvs, H p = some (.dT kvs))) ∨ (T = "set" ∧ ∃ S n, H p = some (.set S n))
  | _ => False
theorem tyV_is {pins : List (Addr × Obj)} {σ : St} {H : Hp} {s : Shared} {T : String} {x : V} {v : Value} (I : Inv X pins σ H s) (r : RelV x v) (ty : tyV X.K T x H) :
    s.TypeIs v T ∧ ∀ a, v = .ref a → ∃ ob, s.heap.get? a = some ob ∧ ob.dict = none := by
  cases x with
  | str z =>
    obtain ⟨t, rfl⟩ := r
    cases (show T = "str" from ty)
    exact ⟨typeIs_str s z t, fun _ e => nomatch e⟩
  | int i =>
    obtain ⟨t, rfl⟩ := r
    cases (show T = "int" from ty)
    exact ⟨typeIs_int s i t, fun _ e => nomatch e⟩
  | ref p =>
    cases r
    rcases ty with ⟨rfl, xs, hq⟩ | ⟨rfl, o, hk, hc, hd⟩ | ⟨rfl, hk⟩ | ⟨rfl, S, n, hk⟩
    · obtain ⟨its, _, pl, _⟩ := I.list hq
      refine ⟨pl.isList.typeIs, fun a e => ?_⟩
      cases e
      obtain ⟨o, n, e, c, hd, _⟩ := pl
      exact ⟨o, e, hd⟩
    · refine ⟨⟨o, I.kIn p o hk, hc⟩, fun a e => ?_⟩
      cases e
      exact ⟨o, I.kIn _ o hk, hd⟩
    · have z : ∃ o, s.heap.get? p = some o ∧ o.ExactDict := by
        rcases hk with ⟨kvs, hk⟩ | ⟨kvs, hk⟩
        · obtain ⟨_, _, _, _, o, _, _, e, ex, _⟩ := I.hok p _ hk
          exact ⟨o, e, ex⟩
        · obtain ⟨_, _, _, _, o, _, _, e, ex, _⟩ := I.hok p _ hk
          exact ⟨o, e, ex⟩
      obtain ⟨o, e, ex⟩ := z
      refine ⟨⟨o, e, ex.1⟩, fun a e2 => ?_⟩
      cases e2
      exact ⟨o, e, ex.2.1⟩
    · obtain ⟨o, _, _, _, e, ex, _⟩ := I.hok p _ hk
      refine ⟨⟨o, e, ex.1⟩, fun a e2 => ?_⟩
      cases e2
      exact ⟨o, e, ex.2.1⟩
  | _ => exact False.elim ty
def tBM0 (K : PySem.W.Frag) (T : String) (r : V → List V → Hp → VK → Prop) (to : TE) : TE := fun σ H Q => to σ H fun x H1 => tyV K T x H1 ∧ r x [] H1 Q
def tBM (K : PySem.W.Frag) (T : String) (r : V → List V → Hp → VK → Prop) (to : TE) (t : TA) : TE := fun σ H Q => to σ H fun x H1 => tyV K T x H1 ∧ t σ H1 fun xs H2 => r x xs H2 Q
variable {o e : Expr} {es : List Expr} {to : TE} {t : TA} {name : Str} {apos cpos : Pos} {T id : String} {r : V → List V → Hp → VK → Prop}
theorem pe_bm0 (pa : PlainAttrs T) (slot : Slot T name id) (hty : typeOf (.builtin id) = pure (.type "method_descriptor")) (hm : MtR X id r) (ho : PE X o to)
    (hbase : attributeBase o name X.env (eval o X.env) = eval o X.env := by rfl) (hline : (apos.endLine == cpos.line) = true := by rfl) : PE X (.Call (.Attribute o name apos) [] [] cpos) (tBM0 X.K T r to) := by
  intro pins s σ H Q I h
  refine wpAny_Call_method0_late hbase hline (thn (ho pins s σ H _ I h) fun v s1 ⟨x, H1, I1, r1, ty, q1⟩ => ?_)
  obtain ⟨h1, h2⟩ := tyV_is I1 r1 ty
  exact ⟨T, id, pa, slot, hty, h1, h2, Calls.callWith_builtin rfl (PySem.evalArgs_none (hm pins s1 σ H1 x [] v [] Q I1 r1 .nil q1))⟩
theorem pe_bm (pa : PlainAttrs T) (slot : Slot T name id) (hty : typeOf (.builtin id) = pure (.type "method_descriptor")) (hm : MtR X id r) (ho : PE X o to) (ha : PA X (e :: es) t)
    (hbase : attributeBase o name X.env (eval o X.env) = eval o X.env := by rfl)
    (hfew : ((backTo cpos (starEach (e :: es) X.env)).all (fun x => !x.1) && (backToKw cpos (keywordEach [] X.env)).all (fun x => x.1.isSome)
      && decide ((e :: es).length + ([] : List Keyword).length + (if ([] : List Keyword).isEmpty then 0 else 1) < 30)) = true := by rfl)
    (hline : (apos.endLine == cpos.line) = true := by rfl) (hs : starEach (e :: es) X.env = (false, eval e X.env) :: starEach es X.env := by rfl) (hplain : (backTo cpos (starEach es X.env)).any (·.1) = false := by rfl) :
    PE X (.Call (.Attribute o name apos) (e :: es) [] cpos) (tBM X.K T r to t) := by
  intro pins s σ H Q I h
  refine wpAny_Call_method_late hbase hfew hline rfl (thn (ho pins s σ H _ I h) fun v s1 ⟨x, H1, I1, r1, ty, q1⟩ => ?_)
  obtain ⟨h1, h2⟩ := tyV_is I1 r1 ty
  refine ⟨T, id, pa, slot, hty, h1, h2, ?_⟩
  have hA := ha cpos pins s1 σ H1 _ I1 q1
  rw [hs] at hA ⊢
  refine Calls.callWith_builtin (by show (false || (backTo cpos (starEach es X.env)).any (·.1)) = false; rw [hplain] <;> rfl) (Calls.evalArgs_plain ?_)
  exact thn hA fun us s2 ⟨vs, H2, I2, r2, q2⟩ => hm pins s2 σ H2 x vs v us Q I2 r1 r2 q2
end
end L2
namespace L2
open PySem PySem.Spec PyProof.Rows
def MtM (X : Cx) (id : String) (r : V → List V → Hp → VK → Prop) : Prop :=
  ∀ (pins : List (Addr × Obj)) (s : Shared) (σ : St) (H : Hp) (x : V) (xs : List V) (v : Value) (us : List Value) (Q : VK), Inv X pins σ H s → RelV x v → Vals xs us → r x xs H Q →
    wpAny (model X.prog X.w) X.A (call (.builtin id) (v :: us)) (EP X pins σ Q) X.xe s
theorem Vals.one : ∀ {x : V} {us : List Value}, Vals [x] us → ∃ u, us = [u] ∧ RelV x u
  | _, _, .cons r .nil => ⟨_, rfl, r⟩
theorem Vals.rep {xs : List V} {us : List Value} (h : Vals xs us) : ∀ k : Nat, Vals (List.replicate k xs).flatten (List.replicate k us).flatten
  | 0 => .nil
  | k + 1 => by
    rw [List.replicate_succ, List.replicate_succ, List.flatten_cons, List.flatten_cons]
    exact Vals.append h (Vals.rep h k)
theorem foldl_rep (its : List Value) : ∀ (k : Nat) (acc : List Value),
    List.foldl (fun x1 x2 => x1 ++ x2) acc.toArray (List.replicate k its.toArray) = (acc ++ (List.replicate k its).flatten).toArray
  | 0, acc => by simp
  | k + 1, acc => by
    have e : acc.toArray ++ its.toArray = (acc ++ its).toArray := by simp
    have e2 : (acc ++ its) ++ (List.replicate k its).flatten = acc ++ (List.replicate (k + 1) its).flatten := by
      rw [List.replicate_succ, List.flatten_cons, List.append_assoc]
    rw [← e2, ← foldl_rep its k (acc ++ its), ← e, List.replicate_succ, List.foldl_cons]
section
variable {X : Cx} {pins : List (Addr × Obj)} {σ : St} {H : Hp} {s : Shared} {l b : Addr} {xs ys zs : List V}
theorem Inv.lset {its its' : List Value} {n : Nat} {f : Array Value → Array Value} {t' : Nat} (I : Inv X pins σ H s) (hH : H l = some (.lst xs))
    (e : s.heap.get? l = some { cls := .type "list", data := .seq its.toArray n }) (hf : f its.toArray = its'.toArray) (hv : Vals ys its') (hz : ys.length ≤ sizeLine) :
    Inv X pins σ (upd H l (.lst ys)) { s with heap := s.heap.update l (Obj.mapSeq f), toks := t' } := by
  have q := PySem.IsL.update e f
  rw [hf] at q
  refine I.write (x := l) (e := l) (by rw [hH]; exact trivial) (.inl rfl) (fun b' u hb hu => (Heap.get?_update_other s.heap (Obj.mapSeq f) (Ne.symm hb)).trans hu) ⟨_, q⟩ ?_
  exact ⟨hz, its', _, hv, q⟩
theorem Inv.lnew {its : List Value} {t' : Nat} (I : Inv X pins σ H s) (hv : Vals ys its) (hz : ys.length ≤ sizeLine) :
    Inv X pins σ (upd H s.heap.objs.size (.lst ys)) { s with heap := s.heap.push { cls := .type "list", data := .seq its.toArray }, toks := t' } :=
  I.laid (fun _ _ q => Heap.get?_push_of_some _ q) (Nat.le_refl _) ⟨hz, its, 0, hv, Heap.get?_push_size _ rfl⟩
theorem Inv.fresh (I : Inv X pins σ H s) : H s.heap.objs.size = none := I.hok.fresh (Nat.le_refl _)
theorem Inv.lstM (I : Inv X pins σ H s) (hH : H l = some (.lst xs)) : xs.length ≤ sizeLine ∧ ∃ (its : List Value) (n : Nat), Vals xs its ∧ xs.length = its.length ∧ s.heap.get? l = some { cls := .type "list", data := .seq its.toArray n } := by
  obtain ⟨z, its, n, r, e⟩ := I.hok l _ hH
  exact ⟨z, its, n, r, r.length, e⟩
theorem notLongL {n : Nat} (h : n ≤ sizeLine) : Builtin.List.listTooLong n = false := by
  unfold Builtin.List.listTooLong
  exact decide_eq_false (by omega)
end
section
variable {X : Cx}
def rAppend : V → List V → Hp → VK → Prop := fun x vs H Q => ∃ l xs y, x = .ref l ∧ vs = [y] ∧ H l = some (.lst xs) ∧ xs.length < sizeLine ∧ Q .non (upd H l (.lst (xs ++ [y])))
theorem mt_append : MtM X "list.append" rAppend := by
  intro pins s σ H x vs v us Q I rx rv h
  obtain ⟨l, xs, y, rfl, rfl, hH, hz, q⟩ := h
  cases rx
  obtain ⟨u, rfl, ru⟩ := rv.one
  obtain ⟨z, its, n, r, hl, e⟩ := I.lstM hH
  refine call_meets F.slot_list_append ⟨_, e, rfl⟩ F.entry_list_append (F.args_list_append_2 _ _) (PySem.list_append l its.toArray n u (by rw [List.size_toArray]; omega)) ⟨e, ?_⟩
  refine ⟨.non, _, I.lset (its' := its ++ [u]) hH e (by simp) (r.append (.cons ru .nil)) ?_, rfl, q⟩
  rw [List.length_append, List.length_singleton]
  omega
def rCat : R2 := fun x y H Q => ∃ l b xs zs, x = .ref l ∧ y = .ref b ∧ H l = some (.lst xs) ∧ H b = some (.lst zs) ∧ xs.length + zs.length ≤ sizeLine ∧ ∀ p, H p = none → Q (.ref p) (upd H p (.lst (xs ++ zs)))
theorem op_cat : OpR X (binaryOp .Add) rCat := by
  intro pins s σ H x y v u Q I rx ry h
  obtain ⟨l, b, xs, zs, rfl, rfl, hH, hB, hz, q⟩ := h
  cases rx
  cases ry
  obtain ⟨z, its, n, r, hl, e⟩ := I.lstM hH
  obtain ⟨z2, its2, n2, r2, hl2, e2⟩ := I.lstM hB
  refine PySem.P.add_list e e2 ?_ (by rw [List.size_toArray, List.size_toArray]; omega)
  have ea : its.toArray ++ its2.toArray = (its ++ its2).toArray := by simp
  rw [ea]
  exact ⟨.ref _, _, I.lnew (t' := s.toks) (r.append r2) (by rw [List.length_append]; omega), rfl, q _ I.fresh⟩
def rRep : R2 := fun x y H Q => ∃ l k xs, x = .ref l ∧ y = .int k ∧ H l = some (.lst xs) ∧ -(2 ^ 63) ≤ k ∧ k < 2 ^ 63 ∧ xs.length * k.toNat ≤ sizeLine ∧
  ∀ p, H p = none → Q (.ref p) (upd H p (.lst (List.replicate k.toNat xs).flatten))
theorem len_rep {α : Type} (xs : List α) (k : Nat) : (List.replicate k xs).flatten.length = k * xs.length := by
  induction k with
  | zero => simp
  | succ k ih => rw [List.replicate_succ, List.flatten_cons, List.length_append, ih, Nat.succ_mul, Nat.add_comm]
theorem op_rep : OpR X (binaryOp .Mult) rRep := by
  intro pins s σ H x y v u Q I rx ry h
  obtain ⟨l, k, xs, rfl, rfl, hH, h1, h2, hz, q⟩ := h
  cases rx
  obtain ⟨t, rfl⟩ := ry
  obtain ⟨z, its, n, r, hl, e⟩ := I.lstM hH
  have hlen : its.toArray.size * k.toNat ≤ sizeLine := by rw [List.size_toArray, ← hl]; exact hz
  have hcap : ¬ its.toArray.size * k.toNat > (2 ^ 63 - 1) / 8 := by
    have : (sizeLine : Nat) ≤ (2 ^ 63 - 1) / 8 := by decide
    omega
  have hfit : ¬ (!Builtin.List.listFitsIndex k) = true := by
    rw [fitsIndex_both h1 h2]
    exact Bool.false_ne_true
  have hlong : ¬ Builtin.List.listTooLong (its.toArray.size * k.toNat) = true := by
    rw [notLongL hlen]
    exact Bool.false_ne_true
  have hnew : List.foldl (fun x1 x2 => x1 ++ x2) #[] (List.replicate (if its.toArray.isEmpty = true then 0 else k.toNat) its.toArray) = (List.replicate k.toNat its).flatten.toArray := by
    have f0 : ∀ m : Nat, List.foldl (fun x1 x2 => x1 ++ x2) #[] (List.replicate m its.toArray) = (List.replicate m its).flatten.toArray := fun m => by
      have := foldl_rep its m []
      rw [List.nil_append] at this
      exact this
    rw [f0]
    cases its with
    | nil => simp
    | cons a r' => rw [if_neg (by simp)]
  refine wpAny_binaryOp_repeat_ref (T := "list") (U := "int") (by decide) ⟨_, e, rfl⟩ (fun s' => typeIs_int s' k t) noFill_list_mul F.fills_int_mul F.slot_int_rmul repeat_list F.slot_int_index.lookup
    (call_meets F.slot_int_rmul (typeIs_int s k t) F.entry_int_rmul (F.args_int_rmul_2 _ _) (int___rmul___int_list k t l its.toArray n)
      ⟨e, rfl, ⟨_, e, rfl⟩, call_meets F.slot_list_mul ⟨_, e, rfl⟩ F.entry_list_mul (F.args_list_mul_2 _ _) (AutoListH.list___mul___list_int_3 l its.toArray n k t hfit hcap hlong) ⟨e, ?_⟩⟩)
  rw [hnew]
  exact ⟨.ref _, _, I.lnew (t' := s.toks) (r.rep k.toNat) (by rw [len_rep, Nat.mul_comm]; exact hz), rfl, q _ I.fresh⟩
end
section
variable {prog : Program} {w : World} {A : Around} {E : Value → Shared → Prop} {s : Shared}
end
section
variable {X : Cx}
end
end L2
namespace Att
open PySem PySem.W PySem.Calls PyProof.Rows
theorem ints_of_wellAll {P : Params} {h : Heap} : ∀ (ns : List Int) (vs : List Value), WellAll P h vs (ns.map WData.int) → IntsAre vs ns := by
  intro ns
  induction ns with
  | nil =>
    intro vs w
    rw [List.map_nil] at w
    cases w
    exact .nil
  | cons n ns ih =>
    intro vs w
    rw [List.map_cons] at w
    cases w with
    | cons a b =>
      cases a
      exact .cons _ _ (ih _ b)
theorem script_of {l : OpenLaw} {n : Nat} (hn : l.most = some n) {P : Params} {h : Heap} {args : List WData} {vals : List Value}
    (hpre : l.row.toRowW.claim.pre args = true) (hwl : WellAll P h vals args) :
    ∃ a vs ns, vals = [Value.ref a] ∧ args = [WData.list (ns.map WData.int)] ∧ h.get? a = some { cls := .type "list", data := .seq vs.toArray } ∧ IntsAre vs ns ∧ ns.length ≤ n := by
  have hsh : WShape.hasAll [] args [.list .int] = true := (pre_splitW hpre).1
  have hc : l.pre.holds [] { args := args } = true := (pre_splitW hpre).2
  obtain ⟨d, r, rfl, h1, h2⟩ := hasAllW_cons hsh
  obtain rfl := hasAllW_nil h2
  obtain ⟨xs, rfl, h3⟩ := hasW_list h1
  obtain ⟨ns, rfl⟩ := items_int h3
  have hlen : ns.length ≤ n := by
    unfold OpenLaw.pre at hc
    have h4 : (WTm.not (.lt (.lit (.int (n : Int))) (.len (.arg 0)))).holds [] { args := [.list (ns.map .int)] } = true := by
      have h4 := (holds_andW hc).1
      rw [hn] at h4
      exact h4
    have h5 := condW_of h4 (w_not (w_lt w_lit (w_len_list (w_arg rfl))))
    rw [List.length_map] at h5
    refine Nat.le_of_not_lt fun q => ?_
    have q' : (n : Int) < ((ns.length : Nat) : Int) := by omega
    first
      | (rw [decide_eq_true q'] at h5; exact absurd h5 (by decide))
      | (simp at h5; omega)
  cases hwl with
  | cons w1 w2 =>
    cases w2
    cases w1 with
    | list ho hall => exact ⟨_, _, ns, rfl, rfl, ho, ints_of_wellAll ns _ hall, hlen⟩
theorem post_true (l : OpenLaw) (args : List WData) : l.row.toRowW.claim.post args (.bool true) args = true :=
  postW_of (r := l.row.toRowW) (X := (true == true))
    (show WShape.has [] (.bool true) .bool = true by first | rfl | decide | simp [WShape.has, WShape.arms, WShape.armsAll])
    (show (WTm.eq .res (.lit (.bool true))).value [] { args := args, res := some (.bool true), after := args } = some (.bool (true == true)) from w_eq_bool (w_res rfl) w_lit) rfl
theorem attach_call {l : OpenLaw} {n : Nat} {q : Program} {loose : List Str} {XP : (Str → Option Value) → Heap → Prop} {YP : World → Heap → Prop} {d : DefRec}
    (hn : l.most = some n) (hdf : d.params.defaults = [])
    (call : ∀ (w : World) (s₀ s₁ : Shared) (mg mb : Str → Option Value) (fa : Addr) (o : Obj) (pm cd doc : Value) (a : Addr) (vs : List Value) (ns : List Int),
      Ground q loose [] XP w s₀ mg mb s₁.heap → YP w s₁.heap →
      s₁.heap.get? fa = some o → o.data = .func (docDef d.name d.params d.body d.scope pm cd doc) → s₁.heap.CodeRec cd d.name → mg d.name = some (.ref fa) →
      s₁.heap.get? a = some { cls := .type "list", data := .seq vs.toArray } → IntsAre vs ns → ns.length ≤ n → s₁.gens = #[] →
      codeAny (model l.prog w) callerA (.call (.ref fa) ⟨[.ref a], []⟩) (fun r s' => r = .ok (.ret (.bool true)) ∧ OldK s₁.heap s'.heap ∧ s'.os = s₁.os ∧ AllBare s'.gens) s₁) :
    WalkO q loose XP YP l.row.toRowW d [] (fun f vs => PySem.call f vs) := by
  intro w s₀ s₁ mg mb G Y fa o pm cd doc dV kV ho hd hcd hD hmg hg args vals as hpre hlay hrd hwl hlo
  obtain rfl : dV = .none := Dflts.none hD hdf
  obtain rfl : kV = .none := Dflts.noKw hD
  obtain ⟨a, vs, ns, rfl, rfl, hobj, hints, hlen⟩ := script_of hn hpre hwl
  refine enter_call (codeAny_mono (call w s₀ s₁ mg mb fa o pm cd doc a vs ns G Y ho (fd_plain hd) hcd hmg hobj hints hlen hg) fun r s' hq => ?_)
  obtain ⟨rfl, h2, h3, h4⟩ := hq
  exact ⟨.inl ⟨.bool true, .bool true, [], rfl, fun _ => rfl, .bool true, post_true l _, fun _ => ⟨List.Pairwise.nil, fun _ hm => (nomatch hm)⟩⟩, h2, h3, h4⟩
section
variable {prog : Program} {w : World} {A : Around} {E : Value → Shared → Prop} {s : Shared} {K : Frag}
end
end Att
namespace L2
open PySem PySem.Spec PyProof.Rows
theorem vals_ints : ∀ {vs : List Value} {ns : List Int}, IntsAre vs ns → Vals (ns.map V.int) vs
  | _, _, .nil => .nil
  | _, _, .cons n t h => .cons ⟨t, rfl⟩ (vals_ints h)
def Only (H : Hp) : Prop := ∀ b, H b = none ∨ ∃ o xs, H b = some (.frz o (.lst xs))
theorem law_call {P : Program} {w : World} {K : PySem.W.Frag} {mg mb : Str → Option Value} {CX : CXT} {k : Nat} {fa a : Addr} {fd : FuncData} {x : Str} {sp : Sp} {s₁ : Shared} {vs : List Value} {ns : List Int}
    (KX : K.In s₁.heap) (hns : s₁.heap.Ns mainGlobals mg) (hb : s₁.heap.Ns builtinsNs mb) (hbb : ∀ x : Str, x ≠ "__name__" → mb x = bootBuiltins x) (hlim : s₁.heap.NoLimit) (hg : s₁.gens = #[])
    (ha : s₁.heap.get? a = some { cls := .type "list", data := .seq vs.toArray }) (hi : IntsAre vs ns) (hl : ns.length ≤ sizeLine) (hr : Room k callerA)
    (F : ∀ base : Heap, K.In base → base.Ns mainGlobals mg → FnOk P w K mg base CX k fa fd [x] sp) (hbind : ∀ (s : Shared) (u : Value), BindsTo s fd ⟨[u], []⟩ [(x, u)])
    (hsp : ∀ H : Hp, Only H → SqL K H a (ns.map V.int) → sp [.ref a] H (fun v _ => v = .bl true) fun _ _ _ => False)
    (hCX : ∀ H e s', CX [] H s₁ (fun _ _ _ => False) e s' → False) :
    codeAny (model P w) callerA (.call (.ref fa) ⟨[.ref a], []⟩) (fun r s' => r = .ok (.ret (.bool true)) ∧ OldK s₁.heap s'.heap ∧ s'.os = s₁.os ∧ AllBare s'.gens) s₁ := by
  have rv := vals_ints hi
  have lenV := hi.length
  have core : ∀ H : Hp, Only H → SqL K H a (ns.map V.int) → HOk P w H s₁.heap → (∀ b, H b ≠ none → b = a) → (H a ≠ none → K.lookup a = none) →
      codeAny (model P w) callerA (.call (.ref fa) ⟨[.ref a], []⟩) (fun r s' => r = .ok (.ret (.bool true)) ∧ OldK s₁.heap s'.heap ∧ s'.os = s₁.os ∧ AllBare s'.gens) s₁ := by
    intro H hO hS hok hA hK
    have base_of : ∀ {b : Addr} {o : Obj}, s₁.heap.get? b = some o → H b = none → (hidT s₁.heap H).get? b = some o := fun e n => hidT_get e n
    have noA : ∀ {b : Addr} {o : Obj} {es : Array DictEntry} {ep : Nat}, s₁.heap.get? b = some o → o.data = .dict es ep → H b = none := fun {b o es ep} e d => by
      cases q : H b with
      | none => rfl
      | some u =>
        have e' : b = a := hA b (by rw [q]; simp)
        subst e'
        rw [ha] at e; cases e
        have d' : Data.seq vs.toArray _ = Data.dict es ep := d
        cases d'
    have nsK : ∀ {b : Addr} {m : Str → Option Value}, s₁.heap.Ns b m → (hidT s₁.heap H).Ns b m := fun {b m} ⟨o, es, ep, e, d, r⟩ => ⟨o, es, ep, base_of e (noA e d), d, r⟩
    have hKb : K.In (hidT s₁.heap H) := fun b o e => base_of (KX b o e) (by
      cases q : H b with
      | none => rfl
      | some u =>
        have e' : b = a := hA b (by rw [q]; simp)
        subst e'
        rw [hK (by rw [q]; simp)] at e; cases e)
    have hM : Mod K mg (hidT s₁.heap H) := ⟨hKb, nsK hns, ⟨mb, nsK hb, hbb⟩, let ⟨mc, h1, h2⟩ := hlim; ⟨mc, nsK h1, h2⟩⟩
    have e0 : Env0 P w K mg (hidT s₁.heap H) callerA [] s₁ H := ⟨rfl, hM, fun b o e => of_hidT e, Nat.le_of_eq (hidT_size _ _), trivial, fun b hb => absurd (show b ∈ ([] : List Addr) from hb) (by simp), hok, .of_eq hg⟩
    refine codeAny_mono ((F _ hKb (nsK hns)).run callerA [] s₁ H ⟨[.ref a], []⟩ [.ref a] [.ref a] _ _ hr e0 (hbind s₁ (.ref a)) (.cons rfl .nil) (hsp H hO hS)) fun r s' h => ?_
    cases r with
    | error e => exact (hCX H e s' h).elim
    | ok fl =>
      cases fl with
      | next => exact False.elim h
      | brk => exact False.elim h
      | cont => exact False.elim h
      | ret u =>
        obtain ⟨v, H', os, bare, un, hok', r', q⟩ := h
        have q' : v = .bl true := q
        subst q'
        obtain rfl : u = Value.bool true := r'
        refine ⟨rfl, OldK.of_keep fun b o e => ?_, os, bare⟩
        cases q : H b with
        | none => exact un.keep b o e q (by intro z; exact absurd (show b ∈ ([] : List Addr) from z) (by simp)) (by simp)
        | some u =>
          rcases hO b with z | ⟨ob, xs, z⟩
          · rw [q] at z; cases z
          · have z2 := un.frzs b ob _ z
            obtain ⟨e1, _⟩ := hok b _ z
            obtain ⟨e2, _⟩ := hok' b _ z2
            rw [e] at e1; cases e1
            exact e2
  cases hk : K.lookup a with
  | some o =>
    have e := KX a o hk
    rw [ha] at e
    cases e
    refine core (fun _ => none) (fun _ => .inl rfl) (.inr ⟨_, vs.toArray, _, hk, rfl, rfl, rfl, by rw [List.size_toArray, lenV]; exact hl, by simpa using rv⟩) (fun b u z => by have z' : (none : Option HO) = some u := z; cases z') (fun b z => absurd rfl z) fun z => absurd rfl z
  | none =>
    refine core (fun b => if b = a then some (.frz { cls := .type "list", data := .seq vs.toArray } (.lst (ns.map V.int))) else none) (fun b => ?_) (.inl (.inr ⟨{ cls := .type "list", data := .seq vs.toArray }, if_pos rfl⟩)) (fun b u z => ?_) (fun b z => ?_) fun _ => hk
    · by_cases hb : b = a
      · exact .inr ⟨_, _, if_pos hb⟩
      · exact .inl (if_neg hb)
    · by_cases hb : b = a
      · have z' := (if_pos hb).symm.trans z
        cases z'
        subst hb
        exact ⟨ha, by rw [List.length_map]; exact hl, vs, _, rv, ha⟩
      · have z' := (if_neg hb).symm.trans z
        cases z'
    · by_cases hb : b = a
      · exact hb
      · exact absurd (if_neg hb) z
end L2
namespace L2
open PySem PySem.Spec PyProof.Rows
theorem walk_of {l : PySem.W.OpenLaw} {n k : Nat} {q : Program} {loose : List Str} {XP : (Str → Option Value) → Heap → Prop} {YP : World → Heap → Prop} {d : DefRec} {K : Params → PySem.W.Frag} {CX : World → CXT} {sp : World → Sp} {x : Str}
    (hn : l.most = some n) (hn2 : n ≤ sizeLine) (hdf : d.params.defaults = []) (hr : Room k callerA)
    (hY : ∀ (w : World) (h : Heap), YP w h → (K w.params).In h)
    (F : ∀ (w : World) (mg : Str → Option Value) (fa : Addr) (h : Heap), (K w.params).In h → h.Ns mainGlobals mg → mg d.name = some (.ref fa) →
      ∃ fd : FuncData, (∀ (s : Shared) (u : Value), BindsTo s fd ⟨[u], []⟩ [(x, u)]) ∧
        ∀ base : Heap, (K w.params).In base → base.Ns mainGlobals mg → FnOk l.prog w (K w.params) mg base (CX w) k fa fd [x] (sp w))
    (hsp : ∀ (w : World) (H : Hp) (a : Addr) (ns : List Int), ns.length ≤ n → Only H → SqL (K w.params) H a (ns.map V.int) → sp w [.ref a] H (fun v _ => v = .bl true) fun _ _ _ => False)
    (hCX : ∀ (w : World) (H : Hp) (s : Shared) (e : Value) (s' : Shared), CX w [] H s (fun _ _ _ => False) e s' → False) :
    PySem.W.WalkO q loose XP YP l.row.toRowW d [] (fun f vs => PySem.call f vs) := by
  refine Att.attach_call hn hdf fun w s₀ s₁ mg mb fa o pm cd doc a vs ns G Y ho hd hcd hmg hobj hints hlen hg => ?_
  have KX := hY w _ Y
  obtain ⟨fd, hb, hF⟩ := F w mg fa _ KX G.T.g hmg
  exact law_call KX G.T.g G.T.b G.T.builtins G.T.nolimit hg hobj hints (Nat.le_trans hlen hn2) hr hF hb (fun H hO hS => hsp w H a ns hlen hO hS) fun H e s' => hCX w H s₁ e s'
theorem walk_ofK {l : PySem.W.OpenLaw} {n k : Nat} {q : Program} {loose : List Str} {XP : (Str → Option Value) → Heap → Prop} {YP : World → Heap → Prop} {d : DefRec} {K : Params → PySem.W.Frag} {CX : CXT} {sp : PySem.W.Frag → Sp} {x : Str}
    (hn : l.most = some n) (hn2 : n ≤ sizeLine) (hdf : d.params.defaults = []) (hr : Room k callerA)
    (hY : ∀ (w : World) (h : Heap), YP w h → (K w.params).In h)
    (F : ∀ (w : World) (mg : Str → Option Value) (fa : Addr) (h : Heap), (K w.params).In h → h.Ns mainGlobals mg → mg d.name = some (.ref fa) →
      ∃ fd : FuncData, (∀ (s : Shared) (u : Value), BindsTo s fd ⟨[u], []⟩ [(x, u)]) ∧
        ∀ base : Heap, (K w.params).In base → base.Ns mainGlobals mg → FnOk l.prog w (K w.params) mg base CX k fa fd [x] (sp (K w.params)))
    (hsp : ∀ (K : PySem.W.Frag) (H : Hp) (a : Addr) (ns : List Int), ns.length ≤ n → Only H → SqL K H a (ns.map V.int) → sp K [.ref a] H (fun v _ => v = .bl true) fun _ _ _ => False)
    (hCX : ∀ (H : Hp) (s : Shared) (e : Value) (s' : Shared), CX [] H s (fun _ _ _ => False) e s' → False) :
    PySem.W.WalkO q loose XP YP l.row.toRowW d [] (fun f vs => PySem.call f vs) :=
  walk_of (K := K) (CX := fun _ => CX) (sp := fun w => sp (K w.params)) hn hn2 hdf hr hY F (fun w H a ns h1 h2 h3 => hsp (K w.params) H a ns h1 h2 h3) fun _ H s e s' => hCX H s e s'
end L2
namespace L2
open PySem PySem.Spec PyProof.Rows
def defArgs (s : Stmt) : Arguments := match s with
  | .FunctionDef _ a _ _ _ _ _ _ _ _ => a
  | _ => { posonlyargs := [], args := [], vararg := none, kwonlyargs := [], kw_defaults := [], kwarg := none, defaults := [] }
def defBody (s : Stmt) : List Stmt := match s with
  | .FunctionDef _ _ b _ _ _ _ _ _ _ => b
  | _ => []
def defScope (s : Stmt) : Scope := match s with
  | .FunctionDef _ _ _ _ _ _ sc _ _ _ => sc
  | _ => { kind := .function, names := [], isGenerator := false, isCoroutine := false }
abbrev CX0 : CXT := fun _ _ _ _ _ _ => False
abbrev E0 : XK := fun _ _ _ => False
theorem pass0 {X : Cx} : Passes CX0 X E0 := fun _ _ _ _ _ _ _ h => h.elim
structure Fun (K : PySem.W.Frag) (x qual : Str) (st : Stmt) (f : Addr) (fd : FuncData) : Prop where
  ex : ∃ (oc : Value) (od : Option Addr) (kV doc pm : Value) (an : Option Addr) (cdv ct : Value) (osl : Array (Option Value)),
    fd = PySem.W.fnOf x qual (defArgs st) (defBody st) (defScope st) .none kV doc pm an cdv ct ∧ K.lookup f = some ⟨oc, od, .func fd, osl⟩ ∧ PySem.W.codeIn K cdv qual = true
  kp : PySem.W.keepIn K (.ref f) = true
section
variable {P : Program} {w : World} {K : PySem.W.Frag} {mg : Str → Option Value} {base : Heap}
theorem Fun.ok {x qual : Str} {st : Stmt} {f : Addr} {fd : FuncData} {N ps : List Str} {k : Nat} {sp : Sp} (F : Fun K x qual st f fd) (S : FnScope N ps (defScope st)) (len : ∀ vs H Q E, sp vs H Q E → vs.length = ps.length)
    (hbody : ∀ (cdv : Value) (A : Around) (outer : List Env) (s : Shared) (H : Hp) (vs : List V) (Q : VK) (E : XK), Room k (A.deeper (envOfC qual (defScope st) s.heap.objs.size f cdv)) → sp vs H Q E →
      ∃ t, PSs (cxOf CX0 P w K mg base N qual (defScope st) f cdv A outer s H E).nox (defBody st) t ∧ t { nx := fun _ H' => Q .non H', rt := Q } (start N vs) H) : FnOk P w K mg base CX0 (k + 1) f fd ps sp := by
  obtain ⟨oc, od, kV, doc, pm, an, cdv, ct, osl, rfl, lk, hcd⟩ := F.ex
  refine fn_of lk hcd S len fun A outer s H vs Q E hr hsp => ?_
  obtain ⟨t, h, q⟩ := hbody cdv A outer s H vs Q E hr hsp
  exact ⟨t, h.nox, q⟩
theorem Fun.binds {x qual : Str} {st : Stmt} {f : Addr} {fd : FuncData} {ps : List Str} (F : Fun K x qual st f fd)
    (h : ∀ (kV doc pm : Value) (an : Option Addr) (cdv ct : Value) (us : List Value), us.length = ps.length → bindArgs (PySem.W.fnOf x qual (defArgs st) (defBody st) (defScope st) .none kV doc pm an cdv ct) ⟨us, []⟩ = pure (ps.zip us)) : Binds K fd ps [] := by
  obtain ⟨oc, od, kV, doc, pm, an, cdv, ct, osl, rfl, lk, hcd⟩ := F.ex
  exact .all (h kV doc pm an cdv ct)
theorem fun_mk {x qual : Str} {st : Stmt} {f : Addr} {oc : Value} {od an : Option Addr} {osl : Array (Option Value)} {kV doc pm cdv ct : Value} (l : K.lookup f = some ⟨oc, od, .func (PySem.W.fnOf x qual (defArgs st) (defBody st) (defScope st) .none kV doc pm an cdv ct), osl⟩)
    (c : PySem.W.codeIn K cdv qual = true) (k : PySem.W.keepIn K (.ref f) = true) : Fun K x qual st f (PySem.W.fnOf x qual (defArgs st) (defBody st) (defScope st) .none kV doc pm an cdv ct) := ⟨⟨oc, od, kV, doc, pm, an, cdv, ct, osl, rfl, l, c⟩, k⟩
end
theorem small1000 {n : Nat} (h : n ≤ 1000) : n < sizeLine := Nat.lt_of_le_of_lt h (by decide)
section
variable {X : Cx}
theorem pv (i : Nat) {x : Str} {pos : Pos} (hN : X.N[i]? = some x := by rfl) (hv : Vis X.env.scope x := by first | exact Or.inl rfl | exact Or.inr (Or.inl rfl) | exact Or.inr (Or.inr rfl)) (hd : (x == ("__debug__" : Str)) = false := by decide)
    (hcd : (x == ("__classdict__" : Str)) = false := by decide) : PE X (.Name x pos) (tVar i) := pe_var hN hv hd hcd
end
theorem iteF {A B : Prop} (h : B) : if false = true then A else B := by
  rw [if_neg Bool.false_ne_true]
  exact h
theorem iteT {A B : Prop} (h : A) : if true = true then A else B := by
  rw [if_pos rfl]
  exact h
theorem ite2 {c A B : Prop} [Decidable c] (h1 : c → A) (h2 : ¬ c → B) : if c then A else B := by
  by_cases h : c
  · rw [if_pos h]
    exact h1 h
  · rw [if_neg h]
    exact h2 h
def Same (H H' : Hp) : Prop := ∀ b o, H b = some o → H' b = some o
theorem Same.refl (H : Hp) : Same H H := fun _ _ h => h
theorem Same.trans {H H1 H2 : Hp} (a : Same H H1) (b : Same H1 H2) : Same H H2 := fun c o h => b c o (a c o h)
theorem Same.free {H H' : Hp} (e : Same H H') {l : Addr} (h : H' l = Option.none) : H l = Option.none := by
  cases q : H l with
  | none => rfl
  | some o =>
    rw [e l o q] at h
    cases h
theorem Same.seq {K : PySem.W.Frag} {H H' : Hp} {a : Addr} {xs : List V} (e : Same H H') (h : SqL K H a xs) : SqL K H' a xs := by
  rcases h with (h | ⟨o, h⟩) | h
  · exact .inl (.inl (e _ _ h))
  · exact .inl (.inr ⟨o, e _ _ h⟩)
  · exact .inr h
end L2
namespace L2
open PySem PySem.Spec PyProof.Rows
def blk (X : Cx) (scope : Scope) (N' : List Str) (cl : List (Str × Addr)) (fp : List Addr) (C : Addr) (s : Shared) (H : Hp) : Cx :=
  { X with N := N', s₀ := s, H₀ := H, env := compEnvC scope cl C X.env, outer := X.stack, stack := X.stack, ex := fp, fn := fun _ => false, pn := [], xe := fun _ _ => False }
def compScB (sc0 : Scope) (N0 : List Str) (scope : Scope) (N' : List Str) (fr : List (Option Nat)) : Bool :=
  decide (scope.kind = .function) && scope.names.all (fun y => decide (y.2 ≠ .cell)) && scope.names.all (fun y => decide (y.2 = .local → scope.names.lookup y.1 = some .local)) &&
  scope.names.all (fun y => decide (y.2 = .free → (sc0.names.lookup y.1 = some .cell ∨ sc0.names.lookup y.1 = some .free))) && decide (fr.length = N'.length) &&
  (List.range N'.length).all (fun i => match fr[i]?, N'[i]? with
    | some (some j), some x => decide (N0[j]? = some x) && decide (scope.names.lookup x = some .free) && decide (sc0.names.lookup x = some .cell ∨ sc0.names.lookup x = some .free)
    | _, _ => true)
structure CompSc (sc0 : Scope) (N0 : List Str) (scope : Scope) (N' : List Str) (fr : List (Option Nat)) : Prop where
  kind : scope.kind = .function
  nocell : ∀ y ∈ scope.names, y.2 ≠ .cell
  names : ∀ y ∈ scope.names, y.2 = .local → scope.names.lookup y.1 = some .local
  frees : ∀ y ∈ scope.names, y.2 = .free → (sc0.names.lookup y.1 = some .cell ∨ sc0.names.lookup y.1 = some .free)
  len : fr.length = N'.length
  fix : ∀ (i j : Nat) (x : Str), fr[i]? = some (some j) → N'[i]? = some x → N0[j]? = some x ∧ scope.names.lookup x = some .free ∧ (sc0.names.lookup x = some .cell ∨ sc0.names.lookup x = some .free)
theorem compSc_of {sc0 : Scope} {N0 : List Str} {scope : Scope} {N' : List Str} {fr : List (Option Nat)} (h : compScB sc0 N0 scope N' fr = true) : CompSc sc0 N0 scope N' fr := by
  unfold compScB at h
  rw [Bool.and_eq_true, Bool.and_eq_true, Bool.and_eq_true, Bool.and_eq_true, Bool.and_eq_true] at h
  obtain ⟨⟨⟨⟨⟨h1, h2⟩, h3⟩, h4⟩, h5⟩, h6⟩ := h
  refine ⟨of_decide_eq_true h1, fun y hy => of_decide_eq_true (List.all_eq_true.mp h2 y hy), fun y hy => of_decide_eq_true (List.all_eq_true.mp h3 y hy), fun y hy => of_decide_eq_true (List.all_eq_true.mp h4 y hy), of_decide_eq_true h5, fun i j x e1 e2 => ?_⟩
  have hi : i < N'.length := (List.getElem?_eq_some_iff.mp e2).1
  have q := List.all_eq_true.mp h6 i (List.mem_range.mpr hi)
  rw [e1, e2] at q
  dsimp only at q
  rw [Bool.and_eq_true, Bool.and_eq_true] at q
  exact ⟨of_decide_eq_true q.1.1, of_decide_eq_true q.1.2, of_decide_eq_true q.2⟩
def clo (env : Env) : List (Str × NameKind) → List (Str × Addr) → List (Str × Addr)
  | [], cs => cs
  | (n, k) :: r, cs => if k = .free then clo env r ((n, (env.cells.lookup n).getD 0) :: cs) else clo env r cs
theorem mem_of_lookup {α : Type} : ∀ {l : List (Str × α)} {x : Str} {v : α}, l.lookup x = some v → (x, v) ∈ l
  | [], _, _, h => by simp at h
  | (y, w) :: r, x, v, h => by
    cases hx : x == y with
    | true =>
      simp only [List.lookup_cons, hx] at h
      cases h
      rw [beq_iff_eq.mp hx]
      exact List.mem_cons_self
    | false =>
      simp only [List.lookup_cons, hx] at h
      exact List.mem_cons_of_mem _ (mem_of_lookup h)
theorem clo_mem {env : Env} : ∀ {l : List (Str × NameKind)} {cs : List (Str × Addr)} {p : Str × Addr}, p ∈ clo env l cs → p ∈ cs ∨ (∃ y ∈ l, y.2 = .free ∧ p = (y.1, (env.cells.lookup y.1).getD 0))
  | [], _, _, h => .inl h
  | (n, k) :: r, cs, p, h => by
    unfold clo at h
    by_cases hk : k = .free
    · rw [if_pos hk] at h
      rcases clo_mem h with q | ⟨y, hy, e1, e2⟩
      · rcases List.mem_cons.mp q with q | q
        · exact .inr ⟨(n, k), List.mem_cons_self, hk, q⟩
        · exact .inl q
      · exact .inr ⟨y, List.mem_cons_of_mem _ hy, e1, e2⟩
    · rw [if_neg hk] at h
      rcases clo_mem h with q | ⟨y, hy, e1, e2⟩
      · exact .inl q
      · exact .inr ⟨y, List.mem_cons_of_mem _ hy, e1, e2⟩
theorem clo_keep {env : Env} : ∀ {l : List (Str × NameKind)} {cs : List (Str × Addr)} {p : Str × Addr}, p ∈ cs → p ∈ clo env l cs
  | [], _, _, h => h
  | (n, k) :: r, cs, p, h => by
    unfold clo
    by_cases hk : k = .free
    · rw [if_pos hk]; exact clo_keep (List.mem_cons_of_mem _ h)
    · rw [if_neg hk]; exact clo_keep h
theorem clo_has {env : Env} : ∀ {l : List (Str × NameKind)} {cs : List (Str × Addr)} {x : Str}, (x, NameKind.free) ∈ l → (x, (env.cells.lookup x).getD 0) ∈ clo env l cs
  | [], _, _, h => nomatch h
  | (n, k) :: r, cs, x, h => by
    unfold clo
    rcases List.mem_cons.mp h with q | q
    · cases q
      rw [if_pos rfl]
      exact clo_keep List.mem_cons_self
    · by_cases hk : k = .free
      · rw [if_pos hk]; exact clo_has q
      · rw [if_neg hk]; exact clo_has q
theorem lookup_of_mem {α : Type} : ∀ {l : List (Str × α)} {x : Str} {v : α}, (x, v) ∈ l → ∃ w, l.lookup x = some w
  | [], _, _, h => nomatch h
  | (y, w) :: r, x, v, h => by
    cases hx : x == y with
    | true => exact ⟨w, by simp [List.lookup_cons, hx]⟩
    | false =>
      rcases List.mem_cons.mp h with q | q
      · cases q
        simp at hx
      · obtain ⟨w', e⟩ := lookup_of_mem q
        exact ⟨w', by simp [List.lookup_cons, hx, e]⟩
theorem closure_go {env : Env} : ∀ (l : List (Str × NameKind)) (cs : List (Str × Addr)), (∀ y ∈ l, y.2 = .free → ∃ c, env.cells.lookup y.1 = some c) →
    (forIn l cs fun (x : Str × NameKind) (r : List (Str × Addr)) => (if (x.2 == NameKind.free) = true then do let a ← cellOf env x.1; pure (ForInStep.yield ((x.1, a) :: r)) else pure (ForInStep.yield r) : Sem (ForInStep (List (Str × Addr))))) = pure (clo env l cs)
  | [], cs, _ => rfl
  | (n, k) :: r, cs, h => by
    rw [List.forIn_cons]
    by_cases hk : k = .free
    · subst hk
      obtain ⟨c, e⟩ := h (n, .free) List.mem_cons_self rfl
      have hc : cellOf env n = pure c := by unfold cellOf; rw [e]
      have ih := closure_go r ((n, c) :: cs) fun y hy => h y (List.mem_cons_of_mem _ hy)
      simp only [beq_self_eq_true, if_true, hc]
      unfold clo
      rw [if_pos rfl, e]
      exact ih
    · have hb : (k == NameKind.free) = false := by simpa using hk
      have ih := closure_go r cs fun y hy => h y (List.mem_cons_of_mem _ hy)
      simp only [hb, Bool.false_eq_true, if_false]
      unfold clo
      rw [if_neg hk]
      exact ih
theorem closure_ok {scope : Scope} {env : Env} (h : ∀ y ∈ scope.names, y.2 = .free → ∃ c, env.cells.lookup y.1 = some c) : closureFor scope env = pure (clo env scope.names []) := by
  unfold closureFor
  have := closure_go scope.names [] h
  first
    | (rw [this]; rfl)
    | (refine Eq.trans ?_ this; rfl)
    | (simp only [this]; rfl)
theorem clo_sub {env : Env} {l : List (Str × NameKind)} (h : ∀ y ∈ l, y.2 = .free → ∃ c, env.cells.lookup y.1 = some c) {x : Str} {c : Addr} (e : (clo env l []).lookup x = some c) : env.cells.lookup x = some c := by
  rcases clo_mem (mem_of_lookup e) with q | ⟨y, hy, e1, e2⟩
  · exact nomatch q
  · obtain ⟨c', ec⟩ := h y hy e1
    have e3 : x = y.1 := congrArg Prod.fst e2
    have e4 : c = (env.cells.lookup y.1).getD 0 := congrArg Prod.snd e2
    rw [ec] at e4
    rw [e3, ec, e4]
    rfl
theorem relabel_free {scope : Scope} {env : Env} {x : Str} : scope.names.lookup x = some .free → (relabel scope env).names.lookup x = some .cell ∨ (relabel scope env).names.lookup x = some .free := by
  show scope.names.lookup x = some .free → (scope.names.map _).lookup x = _ ∨ (scope.names.map _).lookup x = _
  induction scope.names with
  | nil => intro h; simp at h
  | cons p r ih =>
    intro h
    obtain ⟨n, k⟩ := p
    rw [List.map_cons]
    cases hx : x == n with
    | true =>
      simp only [List.lookup_cons, hx] at h
      cases h
      dsimp only
      split
      · exact .inl (by simp [List.lookup_cons, hx])
      · exact .inr (by simp [List.lookup_cons, hx])
    | false =>
      simp only [List.lookup_cons, hx] at h
      dsimp only
      split <;> (simp only [List.lookup_cons, hx]; exact ih h)
theorem relabel_back {scope : Scope} {env : Env} {x : Str} (nc : ∀ y ∈ scope.names, y.2 ≠ .cell) : ((relabel scope env).names.lookup x = some .cell ∨ (relabel scope env).names.lookup x = some .free) → scope.names.lookup x = some .free := by
  show ((scope.names.map _).lookup x = _ ∨ (scope.names.map _).lookup x = _) → _
  revert nc
  induction scope.names with
  | nil => intro _ h; simp at h
  | cons p r ih =>
    intro nc h
    obtain ⟨n, k⟩ := p
    rw [List.map_cons] at h
    have ih' := ih (fun y hy => nc y (List.mem_cons_of_mem _ hy))
    cases hx : x == n with
    | true =>
      simp only [List.lookup_cons, hx]
      dsimp only at h
      by_cases hc : (k == NameKind.free && env.scope.kind == .function && env.kindOf n == some .cell) = true
      · simp only [Bool.and_eq_true] at hc
        have : k = .free := by simpa using hc.1.1
        rw [this]
      · rw [if_neg hc] at h
        simp only [List.lookup_cons, hx] at h
        rcases h with h | h
        · cases h; exact absurd rfl (nc (n, .cell) List.mem_cons_self)
        · exact h
    | false =>
      simp only [List.lookup_cons, hx]
      dsimp only at h
      refine ih' ?_
      by_cases hc : (k == NameKind.free && env.scope.kind == .function && env.kindOf n == some .cell) = true
      · rw [if_pos hc] at h
        simpa only [List.lookup_cons, hx] using h
      · rw [if_neg hc] at h
        simpa only [List.lookup_cons, hx] using h
theorem Un.but {fs ex : List Addr} {H H' : Hp} {h h1 h2 : Heap} {C : Addr} (u : Un fs ex H H' h h1) (sb : Heap.SameBut C h1 h2) (hC : h.objs.size ≤ C) : Un fs ex H H' h h2 := by
  have ne : ∀ b o, h.get? b = some o → b ≠ C := fun b o e => Nat.ne_of_lt (Nat.lt_of_lt_of_le (Heap.lt_size e) hC)
  refine ⟨fun b o e n hb hx => (sb.2 b (ne b o e)).trans (u.keep b o e n hb hx), fun b o e n hb hx => ?_, u.free, fun b o e hx => ?_, u.tups, u.frzs, u.tbls⟩
  · obtain ⟨sl, q⟩ := u.slot b o e n hb hx
    exact ⟨sl, (sb.2 b (ne b o e)).trans q⟩
  · obtain ⟨o', q⟩ := u.there b o e hx
    exact ⟨o', (sb.2 b (ne b o e)).trans q⟩
theorem HOk.but {P : Program} {w : World} {H : Hp} {h1 h2 : Heap} {C : Addr} (x : HOk P w H h1) (hC : H C = none) (sb : Heap.SameBut C h1 h2) : HOk P w H h2 := fun b ob e => by
  refine (x b ob e).stay (fun c w' hc q => (sb.2 c ?_).trans q) (fun _ q => q) fun _ _ q => q
  rintro rfl
  rcases hc with rfl | hc
  · rw [hC] at e; cases e
  · rw [hC] at hc; cases hc
def frSt (fr : List (Option Nat)) (σ : St) : St := fr.map fun o => match o with | none => none | some j => (σ[j]?).getD none
theorem frSt_get {fr : List (Option Nat)} {σ : St} {i : Nat} {v : V} (e : (frSt fr σ)[i]? = some (some v)) : ∃ j, fr[i]? = some (some j) ∧ σ[j]? = some (some v) := by
  unfold frSt at e
  rw [List.getElem?_map] at e
  cases q : fr[i]? with
  | none => rw [q] at e; cases e
  | some o =>
    rw [q] at e
    cases o with
    | none => cases e
    | some j =>
      refine ⟨j, rfl, ?_⟩
      have e' : (σ[j]?).getD none = some v := Option.some.inj e
      cases r : σ[j]? with
      | none => rw [r] at e'; cases e'
      | some y => rw [r] at e'; rw [← e']; rfl
section
variable {X : Cx} {pins : List (Addr × Obj)} {σ : St} {H : Hp} {s : Shared}
theorem blk_ok {scope : Scope} {N' : List Str} {fr : List (Option Nat)} {fp : List Addr} (I : Inv X pins σ H s) (S : CompSc X.env.scope X.N scope N' fr) (hf : ∀ b ∈ fp, FpOk X pins H b) (ho : ∀ b ∈ fp, ∃ o, s.heap.get? b = some o) :
    (blk X scope N' (clo X.env scope.names []) fp s.heap.objs.size s H).Ok := by
  have has : ∀ y ∈ scope.names, y.2 = .free → ∃ c, X.env.cells.lookup y.1 = some c := fun y hy hk => I.ok.has y.1 (S.frees y hy hk)
  refine ⟨I.ok.mod, S.kind, I.ok.glob, I.ok.blt, Nat.le_refl _, fun x y c e1 e2 => I.ok.inj x y c (clo_sub has e1) (clo_sub has e2), fun x hx => ?_, fun x c hx => (nomatch hx), I.ok.hd, I.ok.frames, .inl rfl, fun b hb => ⟨?_, fun x c e => (hf b hb).2.2.2.2.1 x c (clo_sub has e)⟩, I.bs, Nat.le_trans I.ok.bsz I.sz, fun b o e hb => ?_, fun b hb hz => ?_, I.stack, I.stkFree⟩
  · have q := relabel_back (env := X.env) S.nocell (x := x) hx
    exact lookup_of_mem (clo_has (mem_of_lookup q))
  · obtain ⟨o, e⟩ := ho b hb
    exact Nat.ne_of_lt (Heap.lt_size e)
  · rcases (hf b hb).2.2.2.1 with z | z
    · exact I.ok.noex b o e z
    · exact absurd (Nat.lt_of_lt_of_le (Heap.lt_size e) (Nat.le_trans I.ok.bsz z)) (Nat.lt_irrefl _)
  · rcases List.mem_cons.mp (I.stkSub b hz) with z | z
    · exact (hf b hb).2.1 z
    · exact (hf b hb).2.2.1 z
theorem blk_start {scope : Scope} {N' : List Str} {fr : List (Option Nat)} {fp : List Addr} {h₁ : Heap} {m₁ : Str → Option Value} {tk : Nat} (I : Inv X pins σ H s) (S : CompSc X.env.scope X.N scope N' fr) (hf : ∀ b ∈ fp, FpOk X pins H b) (ho : ∀ b ∈ fp, ∃ o, s.heap.get? b = some o)
    (hn : h₁.Ns s.heap.objs.size m₁) (hk : ∀ b o, s.heap.get? b = some o → h₁.get? b = some o) :
    Inv (blk X scope N' (clo X.env scope.names []) fp s.heap.objs.size s H) [] (frSt fr σ) H { s with heap := h₁, toks := tk } := by
  have has : ∀ y ∈ scope.names, y.2 = .free → ∃ c, X.env.cells.lookup y.1 = some c := fun y hy hk => I.ok.has y.1 (S.frees y hy hk)
  have cellK : ∀ c v, s.heap.IsCell c v → h₁.IsCell c v := fun c v ⟨o, e, d⟩ => ⟨o, hk c o e, d⟩
  refine ⟨blk_ok I S hf ho, rfl, I.bare, Un.kept hk, ⟨m₁, hn, fun i x v e1 e2 e3 => ?_⟩, fun x c e => ?_, I.hok.fresh (Nat.le_refl _), fun x c e => I.freeC x c (clo_sub has e), fun p hp => (nomatch hp), I.hok.kept hk, ?_⟩
  · obtain ⟨j, q1, q2⟩ := frSt_get e2
    obtain ⟨z1, z2, z3⟩ := S.fix i j x q1 e1
    obtain ⟨m, hm, hl⟩ := I.loc
    obtain ⟨u, ru, lk⟩ := hl j x v z1 q2 (.inr z3)
    refine ⟨u, ru, .inr ⟨relabel_free (env := X.env) z2, ?_⟩⟩
    rcases lk with ⟨k, _⟩ | ⟨k, c, e, z⟩
    · have k' : X.env.scope.names.lookup x = some .local := k
      rcases z3 with z3 | z3 <;> (rw [z3] at k'; cases k')
    · obtain ⟨c', ec⟩ := lookup_of_mem (clo_has (env := X.env) (cs := []) (mem_of_lookup z2))
      have := clo_sub has ec
      rw [e] at this
      cases this
      exact ⟨c, ec, cellK c _ z⟩
  · obtain ⟨v, z⟩ := I.cell x c (clo_sub has e)
    exact ⟨v, cellK c v z⟩
  · show (frSt fr σ).length = N'.length
    unfold frSt
    rw [List.length_map]
    exact S.len
end
def PIfs (X : Cx) (ifs : List Expr) (t : TT) : Prop :=
  ∀ (pins : List (Addr × Obj)) (s : Shared) (σ : St) (H : Hp) (Q : Bool → Hp → Prop), Inv X pins σ H s → t σ H Q →
    wpAny (model X.prog X.w) X.A (forIn ifs true fun c r => if r = true then do let ok ← isTrue c X.env (eval c X.env); pure (ForInStep.yield ok) else pure (ForInStep.yield r)) (TP X pins σ Q) X.xe s
def tTrue : TT := fun _ H Q => Q true H
theorem pifs_nil {X : Cx} : PIfs X [] tTrue := fun _ _ _ H _ I h => wpAny_tests_nil ⟨H, I, h⟩
theorem pifs_one {X : Cx} {c : Expr} {t : TT} (h : PT X c t) : PIfs X [c] t := fun pins s σ H Q I q => wpAny_tests_one (h pins s σ H Q I q)
section
variable {prog : Program} {w : World} {A : Around} {R : Result → Shared → Prop} {s : Shared}
theorem compLoop_go {elt target iter : Expr} {ifs : List Expr} {scope : Scope} {pos : Pos} {it acc : Value} {env : Env} (I : Nat → Shared → Prop)
    (turn : ∀ n s, I n s → wpAny (model prog w) A (pyNext it) (fun r s₁ => match r with
      | none => R (.ok .next) s₁
      | some v => wpAny (model prog w) A (letOwnedTupleGo target it v) (fun _ s₁' => wpAny (model prog w) A (assign target env v) (fun _ s₂ =>
          wpAny (model prog w) A (forIn ifs true fun c r => if r = true then do let ok ← isTrue c env (eval c env); pure (ForInStep.yield ok) else pure (ForInStep.yield r)) (fun ok s₃ =>
            if ok = true then wpAny (model prog w) A (eval elt env) (fun x s₄ =>
              wpAny (model prog w) A (call (.builtin "list.append") [acc, x]) (fun _ s₅ => ∃ m, m < n ∧ I m s₅) (fun _ _ => False) s₄) (fun _ _ => False) s₃
            else ∃ m, m < n ∧ I m s₃) (fun _ _ => False) s₂) (fun _ _ => False) s₁') (fun _ _ => False) s₁) (fun _ _ => False) s)
    (n : Nat) (h : I n s) :
    codeAny (model prog w) A (.compLoop (.ListComp elt [⟨target, iter, ifs, 0⟩] scope pos) 0 it acc env) R s := by
  refine codeAny_loop rfl I (fun n s hI => ?_) n h
  show wpAny _ A ((compTurn (.ListComp elt [⟨target, iter, ifs, 0⟩] scope pos) 0 it acc env).onRaise (fun x => do noteFrame x env; theTreesLotGoes x)) _ _ s
  refine wpAny_noted ?_
  rw [compTurn_list]
  refine wpAny_mono (E := fun _ _ => False) ?_ (fun _ _ q => q) (fun _ _ f => f.elim)
  refine wpAny_bind (wpAny_standAt (wpAny_bind (wpAny_mono (turn n s hI) (fun r s₁ h₁ => ?_) fun _ _ h' => h')))
  cases r with
  | none => exact wpAny_pure h₁
  | some v =>
    refine wpAny_bind (wpAny_mono h₁ (fun _ s₁' h₁' => ?_) fun _ _ h' => h')
    refine wpAny_bind (wpAny_mono h₁' (fun _ s₂ h₂ => wpAny_bind (wpAny_mono h₂ (fun ok s₃ h₃ => ?_) fun _ _ h' => h')) fun _ _ h' => h')
    cases ok with
    | false => exact wpAny_pure ⟨rfl, h₃⟩
    | true =>
      exact wpAny_bind (wpAny_bind (wpAny_mono h₃ (fun x s₄ h₄ => wpAny_bind (wpAny_mono h₄ (fun _ s₅ h₅ => wpAny_pure (wpAny_pure ⟨rfl, h₅⟩)) fun _ _ h' => h')) fun _ _ h' => h'))
end
def LcW (J : It) (D : Addr) (g : TG) (tc : TT) (te : TE) (Q : Hp → Prop) (σ0 : St) (H0 : Hp) : Prop :=
  ∃ W : Nat → Nat → List V → St → Hp → Prop, (∃ m, W 0 m [] σ0 H0) ∧ ∀ i m ys σ H, W i m ys σ H →
    ((J.stop i H ∧ Q H) ∨ (J.go i H ∧ ∃ N : List V → St → Hp → Prop, (∀ ys' σ' H', N ys' σ' H' → ∃ m', m' < m ∧ W (i + 1) m' ys' σ' H') ∧ ∀ x H', J.yld i H x H' → g x σ H' fun σ2 H2 => tc σ2 H2 fun b H3 =>
      if b = true then te σ2 H3 fun v H4 => H4 D = some (.lst ys) ∧ ys.length < sizeLine ∧ N (ys ++ [v]) σ2 (upd H4 D (.lst (ys ++ [v])))
      else N ys σ2 H3))
def tLC (wi : TI) (fr : List (Option Nat)) (g : TG) (tc : TT) (te : TE) : TE := fun σ H Q => wi σ H fun J H1 => ∀ D, H1 D = none → LcW J D g tc te (Q (.ref D)) (frSt fr σ) (upd H1 D (.lst []))
theorem blk_loop {X : Cx} {tg iter elt : Expr} {ifs : List Expr} {scope : Scope} {pos : Pos} {g : TG} {tc : TT} {te : TE} {fp : List Addr} {it D : Addr} {tn : Nat → Heap → Prop} {J : It} {Q : Hp → Prop} {σ0 : St} {H0 : Hp} {s : Shared} {R : Result → Shared → Prop}
    (hxe : X.xe = fun _ _ => False) (hc : X.calm = true) (hpn : X.pn = []) (hex : X.ex = fp) (hg : PG X tg g) (ht : PIfs X ifs tc) (he : PE X elt te) (T : Turn X.prog X.w X.K tg J fp it tn)
    (hf : ∀ b ∈ fp, b ≠ X.env.locals ∧ b ∉ X.fs ∧ ∀ x c, X.env.cells.lookup x = some c → c ≠ b) (hW : LcW J D g tc te Q σ0 H0) (B : Inv X [] σ0 H0 s) (st : tn 0 s.heap) (fr : ∀ b ∈ fp, H0 b = none)
    (fin : ∀ σ H s', Inv X [] σ H s' → Q H → R (.ok .next) s') :
    codeAny (model X.prog X.w) X.A (.compLoop (.ListComp elt [⟨tg, iter, ifs, 0⟩] scope pos) 0 (.ref it) (.ref D) X.env) R s := by
  obtain ⟨W, ⟨m0, w0⟩, turn⟩ := hW
  have stat : ∀ {H' : Hp}, (∀ b ∈ fp, H' b = none) → ∀ b ∈ fp, FpOk X [] H' b := fun {H'} hn b hb =>
    ⟨hn b hb, (hf b hb).1, (hf b hb).2.1, .inl (by rw [hex]; exact hb), (hf b hb).2.2, fun p hp => by rw [hpn] at hp; exact nomatch hp⟩
  refine compLoop_go (fun n s' => ∃ i ys σ' H', Inv X [] σ' H' s' ∧ tn i s'.heap ∧ (∀ b ∈ fp, H' b = none) ∧ W i n ys σ' H') ?_ m0 ⟨0, [], σ0, H0, B, st, fr, w0⟩
  rintro n s3 ⟨i, ys, σ3, H3, I3, st3, fr3, w3⟩
  rcases turn i n ys σ3 H3 w3 with ⟨stop, qn⟩ | ⟨go, N, hN, step⟩
  · refine thn (T.done X rfl rfl rfl hc i [] s3 σ3 H3 _ I3 (stat fr3) st3 stop) fun r s4 ⟨hr, I4⟩ => ?_
    subst hr
    exact fin σ3 H3 s4 I4 qn
  · refine thn (T.item X rfl rfl rfl hc i [] s3 σ3 H3 _ I3 (stat fr3) st3 go) fun r s4 ⟨u, hr, h4⟩ => ?_
    subst hr
    refine thn h4 fun _ s5 ⟨x, H5, I5, r5, y5, st5, fr5⟩ => ?_
    have I5' := I5.pinned (stat fr5) (T.obj _ _ st5)
    have q1 := hg _ s5 σ3 H5 x u _ I5' r5 (step x H5 y5)
    rw [hxe] at q1
    refine thn q1 fun _ s6 ⟨σ6, H6, I6, q6⟩ => ?_
    have q2 := ht _ s6 σ6 H6 _ I6 q6
    rw [hxe] at q2
    refine thn q2 fun ok s7 ⟨H7, I7, q7⟩ => ?_
    have again : ∀ {ys' : List V} {σ8 : St} {H8 : Hp} {s8 : Shared}, Inv X ([] ++ pinsAt fp s5.heap) σ8 H8 s8 → N ys' σ8 H8 → ∃ m, m < n ∧ ∃ i ys σ' H', Inv X [] σ' H' s8 ∧ tn i s8.heap ∧ (∀ b ∈ fp, H' b = none) ∧ W i m ys σ' H' := fun {ys' σ8 H8 s8} I8 n8 => by
      obtain ⟨m', hm, w8⟩ := hN ys' σ8 H8 n8
      refine ⟨m', hm, i + 1, ys', σ8, H8, I8.unpinned, T.keep _ _ _ st5 fun b hb o e => (I8.pin (b, o) (List.mem_append_right _ (List.mem_append_right _ (mem_pinsAt hb e)))).1, fun b hb => ?_, w8⟩
      obtain ⟨o, e, d⟩ := T.obj _ _ st5 b hb
      exact (I8.pin (b, o) (List.mem_append_right _ (List.mem_append_right _ (mem_pinsAt hb e)))).2.1
    cases ok with
    | false => exact again I7 q7
    | true =>
      have q3 := he _ s7 σ6 H7 _ I7 q7
      rw [hxe] at q3
      show wpAny _ _ (eval elt X.env) _ _ s7
      refine thn q3 fun xv s8 ⟨v, H8, I8, r8, hD8, hz8, n8⟩ => ?_
      have q4 := mt_append (X := X) _ s8 σ6 H8 (.ref D) [v] (.ref D) [xv] (fun _ H9 => N (ys ++ [v]) σ6 H9) I8 rfl (.cons r8 .nil) ⟨D, ys, v, rfl, rfl, hD8, hz8, n8⟩
      rw [hxe] at q4
      refine thn q4 fun _ s9 ⟨_, H9, I9, _, n9⟩ => ?_
      exact again I9 n9
section
variable {X : Cx} {tg iter elt : Expr} {ifs : List Expr} {scope : Scope} {pos : Pos} {wi : TI} {g : TG} {tc : TT} {te : TE}
theorem blk_run {pins : List (Addr × Obj)} {σ : St} {H2 : Hp} {s2 : Shared} {it : Addr} {fp : List Addr} {tn : Nat → Heap → Prop} {J : It} {Q : Addr → Hp → Prop} {N' : List Str} {fr : List (Option Nat)} {RR : Value → Addr → Result → Shared → Prop}
    (hc : X.calm = true) (S : CompSc X.env.scope X.N scope N' fr)
    (hg : ∀ cl fp C s H, PG (blk X scope N' cl fp C s H) tg g) (ht : ∀ cl fp C s H, PIfs (blk X scope N' cl fp C s H) ifs tc) (he : ∀ cl fp C s H, PE (blk X scope N' cl fp C s H) elt te)
    (I2 : Inv X pins σ H2 s2) (T : Turn X.prog X.w X.K tg J fp it tn) (st2 : tn 0 s2.heap) (f2 : ∀ b ∈ fp, FpOk X pins H2 b)
    (h : ∀ D, H2 D = none → LcW J D g tc te (Q D) (frSt fr σ) (upd H2 D (.lst [])))
    (fin : ∀ D C s' m' H', s2.heap.objs.size ≤ C → C ≠ D → H' C = none → s'.heap.Ns C m' → (∀ h', Heap.SameBut C s'.heap h' → Inv X pins σ H' { s' with heap := h' }) → Q D H' → RR (.ref D) C (.ok .next) s') {E : Value → Shared → Prop} :
    wpAny (model X.prog X.w) X.A (newList []) (fun acc s₃ => wpAny (model X.prog X.w) X.A (newFunctionEnv scope X.env.globals (clo X.env scope.names []) [] X.env.qual none .none (some X.env)) (fun cenv s₄ =>
      codeAny (model X.prog X.w) X.A (.compStart (.ListComp elt [⟨tg, iter, ifs, 0⟩] scope pos) 0 (.ref it) acc { cenv with scope := relabel scope X.env }) (RR acc cenv.locals) s₄) E s₃) E s2 := by
  refine wpAny_newObj_type (wpAny_newFunctionEnv S.nocell (by intro y hy; simp at hy) (fun h₁ hns₁ hsb₁ => ?_) S.kind)
  dsimp only at hns₁ hsb₁ ⊢
  have hD : H2 s2.heap.objs.size = none := I2.hok.fresh (Nat.le_refl _)
  have I3 : Inv X pins σ (upd H2 s2.heap.objs.size (.lst [])) { s2 with heap := s2.heap.push { cls := .type "list", dict := none, data := .seq ([] : List Value).toArray }, toks := s2.toks } := I2.lnew (its := []) .nil (Nat.zero_le _)
  generalize hH2 : s2.heap.push { cls := .type "list", dict := none, data := .seq ([] : List Value).toArray } = HH at hns₁ hsb₁ I3 ⊢
  have hC : HH.objs.size = s2.heap.objs.size + 1 := by rw [← hH2, Heap.size_push]
  have old : ∀ b o, HH.get? b = some o → h₁.get? b = some o := fun b o e => hsb₁.extBut b o (Nat.ne_of_lt (Heap.lt_size e)) (Heap.get?_push_of_some _ e)
  have old2 : ∀ b o, s2.heap.get? b = some o → HH.get? b = some o := fun b o e => hH2 ▸ Heap.get?_push_of_some _ e
  have ofp : ∀ b ∈ fp, ∃ o, s2.heap.get? b = some o := fun b hb => by
    obtain ⟨o, e, _⟩ := T.obj _ _ st2 b hb
    exact ⟨o, e⟩
  have neD : ∀ b ∈ fp, b ≠ s2.heap.objs.size := fun b hb => by
    obtain ⟨o, e⟩ := ofp b hb
    exact Nat.ne_of_lt (Heap.lt_size e)
  have f3 : ∀ b ∈ fp, FpOk X pins (upd H2 s2.heap.objs.size (.lst [])) b := fun b hb => ⟨by rw [upd_ne (neD b hb)]; exact (f2 b hb).1, (f2 b hb).2⟩
  have ofp3 : ∀ b ∈ fp, ∃ o, HH.get? b = some o := fun b hb => by
    obtain ⟨o, e⟩ := ofp b hb
    exact ⟨o, old2 b o e⟩
  have B := blk_start (h₁ := h₁) (tk := s2.toks + ([] : List (Str × Value)).length) I3 S f3 ofp3 hns₁ old
  have st1 : tn 0 h₁ := T.keep _ _ _ st2 fun b hb o e => old b o (old2 b o e)
  have loop : codeAny (model X.prog X.w) X.A (.compLoop (.ListComp elt [⟨tg, iter, ifs, 0⟩] scope pos) 0 (.ref it) (.ref s2.heap.objs.size) (compEnvC scope (clo X.env scope.names []) HH.objs.size X.env))
      (RR (.ref s2.heap.objs.size) HH.objs.size) { s2 with heap := h₁, toks := s2.toks + ([] : List (Str × Value)).length } := by
    refine blk_loop (X := blk X scope N' (clo X.env scope.names []) fp HH.objs.size { s2 with heap := HH, toks := s2.toks } (upd H2 s2.heap.objs.size (.lst []))) (fp := fp) rfl hc rfl rfl (hg _ _ _ _ _) (ht _ _ _ _ _) (he _ _ _ _ _) T
      (fun b hb => ⟨(B.ok.exf b hb).1, B.ok.exfs b hb, (B.ok.exf b hb).2⟩) (h _ hD) B st1 (fun b hb => (f3 b hb).1) fun σ4 H4 s4 I4 q4 => ?_
    obtain ⟨m4, hn4, _⟩ := I4.loc
    refine fin _ HH.objs.size s4 m4 H4 (by rw [hC]; exact Nat.le_succ _) (by rw [hC]; exact Nat.succ_ne_self _) I4.free hn4 (fun h' sb => ?_) q4
    have u4 : Un (frs X.stack) fp (upd H2 s2.heap.objs.size (.lst [])) H4 HH s4.heap := I4.base
    exact I3.call' (s' := { s4 with heap := h' }) I4.os (u4.but sb (Nat.le_refl _)) (I4.hok.but I4.free sb) I4.bare fun b hb => ⟨(f2 b hb).2.2.2.1, (f2 b hb).2.1, (f2 b hb).2.2.2.2.1, (f2 b hb).2.2.2.2.2⟩
  exact codeAny_compStart_list loop (T.self _ 0 _ _ _ st1 loop)
theorem pe_lc (N' : List Str) (fr : List (Option Nat)) (hc : X.calm = true) (hi : PI X tg iter wi)
    (hg : ∀ cl fp C s H, PG (blk X scope N' cl fp C s H) tg g) (ht : ∀ cl fp C s H, PIfs (blk X scope N' cl fp C s H) ifs tc) (he : ∀ cl fp C s H, PE (blk X scope N' cl fp C s H) elt te)
    {sc0 : Scope} {N0 : List Str} (hsc : X.env.scope = sc0 := by rfl) (hN : X.N = N0 := by rfl) (hok : compScB sc0 N0 scope N' fr = true := by decide +kernel) (hs : ∀ x, foldedSetIterable iter X.env x = pure x := by intro _; rfl) :
    PE X (.ListComp elt [⟨tg, iter, ifs, 0⟩] scope pos) (tLC wi fr g tc te) := by
  intro pins s σ H Q I h
  have S : CompSc X.env.scope X.N scope N' fr := by rw [hsc, hN]; exact compSc_of hok
  have has : ∀ y ∈ scope.names, y.2 = .free → ∃ c, X.env.cells.lookup y.1 = some c := fun y hy hk => I.ok.has y.1 (S.frees y hy hk)
  rw [eval_ListComp]
  refine wpAny_comprehension_free (use := none) rfl hs (closure_ok has) S.kind S.names (thn (hi pins s σ H _ I h) fun v s1 h1 => thn h1 fun itv s2 h2 => ?_)
  obtain ⟨it, fp, tn, J, H2, rfl, I2, T, st2, f2, w2⟩ := h2
  refine blk_run (Q := fun D => Q (.ref D)) (RR := fun acc C => compPost (model X.prog X.w) X.A X.xe none (EP X pins σ Q) acc C) hc S hg ht he I2 T st2 f2 w2 fun D C s' m' H' h1 h2 h3 h4 h5 q => ?_
  exact ⟨m', h4, fun h' sb => ⟨.ref D, H', h5 h' sb, rfl, q⟩⟩
def tSetLC (i : Nat) (t : TE) : TS := fun D σ H => t σ H fun v H1 => D.nx (σ.set i (some v)) H1
theorem ps_setLC {i : Nat} {y : Str} {py spos : Pos} (hNd : X.N.Nodup) (hy : X.N[i]? = some y) (hly : Loc X.env.scope y) (N' : List Str) (fr : List (Option Nat)) (hc : X.calm = true) (hi : PI X tg iter wi)
    (hg : ∀ cl fp C s H, PG (blk X scope N' cl fp C s H) tg g) (ht : ∀ cl fp C s H, PIfs (blk X scope N' cl fp C s H) ifs tc) (he : ∀ cl fp C s H, PE (blk X scope N' cl fp C s H) elt te)
    {sc0 : Scope} {N0 : List Str} (hsw : swapsWith (.ListComp elt [⟨tg, iter, ifs, 0⟩] scope pos) (some (.Name y py)) spos.line X.env = pure true := by rfl)
    (hsc : X.env.scope = sc0 := by rfl) (hN : X.N = N0 := by rfl) (hok : compScB sc0 N0 scope N' fr = true := by decide +kernel) (hs : ∀ x, foldedSetIterable iter X.env x = pure x := by intro _; rfl)
    (hf : X.fn y = true ∨ X.env.scope.names.lookup y = some .local := by first | exact .inl rfl | exact .inr rfl) :
    PS X (.Assign [.Name y py] (.ListComp elt [⟨tg, iter, ifs, 0⟩] scope pos) spos) (tSetLC i (tLC wi fr g tc te)) := by
  intro pins s σ H D I h
  have S : CompSc X.env.scope X.N scope N' fr := by rw [hsc, hN]; exact compSc_of hok
  have has : ∀ y ∈ scope.names, y.2 = .free → ∃ c, X.env.cells.lookup y.1 = some c := fun y hy hk => I.ok.has y.1 (S.frees y hy hk)
  rw [exec_Assign_Name_used _ _ _ _ hsw]
  refine wpAny_bind (wpAny_standAt (wpAny_bind ?_))
  show wpAny _ X.A (do let _ ← comprehension (.ListComp elt [⟨tg, iter, ifs, 0⟩] scope pos) scope X.env _ (newList []) false (eval iter X.env) (some (assign (.Name y py) X.env))) _ _ s
  refine wpAny_bind (wpAny_mono (wpAny_comprehension_free (use := some (assign (.Name y py) X.env)) (Q := fun _ s' => SP X pins D .next s') rfl hs (closure_ok has) S.kind S.names
    (thn (hi pins s σ H _ I h) fun v s1 h1 => thn h1 fun itv s2 h2 => ?_)) (fun _ s' hq => wpAny_pure (wpAny_pure hq)) fun _ _ e => e)
  obtain ⟨it, fp, tn, J, H2, rfl, I2, T, st2, f2, w2⟩ := h2
  refine blk_run (Q := fun B H1 => D.nx (σ.set i (some (.ref B))) H1) (RR := fun acc C => compPost (model X.prog X.w) X.A X.xe (some (assign (.Name y py) X.env)) (fun _ s' => SP X pins D .next s') acc C) hc S hg ht he I2 T st2 f2 w2 fun B C s' m' H' h1 h2 h3 h4 h5 q => ?_
  have I5 : Inv X pins σ H' { s' with heap := s'.heap } := h5 s'.heap (.refl ..)
  show wpAny _ X.A (assign (.Name y py) X.env (.ref B)) _ _ s'
  refine wpAny_assign_Name (store_ok2 (v := .ref B) I5 hNd hy hly rfl (fun s6 I6 ⟨a, sb, ha⟩ => ?_) hf)
  have nL : C ≠ X.env.locals := Nat.ne_of_gt (Nat.lt_of_lt_of_le I2.lt h1)
  have nC : ∀ x c, X.env.cells.lookup x = some c → c ≠ C := fun x c e => by
    obtain ⟨v, o, ho, _⟩ := I2.cell x c e
    exact Nat.ne_of_lt (Nat.lt_of_lt_of_le (Heap.lt_size ho) h1)
  have nP : ∀ p ∈ X.pn ++ pins, p.1 ≠ C := fun p hp => by
    have e := (I2.pin p hp).1
    exact Nat.ne_of_lt (Nat.lt_of_lt_of_le (Heap.lt_size e) h1)
  have na : a ≠ C := by
    rcases ha with e | e
    · rw [e]; exact nL.symm
    · exact nC _ _ e
  refine ⟨m', h4.sameBut sb (Ne.symm na), fun h' sb' => ⟨σ.set i (some (.ref B)), H', ?_, q⟩⟩
  exact I6.turned (t' := s6.toks) (fun b o hb e => (sb'.2 b hb).trans e) h3 nL (.inr (Nat.le_trans I2.sz h1)) nC nP
end
end L2
namespace L2
open PySem PySem.Spec PyProof.Rows
section
variable {X : Cx}
def rLen (K : PySem.W.Frag) : List V → Hp → VK → Prop := fun xs H Q => ∃ x n, xs = [x] ∧ LenV K x H n ∧ Q (.int n) H
theorem call_lenK : CallR X (.builtin "len") (rLen X.K) := call_len
theorem small_len {n : Nat} (h : n ≤ 1000) : n ≤ sizeLine := Nat.le_of_lt (small1000 h)
def stepV {α : Type} (xs : List α) (lo hi st : Option Int) : List α := (sliceRange (sliceBounds lo hi st xs.length).1 (sliceBounds lo hi st xs.length).2.1 (sliceBounds lo hi st xs.length).2.2).filterMap (fun j => xs[j]?)
inductive EqT (K : PySem.W.Frag) (H : Hp) : Nat → V → V → Prop where
  | sc {n : Nat} {x : V} (f : flatV x = true) : EqT K H n x x
  | rf {n : Nat} {a : Addr} : EqT K H n (.ref a) (.ref a)
  | tup {n : Nat} {a b : Addr} {xs ys : List V} (h1 : SqT K H a xs) (h2 : SqT K H b ys) (hl : xs.length = ys.length) (h : ∀ (i : Nat) (x y : V), xs[i]? = some x → ys[i]? = some y → EqT K H n x y) : EqT K H (n + 1) (.ref a) (.ref b)
  | lst {n : Nat} {a b : Addr} {xs ys : List V} (h1 : SqL K H a xs) (h2 : SqL K H b ys) (hl : xs.length = ys.length) (h : ∀ (i : Nat) (x y : V), xs[i]? = some x → ys[i]? = some y → EqT K H n x y) : EqT K H (n + 1) (.ref a) (.ref b)
end
end L2
namespace WS
abbrev S3 := Int × Int × Int
def mx (i j : Int) : Int := if j > i then j else i
def above1 (b : S3) (L : Int) : Int := b.2.2 * mx 0 (b.2.1 - mx b.1 L)
def above (bs : List S3) (L : Int) : Int := (bs.map fun b => above1 b L).sum
def hotB (hs : List S3) : List S3 := hs.map fun x => (x.2.1, x.1, x.2.2)
def coldB (g : Int) (cs : List S3) : List S3 := cs.map fun x => (x.1 + g, x.2.1 + g, x.2.2)
def lackF (g : Int) (hs cs : List S3) (L : Int) : Int := above (coldB g cs) L - above (hotB hs) L
structure HotOk (x : S3) : Prop where
  lo : 0 ≤ x.2.1
  lt : x.2.1 < x.1
  hi : x.1 ≤ 200
  r0 : 1 ≤ x.2.2
  r1 : x.2.2 ≤ 1000000000
structure ColdOk (x : S3) : Prop where
  lo : 0 ≤ x.1
  lt : x.1 < x.2.1
  hi : x.2.1 ≤ 200
  r0 : 1 ≤ x.2.2
  r1 : x.2.2 ≤ 1000000000
end WS
namespace L2
open PySem PySem.Spec PyProof.Rows
structure Fn (P : Program) (w : World) (K : PySem.W.Frag) (mg : Str → Option Value) (base : Heap) (x : Str) (k : Nat) (ps : List Str) (sp : Sp) : Prop where
  ex : ∃ f fd, FnOk P w K mg base CX0 k f fd ps sp ∧ mg x = some (.ref f) ∧ PySem.W.keepIn K (.ref f) = true ∧ Binds K fd ps []
theorem pe_fn {X : Cx} {x : Str} {k : Nat} {ps : List Str} {sp : Sp} {p pos : Pos} {e : Expr} {es : List Expr} {t : TA} (F : Fn X.prog X.w X.K X.mg X.base x k ps sp) (hr : Room k X.A) (hg : Gl X x) (ha : PA X (e :: es) t)
    (hdb : (x == ("__debug__" : Str)) = false := by decide) (he : starEach (e :: es) X.env = (false, eval e X.env) :: starEach es X.env := by rfl) (hpl : (backTo pos (starEach es X.env)).any (·.1) = false := by rfl) :
    PE X (.Call (.Name x p) (e :: es) [] pos) (tCall sp [] E0 t) := by
  obtain ⟨f, fd, G, hm, hk, hb⟩ := F.ex
  exact pe_call G hr hg hm hk hb .nil pass0 ha hdb he hpl
theorem fn_mk {P : Program} {w : World} {K : PySem.W.Frag} {mg : Str → Option Value} {base : Heap} {x qual : Str} {st : Stmt} {f : Addr} {fd : FuncData} {k : Nat} {ps : List Str} {sp : Sp} (F : Fun K x qual st f fd) (hm : mg x = some (.ref f)) (hb : Binds K fd ps []) (ok : FnOk P w K mg base CX0 k f fd ps sp) :
    Fn P w K mg base x k ps sp := ⟨f, fd, ok, hm, F.kp, hb⟩
theorem same_new {H : Hp} {a : Addr} {o : HO} (h : H a = none) : Same H (upd H a o) := fun b u e => by
  rw [upd_ne (ne_of_none e h)]; exact e
theorem Same.upd {H H' : Hp} {a : Addr} {o : HO} (s : Same H H') (h : H a = none) : Same H (upd H' a o) := fun b u e => by
  rw [upd_ne (ne_of_none e h)]; exact s b u e
end L2
namespace WS
open PySem L2
theorem paired_get {α β : Type} {F : α → β → Prop} : ∀ {l : List α} {r : List β} {i : Nat} {a : α}, Paired F l r → l[i]? = some a → ∃ b, r[i]? = some b ∧ F a b
  | _, _, _, _, .nil, e => by simp at e
  | _, _, 0, _, .cons h _, e => by simp at e; subst e; exact ⟨_, rfl, h⟩
  | _, _, i + 1, a, .cons _ t, e => by
    obtain ⟨b, h1, h2⟩ := paired_get (i := i) (a := a) t (by simpa using e)
    exact ⟨b, by simpa using h1, h2⟩
theorem take_snoc {α : Type} {l : List α} {i : Nat} {x : α} (e : l[i]? = some x) : l.take (i + 1) = l.take i ++ [x] := by
  rw [List.take_add_one, e]; rfl
end WS
namespace L2
open PySem PySem.Spec PyProof.Rows
section
variable {X : Cx}
theorem vals_strsFrom : ∀ (k : Nat) (ts : List Str), Vals (ts.map V.str) (strsFrom k ts)
  | _, [] => .nil
  | k, _ :: r => .cons ⟨k, rfl⟩ (vals_strsFrom (k + 1) r)
theorem partsFrom_len (x : Str) (w : Nat) : ∀ (cuts : List Nat) (a : Nat), (StrLaws.partsFrom x w a cuts).length = cuts.length + 1
  | [], _ => rfl
  | c :: r, a => by
    show (StrLaws.partsFrom x w (c + w) r).length + 1 = _
    rw [partsFrom_len x w r]
    rfl
theorem parts_len (x y : Str) : (Builtin.Str.partsBetween x (Builtin.Str.occurrences x y 0 x.length (x.length + 1)) y.length).length ≤ x.length + 2 := by
  rw [StrLaws.partsBetween_eq, partsFrom_len]
  have := StrLaws.occ_length_le x y 0 x.length (x.length + 1)
  omega
theorem split_len (x y : Str) : (Txt.split x y).length ≤ x.length + 2 := by
  unfold Txt.split
  split
  · show 1 ≤ _; omega
  · split
    · show 1 ≤ _; omega
    · exact parts_len x y
def rSplit : V → List V → Hp → VK → Prop := fun x vs H Q => ∃ a y, x = .str a ∧ vs = [.str y] ∧ (y.length == 0) = false ∧ a.length + 2 ≤ sizeLine ∧ ∀ p, H p = none → Q (.ref p) (upd H p (.lst ((Txt.split a y).map V.str)))
theorem mt_split : MtR X "str.split" rSplit := by
  intro pins s σ H x xs v us Q I rx r h
  obtain ⟨a, y, rfl, rfl, hy, hz, q⟩ := h
  obtain ⟨t, rfl⟩ := rx
  obtain ⟨u, rfl, t', rfl⟩ := vals1 r
  have one : ∀ (_ : Txt.split a y = [a]), EP X pins σ Q (.ref s.heap.objs.size) { s with heap := s.heap.push { cls := .type "list", data := .seq [Value.str a t].toArray } } := fun e => by
    refine ⟨.ref _, _, I.laid (t' := s.toks) (fun b ob q => Heap.get?_push_of_some _ q) (Nat.le_refl _) (o := .lst ((Txt.split a y).map V.str)) ?_, rfl, q _ (I.hok.fresh (Nat.le_refl _))⟩
    rw [e]
    exact ⟨by show 1 ≤ sizeLine; decide, [.str a t], 0, .cons ⟨t, rfl⟩ .nil, Heap.get?_push_size _ rfl⟩
  by_cases h1 : (decide (a.length < y.length) || decide (Builtin.Str.strKind a < Builtin.Str.strKind y)) = true
  · refine call_meets F.slot_str_split (typeIs_str _ _ _) F.entry_str_split (F.args_str_split_2 _ _) (meets_str_split_cannot_occur a y t t' h1) ?_
    exact one (by unfold Txt.split; rw [if_pos h1])
  · have h1' : (decide (a.length < y.length) || decide (Builtin.Str.strKind a < Builtin.Str.strKind y)) = false := by simpa using h1
    by_cases h2 : (Builtin.Str.occurrences a y 0 a.length (a.length + 1)).isEmpty = true
    · refine call_meets F.slot_str_split (typeIs_str _ _ _) F.entry_str_split (F.args_str_split_2 _ _) (meets_str_split_not_found a y t t' h1' hy h2) ?_
      exact one (by unfold Txt.split; rw [if_neg h1, if_pos h2])
    · have h2' : (Builtin.Str.occurrences a y 0 a.length (a.length + 1)).isEmpty = false := by simpa using h2
      have hl := parts_len a y
      refine call_meets F.slot_str_split (typeIs_str _ _ _) F.entry_str_split (F.args_str_split_2 _ _) (meets_str_split_sep a y t t' h1' hy h2' (by omega) (by omega)) ?_
      have e : Txt.split a y = Builtin.Str.partsBetween a (Builtin.Str.occurrences a y 0 a.length (a.length + 1)) y.length := by unfold Txt.split; rw [if_neg h1, if_neg h2]
      refine ⟨.ref _, _, I.laid (fun b ob q => Heap.get?_push_of_some _ q) (Nat.le_refl _) (o := .lst ((Txt.split a y).map V.str)) ?_, rfl, q _ (I.hok.fresh (Nat.le_refl _))⟩
      rw [e]
      exact ⟨by rw [List.length_map]; omega, _, 0, vals_strsFrom _ _, Heap.get?_push_size _ rfl⟩
theorem strs_of : ∀ {ts : List Str} {its : List Value}, Vals (ts.map V.str) its → ∃ l : List (Str × Tok), its = strValues l ∧ l.map (·.1) = ts
  | [], _, .nil => ⟨[], rfl, rfl⟩
  | x :: r, _, .cons ⟨t, e⟩ h => by
    obtain ⟨l, e1, e2⟩ := strs_of h
    exact ⟨(x, t) :: l, by rw [e, e1]; rfl, by rw [List.map_cons, e2]⟩
def rJoin (K : PySem.W.Frag) : V → List V → Hp → VK → Prop := fun x vs H Q => ∃ (sep : Str) (p : Addr) (ts : List Str), x = .str sep ∧ vs = [.ref p] ∧ SqL K H p (ts.map V.str) ∧ JoinOk sep ts = true ∧ Q (.str (Str.join sep ts)) H
theorem mt_join : MtR X "str.join" (rJoin X.K) := by
  intro pins s σ H x xs v us Q I rx r h
  obtain ⟨sep, p, ts, rfl, rfl, hp, hok, q⟩ := h
  obtain ⟨t, rfl⟩ := rx
  obtain ⟨u, rfl, ru⟩ := vals1 r
  cases ru
  obtain ⟨its, rv, pl, hz⟩ := I.list hp
  obtain ⟨l, e1, e2⟩ := strs_of rv
  have hl : Builtin.Str.tooLong ((l.map (·.1)).toArray.foldl (· + ·.length + sep.length) 0) = false := by
    rw [e2]
    unfold JoinOk at hok
    simpa using hok
  refine call_meets F.slot_str_join (typeIs_str _ _ _) F.entry_str_join (F.args_str_join_2 _ _) (meets_str_join_list sep t p l hl) ⟨by rw [← e1]; exact pl.isList, ?_⟩
  refine post_join l ⟨by rw [e2]; exact joinOk_length hok, fun t' k => ?_⟩
  rw [e2]
  have e3 : Txt.join sep ts = Str.join sep ts := StrLaws.glued_eq_join sep ts
  rw [e3]
  exact ⟨.str _, H, I.tok k, ⟨t', rfl⟩, q⟩
def rStarts : V → List V → Hp → VK → Prop := fun x vs H Q => ∃ (a y : Str), x = .str a ∧ vs = [.str y] ∧ Q (.bl (decide (0 + y.length ≤ a.length) && Builtin.Str.subAt a y 0)) H
theorem mt_starts : MtR X "str.startswith" rStarts := by
  intro pins s σ H x xs v us Q I rx r h
  obtain ⟨a, y, rfl, rfl, q⟩ := h
  obtain ⟨t, rfl⟩ := rx
  obtain ⟨u, rfl, t', rfl⟩ := vals1 r
  refine call_gives F.slot_str_startswith (typeIs_str _ _ _) F.entry_str_startswith (F.args_str_startswith_2 _ _) (gives_str_startswith a y t t') ?_
  exact ⟨.bl _, H, I, rfl, q⟩
theorem call_intT : CallR X (.type "int") (fun xs H Q => ∃ (x : Str) (n : Int), xs = [.str x] ∧ PySem.intText? x = some n ∧ x.length ≤ 640 ∧ Q (.int n) H) := by
  intro pins s σ H xs us Q I r h
  obtain ⟨x, n, rfl, hn, hl, q⟩ := h
  obtain ⟨u, rfl, t, rfl⟩ := vals1 r
  exact PySem.W.KIN.call_text hn hl ⟨.int n, H, I.tok _, ⟨_, rfl⟩, q⟩
def Itst (x : Str) : It := ⟨fun i _ => i < x.cps.size, fun i H v H' => H' = H ∧ ∃ c, x.cps[i]? = some c ∧ v = .str ⟨#[c]⟩, fun i _ => x.cps.size ≤ i⟩
theorem turn_ascii {P : Program} {w : World} {K : PySem.W.Frag} {tg : Expr} (it : Addr) (x : Str) (t : Tok) : Turn P w K tg (Itst x) [it] it (fun i h => h.IsStrIter it "str_ascii_iterator" x t i) where
  mem := by simp
  obj := fun i h st b hb => by
    have e : b = it := by simpa using hb
    subst e
    obtain ⟨o, e, c, d⟩ := st
    exact ⟨o, e, fun v z => by rw [d] at z; cases z⟩
  keep := fun i h h' st k => let ⟨o, e, r⟩ := st; ⟨o, k it (by simp) o e, r⟩
  item := by
    intro X hP hw hK hc i pins s σ H E I hf st hg
    subst hP hw hK
    obtain ⟨f0, f1, f2, f3, f4, f5⟩ := hf it (by simp)
    have hi : i < x.cps.size := hg
    refine wpAny_pyNext_ascii_item st (c := x.cps[i]) (by simp [hi]) fun h' st' sb => ?_
    have I1 : Inv X pins σ H { s with heap := h', toks := s.toks + 1 } := I.turned (fun b o hb e => (sb.2 b hb).trans e) f0 f1 f3 f4 f5
    obtain ⟨o, e, c, d⟩ := id st'
    exact ⟨_, rfl, go_of (s := { s with heap := h', toks := s.toks + 1 }) e c d (by decide) ⟨.str ⟨#[x.cps[i]]⟩, H, I1, ⟨_, rfl⟩, ⟨rfl, x.cps[i], by simp [hi], rfl⟩, st', fun b hb => (hf b hb).1⟩⟩
  done := by
    intro X hP hw hK hc i pins s σ H E I hf st hg
    subst hP hw hK
    obtain ⟨f0, f1, f2, f3, f4, f5⟩ := hf it (by simp)
    have hi : x.cps.size ≤ i := hg
    exact wpAny_pyNext_ascii_end (I.ok.hd hc) st (by simp [hi]) fun h' eb => ⟨rfl, I.turned (t' := s.toks) (fun b o hb e => eb b o hb e) f0 f1 f3 f4 f5⟩
  self := fun _ _ _ _ _ st h => wpAny_pyIter_striter_ascii st h
theorem turn_wide {P : Program} {w : World} {K : PySem.W.Frag} {tg : Expr} (it : Addr) (x : Str) (t : Tok) : Turn P w K tg (Itst x) [it] it (fun i h => h.IsStrIter it "str_iterator" x t i) where
  mem := by simp
  obj := fun i h st b hb => by
    have e : b = it := by simpa using hb
    subst e
    obtain ⟨o, e, c, d⟩ := st
    exact ⟨o, e, fun v z => by rw [d] at z; cases z⟩
  keep := fun i h h' st k => let ⟨o, e, r⟩ := st; ⟨o, k it (by simp) o e, r⟩
  item := by
    intro X hP hw hK hc i pins s σ H E I hf st hg
    subst hP hw hK
    obtain ⟨f0, f1, f2, f3, f4, f5⟩ := hf it (by simp)
    have hi : i < x.cps.size := hg
    refine wpAny_pyNext_wide_item st (c := x.cps[i]) (by simp [hi]) fun h' st' sb => ?_
    have I1 : Inv X pins σ H { s with heap := h', toks := s.toks + 1 } := I.turned (fun b o hb e => (sb.2 b hb).trans e) f0 f1 f3 f4 f5
    obtain ⟨o, e, c, d⟩ := id st'
    exact ⟨_, rfl, go_of (s := { s with heap := h', toks := s.toks + 1 }) e c d (by decide) ⟨.str ⟨#[x.cps[i]]⟩, H, I1, ⟨_, rfl⟩, ⟨rfl, x.cps[i], by simp [hi], rfl⟩, st', fun b hb => (hf b hb).1⟩⟩
  done := by
    intro X hP hw hK hc i pins s σ H E I hf st hg
    subst hP hw hK
    obtain ⟨f0, f1, f2, f3, f4, f5⟩ := hf it (by simp)
    have hi : x.cps.size ≤ i := hg
    exact wpAny_pyNext_wide_end (I.ok.hd hc) st (by simp [hi]) fun h' eb => ⟨rfl, I.turned (t' := s.toks) (fun b o hb e => eb b o hb e) f0 f1 f3 f4 f5⟩
  self := fun _ _ _ _ _ st h => wpAny_pyIter_striter_wide st h
def iStr (tl : TE) : TI := fun σ H R => tl σ H fun v H1 => ∃ x, v = .str x ∧ R (Itst x) H1
theorem pi_str {tg l : Expr} {tl : TE} (hl : PE X l tl) : PI X tg l (iStr tl) := by
  intro pins s σ H R I h
  refine thn (hl pins s σ H _ I h) fun v s1 ⟨x, H1, I1, r1, q1⟩ => ?_
  obtain ⟨z, rfl, q⟩ := q1
  obtain ⟨t, rfl⟩ := r1
  have fr : ∀ (ob : Obj) (b : Addr), b ∈ [s1.heap.objs.size] → FpOk X pins H1 b := fun ob b hb => by
    have e : b = s1.heap.objs.size := by simpa using hb
    subst e
    exact I1.fpOk (Nat.le_refl _) (I1.hok.fresh (Nat.le_refl _))
  cases ha : z.cps.all (· < 128)
  · refine wpAny_pyIter_wide ha ?_
    exact ⟨s1.heap.objs.size, [s1.heap.objs.size], _, _, H1, rfl, I1.kept (t' := s1.toks) fun b o e => Heap.get?_push_of_some _ e, turn_wide _ z t, ⟨_, Heap.get?_push_size _ rfl, rfl, rfl⟩, fr { cls := .none, data := .fields #[] }, q⟩
  · refine wpAny_pyIter_ascii ha ?_
    exact ⟨s1.heap.objs.size, [s1.heap.objs.size], _, _, H1, rfl, I1.kept (t' := s1.toks) fun b o e => Heap.get?_push_of_some _ e, turn_ascii _ z t, ⟨_, Heap.get?_push_size _ rfl, rfl, rfl⟩, fr { cls := .none, data := .fields #[] }, q⟩
theorem bools_of : ∀ {bs : List Bool} {its : List Value}, Vals (bs.map V.bl) its → its = bs.map Value.bool
  | [], _, .nil => rfl
  | b :: r, _, .cons e h => by
    rw [show _ = Value.bool b from e, bools_of h]
    rfl
theorem all_range (bs : List Bool) : (List.range bs.length).all (fun i => bs.getD i true) = bs.all id := by
  rw [Bool.eq_iff_iff, List.all_eq_true, List.all_eq_true]
  constructor
  · intro h b hb
    obtain ⟨i, hi, e⟩ := List.mem_iff_getElem.mp hb
    have := h i (List.mem_range.mpr hi)
    rw [List.getD_eq_getElem?_getD, List.getElem?_eq_getElem hi] at this
    rw [← e]
    exact this
  · intro h i hi
    have hi' := List.mem_range.mp hi
    rw [List.getD_eq_getElem?_getD, List.getElem?_eq_getElem hi']
    exact h _ (List.getElem_mem hi')
def rAll (K : PySem.W.Frag) : List V → Hp → VK → Prop := fun xs H Q => ∃ (p : Addr) (bs : List Bool), xs = [.ref p] ∧ SqL K H p (bs.map V.bl) ∧ Q (.bl (bs.all id)) H
theorem call_allL (hc : X.calm = true) : CallR X (.builtin "all") (rAll X.K) := by
  intro pins s σ H xs us Q I r h
  obtain ⟨p, bs, rfl, hp, q⟩ := h
  obtain ⟨u, rfl, ru⟩ := vals1 r
  cases ru
  obtain ⟨its, rv, pl, hz⟩ := I.list hp
  have e := bools_of rv
  subst e
  have hlt : p < s.heap.objs.size := by obtain ⟨_, e, _⟩ := pl.isList; exact Heap.lt_size e
  have hh : X.A.in1.handled = none := I.ok.hd hc
  refine call_all_walk (wpAny_pyIter_list pl.isList ?_)
  refine ⟨_, _, _, _, _, _, fun i => bs.getD i true, rfl, Walks.list (A := X.A.in1) hh s.heap.objs.size p (Nat.ne_of_lt hlt) (bs.map Value.bool).toArray, ⟨⟨_, Heap.get?_push_size _ rfl, rfl, rfl⟩, pl.isList.push _⟩, ?_, fun h' tk hk => ?_⟩
  · intro i v s' Q' E' hv hq
    have hv' : (bs.map Value.bool)[i]? = some v := by simpa using hv
    rw [List.getElem?_map] at hv'
    cases z : bs[i]? with
    | none => rw [z] at hv'; cases hv'
    | some b =>
      rw [z] at hv'
      have e : v = Value.bool b := (Option.some.inj hv').symm
      subst e
      have hq' : Q' (bs.getD i true) s' := hq
      rw [List.getD_eq_getElem?_getD, z] at hq'
      exact wpAny_truthy_bool hq'
  · have e : (List.range (bs.map Value.bool).toArray.size).all (fun i => bs.getD i true) = bs.all id := by
      rw [List.size_toArray, List.length_map]
      exact all_range bs
    rw [e]
    refine ⟨.bl (bs.all id), H, I.kept (t' := tk) fun b o eb => hk b o ?_ (Heap.get?_push_of_some _ eb), rfl, q⟩
    have : b ≠ s.heap.objs.size := Nat.ne_of_lt (Heap.lt_size eb)
    simpa using this
abbrev TJ := St → Hp → Str → (Str → Hp → Prop) → Prop
def PJ (X : Cx) (es : List Expr) (t : TJ) : Prop :=
  ∀ (pins : List (Addr × Obj)) (s : Shared) (σ : St) (H : Hp) (acc : Str) (R : Str → Hp → Prop), Inv X pins σ H s → t σ H acc R →
    Joins (model X.prog X.w) X.A X.xe (evalEach es X.env) acc (fun out s1 => ∃ H', Inv X pins σ H' s1 ∧ R out H') s
def jNil : TJ := fun _ H acc R => R acc H
def jStr (x : Str) (t : TJ) : TJ := fun σ H acc R => (acc ++ x).length ≤ sizeLine ∧ t σ H (acc ++ x) R
def ShownV (v : V) (y : Str) : Prop := (v = .str y ∧ y.length ≤ sizeLine) ∨ ∃ i : Int, v = .int i ∧ i.natAbs.log2 < 1920 ∧ y = toString i
def jVal (te : TE) (t : TJ) : TJ := fun σ H acc R => te σ H fun v H1 => ∃ y, ShownV v y ∧ (acc ++ y).length ≤ sizeLine ∧ t σ H1 (acc ++ y) R
theorem pj_nil : PJ X [] jNil := fun _ _ _ H _ _ I h => ⟨H, I, h⟩
theorem pj_str {x : Str} {j pos} {es : List Expr} {t : TJ} (h : PJ X es t) : PJ X (.Constant (.str x) j pos :: es) (jStr x t) := by
  intro pins s σ H acc R I q
  show wpAny _ _ (eval (.Constant (.str x) j pos) X.env) _ _ s
  refine thn (pe_str (X := X) (x := x) (j := j) (pos := pos) pins s σ H (fun v H1 => v = .str x ∧ H1 = H) I ⟨rfl, rfl⟩) fun v s1 ⟨y, H1, I1, r1, e1, e2⟩ => ?_
  subst e1
  subst e2
  obtain ⟨t', rfl⟩ := r1
  exact ⟨x, t', rfl, q.1, h pins s1 σ _ _ R I1 q.2⟩
theorem pj_val {value : Expr} {pos : Pos} {te : TE} {es : List Expr} {t : TJ} (hv : PE X value te) (h : PJ X es t) : PJ X (.FormattedValue value (-1) none pos :: es) (jVal te t) := by
  intro pins s σ H acc R I q
  show wpAny _ _ (eval (.FormattedValue value (-1) none pos) X.env) _ _ s
  refine wpAny_FormattedValue_plain (thn (hv pins s σ H _ I q) fun v s1 ⟨x, H1, I1, r1, y, sh, hz, q1⟩ => ?_)
  rcases sh with ⟨rfl, hy⟩ | ⟨i, rfl, hi, rfl⟩
  · obtain ⟨t', rfl⟩ := r1
    exact wpAny_formatField_str ⟨y, _, rfl, hz, h pins s1 σ H1 _ R I1 q1⟩ ⟨y, _, rfl, hz, h pins _ σ H1 _ R (I1.tok _) q1⟩ hy
  · obtain ⟨t', rfl⟩ := r1
    exact wpAny_formatField_int hi ⟨_, _, rfl, hz, h pins _ σ H1 _ R (I1.tok _) q1⟩
def tJoin (t : TJ) : TE := fun σ H Q => t σ H Str.empty fun out H1 => out.length ≤ sizeLine ∧ Q (.str out) H1
theorem joins_mono {M : Model} {A : Around} {E : Value → Shared → Prop} : ∀ {l : List (Sem Value)} {acc : Str} {Q Q' : Str → Shared → Prop} {s : Shared}, (∀ o s, Q o s → Q' o s) → Joins M A E l acc Q s → Joins M A E l acc Q' s
  | [], _, _, _, _, h, q => h _ _ q
  | _ :: _, _, _, _, _, h, q => wpAny_mono q (fun v s1 ⟨y, t, e, z, r⟩ => ⟨y, t, e, z, joins_mono h r⟩) fun _ _ x => x
theorem pe_join {v1 v2 : Expr} {rest : List Expr} {pos : Pos} {t : TJ} (h : PJ X (v1 :: v2 :: rest) t) : PE X (.JoinedStr (v1 :: v2 :: rest) pos) (tJoin t) := by
  intro pins s σ H Q I q
  refine wpAny_JoinedStr (joins_mono (fun o s1 ⟨H1, I1, z, q1⟩ => ?_) (h pins s σ H Str.empty _ I q))
  exact ⟨z, .str o, H1, I1.tok _, ⟨_, rfl⟩, q1⟩
theorem pe_gS {x y : Str} {pos : Pos} (hg : Gl X x) (h : ∃ t, X.mg x = some (.str y t)) (hd : (x == ("__debug__" : Str)) = false := by decide) : PE X (.Name x pos) (tC (.str y)) := by
  obtain ⟨t, e⟩ := h
  exact pe_glob hg e ⟨t, rfl⟩ hd
theorem pe_gI {x : Str} {i : Int} {pos : Pos} (hg : Gl X x) (h : ∃ t, X.mg x = some (.int i t)) (hd : (x == ("__debug__" : Str)) = false := by decide) : PE X (.Name x pos) (tC (.int i)) := by
  obtain ⟨t, e⟩ := h
  exact pe_glob hg e ⟨t, rfl⟩ hd
end
end L2
namespace L2
open PySem PySem.Spec PyProof.Rows
section
variable {X : Cx} {pins : List (Addr × Obj)} {σ : St} {H : Hp} {s : Shared} {h' : Heap}
end
section
variable {X : Cx}
section
variable {prog : Program} {w : World} {A : Around} {E : Value → Shared → Prop} {s : Shared}
end
def gSeq (K : PySem.W.Frag) (n : Nat) (t : TGs) : TG := fun v σ H Q => ∃ a xs, v = .ref a ∧ (SqT K H a xs ∨ SqL K H a xs) ∧ xs.length = n ∧ t xs σ H Q
end
end L2
namespace DL
open PySem L2
inductive D where
  | non | bl (b : Bool) | int (i : Int) | str (x : Str) | tup (xs : List D) | lst (xs : List D) | scr (ns : List Int)
  | dct (kvs : List ((Int × Int) × Int))
def encD (kvs : List ((Int × Int) × Int)) : List (List Key × V) := kvs.map fun p => ([Sum.inl p.1.1, Sum.inl p.1.2], V.int p.2)
inductive Rep (K : PySem.W.Frag) (G : Hp) : V → D → Prop where
  | non : Rep K G .non .non
  | bl (b : Bool) : Rep K G (.bl b) (.bl b)
  | int (i : Int) : Rep K G (.int i) (.int i)
  | str (x : Str) : Rep K G (.str x) (.str x)
  | tup {a : Addr} {vs : List V} {ds : List D} (h : SqT K G a vs) (l : vs.length = ds.length) (r : ∀ (i : Nat) (v : V) (d : D), vs[i]? = some v → ds[i]? = some d → Rep K G v d) : Rep K G (.ref a) (.tup ds)
  | scr {a : Addr} {ns : List Int} (h : SqL K G a (ns.map V.int)) : Rep K G (.ref a) (.scr ns)
  | dct {a : Addr} {kvs : List ((Int × Int) × Int)} (h : G a = some (.dT (encD kvs))) : Rep K G (.ref a) (.dct kvs)
  | lst {a : Addr} {vs : List V} {ds : List D} (h : G a = some (.lst vs)) (l : vs.length = ds.length) (r : ∀ (i : Nat) (v : V) (d : D), vs[i]? = some v → ds[i]? = some d → Rep K G v d) : Rep K G (.ref a) (.lst ds)
abbrev Reps (K : PySem.W.Frag) (G : Hp) : List V → List D → Prop := Paired (Rep K G)
theorem paired_of {α β : Type} {F : α → β → Prop} : ∀ {l : List α} {r : List β}, l.length = r.length → (∀ (i : Nat) (a : α) (b : β), l[i]? = some a → r[i]? = some b → F a b) → Paired F l r
  | [], [], _, _ => .nil
  | a :: l, b :: r, e, h => .cons (h 0 a b rfl rfl) (paired_of (by simpa using e) fun i x y h1 h2 => h (i + 1) x y (by simpa using h1) (by simpa using h2))
theorem paired_at {α β : Type} {F : α → β → Prop} : ∀ {l : List α} {r : List β}, Paired F l r → ∀ (i : Nat) (a : α) (b : β), l[i]? = some a → r[i]? = some b → F a b
  | _, _, .nil, _, _, _, h, _ => by simp at h
  | _, _, .cons h _, 0, _, _, h1, h2 => by simp at h1 h2; subst h1; subst h2; exact h
  | _, _, .cons _ t, i + 1, a, b, h1, h2 => paired_at t i a b (by simpa using h1) (by simpa using h2)
theorem paired_get' {α β : Type} {F : α → β → Prop} : ∀ {l : List α} {r : List β} {i : Nat} {b : β}, Paired F l r → r[i]? = some b → ∃ a, l[i]? = some a ∧ F a b
  | _, _, _, _, .nil, e => by simp at e
  | _, _, 0, _, .cons h _, e => by simp at e; subst e; exact ⟨_, rfl, h⟩
  | _, _, i + 1, b, .cons _ t, e => by
    obtain ⟨a, h1, h2⟩ := paired_get' (i := i) (b := b) t (by simpa using e)
    exact ⟨a, by simpa using h1, h2⟩
section
variable {K : PySem.W.Frag} {G G' H H' : Hp} {v : V} {d : D} {ds : List D} {vs : List V}
theorem Rep.tup' {a : Addr} (h : SqT K G a vs) (r : Reps K G vs ds) : Rep K G (.ref a) (.tup ds) := .tup h (Paired.length r) (paired_at r)
theorem Rep.lst' {a : Addr} (h : G a = some (.lst vs)) (r : Reps K G vs ds) : Rep K G (.ref a) (.lst ds) := .lst h (Paired.length r) (paired_at r)
theorem Rep.tup_inv (h : Rep K G v (.tup ds)) : ∃ a vs, v = .ref a ∧ SqT K G a vs ∧ Reps K G vs ds := by
  cases h with | tup h l r => exact ⟨_, _, rfl, h, paired_of l r⟩
theorem Rep.lst_inv (h : Rep K G v (.lst ds)) : ∃ a vs, v = .ref a ∧ G a = some (.lst vs) ∧ Reps K G vs ds := by
  cases h with | lst h l r => exact ⟨_, _, rfl, h, paired_of l r⟩
theorem Rep.int_inv {i : Int} (h : Rep K G v (.int i)) : v = .int i := by cases h; rfl
theorem Rep.bl_inv {b : Bool} (h : Rep K G v (.bl b)) : v = .bl b := by cases h; rfl
theorem Rep.str_inv {x : Str} (h : Rep K G v (.str x)) : v = .str x := by cases h; rfl
theorem same_seqT {a : Addr} {xs : List V} (e : Same G G') (h : SqT K G a xs) : SqT K G' a xs := by
  rcases h with (h | ⟨o, h⟩) | h
  · exact .inl (.inl (e _ _ h))
  · exact .inl (.inr ⟨o, e _ _ h⟩)
  · exact .inr h
theorem Rep.mono (s : Same G G') (h : Rep K G v d) : Rep K G' v d := by
  induction h with
  | non => exact .non
  | bl b => exact .bl b
  | int i => exact .int i
  | str x => exact .str x
  | tup h l r ih => exact .tup (same_seqT s h) l ih
  | lst h l r ih => exact .lst (s _ _ h) l ih
  | scr h => exact .scr (s.seq h)
  | dct h => exact .dct (s _ _ h)
theorem Reps.mono (s : Same G G') (h : Reps K G vs ds) : Reps K G' vs ds := Paired.imp' (fun _ _ => Rep.mono s) h
def D.sc : D → Bool
  | .tup _ => false
  | .lst _ => false
  | .scr _ => false
  | .dct _ => false
  | _ => true
theorem Rep.sc (h : Rep K G v d) (e : d.sc = true) : Rep K G' v d := by
  cases h with
  | non => exact .non
  | bl b => exact .bl b
  | int i => exact .int i
  | str x => exact .str x
  | tup h l r => cases e
  | lst h l r => cases e
  | scr h => cases e
  | dct h => cases e
end
inductive B where
  | p (d : D) | o (d : D) | n (t : Bool) (ds : List D)
def B.val : B → D
  | .p d => d
  | .o d => d
  | .n true ds => .tup ds
  | .n false ds => .lst ds
abbrev DEnv := List (Option B)
def dget : DEnv → Nat → Option B
  | [], _ => none
  | b :: _, 0 => b
  | _ :: r, n + 1 => dget r n
def dput : DEnv → Nat → B → DEnv
  | [], _, _ => []
  | _ :: r, 0, b => some b :: r
  | c :: r, n + 1, b => c :: dput r n b
def frz1 : Option B → Option B
  | none => none
  | some b => some (.p b.val)
def frz : DEnv → DEnv
  | [] => []
  | c :: r => frz1 c :: frz r
theorem dput_len (b : B) : ∀ (ρ : DEnv) (i : Nat), (dput ρ i b).length = ρ.length
  | [], _ => rfl
  | _ :: _, 0 => rfl
  | _ :: r, n + 1 => by show (dput r n b).length + 1 = r.length + 1; rw [dput_len b r n]
theorem frz_len : ∀ (ρ : DEnv), (frz ρ).length = ρ.length
  | [] => rfl
  | _ :: r => by show (frz r).length + 1 = _; rw [frz_len r]; rfl
theorem dget_put {b : B} : ∀ {ρ : DEnv} {i j : Nat} {c : B}, dget (dput ρ i b) j = some c → (i = j ∧ j < ρ.length ∧ c = b) ∨ (i ≠ j ∧ dget ρ j = some c)
  | [], _, _, _, h => by cases h
  | _ :: _, 0, 0, _, h => .inl ⟨rfl, Nat.succ_pos _, (Option.some.inj h).symm⟩
  | _ :: _, 0, j + 1, _, h => .inr ⟨Nat.succ_ne_zero j |>.symm, h⟩
  | _ :: _, i + 1, 0, _, h => .inr ⟨Nat.succ_ne_zero i, h⟩
  | _ :: r, i + 1, j + 1, _, h => by
    rcases dget_put (ρ := r) (i := i) (j := j) h with ⟨h1, h2, h3⟩ | ⟨h1, h2⟩
    · exact .inl ⟨by rw [h1], Nat.succ_lt_succ h2, h3⟩
    · exact .inr ⟨fun e => h1 (Nat.succ.inj e), h2⟩
theorem dget_frz : ∀ {ρ : DEnv} {i : Nat} {c : B}, dget (frz ρ) i = some c → ∃ b, dget ρ i = some b ∧ c = .p b.val
  | [], _, _, h => by cases h
  | none :: _, 0, _, h => by cases h
  | some b :: _, 0, _, h => ⟨b, rfl, (Option.some.inj h).symm⟩
  | _ :: r, i + 1, _, h => dget_frz (ρ := r) h
theorem dget_lt : ∀ {ρ : DEnv} {i : Nat} {c : B}, dget ρ i = some c → i < ρ.length
  | [], _, _, h => by cases h
  | _ :: _, 0, _, _ => Nat.succ_pos _
  | _ :: r, i + 1, _, h => Nat.succ_lt_succ (dget_lt (ρ := r) h)
def OwnAt (K : PySem.W.Frag) (G H : Hp) (a : Addr) (d : D) : Prop := G a = none ∧ match d with
  | .lst ds => ∃ vs, H a = some (.lst vs) ∧ Reps K G vs ds
  | .dct kvs => H a = some (.dT (encD kvs))
  | _ => False
def Chg (H : Hp) (a : Addr) : Prop := ∃ o, H a = some o ∧ ∀ xs, o ≠ .tup xs
theorem Chg.there {H : Hp} {a : Addr} (h : Chg H a) : H a ≠ none := by obtain ⟨o, e, _⟩ := h; rw [e]; simp
structure Wd (H0 G0 H G : Hp) : Prop where
  hh : Same H0 H
  gg : Same G0 G
  gh : Same G H
  old : ∀ a, Chg H0 a → G a = G0 a
theorem Wd.refl {H G : Hp} (s : Same G H) : Wd H G H G := ⟨Same.refl _, Same.refl _, s, fun _ _ => rfl⟩
theorem Wd.trans {H0 G0 H1 G1 H2 G2 : Hp} (a : Wd H0 G0 H1 G1) (b : Wd H1 G1 H2 G2) : Wd H0 G0 H2 G2 :=
  ⟨a.hh.trans b.hh, a.gg.trans b.gg, b.gh, fun x h => by
    have h1 : Chg H1 x := by obtain ⟨o, e, n⟩ := h; exact ⟨o, a.hh _ _ e, n⟩
    rw [b.old x h1, a.old x h]⟩
theorem Wd.new {H0 G0 H G : Hp} {p : Addr} {o : HO} (w : Wd H0 G0 H G) (h : H p = none) : Wd H0 G0 (upd H p o) (upd G p o) :=
  ⟨w.hh.upd (w.hh.free h), w.gg.upd (w.gg.free (w.gh.free h)), fun b u e => by
    by_cases z : b = p
    · subst z; rw [upd_same] at e ⊢; exact e
    · rw [upd_ne z] at e ⊢; exact w.gh b u e, fun a ha => by
    have z : a ≠ p := fun e => ha.there (e ▸ w.hh.free h)
    rw [upd_ne z, w.old a ha]⟩
theorem Wd.own {H0 G0 H G : Hp} {p : Addr} {o : HO} (w : Wd H0 G0 H G) (h0 : H0 p = none) (h : G p = none) : Wd H0 G0 (upd H p o) G :=
  ⟨w.hh.upd h0, w.gg, w.gh.upd h, w.old⟩
theorem OwnAt.rep {K : PySem.W.Frag} {G H G2 : Hp} {a : Addr} {d : D} (h : OwnAt K G H a d) (s : Same G G2) (e : ∀ o, H a = some o → G2 a = some o) : Rep K G2 (.ref a) d := by
  obtain ⟨g, k⟩ := h
  cases d with
  | lst ds =>
    obtain ⟨vs, e', r⟩ := k
    exact Rep.lst' (e _ e') (Reps.mono s r)
  | dct kvs => exact .dct (e _ k)
  | non => exact k.elim
  | bl _ => exact k.elim
  | int _ => exact k.elim
  | str _ => exact k.elim
  | tup _ => exact k.elim
  | scr _ => exact k.elim
def BRes (K : PySem.W.Frag) (H G' H' : Hp) (v : V) : B → Prop
  | .p d => Rep K G' v d
  | .o d => ∃ a, v = .ref a ∧ H a = none ∧ OwnAt K G' H' a d
  | .n true ds => ∃ a as, v = .ref a ∧ SqT K G' a (as.map V.ref) ∧ as.Nodup ∧ Paired (fun x d => H x = none ∧ OwnAt K G' H' x d) as ds
  | .n false _ => False
theorem BRes.ahead {K : PySem.W.Frag} {H0 H G' H' : Hp} {v : V} {b : B} (s : Same H0 H) (h : BRes K H G' H' v b) : BRes K H0 G' H' v b := by
  cases b with
  | p d => exact h
  | o d => obtain ⟨a, e, n, o⟩ := h; exact ⟨a, e, s.free n, o⟩
  | n t ds =>
    cases t with
    | false => exact h
    | true =>
      obtain ⟨a, as, e, q, nd, pr⟩ := h
      exact ⟨a, as, e, q, nd, Paired.imp' (fun _ _ z => ⟨s.free z.1, z.2⟩) pr⟩
theorem Wd.all {H G H' G' : Hp} (w : Wd H G H' G') : ∃ G2, Wd H G H' G2 ∧ Same G' G2 ∧ ∀ a, H a = none → G' a = none → G2 a = H' a := by
  classical
  have sG : Same G' (fun a => if H a = none ∧ G' a = none then H' a else G' a) := fun a o h => by
    show (if _ then H' a else G' a) = _
    rw [if_neg fun q => by rw [q.2] at h; cases h]
    exact h
  refine ⟨fun a => if H a = none ∧ G' a = none then H' a else G' a, ⟨w.hh, w.gg.trans sG, fun a o h => ?_, fun a h => ?_⟩, sG, fun a h1 h2 => if_pos ⟨h1, h2⟩⟩
  · have h' : (if H a = none ∧ G' a = none then H' a else G' a) = some o := h
    split at h'
    · exact h'
    · exact w.gh _ _ h'
  · show (if H a = none ∧ G' a = none then H' a else G' a) = _
    rw [if_neg fun q => h.there q.1]
    exact w.old a h
theorem BRes.give {K : PySem.W.Frag} {H G H' G' : Hp} {v : V} {b : B} (w : Wd H G H' G') (h : BRes K H G' H' v b) : ∃ G2, Wd H G H' G2 ∧ Rep K G2 v b.val := by
  cases b with
  | p d => exact ⟨G', w, h⟩
  | n t ds =>
    cases t with
    | false => exact h.elim
    | true =>
      obtain ⟨a, as, rfl, q, nd, pr⟩ := h
      obtain ⟨G2, w2, s2, k2⟩ := w.all
      refine ⟨G2, w2, Rep.tup' (same_seqT s2 q) ?_⟩
      clear q nd
      induction pr with
      | nil => exact .nil
      | cons f _ ih => exact .cons (f.2.rep s2 fun o z => by rw [k2 _ f.1 f.2.1]; exact z) ih
  | o d =>
    obtain ⟨a, rfl, n, k⟩ := h
    obtain ⟨G2, w2, s2, k2⟩ := w.all
    exact ⟨G2, w2, k.rep s2 fun o z => by rw [k2 _ n k.1]; exact z⟩
abbrev DT := DEnv → (B → Prop) → Prop
abbrev DTT := DEnv → (Bool → Prop) → Prop
abbrev DTA := DEnv → (List D → Prop) → Prop
def RepE (K : PySem.W.Frag) (G : Hp) (σ : St) (ρ : DEnv) : Prop := ∀ i d, dget ρ i = some (.p d) → ∃ v, σ[i]? = some (some v) ∧ Rep K G v d
theorem RepE.mono {K : PySem.W.Frag} {G G' : Hp} {σ : St} {ρ : DEnv} (s : Same G G') (h : RepE K G σ ρ) : RepE K G' σ ρ := fun i d e => by
  obtain ⟨v, h1, h2⟩ := h i d e
  exact ⟨v, h1, h2.mono s⟩
def cE (K : PySem.W.Frag) (t : DT) : TE := fun σ H Q => ∃ (G : Hp) (ρ : DEnv) (P : B → Prop), Same G H ∧ RepE K G σ ρ ∧ t ρ P ∧ ∀ b v H' G', P b → Wd H G H' G' → BRes K H G' H' v b → Q v H'
def cT (K : PySem.W.Frag) (t : DTT) : TT := fun σ H Q => ∃ (G : Hp) (ρ : DEnv) (P : Bool → Prop), Same G H ∧ RepE K G σ ρ ∧ t ρ P ∧ ∀ b H' G', P b → Wd H G H' G' → Q b H'
def cA (K : PySem.W.Frag) (n : Nat) (t : DTA) : TA := fun σ H Q => ∃ (G : Hp) (ρ : DEnv) (P : List D → Prop), Same G H ∧ RepE K G σ ρ ∧ t ρ P ∧ ∀ ds vs H' G', P ds → ds.length = n → Wd H G H' G' → Reps K G' vs ds → Q vs H'
structure DE (X : Cx) (e : Expr) (t : DT) : Prop where
  pe : PE X e (cE X.K t)
structure DTe (X : Cx) (e : Expr) (t : DTT) : Prop where
  pt : PT X e (cT X.K t)
structure DW (X : Cx) (e : Expr) (t : DTT) : Prop where
  pw : PW X e (cT X.K t)
structure DA (X : Cx) (es : List Expr) (t : DTA) : Prop where
  pa : PA X es (cA X.K es.length t)
theorem PE.imp {X : Cx} {e : Expr} {t t' : TE} (h : PE X e t) (i : ∀ σ H Q, t' σ H Q → t σ H Q) : PE X e t' := fun pins s σ H Q I q => h pins s σ H Q I (i σ H Q q)
theorem PT.imp {X : Cx} {e : Expr} {t t' : TT} (h : PT X e t) (i : ∀ σ H Q, t' σ H Q → t σ H Q) : PT X e t' := fun pins s σ H Q I q => h pins s σ H Q I (i σ H Q q)
theorem PW.imp {X : Cx} {e : Expr} {t t' : TT} (h : PW X e t) (i : ∀ σ H Q, t' σ H Q → t σ H Q) : PW X e t' := fun wh pins s σ H Q I q => h wh pins s σ H Q I (i σ H Q q)
theorem PA.imp {X : Cx} {es : List Expr} {t t' : TA} (h : PA X es t) (i : ∀ σ H Q, t' σ H Q → t σ H Q) : PA X es t' := fun pos pins s σ H Q I q => h pos pins s σ H Q I (i σ H Q q)
theorem PS.imp {X : Cx} {st : Stmt} {t t' : TS} (h : PS X st t) (i : ∀ D σ H, t' D σ H → t D σ H) : PS X st t' := fun pins s σ H D I q => h pins s σ H D I (i D σ H q)
theorem PSs.imp {X : Cx} {st : List Stmt} {t t' : TS} (h : PSs X st t) (i : ∀ D σ H, t' D σ H → t D σ H) : PSs X st t' := fun pins s σ H D I q => h pins s σ H D I (i D σ H q)
theorem DE.of {X : Cx} {e : Expr} {t : TE} {t' : DT} (h : PE X e t) (i : ∀ σ H Q, cE X.K t' σ H Q → t σ H Q) : DE X e t' := ⟨PE.imp h i⟩
theorem DTe.of {X : Cx} {e : Expr} {t : TT} {t' : DTT} (h : PT X e t) (i : ∀ σ H Q, cT X.K t' σ H Q → t σ H Q) : DTe X e t' := ⟨PT.imp h i⟩
theorem DW.of {X : Cx} {e : Expr} {t : TT} {t' : DTT} (h : PW X e t) (i : ∀ σ H Q, cT X.K t' σ H Q → t σ H Q) : DW X e t' := ⟨PW.imp h i⟩
theorem DA.of {X : Cx} {es : List Expr} {t : TA} {t' : DTA} (h : PA X es t) (i : ∀ σ H Q, cA X.K es.length t' σ H Q → t σ H Q) : DA X es t' := ⟨PA.imp h i⟩
section
variable {X : Cx} {a b e : Expr} {ta tb te : DT} {pos : Pos}
def dVar (i : Nat) : DT := fun ρ Q => match dget ρ i with
  | some (.p d) => Q (.p d)
  | _ => False
theorem dv (i : Nat) {x : Str} (hN : X.N[i]? = some x := by rfl) (hv : Vis X.env.scope x := by first | exact Or.inl rfl | exact Or.inr (Or.inl rfl) | exact Or.inr (Or.inr rfl)) (hd : (x == ("__debug__" : Str)) = false := by decide)
    (hcd : (x == ("__classdict__" : Str)) = false := by decide) : DE X (.Name x pos) (dVar i) :=
  DE.of (pe_var hN hv hd hcd) fun σ H Q ⟨G, ρ, P, s, r, h, k⟩ => by
    unfold dVar at h
    split at h
    · rename_i d e
      obtain ⟨v, h1, h2⟩ := r _ _ e
      exact ⟨v, h1, k _ v H G h (Wd.refl s) h2⟩
    · exact h.elim
def dC (d : D) : DT := fun _ Q => Q (.p d)
def CRep (K : PySem.W.Frag) (v : V) (d : D) : Prop := ∀ G, Rep K G v d
theorem de_c {v : V} {d : D} (h : PE X e (tC v)) (r : CRep X.K v d) : DE X e (dC d) :=
  DE.of h fun σ H Q ⟨G, ρ, P, s, _, h, k⟩ => k _ v H G h (Wd.refl s) (r G)
theorem de_int {i : Int} {j} : DE X (.Constant (.int i) j pos) (dC (.int i)) := de_c pe_int fun _ => .int i
theorem de_bl {b : Bool} {j} : DE X (.Constant (.bool b) j pos) (dC (.bl b)) := de_c pe_bl fun _ => .bl b
theorem de_str {x : Str} {j} : DE X (.Constant (.str x) j pos) (dC (.str x)) := de_c pe_str fun _ => .str x
theorem go_on {K : PySem.W.Frag} {H G H1 G1 : Hp} {P : B → Prop} {Q : VK} (k : ∀ b v H' G', P b → Wd H G H' G' → BRes K H G' H' v b → Q v H') (w : Wd H G H1 G1) : ∀ b v H' G', P b → Wd H1 G1 H' G' → BRes K H1 G' H' v b → Q v H' :=
  fun b v H' G' p w' r => k b v H' G' p (w.trans w') (r.ahead w.hh)
abbrev D2 := D → D → (B → Prop) → Prop
def OpD (X : Cx) (f : Value → Value → Sem Value) (r : D2) : Prop := ∃ rv : R2, OpR X f rv ∧
  ∀ (H G : Hp) (x y : V) (dx dy : D) (P : B → Prop) (Q : VK), Same G H → Rep X.K G x dx → Rep X.K G y dy → r dx dy P → (∀ b v H' G', P b → Wd H G H' G' → BRes X.K H G' H' v b → Q v H') → rv x y H Q
def dOp (r : D2) (ta tb : DT) : DT := fun ρ Q => ta ρ fun x => tb ρ fun y => r x.val y.val Q
theorem cE_two {K : PySem.W.Frag} {ta tb : DT} {r : D2} {rv : R2} (hr : ∀ (H G : Hp) (x y : V) (dx dy : D) (P : B → Prop) (Q : VK), Same G H → Rep K G x dx → Rep K G y dy → r dx dy P → (∀ b v H' G', P b → Wd H G H' G' → BRes K H G' H' v b → Q v H') → rv x y H Q)
    (σ : St) (H : Hp) (Q : VK) : cE K (dOp r ta tb) σ H Q → tOp rv (cE K ta) (cE K tb) σ H Q := by
  rintro ⟨G, ρ, P, s, re, h, k⟩
  refine ⟨G, ρ, _, s, re, h, fun b v H1 G1 p1 w1 r1 => ?_⟩
  obtain ⟨G1', w1', r1'⟩ := r1.give w1
  refine ⟨G1', ρ, _, w1'.gh, re.mono w1'.gg, p1, fun b2 v2 H2 G2 p2 w2 r2 => ?_⟩
  obtain ⟨G2', w2', r2'⟩ := r2.give w2
  exact hr H2 G2' v v2 b.val b2.val P Q w2'.gh (r1'.mono w2'.gg) r2' p2 (go_on k (w1'.trans w2'))
theorem de_op {op : Operator} {r : D2} (ho : OpD X (binaryOp op) r) (ha : DE X a ta) (hb : DE X b tb) : DE X (.BinOp a op b pos) (dOp r ta tb) := by
  obtain ⟨rv, h1, h2⟩ := ho
  exact DE.of (pe_op h1 ha.pe hb.pe) (cE_two h2)
theorem de_cmp {op : CmpOp} {r : D2} (ho : OpD X (compareOp op) r) (ha : DE X a ta) (hb : DE X b tb) (hm : behindInMarks op b = false) : DE X (.Compare a [op] [b] pos) (dOp r ta tb) := by
  obtain ⟨rv, h1, h2⟩ := ho
  exact DE.of (pe_cmpR h1 ha.pe hb.pe hm) (cE_two h2)
def dI (g : Int → Int → D) : D2 := fun x y Q => match x, y with
  | .int i, .int j => Q (.p (g i j))
  | _, _ => False
def dIC (C : Int → Int → Prop) (g : Int → Int → D) : D2 := fun x y Q => match x, y with
  | .int i, .int j => C i j ∧ Q (.p (g i j))
  | _, _ => False
theorem opd_I {f : Value → Value → Sem Value} {g : Int → Int → D} {gv : Int → Int → V} (h : OpR X f (rI0 gv)) (hg : ∀ i j, CRep X.K (gv i j) (g i j)) : OpD X f (dI g) := by
  refine ⟨_, h, fun H G x y dx dy P Q s rx ry hr k => ?_⟩
  unfold dI at hr
  split at hr
  · cases rx; cases ry
    exact ⟨_, _, rfl, rfl, k _ _ H G hr (Wd.refl s) (hg _ _ _)⟩
  · exact hr.elim
theorem opd_IC {f : Value → Value → Sem Value} {C : Int → Int → Prop} {g : Int → Int → D} {gv : Int → Int → V} (h : OpR X f (rI C gv)) (hg : ∀ i j, CRep X.K (gv i j) (g i j)) : OpD X f (dIC C g) := by
  refine ⟨_, h, fun H G x y dx dy P Q s rx ry hr k => ?_⟩
  unfold dIC at hr
  split at hr
  · cases rx; cases ry
    exact ⟨_, _, rfl, rfl, hr.1, k _ _ H G hr.2 (Wd.refl s) (hg _ _ _)⟩
  · exact hr.elim
theorem od_sub : OpD X (binaryOp .Sub) (dI fun i j => .int (i - j)) := opd_I op_sub fun _ _ _ => .int _
theorem od_fdiv : OpD X (binaryOp .FloorDiv) (dIC CDiv fun i j => .int (i / j)) := opd_IC op_fdiv fun _ _ _ => .int _
theorem od_mod : OpD X (binaryOp .Mod) (dIC (fun _ j => 0 < j) fun i j => .int (i % j)) := opd_IC op_mod fun _ _ _ => .int _
theorem od_pow : OpD X (binaryOp .Pow) (dIC CPow fun i j => .int (i ^ j.toNat)) := opd_IC op_pow fun _ _ _ => .int _
theorem od_lt : OpD X (compareOp .Lt) (dI fun i j => .bl (decide (i < j))) := opd_I op_lt fun _ _ _ => .bl _
theorem od_le : OpD X (compareOp .LtE) (dI fun i j => .bl (decide (i ≤ j))) := opd_I op_le fun _ _ _ => .bl _
theorem od_gt : OpD X (compareOp .Gt) (dI fun i j => .bl (decide (j < i))) := opd_I op_gt fun _ _ _ => .bl _
theorem od_ge : OpD X (compareOp .GtE) (dI fun i j => .bl (decide (j ≤ i))) := opd_I op_ge fun _ _ _ => .bl _
def dEqS : D2 := fun x y Q => match x, y with
  | .int i, .int j => Q (.p (.bl (decide (i = j))))
  | .str i, .str j => Q (.p (.bl (decide (i = j))))
  | .bl i, .bl j => Q (.p (.bl (decide (i = j))))
  | _, _ => False
def dNeS : D2 := fun x y Q => match x, y with
  | .int i, .int j => Q (.p (.bl (!decide (i = j))))
  | .str i, .str j => Q (.p (.bl (!decide (i = j))))
  | .bl i, .bl j => Q (.p (.bl (!decide (i = j))))
  | _, _ => False
theorem decV {α : Type} [DecidableEq α] {f : α → V} (hf : ∀ a b, f a = f b → a = b) (i j : α) : decide (f i = f j) = decide (i = j) := by
  by_cases h : i = j
  · rw [h, decide_eq_true rfl, decide_eq_true rfl]
  · rw [decide_eq_false h, decide_eq_false fun e => h (hf _ _ e)]
theorem od_eq : OpD X (compareOp .Eq) dEqS := by
  refine ⟨_, op_eq, fun H G x y dx dy P Q s rx ry hr k => ?_⟩
  unfold dEqS at hr
  split at hr
  · cases rx; cases ry
    exact ⟨rfl, by rw [decV (fun _ _ e => V.int.inj e)]; exact k _ _ H G hr (Wd.refl s) (.bl _)⟩
  · cases rx; cases ry
    exact ⟨rfl, by rw [decV (fun _ _ e => V.str.inj e)]; exact k _ _ H G hr (Wd.refl s) (.bl _)⟩
  · cases rx; cases ry
    exact ⟨rfl, by rw [decV (fun _ _ e => V.bl.inj e)]; exact k _ _ H G hr (Wd.refl s) (.bl _)⟩
  · exact hr.elim
theorem od_ne : OpD X (compareOp .NotEq) dNeS := by
  refine ⟨_, op_ne, fun H G x y dx dy P Q s rx ry hr k => ?_⟩
  unfold dNeS at hr
  split at hr
  · cases rx; cases ry
    exact ⟨rfl, by rw [decV (fun _ _ e => V.int.inj e)]; exact k _ _ H G hr (Wd.refl s) (.bl _)⟩
  · cases rx; cases ry
    exact ⟨rfl, by rw [decV (fun _ _ e => V.str.inj e)]; exact k _ _ H G hr (Wd.refl s) (.bl _)⟩
  · cases rx; cases ry
    exact ⟨rfl, by rw [decV (fun _ _ e => V.bl.inj e)]; exact k _ _ H G hr (Wd.refl s) (.bl _)⟩
  · exact hr.elim
def dIsN : D2 := fun x y Q => match y with
  | .non => Q (.p (.bl (match x with | .non => true | _ => false)))
  | _ => False
def dNotN : D2 := fun x y Q => match y with
  | .non => Q (.p (.bl (match x with | .non => false | _ => true)))
  | _ => False
def dUn (r : D → (B → Prop) → Prop) (ta : DT) : DT := fun ρ Q => ta ρ fun x => r x.val Q
def dNeg : D → (B → Prop) → Prop := fun x Q => match x with
  | .int i => Q (.p (.int (-i)))
  | _ => False
theorem de_neg (ha : DE X a ta) : DE X (.UnaryOp .USub a pos) (dUn dNeg ta) :=
  DE.of (pe_un un_neg ha.pe) fun σ H Q ⟨G, ρ, P, s, re, h, k⟩ => by
    refine ⟨G, ρ, _, s, re, h, fun b v H1 G1 p1 w1 r1 => ?_⟩
    obtain ⟨G1', w1', r1'⟩ := r1.give w1
    unfold dNeg at p1
    split at p1
    · rename_i i e
      rw [e] at r1'
      cases r1'
      exact ⟨_, rfl, k _ _ H1 G1' p1 w1' (.int _)⟩
    · exact p1.elim
def dNotV (ta : DT) : DT := fun ρ Q => ta ρ fun x => match x.val with
  | .bl c => Q (.p (.bl (!c)))
  | _ => False
theorem bres_bl {K : PySem.W.Frag} {H G H' G' : Hp} {v : V} {b : B} {c : Bool} (w : Wd H G H' G') (r : BRes K H G' H' v b) (e : b.val = .bl c) : v = .bl c := by
  obtain ⟨G1, _, r1⟩ := r.give w
  rw [e] at r1
  exact r1.bl_inv
def dAndV (ta tb : DT) : DT := fun ρ Q => ta ρ fun x => match x.val with
  | .bl c => (c = true → tb ρ Q) ∧ (c = false → Q (.p (.bl false)))
  | _ => False
def dOrV (ta tb : DT) : DT := fun ρ Q => ta ρ fun x => match x.val with
  | .bl c => (c = true → Q (.p (.bl true))) ∧ (c = false → tb ρ Q)
  | _ => False
def dTst (t : DT) : DTT := fun ρ P => t ρ fun x => match x.val with
  | .bl c => P c
  | _ => False
theorem dt_cmp {op : CmpOp} {r : D2} (ho : OpD X (compareOp op) r) (ha : DE X a ta) (hb : DE X b tb) (hm : behindInMarks op b = false) : DTe X (.Compare a [op] [b] pos) (dTst (dOp r ta tb)) := by
  obtain ⟨rv, h1, h2⟩ := ho
  refine DTe.of (pt_cmpR h1 ha.pe hb.pe hm) fun σ H Q ⟨G, ρ, P, s, re, h, k⟩ => ?_
  refine cE_two h2 σ H _ ⟨G, ρ, _, s, re, h, fun b v H1 G1 p1 w1 r1 => ?_⟩
  split at p1
  · rename_i c e
    exact ⟨c, bres_bl w1 r1 e, k _ H1 G1 p1 w1⟩
  · exact p1.elim
theorem dt_val (ha : DE X a ta) (he : ∀ whole, isTrue a X.env whole = (do let v ← whole; standAt a.pos; holding [v] (truthy v)) := by intro _; rfl) : DTe X a (dTst ta) :=
  DTe.of (pt_val ha.pe he) fun σ H Q ⟨G, ρ, P, s, re, h, k⟩ => by
    refine ⟨G, ρ, _, s, re, h, fun b v H1 G1 p1 w1 r1 => ?_⟩
    split at p1
    · rename_i c e
      exact ⟨c, bres_bl w1 r1 e, k _ H1 G1 p1 w1⟩
    · exact p1.elim
def dNot (t : DTT) : DTT := fun ρ P => t ρ fun c => P (!c)
theorem dt_not {t : DTT} (ha : DTe X a t) : DTe X (.UnaryOp .Not a pos) (dNot t) :=
  DTe.of (pt_not ha.pt) fun σ H Q ⟨G, ρ, P, s, re, h, k⟩ => ⟨G, ρ, _, s, re, h, fun b H1 G1 p1 w1 => k _ H1 G1 p1 w1⟩
def dAnd (t u : DTT) : DTT := fun ρ P => t ρ fun c => (c = true → u ρ P) ∧ (c = false → P false)
def dOr (t u : DTT) : DTT := fun ρ P => t ρ fun c => (c = true → P true) ∧ (c = false → u ρ P)
theorem go_onT {K : PySem.W.Frag} {H G H1 G1 : Hp} {P : Bool → Prop} {Q : Bool → Hp → Prop} (k : ∀ b H' G', P b → Wd H G H' G' → Q b H') (w : Wd H G H1 G1) : ∀ b H' G', P b → Wd H1 G1 H' G' → Q b H' :=
  fun b H' G' p w' => k b H' G' p (w.trans w')
theorem cT_and {K : PySem.W.Frag} {t u : DTT} (σ : St) (H : Hp) (Q : Bool → Hp → Prop) : cT K (dAnd t u) σ H Q → tAnd (cT K t) (cT K u) σ H Q := by
  rintro ⟨G, ρ, P, s, re, h, k⟩
  refine ⟨G, ρ, _, s, re, h, fun c H1 G1 p1 w1 => ?_⟩
  cases c with
  | true => exact iteT ⟨G1, ρ, P, w1.gh, re.mono w1.gg, p1.1 rfl, go_onT (K := K) k w1⟩
  | false => exact iteF (k _ H1 G1 (p1.2 rfl) w1)
theorem cT_or {K : PySem.W.Frag} {t u : DTT} (σ : St) (H : Hp) (Q : Bool → Hp → Prop) : cT K (dOr t u) σ H Q → tOr (cT K t) (cT K u) σ H Q := by
  rintro ⟨G, ρ, P, s, re, h, k⟩
  refine ⟨G, ρ, _, s, re, h, fun c H1 G1 p1 w1 => ?_⟩
  cases c with
  | true => exact iteT (k _ H1 G1 (p1.1 rfl) w1)
  | false => exact iteF ⟨G1, ρ, P, w1.gh, re.mono w1.gg, p1.2 rfl, go_onT (K := K) k w1⟩
end
end DL
namespace DL
open PySem L2
section
variable {X : Cx} {a b c e : Expr} {ta tb tc te : DT} {pos : Pos} {es : List Expr}
def dIfE (t : DTT) (ta tb : DT) : DT := fun ρ Q => t ρ fun c => (c = true → ta ρ Q) ∧ (c = false → tb ρ Q)
def dChain (r r' : D2) (ta tb tc : DT) : DT := fun ρ Q => ta ρ fun x => tb ρ fun y => r x.val y.val fun z => match z.val with
  | .bl c => (c = true → tc ρ fun w => r' y.val w.val Q) ∧ (c = false → Q (.p (.bl false)))
  | _ => False
theorem dw_and1 {t : DTT} (ha : DTe X a t) : DW X (.BoolOp .And [a] pos) t := ⟨pw_and1 ha.pt⟩
theorem dw_or1 {t : DTT} (ha : DTe X a t) : DW X (.BoolOp .Or [a] pos) t := ⟨pw_or1 ha.pt⟩
theorem dw_and {t u : DTT} {rest : List Expr} (ha : DTe X a t) (hb : DW X (.BoolOp .And (b :: rest) pos) u) : DW X (.BoolOp .And (a :: b :: rest) pos) (dAnd t u) := DW.of (pw_and ha.pt hb.pw) cT_and
theorem dw_or {t u : DTT} {rest : List Expr} (ha : DTe X a t) (hb : DW X (.BoolOp .Or (b :: rest) pos) u) : DW X (.BoolOp .Or (a :: b :: rest) pos) (dOr t u) := DW.of (pw_or ha.pt hb.pw) cT_or
theorem DW.dt {t : DTT} (h : DW X e t) : DTe X e t := ⟨PW.pt h.pw⟩
def dNil : DTA := fun _ P => P []
def dCons (te : DT) (t : DTA) : DTA := fun ρ P => te ρ fun b => t ρ fun ds => P (b.val :: ds)
theorem da_nil : DA X [] dNil := DA.of pa_nil fun σ H Q ⟨G, ρ, P, s, re, h, k⟩ => k [] [] H G h rfl (Wd.refl s) .nil
theorem da_cons {t : DTA} (ha : DE X e te) (hr : DA X es t) (hs : starEach (e :: es) X.env = (false, eval e X.env) :: starEach es X.env := by rfl) : DA X (e :: es) (dCons te t) :=
  DA.of (pa_cons ha.pe hr.pa hs) fun σ H Q ⟨G, ρ, P, s, re, h, k⟩ => by
    refine ⟨G, ρ, _, s, re, h, fun b v H1 G1 p1 w1 r1 => ?_⟩
    obtain ⟨G1', w1', r1'⟩ := r1.give w1
    refine ⟨G1', ρ, _, w1'.gh, re.mono w1'.gg, p1, fun ds vs H2 G2 p2 l2 w2 r2 => ?_⟩
    exact k _ _ H2 G2 p2 (by show ds.length + 1 = es.length + 1; rw [l2]) (w1'.trans w2) (.cons (r1'.mono w2.gg) r2)
def dTup (t : DTA) : DT := fun ρ Q => t ρ fun ds => Q (.p (.tup ds))
def dLst (t : DTA) : DT := fun ρ Q => t ρ fun ds => Q (.o (.lst ds))
theorem own_new {K : PySem.W.Frag} {H G H1 G1 : Hp} {vs : List V} {ds : List D} {p : Addr} (w : Wd H G H1 G1) (hp : H1 p = none) (r : Reps K G1 vs ds) : Wd H G (upd H1 p (.lst vs)) G1 ∧ BRes K H G1 (upd H1 p (.lst vs)) (.ref p) (.o (.lst ds)) :=
  ⟨w.own (w.hh.free hp) (w.gh.free hp), p, rfl, w.hh.free hp, w.gh.free hp, vs, upd_same, r⟩
theorem tup_new {K : PySem.W.Frag} {H G H1 G1 : Hp} {vs : List V} {ds : List D} {p : Addr} (w : Wd H G H1 G1) (hp : H1 p = none) (r : Reps K G1 vs ds) : Wd H G (upd H1 p (.tup vs)) (upd G1 p (.tup vs)) ∧ BRes K H (upd G1 p (.tup vs)) (upd H1 p (.tup vs)) (.ref p) (.p (.tup ds)) :=
  ⟨w.new hp, Rep.tup' (SqT.of upd_same) (Reps.mono (same_new (w.gh.free hp)) r)⟩
theorem de_tup {t : DTA} {x1} (h : DA X es t) (hn : es.length ≤ 1000 := by exact Nat.le_of_ble_eq_true rfl) : DE X (.Tuple es x1 pos) (dTup t) :=
  DE.of (pe_tup h.pa) fun σ H Q ⟨G, ρ, P, s, re, h, k⟩ => by
    refine ⟨G, ρ, _, s, re, h, fun ds vs H1 G1 p1 l1 w1 r1 => ⟨small_len (by rw [Paired.length r1, l1]; exact hn), fun p hp => ?_⟩⟩
    obtain ⟨w2, r2⟩ := tup_new w1 hp r1
    exact k _ _ _ _ p1 w2 r2
theorem de_lst {t : DTA} (h : DA X es t) (hn : es.length ≤ 1000 := by exact Nat.le_of_ble_eq_true rfl) : DE X (.List es pos) (dLst t) :=
  DE.of (pe_lst h.pa) fun σ H Q ⟨G, ρ, P, s, re, h, k⟩ => by
    refine ⟨G, ρ, _, s, re, h, fun ds vs H1 G1 p1 l1 w1 r1 => ⟨small_len (by rw [Paired.length r1, l1]; exact hn), fun p hp => ?_⟩⟩
    obtain ⟨w2, r2⟩ := own_new w1 hp r1
    exact k _ _ _ _ p1 w2 r2
abbrev DR := List D → (B → Prop) → Prop
def spD (K : PySem.W.Frag) (R : DR) : Sp := fun vs H Q _ => ∃ (ds : List D) (G : Hp) (P : B → Prop), Same G H ∧ Reps K G vs ds ∧ R ds P ∧ ∀ b v H' G', P b → Wd H G H' G' → BRes K H G' H' v b → Q v H'
abbrev FnD (P : Program) (w : World) (K : PySem.W.Frag) (mg : Str → Option Value) (base : Heap) (x : Str) (k : Nat) (ps : List Str) (R : DR) : Prop := Fn P w K mg base x k ps (spD K R)
def dCall (R : DR) (t : DTA) : DT := fun ρ Q => t ρ fun ds => R ds Q
theorem de_fn {x : Str} {k : Nat} {ps : List Str} {R : DR} {p : Pos} {t : DTA} (F : FnD X.prog X.w X.K X.mg X.base x k ps R) (hr : Room k X.A) (hg : Gl X x) (ha : DA X (e :: es) t)
    (hdb : (x == ("__debug__" : Str)) = false := by decide) (he : starEach (e :: es) X.env = (false, eval e X.env) :: starEach es X.env := by rfl) (hpl : (backTo pos (starEach es X.env)).any (·.1) = false := by rfl) :
    DE X (.Call (.Name x p) (e :: es) [] pos) (dCall R t) :=
  DE.of (pe_fn F hr hg ha.pa hdb he hpl) fun σ H Q ⟨G, ρ, P, s, re, h, k⟩ => by
    refine ⟨G, ρ, _, s, re, h, fun ds vs H1 G1 p1 l1 w1 r1 => ?_⟩
    show spD X.K R (vs ++ []) H1 Q E0
    rw [List.append_nil]
    exact ⟨ds, G1, P, w1.gh, r1, p1, go_on k w1⟩
def CallD (X : Cx) (f : Value) (r : DR) : Prop := ∃ rv, CallR X f rv ∧ ∀ (H G : Hp) (vs : List V) (ds : List D) (P : B → Prop) (Q : VK), Same G H → Reps X.K G vs ds → r ds P → (∀ b v H' G', P b → Wd H G H' G' → BRes X.K H G' H' v b → Q v H') → rv vs H Q
def dCB (r : DR) (t : DTA) : DT := fun ρ Q => t ρ fun ds => r ds Q
theorem cE_cb {K : PySem.W.Frag} {n : Nat} {t : DTA} {r : DR} {rv : List V → Hp → VK → Prop} (hr : ∀ (H G : Hp) (vs : List V) (ds : List D) (P : B → Prop) (Q : VK), Same G H → Reps K G vs ds → r ds P → (∀ b v H' G', P b → Wd H G H' G' → BRes K H G' H' v b → Q v H') → rv vs H Q)
    (σ : St) (H : Hp) (Q : VK) : cE K (dCB r t) σ H Q → tCB rv (cA K n t) σ H Q := by
  rintro ⟨G, ρ, P, s, re, h, k⟩
  exact ⟨G, ρ, _, s, re, h, fun ds vs H1 G1 p1 l1 w1 r1 => hr H1 G1 vs ds P Q w1.gh r1 p1 (go_on k w1)⟩
theorem de_callB {id : String} {x : Str} {p : Pos} {t : DTA} {r : DR} (hc : CallD X (.builtin id) r) (hg : Gl X x) (hm : X.mg x = none) (hv : bootBuiltins x = some (.builtin id)) (ha : DA X (e :: es) t) (hn : x ≠ "__name__" := by decide) (hdb : (x == ("__debug__" : Str)) = false := by decide)
    (he : starEach (e :: es) X.env = (false, eval e X.env) :: starEach es X.env := by rfl) (hpl : (backTo pos (starEach es X.env)).any (·.1) = false := by rfl) : DE X (.Call (.Name x p) (e :: es) [] pos) (dCB r t) := by
  obtain ⟨rv, h1, h2⟩ := hc
  exact DE.of (pe_callB h1 hg hm hv ha.pa hn hdb he hpl) (cE_cb h2)
theorem de_callTy {T : String} {x : Str} {p : Pos} {t : DTA} {r : DR} (hc : CallD X (.type T) r) (hg : Gl X x) (hm : X.mg x = none) (hv : bootBuiltins x = some (.type T)) (ha : DA X (e :: es) t) (hn : x ≠ "__name__" := by decide) (hdb : (x == ("__debug__" : Str)) = false := by decide)
    (he : starEach (e :: es) X.env = (false, eval e X.env) :: starEach es X.env := by rfl) (hpl : (backTo pos (starEach es X.env)).any (·.1) = false := by rfl) : DE X (.Call (.Name x p) (e :: es) [] pos) (dCB r t) := by
  obtain ⟨rv, h1, h2⟩ := hc
  exact DE.of (pe_callTy h1 hg hm hv ha.pa hn hdb he hpl) (cE_cb h2)
theorem reps1 {K : PySem.W.Frag} {G : Hp} {vs : List V} {d : D} (h : Reps K G vs [d]) : ∃ v, vs = [v] ∧ Rep K G v d := by
  cases h with | cons h t => cases t; exact ⟨_, rfl, h⟩
theorem reps2 {K : PySem.W.Frag} {G : Hp} {vs : List V} {d d' : D} (h : Reps K G vs [d, d']) : ∃ v v', vs = [v, v'] ∧ Rep K G v d ∧ Rep K G v' d' := by
  cases h with | cons h t => obtain ⟨v', rfl, h'⟩ := reps1 t; exact ⟨_, _, rfl, h, h'⟩
theorem reps_bls {K : PySem.W.Frag} {G : Hp} : ∀ {ns : List Bool} {vs : List V}, Reps K G vs (ns.map D.bl) → vs = ns.map V.bl
  | [], _, h => by cases h; rfl
  | n :: ns, _, h => by cases h with | cons h t => rw [h.bl_inv, reps_bls t]; rfl
theorem reps_strs {K : PySem.W.Frag} {G : Hp} : ∀ {ns : List Str} {vs : List V}, Reps K G vs (ns.map D.str) → vs = ns.map V.str
  | [], _, h => by cases h; rfl
  | n :: ns, _, h => by cases h with | cons h t => rw [h.str_inv, reps_strs t]; rfl
theorem ints_reps {K : PySem.W.Frag} {G : Hp} : ∀ (ns : List Int), Reps K G (ns.map V.int) (ns.map D.int)
  | [] => .nil
  | n :: ns => .cons (.int n) (ints_reps ns)
theorem strs_reps {K : PySem.W.Frag} {G : Hp} : ∀ (ns : List Str), Reps K G (ns.map V.str) (ns.map D.str)
  | [] => .nil
  | n :: ns => .cons (.str n) (strs_reps ns)
def dLen : DR := fun ds P => match ds with
  | [.lst xs] => P (.p (.int xs.length))
  | [.tup xs] => P (.p (.int xs.length))
  | [.scr ns] => P (.p (.int ns.length))
  | [.str x] => x.length ≤ sizeLine ∧ P (.p (.int x.length))
  | _ => False
theorem cd_len : CallD X (.builtin "len") dLen := by
  refine ⟨_, call_lenK, fun H G vs ds P Q s r h k => ?_⟩
  unfold dLen at h
  split at h
  · obtain ⟨v, rfl, rv⟩ := reps1 r
    obtain ⟨a, us, rfl, e, rr⟩ := rv.lst_inv
    exact ⟨_, us.length, rfl, .inl ⟨us, SqL.of (s _ _ e), rfl⟩, by rw [Paired.length rr]; exact k _ _ H G h (Wd.refl s) (.int _)⟩
  · obtain ⟨v, rfl, rv⟩ := reps1 r
    obtain ⟨a, us, rfl, e, rr⟩ := rv.tup_inv
    exact ⟨_, us.length, rfl, .inr ⟨us, same_seqT s e, rfl⟩, by rw [Paired.length rr]; exact k _ _ H G h (Wd.refl s) (.int _)⟩
  · rename_i ns
    obtain ⟨v, rfl, rv⟩ := reps1 r
    cases rv with
    | scr e => exact ⟨_, ns.length, rfl, .inl ⟨_, s.seq e, by simp⟩, k _ _ H G h (Wd.refl s) (.int _)⟩
  · rename_i x
    obtain ⟨v, rfl, rv⟩ := reps1 r
    cases rv
    exact ⟨_, x.length, rfl, ⟨h.1, rfl⟩, k _ _ H G h.2 (Wd.refl s) (.int _)⟩
  · exact h.elim
def dAll : DR := fun ds P => match ds with
  | [.lst xs] => ∃ ns : List Bool, xs = ns.map D.bl ∧ P (.p (.bl (ns.all id)))
  | _ => False
def dII (g : Int → Int → Int) : DR := fun ds P => match ds with
  | [.int i, .int j] => P (.p (.int (g i j)))
  | _ => False
theorem cd_II {f : Value} {g : Int → Int → Int} (h : CallR X f (fun xs H Q => ∃ i j, xs = [.int i, .int j] ∧ Q (.int (g i j)) H)) : CallD X f (dII g) := by
  refine ⟨_, h, fun H G vs ds P Q s r h k => ?_⟩
  unfold dII at h
  split at h
  · obtain ⟨v, v', rfl, r1, r2⟩ := reps2 r
    cases r1; cases r2
    exact ⟨_, _, rfl, k _ _ H G h (Wd.refl s) (.int _)⟩
  · exact h.elim
theorem cd_min2 (hc : X.calm = true) : CallD X (.builtin "min") (dII fun i j => if j < i then j else i) := cd_II (call_min2 hc)
def dAbs : DR := fun ds P => match ds with
  | [.int i] => P (.p (.int (if i < 0 then -i else i)))
  | _ => False
def dInt : DR := fun ds P => match ds with
  | [.int i] => P (.p (.int i))
  | [.bl c] => P (.p (.int (if c then 1 else 0)))
  | _ => False
theorem cd_int : CallD X (.type "int") dInt := by
  refine ⟨_, call_int1, fun H G vs ds P Q s r h k => ?_⟩
  unfold dInt at h
  split at h
  · obtain ⟨v, rfl, r1⟩ := reps1 r
    cases r1
    exact .inl ⟨_, rfl, k _ _ H G h (Wd.refl s) (.int _)⟩
  · obtain ⟨v, rfl, r1⟩ := reps1 r
    cases r1
    exact .inr ⟨_, rfl, k _ _ H G h (Wd.refl s) (.int _)⟩
  · exact h.elim
def dStrI : DR := fun ds P => match ds with
  | [.int i] => i.natAbs.log2 < 1920 ∧ P (.p (.str (toString i)))
  | _ => False
theorem cd_str : CallD X (.type "str") dStrI := by
  refine ⟨_, call_str_int, fun H G vs ds P Q s r h k => ?_⟩
  unfold dStrI at h
  split at h
  · obtain ⟨v, rfl, r1⟩ := reps1 r
    cases r1
    exact ⟨_, rfl, h.1, k _ _ H G h.2 (Wd.refl s) (.str _)⟩
  · exact h.elim
def dCopy : DR := fun ds P => match ds with
  | [.lst xs] => P (.o (.lst xs))
  | [.tup xs] => P (.o (.lst xs))
  | [.scr ns] => P (.o (.lst (ns.map D.int)))
  | _ => False
def isD (T : String) (d : D) : Bool := match T with
  | "int" => (match d with | .int _ => true | .bl _ => true | _ => false)
  | "bool" => (match d with | .bl _ => true | _ => false)
  | "str" => (match d with | .str _ => true | _ => false)
  | "tuple" => (match d with | .tup _ => true | _ => false)
  | "list" => (match d with | .lst _ => true | .scr _ => true | _ => false)
  | _ => false
def dIx : D2 := fun x y Q => match x, y with
  | .lst xs, .int i => ∃ d, atI xs i = some d ∧ Q (.p d)
  | .tup xs, .int i => ∃ d, atI xs i = some d ∧ Q (.p d)
  | .scr ns, .int i => ∃ n, atI ns i = some n ∧ Q (.p (.int n))
  | .str z, .int i => ∃ c, z.length ≤ sizeLine ∧ atI z.cps.toList i = some c ∧ Q (.p (.str ⟨#[c]⟩))
  | _, _ => False
theorem atI_rep {K : PySem.W.Frag} {G : Hp} {vs : List V} {ds : List D} {i : Int} {d : D} (r : Reps K G vs ds) (h : atI ds i = some d) : ∃ v, atI vs i = some v ∧ Rep K G v d := by
  unfold atI at *
  rw [Paired.length r]
  cases e : ixN ds.length i with
  | none => rw [e] at h; cases h
  | some j =>
    rw [e] at h
    exact paired_get' r h
theorem atI_map {α β : Type} (f : α → β) {xs : List α} {i : Int} {x : α} (h : atI xs i = some x) : atI (xs.map f) i = some (f x) := by
  unfold atI at *
  rw [List.length_map]
  cases e : ixN xs.length i with
  | none => rw [e] at h; cases h
  | some j =>
    rw [e] at h
    have h' : xs[j]? = some x := h
    show (xs.map f)[j]? = _
    rw [List.getElem?_map, h']
    rfl
theorem de_ix (ha : DE X a ta) (hb : DE X b tb) (hs : PlainIx b := by exact fun _ _ => rfl) : DE X (.Subscript a b pos) (dOp dIx ta tb) :=
  DE.of (pe_ix ix_seq ha.pe hb.pe hs) (cE_two fun H G x y dx dy P Q s rx ry h k => by
    unfold dIx at h
    split at h
    · cases ry
      obtain ⟨d, h1, h2⟩ := h
      obtain ⟨a, us, rfl, e, rr⟩ := rx.lst_inv
      obtain ⟨v, h3, h4⟩ := atI_rep rr h1
      exact .inl ⟨a, us, _, v, rfl, rfl, SqL.of (s _ _ e), h3, k _ _ H G h2 (Wd.refl s) h4⟩
    · cases ry
      obtain ⟨d, h1, h2⟩ := h
      obtain ⟨a, us, rfl, e, rr⟩ := rx.tup_inv
      obtain ⟨v, h3, h4⟩ := atI_rep rr h1
      exact .inr (.inl ⟨a, us, _, v, rfl, rfl, same_seqT s e, h3, k _ _ H G h2 (Wd.refl s) h4⟩)
    · cases ry
      obtain ⟨n, h1, h2⟩ := h
      cases rx with
      | scr e => exact .inl ⟨_, _, _, .int n, rfl, rfl, s.seq e, atI_map _ h1, k _ _ H G h2 (Wd.refl s) (.int _)⟩
    · cases rx; cases ry
      obtain ⟨c, h0, h1, h2⟩ := h
      exact .inr (.inr ⟨_, _, c, rfl, rfl, h0, h1, k _ _ H G h2 (Wd.refl s) (.str _)⟩)
    · exact h.elim)
abbrev DTO := DEnv → (Option Int → Prop) → Prop
def cO (K : PySem.W.Frag) (t : DTO) : TO := fun σ H Q => ∃ (G : Hp) (ρ : DEnv) (P : Option Int → Prop), Same G H ∧ RepE K G σ ρ ∧ t ρ P ∧ ∀ o H' G', P o → Wd H G H' G' → Q o H'
structure DO (X : Cx) (e : Option Expr) (t : DTO) : Prop where
  po : PO X e (cO X.K t)
def dNoPart : DTO := fun _ P => P none
def dPart (t : DT) : DTO := fun ρ P => t ρ fun b => match b.val with
  | .int i => P (some i)
  | _ => False
theorem bres_int {K : PySem.W.Frag} {H G H' G' : Hp} {v : V} {b : B} {c : Int} (w : Wd H G H' G') (r : BRes K H G' H' v b) (e : b.val = .int c) : v = .int c := by
  obtain ⟨G1, _, r1⟩ := r.give w
  rw [e] at r1
  exact r1.int_inv
theorem PO.imp {e : Option Expr} {t t' : TO} (h : PO X e t) (i : ∀ σ H Q, t' σ H Q → t σ H Q) : PO X e t' := fun pins s σ H Q I q => h pins s σ H Q I (i σ H Q q)
theorem DO.of {e : Option Expr} {t : TO} {t' : DTO} (h : PO X e t) (i : ∀ σ H Q, cO X.K t' σ H Q → t σ H Q) : DO X e t' := ⟨PO.imp h i⟩
theorem do_none : DO X none dNoPart := DO.of po_none fun σ H Q ⟨G, ρ, P, s, re, h, k⟩ => k _ H G h (Wd.refl s)
theorem do_some (he : DE X e te) : DO X (some e) (dPart te) := DO.of (po_some he.pe) fun σ H Q ⟨G, ρ, P, s, re, h, k⟩ => by
  refine ⟨G, ρ, _, s, re, h, fun b v H1 G1 p1 w1 r1 => ?_⟩
  split at p1
  · rename_i i e
    exact ⟨i, bres_int w1 r1 e, k _ H1 G1 p1 w1⟩
  · exact p1.elim
def cutL {α : Type} (xs : List α) (lo hi : Option Int) : List α := (xs.drop (HT.sIx xs.length 0 lo)).take (HT.sIx xs.length xs.length hi - HT.sIx xs.length 0 lo)
theorem paired_drop {α β : Type} {F : α → β → Prop} : ∀ {l : List α} {r : List β} (n : Nat), Paired F l r → Paired F (l.drop n) (r.drop n)
  | _, _, 0, h => h
  | _, _, n + 1, .nil => by rw [List.drop_nil, List.drop_nil]; exact .nil
  | _, _, n + 1, .cons _ t => paired_drop n t
theorem paired_take {α β : Type} {F : α → β → Prop} : ∀ {l : List α} {r : List β} (n : Nat), Paired F l r → Paired F (l.take n) (r.take n)
  | _, _, 0, h => by rw [List.take_zero, List.take_zero]; exact .nil
  | _, _, n + 1, .nil => by rw [List.take_nil, List.take_nil]; exact .nil
  | _, _, n + 1, .cons h t => .cons h (paired_take n t)
theorem reps_cut {K : PySem.W.Frag} {G : Hp} {vs : List V} {ds : List D} (r : Reps K G vs ds) (lo hi : Option Int) : Reps K G (cutV vs lo hi) (cutL ds lo hi) := by
  unfold cutV cutL
  rw [Paired.length r]
  exact paired_take _ (paired_drop _ r)
def dSl (te : DT) (tl th : DTO) : DT := fun ρ Q => te ρ fun b => tl ρ fun lo => th ρ fun hi => match b.val with
  | .lst xs => Q (.o (.lst (cutL xs lo hi)))
  | .scr ns => Q (.o (.lst ((cutL ns lo hi).map D.int)))
  | .tup xs => ¬ (HT.sIx xs.length 0 lo = 0 ∧ HT.sIx xs.length xs.length hi = xs.length) ∧ Q (.p (.tup (cutL xs lo hi)))
  | _ => False
theorem cutV_map {α : Type} (f : α → V) (xs : List α) (lo hi : Option Int) : cutV (xs.map f) lo hi = (cutL xs lo hi).map f := by
  unfold cutV cutL
  rw [List.length_map, List.map_take, List.map_drop]
theorem de_slice {lo hi : Option Expr} {tl th : DTO} {p2 : Pos} (he : DE X e te) (hl : DO X lo tl) (hu : DO X hi th) : DE X (.Subscript e (.Slice lo hi none p2) pos) (dSl te tl th) :=
  DE.of (pe_slice (sl_list.or sl_tup) he.pe hl.po hu.po) fun σ H Q ⟨G, ρ, P, s, re, h, k⟩ => by
    refine ⟨G, ρ, _, s, re, h, fun b v H1 G1 p1 w1 r1 => ?_⟩
    obtain ⟨G1', w1', r1'⟩ := r1.give w1
    refine ⟨G1', ρ, _, w1'.gh, re.mono w1'.gg, p1, fun l H2 G2 p2 w2 => ?_⟩
    have w12 := w1'.trans w2
    refine ⟨G2, ρ, _, w2.gh, re.mono w12.gg, p2, fun u H3 G3 p3 w3 => ?_⟩
    have w13 := w12.trans w3
    have r3 := r1'.mono (w2.trans w3).gg
    split at p3
    · rename_i xs e
      rw [e] at r3
      obtain ⟨a, us, rfl, e, rr⟩ := r3.lst_inv
      refine .inl ⟨a, us, rfl, SqL.of (w3.gh _ _ e), fun p hp => ?_⟩
      obtain ⟨w4, r4⟩ := own_new w13 hp (reps_cut rr l u)
      exact k _ _ _ _ p3 w4 r4
    · rename_i ns e
      rw [e] at r3
      cases r3 with
      | scr e =>
        refine .inl ⟨_, _, rfl, w3.gh.seq e, fun p hp => ?_⟩
        rw [cutV_map]
        obtain ⟨w4, r4⟩ := own_new w13 hp (ints_reps (K := X.K) (cutL ns l u))
        exact k _ _ _ _ p3 w4 r4
    · rename_i xs e
      rw [e] at r3
      obtain ⟨a, us, rfl, e, rr⟩ := r3.tup_inv
      refine .inr ⟨a, us, rfl, same_seqT w3.gh e, by rw [Paired.length rr]; exact p3.1, fun p hp => ?_⟩
      obtain ⟨w4, r4⟩ := tup_new w13 hp (reps_cut rr l u)
      exact k _ _ _ _ p3.2 w4 r4
    · exact p3.elim
def dSlS (te : DT) (tl th ts : DTO) : DT := fun ρ Q => te ρ fun b => tl ρ fun lo => th ρ fun hi => ts ρ fun st => st ≠ some 0 ∧ match b.val with
  | .lst xs => Q (.o (.lst (stepV xs lo hi st)))
  | .scr ns => Q (.o (.lst ((stepV ns lo hi st).map D.int)))
  | _ => False
def dAdd : D2 := fun x y Q => match x, y with
  | .int i, .int j => Q (.p (.int (i + j)))
  | .lst xs, .lst ys => xs.length + ys.length ≤ sizeLine ∧ Q (.o (.lst (xs ++ ys)))
  | .str x, .str y => x.length + y.length ≤ sizeLine ∧ Q (.p (.str (x ++ y)))
  | .tup xs, .tup ys => xs ≠ [] ∧ ys ≠ [] ∧ xs.length + ys.length ≤ sizeLine ∧ Q (.p (.tup (xs ++ ys)))
  | _, _ => False
theorem OpR.or {f : Value → Value → Sem Value} {r r' : R2} (h : OpR X f r) (h' : OpR X f r') : OpR X f (fun x y H Q => r x y H Q ∨ r' x y H Q) := by
  intro pins s σ H x y v u Q I rx ry q
  rcases q with q | q
  · exact h pins s σ H x y v u Q I rx ry q
  · exact h' pins s σ H x y v u Q I rx ry q
theorem paired_app {α β : Type} {F : α → β → Prop} : ∀ {l l' : List α} {r r' : List β}, Paired F l r → Paired F l' r' → Paired F (l ++ l') (r ++ r')
  | _, _, _, _, .nil, h => h
  | _, _, _, _, .cons h t, h' => .cons h (paired_app t h')
theorem od_plus : OpD X (binaryOp .Add) dAdd := by
  refine ⟨_, op_add.or (op_cat.or (op_add_str.or op_catT)), fun H G x y dx dy P Q s rx ry h k => ?_⟩
  unfold dAdd at h
  split at h
  · cases rx; cases ry
    exact .inl ⟨_, _, rfl, rfl, k _ _ H G h (Wd.refl s) (.int _)⟩
  · obtain ⟨a, us, rfl, e, rr⟩ := rx.lst_inv
    obtain ⟨a', us', rfl, e', rr'⟩ := ry.lst_inv
    refine .inr (.inl ⟨a, a', us, us', rfl, rfl, s _ _ e, s _ _ e', by rw [Paired.length rr, Paired.length rr']; exact h.1, fun p hp => ?_⟩)
    obtain ⟨w2, r2⟩ := own_new (Wd.refl s) hp (paired_app rr rr')
    exact k _ _ _ _ h.2 w2 r2
  · cases rx; cases ry
    exact .inr (.inr (.inl ⟨_, _, rfl, rfl, h.1, k _ _ H G h.2 (Wd.refl s) (.str _)⟩))
  · obtain ⟨h1, h2, h3, h4⟩ := h
    obtain ⟨a, us, rfl, e, rr⟩ := rx.tup_inv
    obtain ⟨a', us', rfl, e', rr'⟩ := ry.tup_inv
    refine .inr (.inr (.inr ⟨a, a', us, us', rfl, rfl, same_seqT s e, same_seqT s e', fun z => ?_, by rw [Paired.length rr, Paired.length rr']; exact h3, fun z => ?_, fun _ p hp => ?_⟩))
    · subst z; cases rr; exact h1 rfl
    · subst z; cases rr'; exact (h2 rfl).elim
    · obtain ⟨w2, r2⟩ := tup_new (Wd.refl s) hp (paired_app rr rr')
      exact k _ _ _ _ h4 w2 r2
  · exact h.elim
def dMul : D2 := fun x y Q => match x, y with
  | .int i, .int j => CMul i j ∧ Q (.p (.int (i * j)))
  | .lst xs, .int k => (-(2 ^ 63) ≤ k ∧ k < 2 ^ 63) ∧ xs.length * k.toNat ≤ sizeLine ∧ Q (.o (.lst (List.replicate k.toNat xs).flatten))
  | _, _ => False
theorem reps_rep {K : PySem.W.Frag} {G : Hp} {vs : List V} {ds : List D} (r : Reps K G vs ds) : ∀ n : Nat, Reps K G (List.replicate n vs).flatten (List.replicate n ds).flatten
  | 0 => .nil
  | n + 1 => by
    rw [List.replicate_succ, List.replicate_succ, List.flatten_cons, List.flatten_cons]
    exact paired_app r (reps_rep r n)
theorem od_times : OpD X (binaryOp .Mult) dMul := by
  refine ⟨_, op_mul.or op_rep, fun H G x y dx dy P Q s rx ry h k => ?_⟩
  unfold dMul at h
  split at h
  · cases rx; cases ry
    exact .inl ⟨_, _, rfl, rfl, h.1, k _ _ H G h.2 (Wd.refl s) (.int _)⟩
  · cases ry
    obtain ⟨a, us, rfl, e, rr⟩ := rx.lst_inv
    obtain ⟨⟨h1, h2⟩, h3, h4⟩ := h
    refine .inr ⟨a, _, us, rfl, rfl, s _ _ e, h1, h2, by rw [Paired.length rr]; exact h3, fun p hp => ?_⟩
    obtain ⟨w2, r2⟩ := own_new (Wd.refl s) hp (reps_rep rr _)
    exact k _ _ _ _ h4 w2 r2
  · exact h.elim
end
end DL
namespace DL
open PySem L2
mutual
def peq : D → D → Bool
  | .non, .non => true
  | .bl a, .bl b => a == b
  | .bl a, .int b => (if a then 1 else 0) == b
  | .int a, .bl b => a == (if b then 1 else 0)
  | .int a, .int b => a == b
  | .str a, .str b => a == b
  | .tup xs, .tup ys => peqs xs ys
  | .lst xs, .lst ys => peqs xs ys
  | _, _ => false
def peqs : List D → List D → Bool
  | [], [] => true
  | x :: xs, y :: ys => peq x y && peqs xs ys
  | _, _ => false
end
mutual
def dep : D → Nat
  | .tup xs => deps xs + 1
  | .lst xs => deps xs + 1
  | _ => 0
def deps : List D → Nat
  | [] => 0
  | x :: xs => max (dep x) (deps xs)
end
mutual
def nos : D → Bool
  | .tup xs => noss xs
  | .lst xs => noss xs
  | .scr _ => false
  | .dct _ => false
  | _ => true
def noss : List D → Bool
  | [] => true
  | x :: xs => nos x && noss xs
end
theorem nos_lst (xs : List D) : nos (.lst xs) = noss xs := by rw [nos]
theorem nos_str (x : Str) : nos (.str x) = true := by unfold nos; rfl
theorem noss_nil : noss [] = true := by rw [noss]
theorem noss_cons (x : D) (xs : List D) : noss (x :: xs) = (nos x && noss xs) := by rw [noss]
theorem dep_lst (xs : List D) : dep (.lst xs) = deps xs + 1 := by rw [dep]
theorem dep_str (x : Str) : dep (.str x) = 0 := by unfold dep; rfl
theorem deps_nil : deps [] = 0 := by rw [deps]
theorem deps_cons (x : D) (xs : List D) : deps (x :: xs) = max (dep x) (deps xs) := by rw [deps]
theorem deps_get : ∀ {xs : List D} {i : Nat} {x : D}, xs[i]? = some x → dep x ≤ deps xs
  | [], _, _, h => by simp at h
  | y :: xs, 0, x, h => by simp at h; subst h; unfold deps; exact Nat.le_max_left _ _
  | y :: xs, i + 1, x, h => by
    have := deps_get (xs := xs) (i := i) (x := x) (by simpa using h)
    unfold deps
    exact Nat.le_trans this (Nat.le_max_right _ _)
theorem noss_get : ∀ {xs : List D} {i : Nat} {x : D}, noss xs = true → xs[i]? = some x → nos x = true
  | [], _, _, _, h => by simp at h
  | y :: xs, 0, x, n, h => by simp at h; subst h; unfold noss at n; exact (Bool.and_eq_true _ _ ▸ n).1
  | y :: xs, i + 1, x, n, h => by
    unfold noss at n
    exact noss_get (xs := xs) (i := i) (x := x) (Bool.and_eq_true _ _ ▸ n).2 (by simpa using h)
theorem all_succ (n : Nat) (f : Nat → Bool) : (List.range (n + 1)).all f = (f 0 && (List.range n).all fun i => f (i + 1)) := by
  rw [List.range_succ_eq_map, List.all_cons, List.all_map]
  rfl
theorem peqs_all : ∀ (xs ys : List D), peqs xs ys = ((List.range (min xs.length ys.length)).all (fun i => match xs[i]?, ys[i]? with | some x, some y => peq x y | _, _ => true) && xs.length == ys.length)
  | [], [] => by unfold peqs; rfl
  | [], y :: ys => by unfold peqs; simp
  | x :: xs, [] => by unfold peqs; simp
  | x :: xs, y :: ys => by
    unfold peqs
    rw [peqs_all xs ys]
    have : min (x :: xs).length (y :: ys).length = min xs.length ys.length + 1 := by simp only [List.length_cons]; omega
    rw [this, all_succ]
    simp only [List.getElem?_cons_zero, List.getElem?_cons_succ, List.length_cons, Bool.and_assoc]
    congr 2
    simp
def eqAtI (xs ys : List D) (i : Nat) : Bool := match xs[i]?, ys[i]? with | some x, some y => peq x y | _, _ => true
section
variable {X : Cx} {pins : List (Addr × Obj)} {σ : St} {H G : Hp} {s : Shared}
theorem items_eqAt {A : Around} {us us' : List Value} {vs vs' : List V} {ds ds' : List D} (r1 : Vals vs us) (r2 : Vals vs' us') (k1 : Reps X.K G vs ds) (k2 : Reps X.K G vs' ds')
    (ih : ∀ (i : Nat) (d d' : D) (x y : V) (u v : Value), ds[i]? = some d → ds'[i]? = some d' → Rep X.K G x d → Rep X.K G y d' → RelV x u → RelV y v → SeqAt.EqAt A s u v (peq d d')) :
    ∀ j (h1 : j < us.toArray.size) (h2 : j < us'.toArray.size), SeqAt.EqAt A s us.toArray[j] us'.toArray[j] (eqAtI ds ds' j) := fun j q1 q2 => by
  have q1' : j < us.length := by simpa using q1
  have q2' : j < us'.length := by simpa using q2
  have l1 := r1.length
  have l2 := r2.length
  have e1 : vs[j]? = some vs[j] := List.getElem?_eq_getElem (by omega)
  have e2 : vs'[j]? = some vs'[j] := List.getElem?_eq_getElem (by omega)
  obtain ⟨u1, g1, s1⟩ := r1.get e1
  obtain ⟨u2, g2, s2⟩ := r2.get e2
  obtain ⟨d1, f1, t1⟩ := WS.paired_get k1 e1
  obtain ⟨d2, f2, t2⟩ := WS.paired_get k2 e2
  have z1 : us.toArray[j] = u1 := by rw [List.getElem?_eq_getElem q1'] at g1; simpa using Option.some.inj g1
  have z2 : us'.toArray[j] = u2 := by rw [List.getElem?_eq_getElem q2'] at g2; simpa using Option.some.inj g2
  rw [z1, z2]
  unfold eqAtI
  rw [f1, f2]
  exact ih j d1 d2 _ _ _ _ f1 f2 t1 t2 s1 s2
theorem peqs_tup (xs ys : List D) : peqs xs ys = ((List.range (min xs.length ys.length)).all (eqAtI xs ys) && xs.length == ys.length) := peqs_all xs ys
theorem peqs_lst {xs ys : List D} (h : xs.length = ys.length) : peqs xs ys = (List.range xs.length).all (eqAtI xs ys) := by
  rw [peqs_tup, h]
  simp
theorem peqs_len {xs ys : List D} (h : xs.length ≠ ys.length) : peqs xs ys = false := by
  rw [peqs_tup]
  have : (xs.length == ys.length) = false := by simpa using h
  rw [this, Bool.and_false]
theorem sz {vs : List V} {us : List Value} {ds : List D} (r : Vals vs us) (k : Reps X.K G vs ds) : us.toArray.size = ds.length := by
  rw [List.size_toArray, ← r.length, Paired.length k]
mutual
theorem peq_refl : ∀ d : D, nos d = true → peq d d = true
  | .non, _ => by unfold peq; rfl
  | .bl a, _ => by unfold peq; simp
  | .int a, _ => by unfold peq; simp
  | .str a, _ => by unfold peq; simp
  | .tup xs, h => by unfold peq; unfold nos at h; exact peqs_refl' xs h
  | .lst xs, h => by unfold peq; unfold nos at h; exact peqs_refl' xs h
  | .scr _, h => by unfold nos at h; cases h
  | .dct _, h => by unfold nos at h; cases h
theorem peqs_refl' : ∀ ds : List D, noss ds = true → peqs ds ds = true
  | [], _ => by unfold peqs; rfl
  | d :: ds, h => by
    unfold noss at h
    have h' := Bool.and_eq_true _ _ ▸ h
    unfold peqs
    rw [peq_refl d h'.1, peqs_refl' ds h'.2]
    rfl
end
theorem rep_inj (I : Inv X pins σ H s) (sG : Same G H) {x : V} {d : D} (h : Rep X.K G x d) : nos d = true → ∀ {d' : D}, Rep X.K G x d' → nos d' = true → d = d' := by
  induction h with
  | non => intro _ d' h _; cases h; rfl
  | bl b => intro _ d' h _; cases h; rfl
  | int i => intro _ d' h _; cases h; rfl
  | str z => intro _ d' h _; cases h; rfl
  | scr _ => intro n; unfold nos at n; cases n
  | dct _ => intro n; unfold nos at n; cases n
  | @tup a vs ds h l r ih =>
    intro n d' h' n'
    unfold nos at n
    cases h' with
    | scr _ => unfold nos at n'; cases n'
    | dct _ => unfold nos at n'; cases n'
    | lst h2 l2 r2 =>
      obtain ⟨_, _, t1, _⟩ := I.tuple (same_seqT sG h)
      obtain ⟨_, _, t2, _⟩ := I.list (SqL.of (sG _ _ h2))
      exact absurd rfl (SeqAt.ne_of_list_tuple t2.isList t1)
    | @tup _ _ ds2 h2 l2 r2 =>
      unfold nos at n'
      have e := I.tuple_inj (same_seqT sG h) (same_seqT sG h2)
      subst e
      congr 1
      refine List.ext_getElem? fun i => ?_
      by_cases hi : i < vs.length
      · rw [List.getElem?_eq_getElem (show i < _ by omega), List.getElem?_eq_getElem (show i < _ by omega)]
        have e1 := List.getElem?_eq_getElem (l := ds) (show i < _ by omega)
        have e2 := List.getElem?_eq_getElem (l := ds2) (show i < _ by omega)
        exact congrArg some (ih i _ _ (List.getElem?_eq_getElem hi) e1 (noss_get n e1) (r2 i _ _ (List.getElem?_eq_getElem hi) e2) (noss_get n' e2))
      · rw [List.getElem?_eq_none (by omega), List.getElem?_eq_none (by omega)]
  | @lst a vs ds h l r ih =>
    intro n d' h' n'
    unfold nos at n
    cases h' with
    | scr _ => unfold nos at n'; cases n'
    | dct _ => unfold nos at n'; cases n'
    | tup h2 l2 r2 =>
      obtain ⟨_, _, t1, _⟩ := I.tuple (same_seqT sG h2)
      obtain ⟨_, _, t2, _⟩ := I.list (SqL.of (sG _ _ h))
      exact absurd rfl (SeqAt.ne_of_list_tuple t2.isList t1)
    | @lst _ _ ds2 h2 l2 r2 =>
      unfold nos at n'
      rw [h] at h2
      cases h2
      congr 1
      refine List.ext_getElem? fun i => ?_
      by_cases hi : i < vs.length
      · rw [List.getElem?_eq_getElem (show i < _ by omega), List.getElem?_eq_getElem (show i < _ by omega)]
        have e1 := List.getElem?_eq_getElem (l := ds) (show i < _ by omega)
        have e2 := List.getElem?_eq_getElem (l := ds2) (show i < _ by omega)
        exact congrArg some (ih i _ _ (List.getElem?_eq_getElem hi) e1 (noss_get n e1) (r2 i _ _ (List.getElem?_eq_getElem hi) e2) (noss_get n' e2))
      · rw [List.getElem?_eq_none (by omega), List.getElem?_eq_none (by omega)]
theorem eqAt_D (I : Inv X pins σ H s) (sG : Same G H) : ∀ (n : Nat) (dx dy : D), dep dx ≤ n → nos dx = true → nos dy = true → ∀ {x y : V} {u v : Value} {A : Around}, Rep X.K G x dx → Rep X.K G y dy → RelV x u → RelV y v → A.units + n < cLine → SeqAt.EqAt A s u v (peq dx dy) := by
  intro n
  induction n with
  | zero =>
    intro dx dy hd n1 n2 x y u v A rx ry ru rv hu
    have hu0 : A.units < cLine := hu
    cases rx with
    | scr _ => unfold nos at n1; cases n1
    | dct _ => unfold nos at n1; cases n1
    | tup h l r => unfold dep at hd; omega
    | lst h l r => unfold dep at hd; omega
    | non =>
      cases ru
      cases ry with
      | scr _ => unfold nos at n2; cases n2
      | dct _ => unfold nos at n2; cases n2
      | non => cases rv; unfold peq; exact SeqAt.EqAt.same _
      | bl b => cases rv; unfold peq; exact SeqAt.EqAt.none_bool b
      | int i => obtain ⟨t, rfl⟩ := rv; unfold peq; exact SeqAt.EqAt.none_int i t
      | str z => obtain ⟨t, rfl⟩ := rv; unfold peq; exact SeqAt.EqAt.none_str z t
      | tup h l r => cases rv; obtain ⟨is, r1, t1, z1⟩ := I.tuple (same_seqT sG h); unfold peq; exact SeqAt.EqAt.none_tuple t1 hu0
      | lst h l r => cases rv; obtain ⟨is, r1, t1, z1⟩ := I.list (SqL.of (sG _ _ h)); unfold peq; exact SeqAt.EqAt.none_list t1.isList hu0
    | bl a =>
      cases ru
      cases ry with
      | scr _ => unfold nos at n2; cases n2
      | dct _ => unfold nos at n2; cases n2
      | non => cases rv; unfold peq; exact SeqAt.EqAt.bool_none a
      | bl b => cases rv; unfold peq; exact SeqAt.EqAt.bool_bool a b
      | int i => obtain ⟨t, rfl⟩ := rv; unfold peq; exact SeqAt.EqAt.bool_int a i t
      | str z => obtain ⟨t, rfl⟩ := rv; unfold peq; exact SeqAt.EqAt.bool_str a z t
      | tup h l r => cases rv; obtain ⟨is, r1, t1, z1⟩ := I.tuple (same_seqT sG h); unfold peq; exact SeqAt.EqAt.bool_tuple a t1 hu0
      | lst h l r => cases rv; obtain ⟨is, r1, t1, z1⟩ := I.list (SqL.of (sG _ _ h)); unfold peq; exact SeqAt.EqAt.bool_list a t1.isList hu0
    | int a =>
      obtain ⟨tt, rfl⟩ := ru
      cases ry with
      | scr _ => unfold nos at n2; cases n2
      | dct _ => unfold nos at n2; cases n2
      | non => cases rv; unfold peq; exact SeqAt.EqAt.int_none a tt
      | bl b => cases rv; unfold peq; exact SeqAt.EqAt.int_bool a tt b
      | int i => obtain ⟨t, rfl⟩ := rv; unfold peq; exact SeqAt.EqAt.int_int a tt i t
      | str z => obtain ⟨t, rfl⟩ := rv; unfold peq; exact SeqAt.EqAt.int_str a tt z t
      | tup h l r => cases rv; obtain ⟨is, r1, t1, z1⟩ := I.tuple (same_seqT sG h); unfold peq; exact SeqAt.EqAt.int_tuple a tt t1 hu0
      | lst h l r => cases rv; obtain ⟨is, r1, t1, z1⟩ := I.list (SqL.of (sG _ _ h)); unfold peq; exact SeqAt.EqAt.int_list a tt t1.isList hu0
    | str a =>
      obtain ⟨tt, rfl⟩ := ru
      cases ry with
      | scr _ => unfold nos at n2; cases n2
      | dct _ => unfold nos at n2; cases n2
      | non => cases rv; unfold peq; exact SeqAt.EqAt.str_none a tt
      | bl b => cases rv; unfold peq; exact SeqAt.EqAt.str_bool a tt b
      | int i => obtain ⟨t, rfl⟩ := rv; unfold peq; exact SeqAt.EqAt.str_int a tt i t
      | str z => obtain ⟨t, rfl⟩ := rv; unfold peq; exact SeqAt.EqAt.str_str a tt z t
      | tup h l r => cases rv; obtain ⟨is, r1, t1, z1⟩ := I.tuple (same_seqT sG h); unfold peq; exact SeqAt.EqAt.str_tuple a tt t1 hu0
      | lst h l r => cases rv; obtain ⟨is, r1, t1, z1⟩ := I.list (SqL.of (sG _ _ h)); unfold peq; exact SeqAt.EqAt.str_list a tt t1.isList hu0
  | succ n ihn =>
    intro dx dy hd n1 n2 x y u v A rx ry ru rv hu
    have hu0 : A.units < cLine := by omega
    by_cases hs : dep dx = 0
    · exact ihn dx dy (by omega) n1 n2 rx ry ru rv (by omega)
    cases rx with
    | scr _ => unfold nos at n1; cases n1
    | dct _ => unfold nos at n1; cases n1
    | non => unfold dep at hs; exact absurd rfl hs
    | bl _ => unfold dep at hs; exact absurd rfl hs
    | int _ => unfold dep at hs; exact absurd rfl hs
    | str _ => unfold dep at hs; exact absurd rfl hs
    | @tup a vs ds h l r =>
      cases ru
      obtain ⟨is, r1, t1, z1⟩ := I.tuple (same_seqT sG h)
      cases ry with
      | scr _ => unfold nos at n2; cases n2
      | dct _ => unfold nos at n2; cases n2
      | non => cases rv; unfold peq; exact SeqAt.EqAt.tuple_none t1 hu0
      | bl b => cases rv; unfold peq; exact SeqAt.EqAt.tuple_bool b t1 hu0
      | int i => obtain ⟨t, rfl⟩ := rv; unfold peq; exact SeqAt.EqAt.tuple_int i t t1 hu0
      | str z => obtain ⟨t, rfl⟩ := rv; unfold peq; exact SeqAt.EqAt.tuple_str z t t1 hu0
      | lst h2 l2 rr2 => cases rv; obtain ⟨is2, r2, t2, z2⟩ := I.list (SqL.of (sG _ _ h2)); unfold peq; exact SeqAt.EqAt.tuple_list t1 t2.isList hu0
      | @tup a' vs' ds' h2 l2 rr2 =>
        cases rv
        obtain ⟨is2, r2, t2, z2⟩ := I.tuple (same_seqT sG h2)
        unfold peq
        unfold dep at hd
        unfold nos at n1 n2
        have key := SeqAt.RcAt.tuples (A := A) (s := s) (e := eqAtI ds ds') t1 t2 hu0 (items_eqAt (X := X) (G := G) r1 r2 (paired_of l r) (paired_of l2 rr2) fun i d d' x y u v e1 e2 k1 k2 w1 w2 =>
          ihn d d' (by have := deps_get e1; omega) (noss_get n1 e1) (noss_get n2 e2) k1 k2 w1 w2 (by show A.units + 1 + n < cLine; omega))
        rw [sz r1 (paired_of l r), sz r2 (paired_of l2 rr2), ← peqs_tup] at key
        by_cases hab : a = a'
        · subst hab
          have e : ds = ds' := by
            have := rep_inj I sG (.tup h l r) (by unfold nos; exact n1) (.tup h2 l2 rr2) (by unfold nos; exact n2)
            injection this
          subst e
          rw [peqs_refl' ds n1]
          exact SeqAt.EqAt.same _
        · exact SeqAt.EqAt.of_refs hab key
    | @lst a vs ds h l r =>
      cases ru
      obtain ⟨is, r1, t1, z1⟩ := I.list (SqL.of (sG _ _ h))
      cases ry with
      | scr _ => unfold nos at n2; cases n2
      | dct _ => unfold nos at n2; cases n2
      | non => cases rv; unfold peq; exact SeqAt.EqAt.list_none t1.isList hu0
      | bl b => cases rv; unfold peq; exact SeqAt.EqAt.list_bool b t1.isList hu0
      | int i => obtain ⟨t, rfl⟩ := rv; unfold peq; exact SeqAt.EqAt.list_int i t t1.isList hu0
      | str z => obtain ⟨t, rfl⟩ := rv; unfold peq; exact SeqAt.EqAt.list_str z t t1.isList hu0
      | tup h2 l2 rr2 => cases rv; obtain ⟨is2, r2, t2, z2⟩ := I.tuple (same_seqT sG h2); unfold peq; exact SeqAt.EqAt.list_tuple t1.isList t2 hu0
      | @lst a' vs' ds' h2 l2 rr2 =>
        cases rv
        obtain ⟨is2, r2, t2, z2⟩ := I.list (SqL.of (sG _ _ h2))
        unfold peq
        unfold dep at hd
        unfold nos at n1 n2
        by_cases hab : a = a'
        · subst hab
          have e : ds = ds' := by
            have := rep_inj I sG (.lst h l r) (by unfold nos; exact n1) (.lst h2 l2 rr2) (by unfold nos; exact n2)
            injection this
          subst e
          rw [peqs_refl' ds n1]
          exact SeqAt.EqAt.same _
        · refine SeqAt.EqAt.of_refs hab ?_
          by_cases hlen : ds.length = ds'.length
          · have key := SeqAt.RcAt.lists (A := A) (s := s) (e := eqAtI ds ds') t1.isList t2.isList (by rw [sz r1 (paired_of l r), sz r2 (paired_of l2 rr2)]; exact hlen) hu0 (items_eqAt (X := X) (G := G) r1 r2 (paired_of l r) (paired_of l2 rr2) fun i d d' x y u v e1 e2 k1 k2 w1 w2 =>
              ihn d d' (by have := deps_get e1; omega) (noss_get n1 e1) (noss_get n2 e2) k1 k2 w1 w2 (by show A.units + 1 + n < cLine; omega))
            rw [sz r1 (paired_of l r), ← peqs_lst hlen] at key
            exact key
          · rw [peqs_len hlen]
            exact SeqAt.RcAt.lists_lengths t1.isList t2.isList (by rw [sz r1 (paired_of l r), sz r2 (paired_of l2 rr2)]; simpa using hlen) hu0
theorem rcAt_D (I : Inv X pins σ H s) (sG : Same G H) {dx dy : D} {x y : V} {u v : Value} {A : Around} (n1 : nos dx = true) (n2 : nos dy = true) (rx : Rep X.K G x dx) (ry : Rep X.K G y dy) (ru : RelV x u) (rv : RelV y v) (hu : A.units + dep dx < cLine) :
    SeqAt.RcAt A s u v (peq dx dy) ∧ SeqAt.RcNeAt A s u v (!(peq dx dy)) := by
  have hu0 : A.units < cLine := by omega
  cases rx with
  | scr _ => unfold nos at n1; cases n1
  | dct _ => unfold nos at n1; cases n1
  | non =>
    cases ru
    cases ry with
    | scr _ => unfold nos at n2; cases n2
    | dct _ => unfold nos at n2; cases n2
    | non => cases rv; unfold peq; exact ⟨SeqAt.RcAt.none_none, SeqAt.RcNeAt.none_none⟩
    | bl b => cases rv; unfold peq; exact ⟨SeqAt.RcAt.none_bool b, SeqAt.RcNeAt.none_bool b⟩
    | int i => obtain ⟨t, rfl⟩ := rv; unfold peq; exact ⟨SeqAt.RcAt.none_int i t, SeqAt.RcNeAt.none_int i t⟩
    | str z => obtain ⟨t, rfl⟩ := rv; unfold peq; exact ⟨SeqAt.RcAt.none_str z t, SeqAt.RcNeAt.none_str z t⟩
    | tup h l r => cases rv; obtain ⟨is, r1, t1, z1⟩ := I.tuple (same_seqT sG h); unfold peq; exact ⟨SeqAt.RcAt.none_tuple t1 hu0, SeqAt.RcNeAt.none_tuple t1 hu0⟩
    | lst h l r => cases rv; obtain ⟨is, r1, t1, z1⟩ := I.list (SqL.of (sG _ _ h)); unfold peq; exact ⟨SeqAt.RcAt.none_list t1.isList hu0, SeqAt.RcNeAt.none_list t1.isList hu0⟩
  | bl a =>
    cases ru
    cases ry with
    | scr _ => unfold nos at n2; cases n2
    | dct _ => unfold nos at n2; cases n2
    | non => cases rv; unfold peq; exact ⟨SeqAt.RcAt.bool_none a, SeqAt.RcNeAt.bool_none a⟩
    | bl b => cases rv; unfold peq; exact ⟨SeqAt.RcAt.bool_bool a b, SeqAt.RcNeAt.bool_bool a b⟩
    | int i => obtain ⟨t, rfl⟩ := rv; unfold peq; exact ⟨SeqAt.RcAt.bool_int a i t, SeqAt.RcNeAt.bool_int a i t⟩
    | str z => obtain ⟨t, rfl⟩ := rv; unfold peq; exact ⟨SeqAt.RcAt.bool_str a z t, SeqAt.RcNeAt.bool_str a z t⟩
    | tup h l r => cases rv; obtain ⟨is, r1, t1, z1⟩ := I.tuple (same_seqT sG h); unfold peq; exact ⟨SeqAt.RcAt.bool_tuple a t1 hu0, SeqAt.RcNeAt.bool_tuple a t1 hu0⟩
    | lst h l r => cases rv; obtain ⟨is, r1, t1, z1⟩ := I.list (SqL.of (sG _ _ h)); unfold peq; exact ⟨SeqAt.RcAt.bool_list a t1.isList hu0, SeqAt.RcNeAt.bool_list a t1.isList hu0⟩
  | int a =>
    obtain ⟨tt, rfl⟩ := ru
    cases ry with
    | scr _ => unfold nos at n2; cases n2
    | dct _ => unfold nos at n2; cases n2
    | non => cases rv; unfold peq; exact ⟨SeqAt.RcAt.int_none a tt, SeqAt.RcNeAt.int_none a tt⟩
    | bl b => cases rv; unfold peq; exact ⟨SeqAt.RcAt.int_bool a tt b, SeqAt.RcNeAt.int_bool a tt b⟩
    | int i => obtain ⟨t, rfl⟩ := rv; unfold peq; exact ⟨SeqAt.RcAt.int_int a tt i t, SeqAt.RcNeAt.int_int a tt i t⟩
    | str z => obtain ⟨t, rfl⟩ := rv; unfold peq; exact ⟨SeqAt.RcAt.int_str a tt z t, SeqAt.RcNeAt.int_str a tt z t⟩
    | tup h l r => cases rv; obtain ⟨is, r1, t1, z1⟩ := I.tuple (same_seqT sG h); unfold peq; exact ⟨SeqAt.RcAt.int_tuple a tt t1 hu0, SeqAt.RcNeAt.int_tuple a tt t1 hu0⟩
    | lst h l r => cases rv; obtain ⟨is, r1, t1, z1⟩ := I.list (SqL.of (sG _ _ h)); unfold peq; exact ⟨SeqAt.RcAt.int_list a tt t1.isList hu0, SeqAt.RcNeAt.int_list a tt t1.isList hu0⟩
  | str a =>
    obtain ⟨tt, rfl⟩ := ru
    cases ry with
    | scr _ => unfold nos at n2; cases n2
    | dct _ => unfold nos at n2; cases n2
    | non => cases rv; unfold peq; exact ⟨SeqAt.RcAt.str_none a tt, SeqAt.RcNeAt.str_none a tt⟩
    | bl b => cases rv; unfold peq; exact ⟨SeqAt.RcAt.str_bool a tt b, SeqAt.RcNeAt.str_bool a tt b⟩
    | int i => obtain ⟨t, rfl⟩ := rv; unfold peq; exact ⟨SeqAt.RcAt.str_int a tt i t, SeqAt.RcNeAt.str_int a tt i t⟩
    | str z => obtain ⟨t, rfl⟩ := rv; unfold peq; exact ⟨SeqAt.RcAt.str_str a tt z t, SeqAt.RcNeAt.str_str a tt z t⟩
    | tup h l r => cases rv; obtain ⟨is, r1, t1, z1⟩ := I.tuple (same_seqT sG h); unfold peq; exact ⟨SeqAt.RcAt.str_tuple a tt t1 hu0, SeqAt.RcNeAt.str_tuple a tt t1 hu0⟩
    | lst h l r => cases rv; obtain ⟨is, r1, t1, z1⟩ := I.list (SqL.of (sG _ _ h)); unfold peq; exact ⟨SeqAt.RcAt.str_list a tt t1.isList hu0, SeqAt.RcNeAt.str_list a tt t1.isList hu0⟩
  | @tup a vs ds h l r =>
    cases ru
    obtain ⟨is, r1, t1, z1⟩ := I.tuple (same_seqT sG h)
    cases ry with
    | scr _ => unfold nos at n2; cases n2
    | dct _ => unfold nos at n2; cases n2
    | non => cases rv; unfold peq; exact ⟨SeqAt.RcAt.tuple_none t1 hu0, SeqAt.RcNeAt.tuple_none t1 hu0⟩
    | bl b => cases rv; unfold peq; exact ⟨SeqAt.RcAt.tuple_bool b t1 hu0, SeqAt.RcNeAt.tuple_bool b t1 hu0⟩
    | int i => obtain ⟨t, rfl⟩ := rv; unfold peq; exact ⟨SeqAt.RcAt.tuple_int i t t1 hu0, SeqAt.RcNeAt.tuple_int i t t1 hu0⟩
    | str z => obtain ⟨t, rfl⟩ := rv; unfold peq; exact ⟨SeqAt.RcAt.tuple_str z t t1 hu0, SeqAt.RcNeAt.tuple_str z t t1 hu0⟩
    | lst h2 l2 rr2 => cases rv; obtain ⟨is2, r2, t2, z2⟩ := I.list (SqL.of (sG _ _ h2)); unfold peq; exact ⟨SeqAt.RcAt.tuple_list t1 t2.isList hu0, SeqAt.RcNeAt.tuple_list t1 t2.isList hu0⟩
    | @tup a' vs' ds' h2 l2 rr2 =>
      cases rv
      obtain ⟨is2, r2, t2, z2⟩ := I.tuple (same_seqT sG h2)
      unfold peq
      unfold dep at hu
      unfold nos at n1 n2
      have it := items_eqAt (A := A.in1) (s := s) (X := X) (G := G) r1 r2 (paired_of l r) (paired_of l2 rr2) fun i d d' x y u v e1 e2 k1 k2 w1 w2 =>
        eqAt_D I sG (deps ds) d d' (deps_get e1) (noss_get n1 e1) (noss_get n2 e2) k1 k2 w1 w2 (by show A.units + 1 + deps ds < cLine; omega)
      have key := SeqAt.RcAt.tuples (A := A) (s := s) (e := eqAtI ds ds') t1 t2 hu0 it
      have key' := SeqAt.RcNeAt.tuples (A := A) (s := s) (e := eqAtI ds ds') t1 t2 hu0 it
      rw [sz r1 (paired_of l r), sz r2 (paired_of l2 rr2), ← peqs_tup] at key key'
      exact ⟨key, key'⟩
  | @lst a vs ds h l r =>
    cases ru
    obtain ⟨is, r1, t1, z1⟩ := I.list (SqL.of (sG _ _ h))
    cases ry with
    | scr _ => unfold nos at n2; cases n2
    | dct _ => unfold nos at n2; cases n2
    | non => cases rv; unfold peq; exact ⟨SeqAt.RcAt.list_none t1.isList hu0, SeqAt.RcNeAt.list_none t1.isList hu0⟩
    | bl b => cases rv; unfold peq; exact ⟨SeqAt.RcAt.list_bool b t1.isList hu0, SeqAt.RcNeAt.list_bool b t1.isList hu0⟩
    | int i => obtain ⟨t, rfl⟩ := rv; unfold peq; exact ⟨SeqAt.RcAt.list_int i t t1.isList hu0, SeqAt.RcNeAt.list_int i t t1.isList hu0⟩
    | str z => obtain ⟨t, rfl⟩ := rv; unfold peq; exact ⟨SeqAt.RcAt.list_str z t t1.isList hu0, SeqAt.RcNeAt.list_str z t t1.isList hu0⟩
    | tup h2 l2 rr2 => cases rv; obtain ⟨is2, r2, t2, z2⟩ := I.tuple (same_seqT sG h2); unfold peq; exact ⟨SeqAt.RcAt.list_tuple t1.isList t2 hu0, SeqAt.RcNeAt.list_tuple t1.isList t2 hu0⟩
    | @lst a' vs' ds' h2 l2 rr2 =>
      cases rv
      obtain ⟨is2, r2, t2, z2⟩ := I.list (SqL.of (sG _ _ h2))
      unfold peq
      unfold dep at hu
      unfold nos at n1 n2
      by_cases hlen : ds.length = ds'.length
      · have it := items_eqAt (A := A.in1) (s := s) (X := X) (G := G) r1 r2 (paired_of l r) (paired_of l2 rr2) fun i d d' x y u v e1 e2 k1 k2 w1 w2 =>
          eqAt_D I sG (deps ds) d d' (deps_get e1) (noss_get n1 e1) (noss_get n2 e2) k1 k2 w1 w2 (by show A.units + 1 + deps ds < cLine; omega)
        have e0 : is.toArray.size = is2.toArray.size := by rw [sz r1 (paired_of l r), sz r2 (paired_of l2 rr2)]; exact hlen
        have key := SeqAt.RcAt.lists (A := A) (s := s) (e := eqAtI ds ds') t1.isList t2.isList e0 hu0 it
        have key' := SeqAt.RcNeAt.lists (A := A) (s := s) (e := eqAtI ds ds') t1.isList t2.isList e0 hu0 it
        rw [sz r1 (paired_of l r), ← peqs_lst hlen] at key key'
        exact ⟨key, key'⟩
      · rw [peqs_len hlen]
        have e0 : (is.toArray.size != is2.toArray.size) = true := by rw [sz r1 (paired_of l r), sz r2 (paired_of l2 rr2)]; simpa using hlen
        exact ⟨SeqAt.RcAt.lists_lengths t1.isList t2.isList e0 hu0, SeqAt.RcNeAt.lists_lengths t1.isList t2.isList e0 hu0⟩
def rEqD (K : PySem.W.Frag) (u : Nat) (neg : Bool) : R2 := fun x y H Q => ∃ G dx dy, Same G H ∧ Rep K G x dx ∧ Rep K G y dy ∧ nos dx = true ∧ nos dy = true ∧ u + dep dx < cLine ∧ Q (.bl (if neg then !(peq dx dy) else peq dx dy)) H
theorem op_eqD : OpR X (compareOp .Eq) (rEqD X.K X.A.units false) := by
  intro pins s σ H x y v u Q I rx ry h
  obtain ⟨G, dx, dy, sG, r1, r2, n1, n2, hu, q⟩ := h
  exact (rcAt_D I sG n1 n2 r1 r2 rx ry hu).1 _ _ _ _ ⟨.bl _, H, I, rfl, q⟩
theorem op_neD : OpR X (compareOp .NotEq) (rEqD X.K X.A.units true) := by
  intro pins s σ H x y v u Q I rx ry h
  obtain ⟨G, dx, dy, sG, r1, r2, n1, n2, hu, q⟩ := h
  exact (rcAt_D I sG n1 n2 r1 r2 rx ry hu).2 _ _ _ _ ⟨.bl _, H, I, rfl, q⟩
def dEq : D2 := fun x y Q => (nos x = true ∧ nos y = true ∧ dep x ≤ 60) ∧ Q (.p (.bl (peq x y)))
def dNe : D2 := fun x y Q => (nos x = true ∧ nos y = true ∧ dep x ≤ 60) ∧ Q (.p (.bl (!(peq x y))))
theorem od_eqD {k : Nat} (hr : Room k X.A) : OpD X (compareOp .Eq) dEq :=
  ⟨_, op_eqD, fun H G x y dx dy P Q s rx ry ⟨⟨h1, h2, h3⟩, h4⟩ c => ⟨G, dx, dy, s, rx, ry, h1, h2, by have := hr.units; omega, c _ _ H G h4 (Wd.refl s) (.bl _)⟩⟩
theorem od_neD {k : Nat} (hr : Room k X.A) : OpD X (compareOp .NotEq) dNe :=
  ⟨_, op_neD, fun H G x y dx dy P Q s rx ry ⟨⟨h1, h2, h3⟩, h4⟩ c => ⟨G, dx, dy, s, rx, ry, h1, h2, by have := hr.units; omega, c _ _ H G h4 (Wd.refl s) (.bl _)⟩⟩
end
end DL
namespace DL
open PySem L2
section
variable {X : Cx} {a b c e : Expr} {ta tb tc te : DT} {pos : Pos} {es : List Expr}
def dIsi (T : String) (te : DT) : DT := fun ρ Q => te ρ fun b => Q (.p (.bl (isD T b.val)))
theorem cd_all (hc : X.calm = true) : CallD X (.builtin "all") dAll := by
  refine ⟨_, call_allL hc, fun H G vs ds P Q s r h k => ?_⟩
  unfold dAll at h
  split at h
  · obtain ⟨ns, rfl, h⟩ := h
    obtain ⟨v, rfl, rv⟩ := reps1 r
    obtain ⟨a, us, rfl, e, rr⟩ := rv.lst_inv
    rw [reps_bls rr] at e
    exact ⟨a, ns, rfl, SqL.of (s _ _ e), k _ _ H G h (Wd.refl s) (.bl _)⟩
  · exact h.elim
end
inductive Tg where
  | n (i : Nat) | t (is : List Nat)
def gNames : List Nat → TGs
  | [] => gNil
  | i :: is => gCons (gName i) (gNames is)
def Tg.v (K : PySem.W.Frag) : Tg → TG
  | .n i => gName i
  | .t is => gSeq K is.length (gNames is)
def putN : List Nat → List D → DEnv → (DEnv → Prop) → Prop
  | [], [], ρ, P => P ρ
  | i :: is, d :: ds, ρ, P => putN is ds (dput ρ i (.p d)) P
  | _, _, _, _ => False
def Tg.d : Tg → D → DEnv → (DEnv → Prop) → Prop
  | .n i, d, ρ, P => P (dput ρ i (.p d))
  | .t is, .tup ds, ρ, P => putN is ds ρ P
  | .t is, .lst ds, ρ, P => putN is ds ρ P
  | .t _, _, _, _ => False
def Tg.is : Tg → List Nat
  | .n i => [i]
  | .t is => is
def NestAt (K : PySem.W.Frag) (H0 G H : Hp) (w : Addr → Nat) (i : Nat) (a : Addr) (t : Bool) (dss : List D) : Prop := ∃ as : List Addr, as.Nodup ∧ Paired (fun x ds => H0 x = none ∧ w x = i ∧ OwnAt K G H x ds) as dss ∧ match t with
  | true => SqT K G a (as.map V.ref)
  | false => H0 a = none ∧ w a = i ∧ G a = none ∧ a ∉ as ∧ H a = some (.lst (as.map V.ref))
structure EnvW (K : PySem.W.Frag) (H0 G H : Hp) (w : Addr → Nat) (σ : St) (ρ : DEnv) : Prop where
  len : σ.length = ρ.length
  p : ∀ i d, dget ρ i = some (.p d) → ∃ v, σ[i]? = some (some v) ∧ Rep K G v d
  o : ∀ i d, dget ρ i = some (.o d) → ∃ a, σ[i]? = some (some (.ref a)) ∧ H0 a = none ∧ w a = i ∧ OwnAt K G H a d
  n : ∀ i t dss, dget ρ i = some (.n t dss) → ∃ a, σ[i]? = some (some (.ref a)) ∧ NestAt K H0 G H w i a t dss
def EnvO (K : PySem.W.Frag) (H0 G H : Hp) (σ : St) (ρ : DEnv) : Prop := ∃ w, EnvW K H0 G H w σ ρ
section
variable {K : PySem.W.Frag} {H0 G H : Hp} {σ : St} {ρ : DEnv}
theorem EnvO.len (h : EnvO K H0 G H σ ρ) : σ.length = ρ.length := by obtain ⟨w, h⟩ := h; exact h.len
theorem EnvO.p (h : EnvO K H0 G H σ ρ) : ∀ i d, dget ρ i = some (.p d) → ∃ v, σ[i]? = some (some v) ∧ Rep K G v d := by obtain ⟨w, h⟩ := h; exact h.p
theorem EnvO.o (h : EnvO K H0 G H σ ρ) : ∀ i d, dget ρ i = some (.o d) → ∃ a, σ[i]? = some (some (.ref a)) ∧ H0 a = none ∧ OwnAt K G H a d := by
  obtain ⟨w, h⟩ := h
  intro i d e
  obtain ⟨a, h1, h2, _, h3⟩ := h.o i d e
  exact ⟨a, h1, h2, h3⟩
theorem EnvO.repE (h : EnvO K H0 G H σ ρ) : RepE K G σ ρ := h.p
theorem EnvO.only (l : σ.length = ρ.length) (hp : RepE K G σ ρ) (h : ∀ i b, dget ρ i = some b → ∃ d, b = .p d) : EnvO K H0 G H σ ρ := by
  refine ⟨fun _ => 0, l, hp, fun i d e => ?_, fun i t dss e => ?_⟩
  · obtain ⟨_, q⟩ := h i _ e; cases q
  · obtain ⟨_, q⟩ := h i _ e; cases q
end
theorem OwnAt.stay {K : PySem.W.Frag} {G H G' H' : Hp} {a : Addr} {d : D} (h : OwnAt K G H a d) (hg : Same G G') (hn : G' a = none) (hh : ∀ o, H a = some o → H' a = some o) : OwnAt K G' H' a d := by
  obtain ⟨h1, h2⟩ := h
  refine ⟨hn, ?_⟩
  cases d with
  | lst ds => obtain ⟨vs, e, r⟩ := h2; exact ⟨vs, hh _ e, Reps.mono hg r⟩
  | non => exact h2
  | bl _ => exact h2
  | int _ => exact h2
  | str _ => exact h2
  | tup _ => exact h2
  | scr _ => exact h2
  | dct kvs => exact hh _ h2
theorem OwnAt.chg {K : PySem.W.Frag} {G H : Hp} {a : Addr} {d : D} (h : OwnAt K G H a d) : Chg H a := by
  obtain ⟨h1, h2⟩ := h
  cases d with
  | lst ds => obtain ⟨vs, e, r⟩ := h2; exact ⟨_, e, fun _ z => nomatch z⟩
  | non => exact h2.elim
  | bl _ => exact h2.elim
  | int _ => exact h2.elim
  | str _ => exact h2.elim
  | tup _ => exact h2.elim
  | scr _ => exact h2.elim
  | dct kvs => exact ⟨_, h2, fun _ z => nomatch z⟩
theorem OwnAt.there {K : PySem.W.Frag} {G H : Hp} {a : Addr} {d : D} (h : OwnAt K G H a d) : H a ≠ none := h.chg.there
theorem paired_mono {α β : Type} {F F' : α → β → Prop} {l : List α} {r : List β} (k : ∀ x d, x ∈ l → F x d → F' x d) (h : Paired F l r) : Paired F' l r := by
  induction h with
  | nil => exact .nil
  | cons f _ ih => exact .cons (k _ _ List.mem_cons_self f) (ih fun x d m => k x d (List.mem_cons_of_mem _ m))
theorem paired_left {α β : Type} {F : α → β → Prop} {l : List α} {r : List β} (h : Paired F l r) : ∀ x ∈ l, ∃ d, F x d := by
  induction h with
  | nil => intro x m; cases m
  | cons f _ ih =>
    intro x m
    rcases List.mem_cons.mp m with rfl | m
    · exact ⟨_, f⟩
    · exact ih x m
theorem NestAt.stay {K : PySem.W.Frag} {H0 G H G' H' : Hp} {w w' : Addr → Nat} {i : Nat} {a : Addr} {t : Bool} {dss : List D} (h : NestAt K H0 G H w i a t dss) (hg : Same G G') (hn : ∀ x, H0 x = .none → w x = i → G x = .none → Chg H x → G' x = .none ∧ w' x = i ∧ ∀ o, H x = some o → H' x = some o) : NestAt K H0 G' H' w' i a t dss := by
  obtain ⟨as, nd, pr, e⟩ := h
  have pr' := paired_mono (F' := fun x ds => H0 x = none ∧ w' x = i ∧ OwnAt K G' H' x ds) (fun x d m ⟨h1, h2, h3⟩ => by
    obtain ⟨k1, k2, k3⟩ := hn x h1 h2 h3.1 h3.chg
    exact ⟨h1, k2, h3.stay hg k1 k3⟩) pr
  refine ⟨as, nd, pr', ?_⟩
  · cases t with
    | true => exact same_seqT hg e
    | false =>
      obtain ⟨e1, e2, e3, e4, e5⟩ := e
      obtain ⟨k1, k2, k3⟩ := hn a e1 e2 e3 ⟨_, e5, fun _ z => nomatch z⟩
      exact ⟨e1, k2, k1, e4, k3 _ e5⟩
theorem EnvW.on {K : PySem.W.Frag} {H0 G H G' H' : Hp} {o : Addr → Nat} {σ : St} {ρ : DEnv} (h : EnvW K H0 G H o σ ρ) (w : Wd H G H' G') : EnvW K H0 G' H' o σ ρ :=
  ⟨h.len, fun i d e => by obtain ⟨v, h1, h2⟩ := h.p i d e; exact ⟨v, h1, h2.mono w.gg⟩, fun i d e => by
    obtain ⟨a, h1, h2, h2', h3⟩ := h.o i d e
    exact ⟨a, h1, h2, h2', h3.stay w.gg (by rw [w.old a h3.chg]; exact h3.1) fun o q => w.hh _ _ q⟩, fun i t dss e => by
    obtain ⟨a, h1, h2⟩ := h.n i t dss e
    exact ⟨a, h1, h2.stay w.gg fun x k1 k2 k3 k4 => ⟨by rw [w.old x k4]; exact k3, k2, fun o q => w.hh _ _ q⟩⟩⟩
theorem EnvO.on {K : PySem.W.Frag} {H0 G H G' H' : Hp} {σ : St} {ρ : DEnv} (h : EnvO K H0 G H σ ρ) (w : Wd H G H' G') : EnvO K H0 G' H' σ ρ := by
  obtain ⟨o, h⟩ := h
  exact ⟨o, h.on w⟩
theorem set_get {σ : St} {i j : Nat} {v : V} (h : i ≠ j) : (σ.set i (some v))[j]? = σ[j]? := by rw [List.getElem?_set_ne h]
theorem set_self {σ : St} {i : Nat} {v : V} (h : i < σ.length) : (σ.set i (some v))[i]? = some (some v) := by rw [List.getElem?_set_self h]
theorem EnvO.putP {K : PySem.W.Frag} {H0 G H : Hp} {σ : St} {ρ : DEnv} {v : V} {d : D} (h : EnvO K H0 G H σ ρ) (i : Nat) (r : Rep K G v d) : EnvO K H0 G H (σ.set i (some v)) (dput ρ i (.p d)) := by
  obtain ⟨o, h⟩ := h
  refine ⟨o, by rw [List.length_set, dput_len]; exact h.len, fun j d' e => ?_, fun j d' e => ?_, fun j t dss e => ?_⟩
  · rcases dget_put e with ⟨rfl, hl, e⟩ | ⟨hne, e⟩
    · cases e
      exact ⟨v, set_self (by rw [h.len]; exact hl), r⟩
    · obtain ⟨w, h1, h2⟩ := h.p j d' e
      exact ⟨w, by rw [set_get hne]; exact h1, h2⟩
  · rcases dget_put e with ⟨rfl, hl, e⟩ | ⟨hne, e⟩
    · cases e
    · obtain ⟨a, h1, h2⟩ := h.o j d' e
      exact ⟨a, by rw [set_get hne]; exact h1, h2⟩
  · rcases dget_put e with ⟨rfl, hl, e⟩ | ⟨hne, e⟩
    · cases e
    · obtain ⟨a, h1, h2⟩ := h.n j t dss e
      exact ⟨a, by rw [set_get hne]; exact h1, h2⟩
theorem EnvW.also {K : PySem.W.Frag} {H0 G H : Hp} {o : Addr → Nat} {σ : St} {ρ : DEnv} (h : EnvW K H0 G H o σ ρ) {o' : Addr → Nat} (q : ∀ x, H x ≠ .none → o' x = o x) : EnvW K H0 G H o' σ ρ :=
  ⟨h.len, h.p, fun j d e => by
    obtain ⟨a, h1, h2, h3, h4⟩ := h.o j d e
    exact ⟨a, h1, h2, by rw [q a h4.there]; exact h3, h4⟩, fun j t dss e => by
    obtain ⟨a, h1, h2⟩ := h.n j t dss e
    exact ⟨a, h1, h2.stay (Same.refl _) fun x k1 k2 k3 k4 => ⟨k3, by rw [q x k4.there]; exact k2, fun o q => q⟩⟩⟩
theorem EnvO.putO {K : PySem.W.Frag} {H0 G H G' H' : Hp} {σ : St} {ρ : DEnv} {a : Addr} {d : D} (h : EnvO K H0 G H σ ρ) (w : Wd H G H' G') (i : Nat) (h0 : H0 a = none) (hn : H a = none) (r : OwnAt K G' H' a d) : EnvO K H0 G' H' (σ.set i (some (.ref a))) (dput ρ i (.o d)) := by
  obtain ⟨o, h⟩ := h
  have h2 := (h.also (o' := fun x => if x = a then i else o x) fun x q => if_neg fun e : x = a => q (e ▸ hn)).on w
  refine ⟨fun x => if x = a then i else o x, by rw [List.length_set, dput_len]; exact h.len, fun j d' e => ?_, fun j d' e => ?_, fun j t dss e => ?_⟩
  · rcases dget_put e with ⟨rfl, hl, e⟩ | ⟨hne, e⟩
    · cases e
    · obtain ⟨w, h1, h2⟩ := h2.p j d' e
      exact ⟨w, by rw [set_get hne]; exact h1, h2⟩
  · rcases dget_put e with ⟨rfl, hl, e⟩ | ⟨hne, e⟩
    · cases e
      exact ⟨a, set_self (by rw [h.len]; exact hl), h0, if_pos rfl, r⟩
    · obtain ⟨b, h1, h2⟩ := h2.o j d' e
      exact ⟨b, by rw [set_get hne]; exact h1, h2⟩
  · rcases dget_put e with ⟨rfl, hl, e⟩ | ⟨hne, e⟩
    · cases e
    · obtain ⟨b, h1, h2⟩ := h2.n j t dss e
      exact ⟨b, by rw [set_get hne]; exact h1, h2⟩
theorem EnvO.putNT {K : PySem.W.Frag} {H0 G H G' H' : Hp} {σ : St} {ρ : DEnv} {a : Addr} {as : List Addr} {ds : List D} (h : EnvO K H0 G H σ ρ) (w : Wd H G H' G') (hh : Same H0 H) (i : Nat) (q : SqT K G' a (as.map V.ref)) (nd : as.Nodup) (pr : Paired (fun x d => H x = none ∧ OwnAt K G' H' x d) as ds) : EnvO K H0 G' H' (σ.set i (some (.ref a))) (dput ρ i (.n true ds)) := by
  obtain ⟨o, h⟩ := h
  have h2 := (h.also (o' := fun x => if x ∈ as then i else o x) fun x z => if_neg fun m => by
    obtain ⟨_, k, _⟩ := paired_left pr x m
    exact z k).on w
  refine ⟨fun x => if x ∈ as then i else o x, by rw [List.length_set, dput_len]; exact h.len, fun j d' e => ?_, fun j d' e => ?_, fun j t dss e => ?_⟩
  · rcases dget_put e with ⟨rfl, hl, e⟩ | ⟨hne, e⟩
    · cases e
    · obtain ⟨w, h1, h2⟩ := h2.p j d' e
      exact ⟨w, by rw [set_get hne]; exact h1, h2⟩
  · rcases dget_put e with ⟨rfl, hl, e⟩ | ⟨hne, e⟩
    · cases e
    · obtain ⟨b, h1, h2⟩ := h2.o j d' e
      exact ⟨b, by rw [set_get hne]; exact h1, h2⟩
  · rcases dget_put e with ⟨rfl, hl, e⟩ | ⟨hne, e⟩
    · cases e
      exact ⟨a, set_self (by rw [h.len]; exact hl), as, nd, paired_mono (fun x d m z => ⟨hh.free z.1, if_pos m, z.2⟩) pr, q⟩
    · obtain ⟨b, h1, h2⟩ := h2.n j t dss e
      exact ⟨b, by rw [set_get hne]; exact h1, h2⟩
theorem putN_ok {K : PySem.W.Frag} {H0 G H : Hp} : ∀ {is : List Nat} {ds : List D} {vs : List V} {σ : St} {ρ : DEnv} {P : DEnv → Prop} {Q : St → Hp → Prop}, EnvO K H0 G H σ ρ → Reps K G vs ds → putN is ds ρ P → (∀ σ' ρ', EnvO K H0 G H σ' ρ' → P ρ' → Q σ' H) → gNames is vs σ H Q
  | [], [], _, σ, ρ, P, Q, h, r, p, k => by cases r; exact ⟨rfl, k _ _ h p⟩
  | i :: is, d :: ds, _, σ, ρ, P, Q, h, r, p, k => by
    cases r with
    | cons r rr => exact ⟨_, _, rfl, putN_ok (h.putP i r) rr p k⟩
  | [], _ :: _, _, _, _, _, _, _, _, p, _ => p.elim
  | _ :: _, [], _, _, _, _, _, _, _, p, _ => p.elim
theorem putN_len : ∀ {is : List Nat} {ds : List D} {ρ : DEnv} {P : DEnv → Prop}, putN is ds ρ P → is.length = ds.length
  | [], [], _, _, _ => rfl
  | _ :: is, _ :: ds, ρ, P, p => by rw [List.length_cons, List.length_cons, putN_len (is := is) p]
  | [], _ :: _, _, _, p => p.elim
  | _ :: _, [], _, _, p => p.elim
theorem Tg.ok {K : PySem.W.Frag} {H0 G H : Hp} {g : Tg} {d : D} {v : V} {σ : St} {ρ : DEnv} {P : DEnv → Prop} {Q : St → Hp → Prop} (s : Same G H) (h : EnvO K H0 G H σ ρ) (r : Rep K G v d) (p : g.d d ρ P) (k : ∀ σ' ρ', EnvO K H0 G H σ' ρ' → P ρ' → Q σ' H) : g.v K v σ H Q := by
  cases g with
  | n i => exact k _ _ (h.putP i r) p
  | t is =>
    cases d with
    | tup ds =>
      obtain ⟨a, vs, rfl, e, rr⟩ := r.tup_inv
      exact ⟨a, vs, rfl, .inl (same_seqT s e), by rw [Paired.length rr]; exact (putN_len p).symm, putN_ok h rr p k⟩
    | lst ds =>
      obtain ⟨a, vs, rfl, e, rr⟩ := r.lst_inv
      exact ⟨a, vs, rfl, .inr (SqL.of (s _ _ e)), by rw [Paired.length rr]; exact (putN_len p).symm, putN_ok h rr p k⟩
    | non => exact p.elim
    | bl _ => exact p.elim
    | int _ => exact p.elim
    | str _ => exact p.elim
    | scr _ => exact p.elim
    | dct _ => exact p.elim
structure ItD (K : PySem.W.Frag) (G0 : Hp) (J : It) (xs : List D) : Prop where
  go : ∀ i d H G, xs[i]? = some d → Same G0 G → Same G H → J.go i H
  yld : ∀ i d H G x H', xs[i]? = some d → Same G0 G → Same G H → J.yld i H x H' → ∃ G', Wd H G H' G' ∧ Rep K G' x d
  stop : ∀ i H G, i = xs.length → Same G0 G → Same G H → J.stop i H
def cI (K : PySem.W.Frag) (t : DTA) : TI := fun σ H R => ∃ (G : Hp) (ρ : DEnv) (P : List D → Prop), Same G H ∧ RepE K G σ ρ ∧ t ρ P ∧ ∀ xs J H' G', P xs → Wd H G H' G' → ItD K G' J xs → R J H'
structure DI (X : Cx) (tg e : Expr) (t : DTA) : Prop where
  pi : PI X tg e (cI X.K t)
theorem PI.imp {X : Cx} {tg e : Expr} {t t' : TI} (h : PI X tg e t) (i : ∀ σ H Q, t' σ H Q → t σ H Q) : PI X tg e t' := fun pins s σ H Q I q => h pins s σ H Q I (i σ H Q q)
theorem DI.of {X : Cx} {tg e : Expr} {t : TI} {t' : DTA} (h : PI X tg e t) (i : ∀ σ H Q, cI X.K t' σ H Q → t σ H Q) : DI X tg e t' := ⟨PI.imp h i⟩
section
variable {X : Cx} {tg e : Expr} {te : DT} {pos : Pos}
theorem itd_list {K : PySem.W.Frag} {G : Hp} {a : Addr} {vs : List V} {ds : List D} (h : SqL K G a vs) (r : Reps K G vs ds) : ItD K G (Itl K a) ds where
  go := fun i d H G' e s1 s2 => by
    obtain ⟨v, h1, h2⟩ := paired_get' r e
    exact ⟨vs, v, (s1.trans s2).seq h, h1⟩
  yld := fun i d H G' x H' e s1 s2 ⟨eH, y⟩ => by
    obtain ⟨v, h1, h2⟩ := paired_get' r e
    have := y vs ((s1.trans s2).seq h)
    rw [h1] at this
    cases this
    subst eH
    exact ⟨G', Wd.refl s2, h2.mono s1⟩
  stop := fun i H G' hi s1 s2 => ⟨vs, (s1.trans s2).seq h, by rw [Paired.length r, hi]; exact Nat.le_refl _⟩
def diList (te : DT) : DTA := fun ρ P => te ρ fun b => match b.val with
  | .lst xs => P xs
  | .scr ns => P (ns.map D.int)
  | _ => False
theorem di_list (he : DE X e te) : DI X tg e (diList te) := DI.of (pi_list he.pe) fun σ H R ⟨G, ρ, P, s, re, h, k⟩ => by
  refine ⟨G, ρ, _, s, re, h, fun b v H1 G1 p1 w1 r1 => ?_⟩
  obtain ⟨G1', w1', r1'⟩ := r1.give w1
  split at p1
  · rename_i xs e
    rw [e] at r1'
    obtain ⟨a, us, rfl, e, rr⟩ := r1'.lst_inv
    exact ⟨a, rfl, ⟨us, SqL.of (w1'.gh _ _ e)⟩, k _ _ H1 G1' p1 w1' (itd_list (SqL.of e) rr)⟩
  · rename_i ns e
    rw [e] at r1'
    cases r1' with
    | scr e => exact ⟨_, rfl, ⟨_, w1'.gh.seq e⟩, k _ _ H1 G1' p1 w1' (itd_list e (ints_reps ns))⟩
  · exact p1.elim
def diTup (te : DT) : DTA := fun ρ P => te ρ fun b => match b.val with
  | .tup xs => P xs
  | _ => False
def upFrom (lo : Int) (n : Nat) : List D := (List.range n).map fun i => D.int (lo + (i : Nat))
theorem upFrom_get {lo : Int} {n i : Nat} {d : D} (h : (upFrom lo n)[i]? = some d) : i < n ∧ d = .int (lo + (i : Nat)) := by
  unfold upFrom at h
  rw [List.getElem?_map] at h
  by_cases hi : i < n
  · rw [List.getElem?_range hi] at h
    exact ⟨hi, (Option.some.inj h).symm⟩
  · rw [List.getElem?_eq_none (by simpa using hi)] at h
    cases h
theorem upFrom_len (lo : Int) (n : Nat) : (upFrom lo n).length = n := by unfold upFrom; simp
theorem itd_rng {K : PySem.W.Frag} {G : Hp} {lo : Int} {n : Nat} : ItD K G (Itr lo n) (upFrom lo n) where
  go := fun i d H G' e s1 s2 => (upFrom_get e).1
  yld := fun i d H G' x H' e s1 s2 ⟨eH, y⟩ => by
    obtain ⟨h1, rfl⟩ := upFrom_get e
    subst eH
    subst y
    exact ⟨G', Wd.refl s2, .int _⟩
  stop := fun i H G' hi s1 s2 => by rw [upFrom_len] at hi; rw [hi]; exact Nat.le_refl n
def diRng1 (t : DTA) : DTA := fun ρ P => t ρ fun ds => match ds with
  | [.int j] => (-(2 ^ 62) ≤ j ∧ j < 2 ^ 62) ∧ P (upFrom 0 j.toNat)
  | _ => False
def diRng2 (t : DTA) : DTA := fun ρ P => t ρ fun ds => match ds with
  | [.int i, .int j] => (-(2 ^ 62) ≤ i ∧ i < 2 ^ 62 ∧ -(2 ^ 62) ≤ j ∧ j < 2 ^ 62) ∧ P (upFrom i (j - i).toNat)
  | _ => False
def signsOf (x : Str) : List D := x.cps.toList.map fun c => D.str ⟨#[c]⟩
def diStr (te : DT) : DTA := fun ρ P => te ρ fun b => match b.val with
  | .str x => P (signsOf x)
  | _ => False
theorem di_str (he : DE X e te) : DI X tg e (diStr te) := DI.of (pi_str he.pe) fun σ H R ⟨G, ρ, P, s, re, h, k⟩ => by
  refine ⟨G, ρ, _, s, re, h, fun b v H1 G1 p1 w1 r1 => ?_⟩
  obtain ⟨G1', w1', r1'⟩ := r1.give w1
  split at p1
  · rename_i x e
    rw [e] at r1'
    cases r1'
    refine ⟨x, rfl, k _ _ H1 G1' p1 w1' ⟨fun i d H G e _ _ => ?_, fun i d H G z H' e s1 s2 ⟨eH, c, hc, y⟩ => ?_, fun i H G hi _ _ => ?_⟩⟩
    · unfold signsOf at e
      rw [List.getElem?_map] at e
      by_cases hi : i < x.cps.toList.length
      · show i < x.cps.size
        simpa using hi
      · rw [List.getElem?_eq_none (by omega)] at e; cases e
    · unfold signsOf at e
      rw [List.getElem?_map] at e
      have hc' : x.cps.toList[i]? = some c := by rw [← hc]; simp
      rw [hc'] at e
      cases e
      subst eH
      subst y
      exact ⟨G, Wd.refl s2, .str _⟩
    · unfold signsOf at hi
      rw [List.length_map] at hi
      show x.cps.size ≤ i
      rw [hi]
      simp
  · exact p1.elim
end
def frD (fr : List (Option Nat)) (ρ : DEnv) : DEnv := fr.map fun o => match o with
  | none => none
  | some j => dget ρ j
theorem dget_eq : ∀ (ρ : DEnv) (i : Nat), dget ρ i = (ρ[i]?).getD none
  | [], _ => by simp [dget]
  | _ :: _, 0 => by simp [dget]
  | _ :: r, i + 1 => by simp [dget, dget_eq r i]
theorem frD_get {fr : List (Option Nat)} {ρ : DEnv} {i : Nat} {b : B} (h : dget (frD fr ρ) i = some b) : ∃ j, fr[i]? = some (some j) ∧ dget ρ j = some b := by
  rw [dget_eq] at h
  unfold frD at h
  rw [List.getElem?_map] at h
  cases e : fr[i]? with
  | none => rw [e] at h; cases h
  | some o =>
    rw [e] at h
    cases o with
    | none => cases h
    | some j => exact ⟨j, rfl, h⟩
theorem frSt_of {fr : List (Option Nat)} {σ : St} {i j : Nat} {v : V} (h1 : fr[i]? = some (some j)) (h2 : σ[j]? = some (some v)) : (frSt fr σ)[i]? = some (some v) := by
  unfold frSt
  rw [List.getElem?_map, h1]
  show some ((σ[j]?).getD none) = _
  rw [h2]
  rfl
def onlyP (ρ : DEnv) : DEnv := ρ.map fun o => match o with
  | some (.p d) => some (.p d)
  | _ => none
theorem onlyP_get {ρ : DEnv} {i : Nat} {b : B} (h : dget (onlyP ρ) i = some b) : ∃ d, b = .p d ∧ dget ρ i = some (.p d) := by
  rw [dget_eq] at h ⊢
  unfold onlyP at h
  rw [List.getElem?_map] at h
  cases e : ρ[i]? with
  | none => rw [e] at h; cases h
  | some o =>
    rw [e] at h
    cases o with
    | none => cases h
    | some b' =>
      cases b' with
      | p d => exact ⟨d, (Option.some.inj h).symm, rfl⟩
      | o d => cases h
      | n _ _ => cases h
def lcI (xs : List D) (g : Tg) (tc : DTT) (te : DT) (ρ : DEnv) (Q : B → Prop) : Prop := xs.length ≤ sizeLine ∧ ∃ F : D → Option D → Prop,
  (∀ x ∈ xs, g.d x ρ fun ρ' => tc ρ' fun c => (c = true → te ρ' fun b => F x (some b.val)) ∧ (c = false → F x none)) ∧ ∀ os, Paired F xs os → Q (.o (.lst (os.filterMap id)))
def dLC (ti : DTA) (fr : List (Option Nat)) (g : Tg) (tc : DTT) (te : DT) : DT := fun ρ Q => ti ρ fun xs => lcI xs g tc te (onlyP (frD fr ρ)) Q
def dTrue : DTT := fun _ P => P true
theorem paired_take_snoc {α β : Type} {F : α → β → Prop} {xs : List α} {os : List β} {i : Nat} {x : α} {o : β} (h : Paired F (xs.take i) os) (e : xs[i]? = some x) (f : F x o) : Paired F (xs.take (i + 1)) (os ++ [o]) := by
  rw [WS.take_snoc e]
  exact Paired.snoc h f
def tgOk (fr : List (Option Nat)) (g : Tg) : Bool := g.is.all fun i => match fr[i]? with
  | some none => true
  | _ => false
theorem putN_keep {K : PySem.W.Frag} {G H : Hp} {ρ0 : DEnv} : ∀ {is : List Nat} {vs : List V} {σ : St} {Q : St → Hp → Prop}, (∀ i ∈ is, dget ρ0 i = none) → RepE K G σ ρ0 → σ.length = ρ0.length → gNames is vs σ H Q → gNames is vs σ H fun σ' H' => Q σ' H' ∧ H' = H ∧ RepE K G σ' ρ0 ∧ σ'.length = ρ0.length
  | [], _, σ, Q, _, h, l, ⟨e, q⟩ => ⟨e, q, rfl, h, l⟩
  | i :: is, _, σ, Q, hn, h, l, ⟨v, r, e, q⟩ => by
    refine ⟨v, r, e, putN_keep (is := is) (fun j hj => hn j (List.mem_cons_of_mem _ hj)) (fun j d hd => ?_) (by rw [List.length_set]; exact l) q⟩
    have hne : i ≠ j := by
      rintro rfl
      rw [hn i List.mem_cons_self] at hd
      cases hd
    obtain ⟨w, h1, h2⟩ := h j d hd
    exact ⟨w, by rw [set_get hne]; exact h1, h2⟩
theorem tg_keep {K : PySem.W.Frag} {G H : Hp} {ρ0 : DEnv} {g : Tg} {v : V} {σ : St} {Q : St → Hp → Prop} (hn : ∀ i ∈ g.is, dget ρ0 i = none) (h : RepE K G σ ρ0) (l : σ.length = ρ0.length) (q : g.v K v σ H Q) : g.v K v σ H fun σ' H' => Q σ' H' ∧ H' = H ∧ RepE K G σ' ρ0 ∧ σ'.length = ρ0.length := by
  cases g with
  | n i =>
    refine ⟨q, rfl, fun j d hd => ?_, by rw [List.length_set]; exact l⟩
    have hne : i ≠ j := by
      rintro rfl
      rw [hn i (List.mem_singleton.mpr rfl)] at hd
      cases hd
    obtain ⟨w, h1, h2⟩ := h j d hd
    exact ⟨w, by rw [set_get hne]; exact h1, h2⟩
  | t is =>
    obtain ⟨a, xs, e, h1, h2, q⟩ := q
    exact ⟨a, xs, e, h1, h2, putN_keep hn h l q⟩
structure DIfs (X : Cx) (ifs : List Expr) (t : DTT) : Prop where
  pf : PIfs X ifs (cT X.K t)
theorem difs_nil {X : Cx} : DIfs X [] dTrue := ⟨fun pins s σ H Q I ⟨G, ρ, P, sg, re, h, k⟩ => pifs_nil pins s σ H Q I (k true H G h (Wd.refl sg))⟩
theorem difs_one {X : Cx} {c : Expr} {t : DTT} (h : DTe X c t) : DIfs X [c] t := ⟨pifs_one h.pt⟩
theorem lc_core {K : PySem.W.Frag} {ti : DTA} {fr : List (Option Nat)} {g : Tg} {tc : DTT} {te : DT} (ht : tgOk fr g = true) (σ : St) (H : Hp) (Q : VK) : cE K (dLC ti fr g tc te) σ H Q → tLC (cI K ti) fr (g.v K) (cT K tc) (cE K te) σ H Q := by
  rintro ⟨G, ρ, P, s, re, h, k⟩
  refine ⟨G, ρ, _, s, re, h, fun xs J H1 G1 p1 w1 it D hD => ?_⟩
  obtain ⟨hz, F, hF, hP⟩ := p1
  have hn : ∀ i ∈ g.is, dget (onlyP (frD fr ρ)) i = none := fun i hi => by
    cases e : dget (onlyP (frD fr ρ)) i with
    | none => rfl
    | some b =>
      obtain ⟨d, rfl, e'⟩ := onlyP_get e
      obtain ⟨j, h1, _⟩ := frD_get e'
      have := List.all_eq_true.mp ht i hi
      rw [h1] at this
      cases this
  have len0 : (onlyP (frD fr ρ)).length = fr.length := by unfold onlyP frD; simp
  have fn0 : (frSt fr σ).length = fr.length := by unfold frSt; simp
  have rep0 : RepE K G1 (frSt fr σ) (onlyP (frD fr ρ)) := fun i d e => by
    obtain ⟨d', e1, e2⟩ := onlyP_get e
    cases e1
    obtain ⟨j, h1, h2⟩ := frD_get e2
    obtain ⟨v, h3, h4⟩ := re j d h2
    exact ⟨v, frSt_of h1 h3, h4.mono w1.gg⟩
  have gD : G1 D = none := w1.gh.free hD
  refine ⟨fun i m ys σ' H' => m = xs.length - i ∧ i ≤ xs.length ∧ ∃ G' os, Wd H1 G1 H' G' ∧ G' D = none ∧ H' D = some (.lst ys) ∧ ys.length ≤ i ∧ Paired F (xs.take i) os ∧ Reps K G' ys (os.filterMap id) ∧ RepE K G' σ' (onlyP (frD fr ρ)) ∧ σ'.length = (onlyP (frD fr ρ)).length, ⟨xs.length, by simp, Nat.zero_le _, G1, [], (Wd.refl w1.gh).own hD gD, gD, upd_same, Nat.le_refl _, by rw [List.take_zero]; exact .nil, .nil, rep0, by rw [fn0, len0]⟩, ?_⟩
  rintro i m ys σ' H' ⟨rfl, hi, G', os, w', gD', hD', hy, hos, hr, re', ln'⟩
  by_cases hlt : i < xs.length
  · have hx : xs[i]? = some xs[i] := List.getElem?_eq_getElem hlt
    refine .inr ⟨it.go i _ H' G' hx w'.gg w'.gh, fun ys' σ2 H2 => ∃ G2 os', Wd H1 G1 H2 G2 ∧ G2 D = none ∧ H2 D = some (.lst ys') ∧ ys'.length ≤ i + 1 ∧ Paired F (xs.take (i + 1)) os' ∧ Reps K G2 ys' (os'.filterMap id) ∧ RepE K G2 σ2 (onlyP (frD fr ρ)) ∧ σ2.length = (onlyP (frD fr ρ)).length, fun ys' σ2 H2 ⟨G2, os', z⟩ => ⟨xs.length - (i + 1), by omega, rfl, hlt, G2, os', z⟩, fun x H2 y => ?_⟩
    obtain ⟨G2, w2, r2⟩ := it.yld i _ H' G' x H2 hx w'.gg w'.gh y
    have e2 : EnvO K H2 G2 H2 σ' (onlyP (frD fr ρ)) := EnvO.only ln' (re'.mono w2.gg) fun j b e => by
        obtain ⟨d', e1, _⟩ := onlyP_get e
        exact ⟨d', e1⟩
    have re2 : RepE K G2 σ' (onlyP (frD fr ρ)) := e2.p
    have w12 := w'.trans w2
    have hD2 : H2 D = some (.lst ys) := w2.hh _ _ hD'
    have gD2 : G2 D = none := by rw [w2.old D ⟨_, hD', fun _ z => nomatch z⟩]; exact gD'
    refine (?_ : g.v K x σ' H2 _)
    refine tgv_mono (tg_keep hn re2 ln' (Tg.ok w2.gh e2 r2 (hF _ (List.getElem_mem hlt)) (Q := fun σ3 H3 => H3 = H2 ∧ ∃ ρ3, EnvO K H2 G2 H2 σ3 ρ3 ∧ tc ρ3 fun c => (c = true → te ρ3 fun b => F xs[i] (some b.val)) ∧ (c = false → F xs[i] none)) fun σ3 ρ3 e3 p3 => ⟨rfl, ρ3, e3, p3⟩)) ?_
    rintro σ3 H3 ⟨⟨rfl, ρ3, e3, p3⟩, _, re3, ln3⟩
    refine ⟨G2, ρ3, _, w2.gh, e3.p, p3, fun c H4 G4 p4 w4 => ?_⟩
    have hD4 : H4 D = some (.lst ys) := w4.hh _ _ hD2
    have gD4 : G4 D = none := by rw [w4.old D ⟨_, hD2, fun _ z => nomatch z⟩]; exact gD2
    cases c with
    | true =>
      refine iteT ⟨G4, ρ3, _, w4.gh, RepE.mono w4.gg e3.p, p4.1 rfl, fun b v H5 G5 p5 w5 r5 => ?_⟩
      obtain ⟨G5', w5', r5'⟩ := r5.give w5
      have hD5 : H5 D = some (.lst ys) := w5.hh _ _ hD4
      have gD5 : G5' D = none := by rw [w5'.old D ⟨_, hD4, fun _ z => nomatch z⟩]; exact gD4
      have w15 := (w12.trans w4).trans w5'
      refine ⟨hD5, by have : sizeLine = 16777216 := sizeLine_eq; omega, G5', os ++ [some b.val], w15.own hD gD5, gD5, upd_same, by rw [List.length_append, List.length_singleton]; omega, paired_take_snoc hos hx p5, ?_, RepE.mono (w4.trans w5').gg re3, ln3⟩
      rw [List.filterMap_append]
      exact paired_app (Reps.mono ((w2.trans w4).trans w5').gg hr) (.cons r5' .nil)
    | false =>
      refine iteF ⟨G4, os ++ [none], w12.trans w4, gD4, hD4, by omega, paired_take_snoc hos hx (p4.2 rfl), ?_, RepE.mono w4.gg re3, ln3⟩
      rw [List.filterMap_append, show List.filterMap id [(none : Option DL.D)] = [] from rfl, List.append_nil]
      exact Reps.mono (w2.trans w4).gg hr
  · have e : i = xs.length := by omega
    subst e
    refine .inl ⟨it.stop _ H' G' rfl w'.gg w'.gh, ?_⟩
    rw [List.take_length] at hos
    exact k _ _ H' G' (hP os hos) (w1.trans w') ⟨D, rfl, w1.hh.free hD, gD', ys, hD', hr⟩
where
  tgv_mono {K : PySem.W.Frag} {g : Tg} {v : V} {σ : St} {H : Hp} {Q Q' : St → Hp → Prop} (h : g.v K v σ H Q) (i : ∀ σ' H', Q σ' H' → Q' σ' H') : g.v K v σ H Q' := by
    cases g with
    | n j => exact i _ _ h
    | t is =>
      obtain ⟨a, xs, e, h1, h2, q⟩ := h
      exact ⟨a, xs, e, h1, h2, names_mono q i⟩
  names_mono {Q Q' : St → Hp → Prop} : ∀ {is : List Nat} {vs : List V} {σ : St} {H : Hp}, gNames is vs σ H Q → (∀ σ' H', Q σ' H' → Q' σ' H') → gNames is vs σ H Q'
    | [], _, _, _, ⟨e, q⟩, i => ⟨e, i _ _ q⟩
    | _ :: is, _, _, _, ⟨v, r, e, q⟩, i => ⟨v, r, e, names_mono (is := is) q i⟩
section
variable {X : Cx} {tg iter elt : Expr} {ifs : List Expr} {scope : Scope} {pos : Pos} {ti : DTA} {g : Tg} {tc : DTT} {te : DT}
theorem de_lc (N' : List Str) (fr : List (Option Nat)) (hc : X.calm = true) (hi : DI X tg iter ti)
    (hg : ∀ cl fp C s H, PG (blk X scope N' cl fp C s H) tg (g.v X.K)) (ht : ∀ cl fp C s H, DIfs (blk X scope N' cl fp C s H) ifs tc) (he : ∀ cl fp C s H, DE (blk X scope N' cl fp C s H) elt te)
    {sc0 : Scope} {N0 : List Str} (htg : tgOk fr g = true := by decide) (hsc : X.env.scope = sc0 := by rfl) (hN : X.N = N0 := by rfl) (hok : compScB sc0 N0 scope N' fr = true := by decide +kernel) (hs : ∀ x, foldedSetIterable iter X.env x = pure x := by intro _; rfl) :
    DE X (.ListComp elt [⟨tg, iter, ifs, 0⟩] scope pos) (dLC ti fr g tc te) :=
  DE.of (pe_lc (tc := cT X.K tc) (te := cE X.K te) N' fr hc hi.pi hg (fun cl fp C s H => (ht cl fp C s H).pf) (fun cl fp C s H => (he cl fp C s H).pe) hsc hN hok hs) (lc_core htg)
end
end DL
namespace DL
open PySem L2
structure DEnds where
  nx : DEnv → Prop
  rt : B → Prop
  bk : DEnv → Prop := fun _ => False
  ct : DEnv → Prop := fun _ => False
abbrev DTS := DEnds → DEnv → Prop
structure EndsOk (K : PySem.W.Frag) (H0 G0 : Hp) (E : DEnds) (Dn : Ends) : Prop where
  nx : ∀ σ H G ρ, Wd H0 G0 H G → EnvO K H0 G H σ ρ → E.nx ρ → Dn.nx σ H
  bk : ∀ σ H G ρ, Wd H0 G0 H G → EnvO K H0 G H σ ρ → E.bk ρ → Dn.bk σ H
  ct : ∀ σ H G ρ, Wd H0 G0 H G → EnvO K H0 G H σ ρ → E.ct ρ → Dn.ct σ H
  rt : ∀ b v H G, Wd H0 G0 H G → BRes K H0 G H v b → E.rt b → Dn.rt v H
def cS (K : PySem.W.Frag) (H0 G0 : Hp) (t : DTS) : TS := fun Dn σ H => ∃ (E : DEnds) (G : Hp) (ρ : DEnv), EndsOk K H0 G0 E Dn ∧ Wd H0 G0 H G ∧ EnvO K H0 G H σ ρ ∧ t E ρ
structure DS (X : Cx) (st : Stmt) (t : DTS) : Prop where
  ps : ∀ H0 G0, PS X st (cS X.K H0 G0 t)
structure DSs (X : Cx) (st : List Stmt) (t : DTS) : Prop where
  pss : ∀ H0 G0, PSs X st (cS X.K H0 G0 t)
section
variable {K : PySem.W.Frag} {H0 G0 G H H' : Hp} {σ : St} {ρ : DEnv}
theorem EnvO.freeze (e : EnvO K H0 G H σ ρ) (w : Wd H0 G0 H G) : ∃ G1, Wd H0 G0 H G1 ∧ Same G G1 ∧ EnvO K H0 G1 H σ (frz ρ) := by
  classical
  obtain ⟨o, e⟩ := e
  have to : ∀ a, H0 a = none → G a = none → (if H0 a = none ∧ G a = none then H a else G a) = H a := fun a h1 h2 => if_pos ⟨h1, h2⟩
  have sG : Same G (fun a => if H0 a = none ∧ G a = none then H a else G a) := fun a o h => by
    show (if _ then H a else G a) = _
    rw [if_neg fun q => by rw [q.2] at h; cases h]
    exact h
  refine ⟨fun a => if H0 a = none ∧ G a = none then H a else G a, ⟨w.hh, w.gg.trans sG, fun a o h => ?_, fun a h => ?_⟩, sG, ?_⟩
  · have h' : (if H0 a = none ∧ G a = none then H a else G a) = some o := h
    split at h'
    · exact h'
    · exact w.gh _ _ h'
  · show (if H0 a = none ∧ G a = none then H a else G a) = _
    rw [if_neg fun q => h.there q.1]
    exact w.old a h
  · have own : ∀ a d, H0 a = none → OwnAt K G H a d → Rep K (fun a => if H0 a = none ∧ G a = none then H a else G a) (.ref a) d := fun a d h0 h => h.rep sG fun o z => by
      show (if H0 a = none ∧ G a = none then H a else G a) = _
      rw [to a h0 h.1]
      exact z
    refine EnvO.only (by rw [frz_len]; exact e.len) (fun i d h => ?_) fun i b h => ?_
    · obtain ⟨b, h1, h2⟩ := dget_frz h
      cases h2
      cases b with
      | p d =>
        obtain ⟨v, h3, h4⟩ := e.p i d h1
        exact ⟨v, h3, h4.mono sG⟩
      | o d =>
        obtain ⟨a, h3, h4, h4', h5⟩ := e.o i d h1
        exact ⟨.ref a, h3, own a d h4 h5⟩
      | n t dss =>
        obtain ⟨a, h3, as, nd, pr, q⟩ := e.n i t dss h1
        have rs : Reps K (fun a => if H0 a = none ∧ G a = none then H a else G a) (as.map V.ref) dss := by
          clear q h1 h nd
          induction pr with
          | nil => exact .nil
          | cons f _ ih => exact .cons (own _ _ f.1 f.2.2) ih
        refine ⟨.ref a, h3, ?_⟩
        cases t with
        | true => exact Rep.tup' (same_seqT sG q) rs
        | false =>
          refine Rep.lst' ?_ rs
          show (if H0 a = none ∧ G a = none then H a else G a) = _
          rw [to a q.1 q.2.2.1]
          exact q.2.2.2.2
    · obtain ⟨b', h1, h2⟩ := dget_frz h
      exact ⟨_, h2⟩
theorem EnvW.back {o : Addr → Nat} (e : EnvW K H0 G H o σ ρ) (hh : Same H H') : EnvW K H0 G H' o σ ρ :=
  ⟨e.len, e.p, fun i d h => by
    obtain ⟨a, h1, h2, h2', h3⟩ := e.o i d h
    exact ⟨a, h1, h2, h2', h3.stay (Same.refl _) h3.1 fun o q => hh _ _ q⟩, fun i t dss h => by
    obtain ⟨a, h1, h2⟩ := e.n i t dss h
    exact ⟨a, h1, h2.stay (Same.refl _) fun x k1 k2 k3 k4 => ⟨k3, k2, fun o q => hh _ _ q⟩⟩⟩
theorem EnvO.back (e : EnvO K H0 G H σ ρ) (hh : Same H H') : EnvO K H0 G H' σ ρ := by
  obtain ⟨o, e⟩ := e
  exact ⟨o, e.back hh⟩
theorem Wd.back {G1 G1' : Hp} (w : Wd H0 G0 H G) (w1 : Wd H G1 H' G1') : Wd H0 G0 H' G := ⟨w.hh.trans w1.hh, w.gg, w.gh.trans w1.hh, w.old⟩
end
section
variable {X : Cx} {st : Stmt} {rest : List Stmt} {t u : DTS} {a b c e : Expr} {ta tb te : DT} {pos : Pos}
def dNext : DTS := fun E ρ => E.nx ρ
def dSeq (t u : DTS) : DTS := fun E ρ => t { E with nx := u E } ρ
theorem dss_nil : DSs X [] dNext := DSs.mk fun H0 G0 => PSs.imp pss_nil fun Dn σ H ⟨E, G, ρ, eo, w, en, h⟩ => eo.nx σ H G ρ w en h
theorem dss_cons (h1 : DS X st t) (h2 : DSs X rest u) : DSs X (st :: rest) (dSeq t u) := DSs.mk fun H0 G0 => PSs.imp (pss_cons (h1.ps H0 G0) (h2.pss H0 G0)) fun Dn σ H ⟨E, G, ρ, eo, w, en, h⟩ =>
  ⟨{ E with nx := u E }, G, ρ, ⟨fun σ' H' G' ρ' w' en' h' => ⟨E, G', ρ', eo, w', en', h'⟩, eo.bk, eo.ct, eo.rt⟩, w, en, h⟩
theorem dss_one (h1 : DS X st t) : DSs X [st] t := DSs.mk fun H0 G0 => pss_one (h1.ps H0 G0)
def dDrop (te : DT) : DTS := fun E ρ => te (frz ρ) fun _ => E.nx ρ
def dRet (te : DT) : DTS := fun E ρ => te (frz ρ) E.rt
theorem ds_ret (he : DE X e te) : DS X (.Return (some e) pos) (dRet te) := DS.mk fun H0 G0 => PS.imp (ps_ret he.pe) fun Dn σ H ⟨E, G, ρ, eo, w, en, h⟩ => by
  obtain ⟨G1, w1, sg, e1⟩ := en.freeze w
  exact ⟨G1, frz ρ, _, w1.gh, e1.p, h, fun b v H' G' p' w' r' => eo.rt b v H' G' (w1.trans w') (r'.ahead w.hh) p'⟩
def dRetN : DTS := fun E _ => E.rt (.p .non)
def dRetO (i : Nat) : DTS := fun E ρ => match dget ρ i with
  | some (.o d) => E.rt (.o d)
  | _ => False
def dIfS (tc : DTT) (t u : DTS) : DTS := fun E ρ => tc (frz ρ) fun c => (c = true → t E ρ) ∧ (c = false → u E ρ)
theorem ds_if {x y : List Stmt} {tc : DTT} (hc : DTe X c tc) (ha : DSs X x t) (hb : DSs X y u) : DS X (.If c x y pos) (dIfS tc t u) := DS.mk fun H0 G0 => PS.imp (ps_if hc.pt (ha.pss H0 G0) (hb.pss H0 G0)) fun Dn σ H ⟨E, G, ρ, eo, w, en, h⟩ => by
  obtain ⟨G1, w1, sg, e1⟩ := en.freeze w
  refine ⟨G1, frz ρ, _, w1.gh, e1.p, h, fun c H' G' p' w' => ?_⟩
  cases c with
  | true => exact iteT ⟨E, G, ρ, eo, w.back w', en.back w'.hh, p'.1 rfl⟩
  | false => exact iteF ⟨E, G, ρ, eo, w.back w', en.back w'.hh, p'.2 rfl⟩
def dSet (i : Nat) (te : DT) : DTS := fun E ρ => te ρ fun b => E.nx (dput ρ i b)
def dSetF (i : Nat) (te : DT) : DTS := fun E ρ => te (frz ρ) fun b => b.val.sc = true ∧ E.nx (dput ρ i (.p b.val))
def dSetD (i : Nat) (te : DT) : DTS := fun E ρ => te (frz ρ) fun b => E.nx (dput (frz ρ) i b)
theorem set_core {K : PySem.W.Frag} {H0 G0 H G H' G' : Hp} {σ : St} {ρ : DEnv} {E : DEnds} {Dn : Ends} (i : Nat) (eo : EndsOk K H0 G0 E Dn) (w : Wd H0 G0 H G) (en : EnvO K H0 G H σ ρ) {b : B} {v : V} (p : E.nx (dput ρ i b)) (w' : Wd H G H' G') (r : BRes K H G' H' v b) : Dn.nx (σ.set i (some v)) H' := by
  cases b with
  | p d => exact eo.nx _ H' G' _ (w.trans w') ((en.on w').putP i r) p
  | o d =>
    obtain ⟨a, rfl, hn, o⟩ := r
    exact eo.nx _ H' G' _ (w.trans w') (en.putO w' i (w.hh.free hn) hn o) p
  | n t ds =>
    cases t with
    | false => exact r.elim
    | true =>
      obtain ⟨a, as, rfl, q, nd, pr⟩ := r
      exact eo.nx _ H' G' _ (w.trans w') (en.putNT w' w.hh i q nd pr) p
theorem dset_imp {K : PySem.W.Frag} {H0 G0 : Hp} {i : Nat} (Dn : Ends) (σ : St) (H : Hp) : cS K H0 G0 (dSet i te) Dn σ H → cE K te σ H fun v H1 => Dn.nx (σ.set i (some v)) H1 := by
  rintro ⟨E, G, ρ, eo, w, en, h⟩
  exact ⟨G, ρ, _, w.gh, en.p, h, fun b v H' G' p' w' r' => set_core i eo w en p' w' r'⟩
theorem dsetF_imp {K : PySem.W.Frag} {H0 G0 : Hp} {i : Nat} (Dn : Ends) (σ : St) (H : Hp) : cS K H0 G0 (dSetF i te) Dn σ H → cE K te σ H fun v H1 => Dn.nx (σ.set i (some v)) H1 := by
  rintro ⟨E, G, ρ, eo, w, en, h⟩
  obtain ⟨G1, w1, sg, e1⟩ := en.freeze w
  refine ⟨G1, frz ρ, _, w1.gh, e1.p, h, fun b v H' G' p' w' r' => ?_⟩
  obtain ⟨G2, w2, r2⟩ := r'.give w'
  exact eo.nx _ H' G _ (w.back w') ((en.back w'.hh).putP i (r2.sc p'.1)) p'.2
theorem dsetD_imp {K : PySem.W.Frag} {H0 G0 : Hp} {i : Nat} (Dn : Ends) (σ : St) (H : Hp) : cS K H0 G0 (dSetD i te) Dn σ H → cE K te σ H fun v H1 => Dn.nx (σ.set i (some v)) H1 := by
  rintro ⟨E, G, ρ, eo, w, en, h⟩
  obtain ⟨G1, w1, sg, e1⟩ := en.freeze w
  exact ⟨G1, frz ρ, _, w1.gh, e1.p, h, fun b v H' G' p' w' r' => set_core i eo w1 e1 p' w' r'⟩
def dSetP (i : Nat) (te : DT) : DTS := fun E ρ => te ρ fun b => E.nx (dput ρ i (.p b.val))
def dSetDP (i : Nat) (te : DT) : DTS := fun E ρ => te (frz ρ) fun b => E.nx (dput (frz ρ) i (.p b.val))
theorem dsetP_imp {K : PySem.W.Frag} {H0 G0 : Hp} {i : Nat} (Dn : Ends) (σ : St) (H : Hp) : cS K H0 G0 (dSetP i te) Dn σ H → cE K te σ H fun v H1 => Dn.nx (σ.set i (some v)) H1 := by
  rintro ⟨E, G, ρ, eo, w, en, h⟩
  refine ⟨G, ρ, _, w.gh, en.p, h, fun b v H' G' p' w' r' => ?_⟩
  obtain ⟨G2, w2, r2⟩ := r'.give w'
  exact set_core i eo w en (b := .p b.val) p' w2 r2
section
variable {i : Nat} {x : Str} {px : Pos}
theorem ds_set (hN : X.N.Nodup) (hi : X.N[i]? = some x) (hx : Loc X.env.scope x) (he : DE X e te) (hs : swapsWith e (some (.Name x px)) pos.line X.env = pure false := by rfl) (hf : X.fn x = true ∨ X.env.scope.names.lookup x = some .local := by first | exact .inl rfl | exact .inr rfl | assumption) :
    DS X (.Assign [.Name x px] e pos) (dSet i te) := DS.mk fun H0 G0 => PS.imp (ps_set hN hi hx he.pe hs hf) dset_imp
theorem ds_setP (hN : X.N.Nodup) (hi : X.N[i]? = some x) (hx : Loc X.env.scope x) (he : DE X e te) (hs : swapsWith e (some (.Name x px)) pos.line X.env = pure false := by rfl) (hf : X.fn x = true ∨ X.env.scope.names.lookup x = some .local := by first | exact .inl rfl | exact .inr rfl | assumption) :
    DS X (.Assign [.Name x px] e pos) (dSetP i te) := DS.mk fun H0 G0 => PS.imp (ps_set hN hi hx he.pe hs hf) dsetP_imp
theorem ds_setF (hN : X.N.Nodup) (hi : X.N[i]? = some x) (hx : Loc X.env.scope x) (he : DE X e te) (hs : swapsWith e (some (.Name x px)) pos.line X.env = pure false := by rfl) (hf : X.fn x = true ∨ X.env.scope.names.lookup x = some .local := by first | exact .inl rfl | exact .inr rfl | assumption) :
    DS X (.Assign [.Name x px] e pos) (dSetF i te) := DS.mk fun H0 G0 => PS.imp (ps_set hN hi hx he.pe hs hf) dsetF_imp
theorem ds_setD (hN : X.N.Nodup) (hi : X.N[i]? = some x) (hx : Loc X.env.scope x) (he : DE X e te) (hs : swapsWith e (some (.Name x px)) pos.line X.env = pure false := by rfl) (hf : X.fn x = true ∨ X.env.scope.names.lookup x = some .local := by first | exact .inl rfl | exact .inr rfl | assumption) :
    DS X (.Assign [.Name x px] e pos) (dSetD i te) := DS.mk fun H0 G0 => PS.imp (ps_set hN hi hx he.pe hs hf) dsetD_imp
variable {tg iter elt : Expr} {ifs : List Expr} {scope : Scope} {spos : Pos} {ti : DTA} {g : Tg} {tc : DTT}
theorem ds_setLCP (hNd : X.N.Nodup) (hy : X.N[i]? = some x) (hly : Loc X.env.scope x) (N' : List Str) (fr : List (Option Nat)) (hc : X.calm = true) (hi : DI X tg iter ti)
    (hg : ∀ cl fp C s H, PG (blk X scope N' cl fp C s H) tg (g.v X.K)) (ht : ∀ cl fp C s H, DIfs (blk X scope N' cl fp C s H) ifs tc) (he : ∀ cl fp C s H, DE (blk X scope N' cl fp C s H) elt te)
    {sc0 : Scope} {N0 : List Str} (htg : tgOk fr g = true := by decide) (hsw : swapsWith (.ListComp elt [⟨tg, iter, ifs, 0⟩] scope pos) (some (.Name x px)) spos.line X.env = pure true := by rfl)
    (hsc : X.env.scope = sc0 := by rfl) (hN : X.N = N0 := by rfl) (hok : compScB sc0 N0 scope N' fr = true := by decide +kernel) (hs : ∀ x, foldedSetIterable iter X.env x = pure x := by intro _; rfl)
    (hf : X.fn x = true ∨ X.env.scope.names.lookup x = some .local := by first | exact .inl rfl | exact .inr rfl) :
    DS X (.Assign [.Name x px] (.ListComp elt [⟨tg, iter, ifs, 0⟩] scope pos) spos) (dSetP i (dLC ti fr g tc te)) := DS.mk fun H0 G0 =>
  PS.imp (ps_setLC (tc := cT X.K tc) (te := cE X.K te) hNd hy hly N' fr hc hi.pi hg (fun cl fp C s H => (ht cl fp C s H).pf) (fun cl fp C s H => (he cl fp C s H).pe) hsw hsc hN hok hs hf) fun Dn σ H h => lc_core htg σ H _ (dsetP_imp Dn σ H h)
def dAug (i : Nat) (te : DT) (f : Int → Int → Int) : DTS := fun E ρ => match dget ρ i with
  | some (.p (.int m)) => te (frz ρ) fun b => match b.val with
    | .int n => E.nx (dput ρ i (.p (.int (f m n))))
    | _ => False
  | _ => False
end
def dAsg (te : DT) (g : Tg) : DTS := fun E ρ => te ρ fun b => g.d b.val ρ E.nx
theorem EnvO.setO {K : PySem.W.Frag} {H0 G H : Hp} {σ : St} {ρ : DEnv} {i : Nat} {a : Addr} {ds ds' : List D} {vs : List V} (e : EnvO K H0 G H σ ρ) (h1 : dget ρ i = some (.o (.lst ds))) (h2 : σ[i]? = some (some (.ref a))) (r : Reps K G vs ds') : EnvO K H0 G (upd H a (.lst vs)) σ (dput ρ i (.o (.lst ds'))) := by
  obtain ⟨o, e⟩ := e
  have hlt := dget_lt h1
  obtain ⟨a', h3, h4, h4', h5⟩ := e.o i _ h1
  rw [h2] at h3
  cases h3
  refine ⟨o, by rw [dput_len]; exact e.len, fun j d q => ?_, fun j d q => ?_, fun j t dss q => ?_⟩
  · rcases dget_put q with ⟨rfl, _, q⟩ | ⟨hne, q⟩
    · cases q
    · exact e.p j d q
  · rcases dget_put q with ⟨rfl, _, q⟩ | ⟨hne, q⟩
    · cases q
      exact ⟨a, h2, h4, h4', h5.1, vs, upd_same, r⟩
    · obtain ⟨b, k1, k2, k2', k3⟩ := e.o j d q
      refine ⟨b, k1, k2, k2', k3.stay (Same.refl _) k3.1 fun o z => ?_⟩
      have : b ≠ a := by
        rintro rfl
        exact hne (h4'.symm.trans k2')
      rw [upd_ne this]
      exact z
  · rcases dget_put q with ⟨rfl, _, q⟩ | ⟨hne, q⟩
    · cases q
    · obtain ⟨b, k1, k2⟩ := e.n j t dss q
      refine ⟨b, k1, k2.stay (Same.refl _) fun x z1 z2 z3 z4 => ⟨z3, z2, fun o z => ?_⟩⟩
      have : x ≠ a := by
        rintro rfl
        exact hne (h4'.symm.trans z2)
      rw [upd_ne this]
      exact z
def dApp (i : Nat) (te : DT) : DTS := fun E ρ => match dget ρ i with
  | some (.o (.lst ds)) => te ρ fun b => ds.length < sizeLine ∧ E.nx (dput ρ i (.o (.lst (ds ++ [b.val]))))
  | _ => False
def dAppF (i : Nat) (te : DT) : DTS := fun E ρ => match dget ρ i with
  | some (.o (.lst ds)) => te (frz ρ) fun b => b.val.sc = true ∧ ds.length < sizeLine ∧ E.nx (dput ρ i (.o (.lst (ds ++ [b.val]))))
  | _ => False
theorem app_fin {K : PySem.W.Frag} {H0 G0 G H : Hp} {σ : St} {ρ : DEnv} {i : Nat} {a : Addr} {ds : List D} {vs : List V} {v : V} {d : D} {E : DEnds} {Dn : Ends} (eo : EndsOk K H0 G0 E Dn) (w : Wd H0 G0 H G) (e : EnvO K H0 G H σ ρ) (h1 : dget ρ i = some (.o (.lst ds))) (h2 : σ[i]? = some (some (.ref a))) (h3 : H a = some (.lst vs)) (r : Reps K G vs ds) (rv : Rep K G v d) (hz : ds.length < sizeLine) (p : E.nx (dput ρ i (.o (.lst (ds ++ [d]))))) :
    rAppend (.ref a) [v] H fun _ H3 => Dn.nx σ H3 := by
  obtain ⟨a', k1, k2, k3⟩ := e.o i _ h1
  rw [h2] at k1
  cases k1
  exact ⟨a, vs, v, rfl, rfl, h3, by rw [Paired.length r]; exact hz, eo.nx σ _ G _ (w.own k2 k3.1) (e.setO h1 h2 (paired_app r (.cons rv .nil))) p⟩
section
variable {i : Nat} {x : Str} {px apos cpos spos : Pos}
theorem ds_app (hN : X.N[i]? = some x) (hv : Vis X.env.scope x) (he : DE X e te) (hd : (x == ("__debug__" : Str)) = false := by decide) (hcd : (x == ("__classdict__" : Str)) = false := by decide)
    (hbase : attributeBase (.Name x px) "append" X.env (eval (.Name x px) X.env) = eval (.Name x px) X.env := by rfl)
    (hfew : ((backTo cpos (starEach (e :: []) X.env)).all (fun x => !x.1) && (backToKw cpos (keywordEach [] X.env)).all (fun x => x.1.isSome)
      && decide ((e :: []).length + ([] : List Keyword).length + (if ([] : List Keyword).isEmpty then 0 else 1) < 30)) = true := by rfl)
    (hline : (apos.endLine == cpos.line) = true := by rfl) (hs : starEach (e :: []) X.env = (false, eval e X.env) :: starEach [] X.env := by rfl) (hplain : (backTo cpos (starEach [] X.env)).any (·.1) = false := by rfl)
    (hsw : swapsWith (.Call (.Attribute (.Name x px) "append" apos) [e] [] cpos) none spos.line X.env = pure false := by rfl) :
    DS X (.Expr (.Call (.Attribute (.Name x px) "append" apos) [e] [] cpos) spos) (dApp i te) := DS.mk fun H0 G0 =>
  PS.imp (ps_expr (pe_bm PySem.F.plainAttrs_list PySem.F.slot_list_append PySem.F.type_list_append mt_append (pe_var hN hv hd hcd) (pa_cons he.pe pa_nil hs) hbase hfew hline hs hplain) hsw) fun Dn σ H ⟨E, G, ρ, eo, w, en, h⟩ => by
    unfold dApp at h
    split at h
    · rename_i ds q
      obtain ⟨a, h1, h2, h3, vs, h4, h5⟩ := en.o i _ q
      refine ⟨_, h1, .inl ⟨rfl, _, SqL.of h4⟩, G, ρ, _, w.gh, en.p, h, fun b v H' G' p' w' r' => ?_⟩
      obtain ⟨G2, w2, r2⟩ := r'.give w'
      exact app_fin eo (w.trans w2) (en.on w2) q h1 (w2.hh _ _ h4) (Reps.mono w2.gg h5) r2 p'.1 p'.2
    · exact h.elim
def dSetIx (i : Nat) (tk te : DT) : DTS := fun E ρ => te ρ fun b => match dget ρ i with
  | some (.o (.lst ds)) => tk (frz ρ) fun k => match k.val with
    | .int z => ∃ j, ixN ds.length z = some j ∧ E.nx (dput ρ i (.o (.lst (ds.set j b.val))))
    | _ => False
  | _ => False
def dSetIxF (i : Nat) (tk te : DT) : DTS := fun E ρ => te (frz ρ) fun b => b.val.sc = true ∧ match dget ρ i with
  | some (.o (.lst ds)) => tk (frz ρ) fun k => match k.val with
    | .int z => ∃ j, ixN ds.length z = some j ∧ E.nx (dput ρ i (.o (.lst (ds.set j b.val))))
    | _ => False
  | _ => False
theorem paired_set {α β : Type} {F : α → β → Prop} {v : α} {d : β} (h : F v d) : ∀ {l : List α} {r : List β} (j : Nat), Paired F l r → Paired F (l.set j v) (r.set j d)
  | _, _, _, .nil => .nil
  | _, _, 0, .cons _ t => .cons h t
  | _, _, j + 1, .cons k t => .cons k (paired_set h j t)
theorem setix_fin {K : PySem.W.Frag} {H0 G0 G H : Hp} {σ : St} {ρ : DEnv} {v : V} {d : D} {tk : DT} {E : DEnds} {Dn : Ends} (eo : EndsOk K H0 G0 E Dn) (w : Wd H0 G0 H G) (en : EnvO K H0 G H σ ρ) (rv : Rep K G v d) {ds : List D} (q : dget ρ i = some (.o (.lst ds)))
    (h : tk (frz ρ) fun k => match k.val with
    | .int z => ∃ j, ixN ds.length z = some j ∧ E.nx (dput ρ i (.o (.lst (ds.set j d))))
    | _ => False) : gSub (tVar i) (cE K tk) rSetL v σ H Dn.nx := by
  obtain ⟨a, h1, h2, h3, vs, h4, h5⟩ := en.o i _ q
  obtain ⟨G1, w1, sg, e1⟩ := en.freeze w
  refine ⟨_, h1, G1, frz ρ, _, w1.gh, e1.p, h, fun b v' H' G' p' w' r' => ?_⟩
  split at p'
  · rename_i z e
    obtain ⟨j, hj, p'⟩ := p'
    refine ⟨a, vs, z, j, rfl, bres_int w' r' e, w'.hh _ _ h4, by rw [Paired.length h5]; exact hj, ?_⟩
    exact eo.nx σ _ G _ ((w.back w').own h2 h3) ((en.back w'.hh).setO q h1 (paired_set rv j h5)) p'
  · exact p'.elim
def dAugIx (i : Nat) (tk te : DT) (f : Int → Int → Int) : DTS := fun E ρ => match dget ρ i with
  | some (.o (.lst ds)) => tk (frz ρ) fun k => match k.val with
    | .int z => ∃ j m, ixN ds.length z = some j ∧ ds[j]? = some (.int m) ∧ te (frz ρ) fun b => match b.val with
      | .int n => E.nx (dput ρ i (.o (.lst (ds.set j (.int (f m n))))))
      | _ => False
    | _ => False
  | _ => False
end
def forI (g : Tg) (tb : DTS) (E : DEnds) (xs : List D) (ρ : DEnv) : Prop := ∃ I : Nat → DEnv → Prop, I 0 ρ ∧
  (∀ i d ρ, xs[i]? = some d → I i ρ → g.d d ρ fun ρ' => tb { E with nx := I (i + 1), ct := I (i + 1), bk := E.nx } ρ') ∧ ∀ ρ, I xs.length ρ → E.nx ρ
def dFor (ti : DTA) (g : Tg) (tb : DTS) : DTS := fun E ρ => ti ρ fun xs => forI g tb E xs ρ
def dForD (ti : DTA) (g : Tg) (tb : DTS) : DTS := fun E ρ => ti (frz ρ) fun xs => forI g tb E xs (frz ρ)
theorem Wd.base {H0 G0 H9 G9 H G : Hp} (w9 : Wd H0 G0 H9 G9) (w : Wd H0 G9 H G) : Wd H0 G0 H G := ⟨w.hh, w9.gg.trans w.gg, w.gh, fun a h => by rw [w.old a h, w9.old a h]⟩
def cX (K : PySem.W.Frag) (t : DTS) : TS := fun Dn σ H => ∃ H0 G0, cS K H0 G0 t Dn σ H
theorem DSs.x {sts : List Stmt} (h : DSs X sts t) : PSs X sts (cX X.K t) := fun pins s σ H D I ⟨H0, G0, q⟩ => h.pss H0 G0 pins s σ H D I q
theorem for_core {K : PySem.W.Frag} {H0 G0 G H : Hp} {σ : St} {ρ : DEnv} {g : Tg} {tb : DTS} {J : It} {xs : List D} {E : DEnds} {Dn : Ends} (eo : EndsOk K H0 G0 E Dn) (w : Wd H0 G0 H G) (en : EnvO K H0 G H σ ρ) (it : ItD K G J xs) (h : forI g tb E xs ρ) :
    ∃ W : Nat → Nat → St → Hp → Prop, (∃ m, W 0 m σ H) ∧ ∀ i m σ H, W i m σ H →
      (J.stop i H ∧ Dn.nx σ H) ∨ (J.go i H ∧ ∃ N : St → Hp → Prop, (∀ σ' H', N σ' H' → ∃ m', m' < m ∧ W (i + 1) m' σ' H') ∧ ∀ x H', J.yld i H x H' → g.v K x σ H' fun σ2 H2 => cX K tb { Dn with nx := N, ct := N, bk := Dn.nx } σ2 H2) := by
  obtain ⟨I, i0, is, ie⟩ := h
  have w0 : Wd H0 G H G := ⟨w.hh, Same.refl _, w.gh, fun _ _ => rfl⟩
  refine ⟨fun i m σ H => m = xs.length - i ∧ i ≤ xs.length ∧ ∃ G' ρ', Wd H0 G H G' ∧ EnvO K H0 G' H σ ρ' ∧ I i ρ', ⟨xs.length, by simp, Nat.zero_le _, G, ρ, w0, en, i0⟩, ?_⟩
  rintro i m σ H ⟨rfl, hi, G', ρ', w', en', p⟩
  by_cases hlt : i < xs.length
  · have hx : xs[i]? = some xs[i] := List.getElem?_eq_getElem hlt
    refine .inr ⟨it.go i _ H G' hx w'.gg w'.gh, fun σ2 H2 => ∃ G2 ρ2, Wd H0 G H2 G2 ∧ EnvO K H0 G2 H2 σ2 ρ2 ∧ I (i + 1) ρ2, fun σ2 H2 ⟨G2, ρ2, z⟩ => ⟨xs.length - (i + 1), by omega, rfl, hlt, G2, ρ2, z⟩, fun x H2 y => ?_⟩
    obtain ⟨G2, w2, r2⟩ := it.yld i _ H G' x H2 hx w'.gg w'.gh y
    refine Tg.ok w2.gh (en'.on w2) r2 (is i _ ρ' hx p) fun σ3 ρ3 e3 p3 => ?_
    exact ⟨H0, G, { E with nx := I (i + 1), ct := I (i + 1), bk := E.nx }, G2, ρ3, ⟨fun σ4 H4 G4 ρ4 w4 e4 p4 => ⟨G4, ρ4, w4, e4, p4⟩, fun σ4 H4 G4 ρ4 w4 e4 p4 => eo.nx σ4 H4 G4 ρ4 (w.base w4) e4 p4, fun σ4 H4 G4 ρ4 w4 e4 p4 => ⟨G4, ρ4, w4, e4, p4⟩, fun b v H4 G4 w4 r4 p4 => eo.rt b v H4 G4 (w.base w4) r4 p4⟩, w'.trans w2, e3, p3⟩
  · have e : i = xs.length := by omega
    subst e
    exact .inl ⟨it.stop _ H G' rfl w'.gg w'.gh, eo.nx σ H G' ρ' (w.base w') en' (ie ρ' p)⟩
section
variable {tg iter : Expr} {body : List Stmt} {ti : DTA} {g : Tg} {tb : DTS}
theorem ds_for (hp : PassesOwn (model X.prog X.w) X.A X.env X.xe) (hc : X.calm = true) (hi : DI X tg iter ti) (hg : PG X tg (g.v X.K)) (hb : DSs X body tb) (hs : ∀ x, foldedSetIterable iter X.env x = pure x := by intro _; rfl) : DS X (.For tg iter body [] pos) (dFor ti g tb) := DS.mk fun H0 G0 =>
  PS.imp (ps_for hp hc hi.pi hg hb.x hs) fun Dn σ H ⟨E, G, ρ, eo, w, en, h⟩ => ⟨G, ρ, _, w.gh, en.p, h, fun xs J H' G' p' w' it => for_core eo (w.trans w') (en.on w') it p'⟩
def cIs (K : PySem.W.Frag) (t : DTA) : TI := fun σ H R => ∃ (G : Hp) (ρ : DEnv) (P : List D → Prop), Same G H ∧ RepE K G σ ρ ∧ t ρ P ∧ ∀ xs J H' G', P xs → Wd H G H' G' → (∀ G, ItD K G J xs) → R J H'
structure DIs (X : Cx) (tg e : Expr) (t : DTA) : Prop where
  pi : PI X tg e (cIs X.K t)
theorem DIs.of {e : Expr} {t : TI} {t' : DTA} (h : PI X tg e t) (i : ∀ σ H Q, cIs X.K t' σ H Q → t σ H Q) : DIs X tg e t' := ⟨PI.imp h i⟩
theorem DIs.di {e : Expr} {t : DTA} (h : DIs X tg e t) : DI X tg e t := DI.of h.pi fun σ H R ⟨G, ρ, P, s, re, h, k⟩ => ⟨G, ρ, P, s, re, h, fun xs J H' G' p' w' it => k xs J H' G' p' w' (it G')⟩
theorem dis_rng1 {a : Expr} {t : DTA} {p : Pos} (hg : Gl X "range") (hm : X.mg "range" = none) (ha : DA X [a] t) (hs : starEach [a] X.env = [(false, eval a X.env)] := by rfl) : DIs X tg (.Call (.Name "range" p) [a] [] pos) (diRng1 t) :=
  DIs.of (pi_range1 hg hm ha.pa hs) fun σ H R ⟨G, ρ, P, s, re, h, k⟩ => by
    refine ⟨G, ρ, _, s, re, h, fun ds vs H1 G1 p1 l1 w1 r1 => ?_⟩
    split at p1
    · obtain ⟨v, rfl, rv⟩ := reps1 r1
      cases rv
      exact ⟨_, rfl, p1.1.1, p1.1.2, k _ _ H1 G1 p1.2 w1 fun _ => itd_rng⟩
    · exact p1.elim
def dForS (ti : DTA) (g : Tg) (tb : DTS) : DTS := fun E ρ => ti (frz ρ) fun xs => forI g tb E xs ρ
end
end
def startD : Nat → List D → DEnv
  | 0, ds => ds.map fun d => some (.p d)
  | n + 1, [] => none :: startD n []
  | n + 1, d :: ds => some (.p d) :: startD n ds
theorem startD_ok {K : PySem.W.Frag} {G : Hp} : ∀ (n : Nat) {vs : List V} {ds : List D}, Reps K G vs ds → RepE K G (vs.map some ++ List.replicate (n - vs.length) none) (startD n ds) ∧ (vs.map some ++ List.replicate (n - vs.length) (none : Option V)).length = (startD n ds).length ∧ ∀ i d, dget (startD n ds) i ≠ some (.o d)
  | 0, _, _, .nil => ⟨fun i d h => (nomatch (show (none : Option B) = some (.p d) from h)), rfl, fun i d h => (nomatch (show (none : Option B) = some (.o d) from h))⟩
  | 0, _, _, .cons (a := v) (b := d) (l₁ := vs) (l₂ := ds) r rr => by
    obtain ⟨h1, h2, h3⟩ := startD_ok (K := K) (G := G) 0 rr
    have e0 : startD 0 (d :: ds) = some (.p d) :: startD 0 ds := rfl
    have e1 : (v :: vs).map some ++ List.replicate (0 - (v :: vs).length) (none : Option V) = some v :: (vs.map some ++ List.replicate (0 - vs.length) none) := by simp
    rw [e0, e1]
    refine ⟨fun i d' h => ?_, by rw [List.length_cons, List.length_cons, h2], fun i d' h => ?_⟩
    · cases i with
      | zero => cases h; exact ⟨v, rfl, r⟩
      | succ i => exact h1 i d' h
    · cases i with
      | zero => cases h
      | succ i => exact h3 i d' h
  | n + 1, _, _, .nil => by
    obtain ⟨h1, h2, h3⟩ := startD_ok (K := K) (G := G) n (vs := []) (ds := []) .nil
    have e1 : ([] : List V).map some ++ List.replicate (n + 1 - ([] : List V).length) (none : Option V) = none :: (([] : List V).map some ++ List.replicate (n - ([] : List V).length) none) := by simp [List.replicate_succ]
    rw [e1]
    refine ⟨fun i d' h => ?_, by show _ = (none :: startD n []).length; rw [List.length_cons, List.length_cons, h2], fun i d' h => ?_⟩
    · cases i with
      | zero => cases h
      | succ i => exact h1 i d' h
    · cases i with
      | zero => cases h
      | succ i => exact h3 i d' h
  | n + 1, _, _, .cons (a := v) (b := d) (l₁ := vs) (l₂ := ds) r rr => by
    obtain ⟨h1, h2, h3⟩ := startD_ok (K := K) (G := G) n rr
    have e1 : (v :: vs).map some ++ List.replicate (n + 1 - (v :: vs).length) (none : Option V) = some v :: (vs.map some ++ List.replicate (n - vs.length) none) := by simp
    rw [e1]
    refine ⟨fun i d' h => ?_, by show _ = (some (B.p d) :: startD n ds).length; rw [List.length_cons, List.length_cons, h2], fun i d' h => ?_⟩
    · cases i with
      | zero => cases h; exact ⟨v, rfl, r⟩
      | succ i => exact h1 i d' h
    · cases i with
      | zero => cases h
      | succ i => exact h3 i d' h
theorem startD_p : ∀ (n : Nat) (ds : List D) (i : Nat) (b : B), dget (startD n ds) i = some b → ∃ d, b = .p d
  | 0, [], _, _, h => by cases h
  | 0, d :: ds, 0, _, h => by cases h; exact ⟨_, rfl⟩
  | 0, d :: ds, i + 1, b, h => startD_p 0 ds i b h
  | n + 1, [], 0, _, h => by cases h
  | n + 1, [], i + 1, b, h => startD_p n [] i b h
  | n + 1, d :: ds, 0, _, h => by cases h; exact ⟨_, rfl⟩
  | n + 1, d :: ds, i + 1, b, h => startD_p n ds i b h
section
variable {P : Program} {w : World} {K : PySem.W.Frag} {mg : Str → Option Value} {base : Heap}
theorem okD {x qual : Str} {st : Stmt} {f : Addr} {fd : FuncData} {N ps : List Str} {k : Nat} {R : DR} (F : Fun K x qual st f fd) (S : FnScope N ps (defScope st)) (len : ∀ ds Q, R ds Q → ds.length = ps.length)
    (hbody : ∀ (cdv : Value) (A : Around) (outer : List Env) (s : Shared) (H : Hp) (E : XK), Room k (A.deeper (PyProof.Rows.envOfC qual (defScope st) s.heap.objs.size f cdv)) →
      ∃ t, DSs (cxOf CX0 P w K mg base N qual (defScope st) f cdv A outer s H E).nox (defBody st) t ∧ ∀ ds Q, R ds Q → t { nx := fun _ => Q (.p .non), rt := Q } (startD N.length ds)) : FnOk P w K mg base CX0 (k + 1) f fd ps (spD K R) := by
  refine F.ok S (fun vs H Q E ⟨ds, G, P, s, r, h, _⟩ => by rw [Paired.length r]; exact len ds P h) fun cdv A outer s H vs Q E hr ⟨ds, G, P, sg, r, h, k⟩ => ?_
  obtain ⟨t, h1, h2⟩ := hbody cdv A outer s H E hr
  obtain ⟨e1, e2, e3⟩ := startD_ok (K := K) N.length r
  refine ⟨_, h1.pss H G, _, G, _, ?_, Wd.refl sg, EnvO.only e2 e1 (startD_p _ _), h2 ds P h⟩
  exact ⟨fun σ H' G' ρ w' _ p => k _ _ H' G' p w' (show Rep K G' V.non D.non from .non), fun σ H' G' ρ w' _ p => p.elim, fun σ H' G' ρ w' _ p => p.elim, fun b v H' G' w' r' p => k b v H' G' p w' r'⟩
end
end DL
namespace DL
open PySem L2
section
variable {X : Cx} {tg e : Expr} {te : DT} {pos : Pos} {es : List Expr}
theorem de_gI {x : Str} {i : Int} (hg : Gl X x) (h : ∃ t, X.mg x = some (.int i t)) (hd : (x == ("__debug__" : Str)) = false := by decide) : DE X (.Name x pos) (dC (.int i)) := de_c (pe_gI hg h hd) fun _ => .int i
theorem de_gS {x y : Str} (hg : Gl X x) (h : ∃ t, X.mg x = some (.str y t)) (hd : (x == ("__debug__" : Str)) = false := by decide) : DE X (.Name x pos) (dC (.str y)) := de_c (pe_gS hg h hd) fun _ => .str y
def enumFrom : Nat → List D → List D
  | _, [] => []
  | k, x :: xs => .tup [.int (k : Nat), x] :: enumFrom (k + 1) xs
def di_enumerateT (t : DTA) : DTA := fun ρ P => t ρ fun ds => match ds with
  | [.lst xs] => P (enumFrom 0 xs)
  | _ => False
def zipD (xs ys : List D) : List D := (xs.zip ys).map fun p => .tup [p.1, p.2]
def di_zipT (t : DTA) : DTA := fun ρ P => t ρ fun ds => match ds with
  | [.lst xs, .lst ys] => P (zipD xs ys)
  | _ => False
def di_reversedT (t : DTA) : DTA := fun ρ P => t ρ fun ds => match ds with
  | [.lst xs] => P xs.reverse
  | _ => False
def downTo (a : Int) (n : Nat) : List D := (List.range n).map fun i => D.int (a + (i : Nat) * (-1))
def diRevr1 (t : DTA) : DTA := fun ρ P => t ρ fun ds => match ds with
  | [.int j] => (0 ≤ j ∧ j < 2 ^ 62) ∧ P (downTo (j - 1) j.toNat)
  | _ => False
end
end DL
namespace DL
open PySem L2
def spLaw (K : PySem.W.Frag) : Sp := fun vs H Q _ => ∃ (a : Addr) (ns : List Int), vs = [.ref a] ∧ SqL K H a (ns.map V.int) ∧ ns.length ≤ 63 ∧ ∀ H', Q (.bl true) H'
def r_law : DR := fun ds P => ∃ ns : List Int, ds = [.scr ns] ∧ ns.length ≤ 63 ∧ P (.p (.bl true))
theorem law_of {P : Program} {w : World} {K : PySem.W.Frag} {mg : Str → Option Value} {base : Heap} {k : Nat} {f : Addr} {fd : FuncData} {ps : List Str} (h : FnOk P w K mg base CX0 k f fd ps (spD K r_law)) : FnOk P w K mg base CX0 k f fd ps (spLaw K) :=
  h.imp fun vs H Q E ⟨a, ns, e, hs, hl, q⟩ => ⟨[.scr ns], H, fun b => b = .p (.bl true), Same.refl _, by rw [e]; exact .cons (.scr hs) .nil, ⟨ns, rfl, hl, rfl⟩, fun b v H' G' hb w r => by
    subst hb
    have : v = .bl true := Rep.bl_inv r
    rw [this]
    exact q H'⟩
theorem putN_mono {P P' : DEnv → Prop} (i : ∀ ρ, P ρ → P' ρ) : ∀ {is : List Nat} {ds : List D} {ρ : DEnv}, putN is ds ρ P → putN is ds ρ P'
  | [], [], ρ, h => i ρ h
  | _ :: is, _ :: ds, _, h => putN_mono i (is := is) (ds := ds) h
  | [], _ :: _, _, h => h.elim
  | _ :: _, [], _, h => h.elim
theorem tgd_mono {g : Tg} {d : D} {ρ : DEnv} {P P' : DEnv → Prop} (h : g.d d ρ P) (i : ∀ ρ, P ρ → P' ρ) : g.d d ρ P' := by
  cases g with
  | n j => exact i _ h
  | t is =>
    cases d with
    | tup ds => exact putN_mono i h
    | non => exact h
    | bl _ => exact h
    | int _ => exact h
    | str _ => exact h
    | lst ds => exact putN_mono i h
    | scr _ => exact h
    | dct _ => exact h
theorem paired_fun {α β : Type} {f : α → β} : ∀ {xs : List α} {os : List β}, Paired (fun x o => o = f x) xs os → os = xs.map f
  | _, _, .nil => rfl
  | _, _, .cons h t => by rw [h, paired_fun t]; rfl
theorem filterMap_id {α β : Type} (f : α → Option β) : ∀ xs : List α, (xs.map f).filterMap id = xs.filterMap f
  | [] => rfl
  | x :: xs => by
    rw [List.map_cons, List.filterMap_cons, List.filterMap_cons, filterMap_id f xs]
    rfl
theorem filterMap_some {α β : Type} (f : α → β) : ∀ xs : List α, xs.filterMap (fun x => some (f x)) = xs.map f
  | [] => rfl
  | x :: xs => by rw [List.filterMap_cons, filterMap_some f xs]; rfl
theorem lc_fun {xs : List D} {g : Tg} {tc : DTT} {te : DT} {ρ : DEnv} {Q : B → Prop} (f : D → Option D) (hz : xs.length ≤ 1000000) (h : ∀ x ∈ xs, g.d x ρ fun ρ' => tc ρ' fun c => (c = true → te ρ' fun b => some b.val = f x) ∧ (c = false → none = f x)) (q : Q (.o (.lst (xs.filterMap f)))) :
    lcI xs g tc te ρ Q := by
  refine ⟨by have : sizeLine = 16777216 := sizeLine_eq; omega, fun x o => o = f x, h, fun os ho => ?_⟩
  rw [paired_fun ho, filterMap_id]
  exact q
theorem lc_map {xs : List D} {g : Tg} {te : DT} {ρ : DEnv} {Q : B → Prop} (f : D → D) (hz : xs.length ≤ 1000000) (h : ∀ x ∈ xs, g.d x ρ fun ρ' => te ρ' fun b => some b.val = some (f x)) (q : Q (.o (.lst (xs.map f)))) :
    lcI xs g dTrue te ρ Q :=
  lc_fun (fun x => some (f x)) hz (fun x hx => tgd_mono (h x hx) fun ρ' z => ⟨fun _ => z, fun e => nomatch e⟩) (by rw [filterMap_some]; exact q)
theorem for_nat {g : Tg} {tb : DTS} {E : DEnds} {xs : List D} {ρ : DEnv} (I : Nat → DEnv → Prop) (h0 : I 0 ρ) (hs : ∀ i x ρ, xs[i]? = some x → I i ρ → g.d x ρ fun ρ' => tb { E with nx := I (i + 1), ct := I (i + 1), bk := E.nx } ρ') (hd : ∀ ρ, I xs.length ρ → E.nx ρ) : forI g tb E xs ρ := ⟨I, h0, hs, hd⟩
end DL
namespace WS
open PySem L2
abbrev codes (x : Str) : List Nat := x.cps.toList
theorem codes_app (x y : Str) : codes (x ++ y) = codes x ++ codes y := by
  show (x.cps ++ y.cps).toList = _
  rw [Array.toList_append]
theorem ext_codes {x y : Str} (h : codes x = codes y) : x = y := Str.ext' (Array.toList_inj.mp h)
theorem len_codes (x : Str) : x.length = (codes x).length := by
  show x.cps.size = x.cps.toList.length
  rw [Array.length_toList]
theorem cut_inj {c : Nat} : ∀ {x y A B : List Nat}, c ∉ x → c ∉ y → x ++ c :: A = y ++ c :: B → x = y ∧ A = B
  | [], [], _, _, _, _, h => ⟨rfl, by simpa using h⟩
  | [], b :: y, _, _, _, hy, h => by
    have e : c = b := by
      have := congrArg List.head? h
      simpa using this
    exact absurd (by rw [e]; exact List.mem_cons_self) hy
  | a :: x, [], _, _, hx, _, h => by
    have e : a = c := by
      have := congrArg List.head? h
      simpa using this
    exact absurd (by rw [← e]; exact List.mem_cons_self) hx
  | a :: x, b :: y, A, B, hx, hy, h => by
    have h' : a = b ∧ x ++ c :: A = y ++ c :: B := by simpa using h
    obtain ⟨e1, e2⟩ := cut_inj (fun m => hx (List.mem_cons_of_mem _ m)) (fun m => hy (List.mem_cons_of_mem _ m)) h'.2
    exact ⟨by rw [h'.1, e1], e2⟩
theorem join_cons (sep x y : Str) (r : List Str) : Str.join sep (x :: y :: r) = x ++ sep ++ Str.join sep (y :: r) := rfl
theorem codes_join (c : Nat) (x y : Str) (r : List Str) : codes (Str.join ⟨#[c]⟩ (x :: y :: r)) = codes x ++ c :: codes (Str.join ⟨#[c]⟩ (y :: r)) := by
  rw [join_cons, codes_app, codes_app, List.append_assoc]
  rfl
theorem join_inj {c : Nat} : ∀ {ps qs : List Str}, ps ≠ [] → qs ≠ [] → (∀ p ∈ ps, c ∉ codes p) → (∀ p ∈ qs, c ∉ codes p) → codes (Str.join ⟨#[c]⟩ ps) = codes (Str.join ⟨#[c]⟩ qs) → ps = qs
  | [], _, h, _, _, _, _ => absurd rfl h
  | _, [], _, h, _, _, _ => absurd rfl h
  | [x], [y], _, _, _, _, h => by rw [ext_codes (show codes x = codes y from h)]
  | [x], y :: z :: r, _, _, hx, _, h => by
    rw [codes_join] at h
    have h' : codes x = codes y ++ c :: _ := h
    exact absurd (by rw [h']; simp) (hx x List.mem_cons_self)
  | x :: w :: r, [y], _, _, _, hy, h => by
    rw [codes_join] at h
    have h' : codes x ++ c :: _ = codes y := h
    exact absurd (by rw [← h']; simp) (hy y List.mem_cons_self)
  | x :: w :: r, y :: z :: r', _, _, hx, hy, h => by
    rw [codes_join, codes_join] at h
    obtain ⟨e1, e2⟩ := cut_inj (hx x List.mem_cons_self) (hy y List.mem_cons_self) h
    have ih := join_inj (ps := w :: r) (qs := z :: r') (by simp) (by simp) (fun p m => hx p (List.mem_cons_of_mem _ m)) (fun p m => hy p (List.mem_cons_of_mem _ m)) e2
    rw [ext_codes e1, ih]
theorem split_ne (x y : Str) : Txt.split x y ≠ [] := by
  unfold Txt.split
  split
  · simp
  · split
    · simp
    · rw [StrLaws.partsBetween_eq]
      obtain ⟨p, r, e⟩ := StrLaws.partsFrom_ne x y.length 0 (Builtin.Str.occurrences x y 0 x.length (x.length + 1))
      rw [e]
      simp
theorem split_join {c : Nat} {ps : List Str} (hne : ps ≠ []) (hf : ∀ p ∈ ps, c ∉ codes p) : Txt.split (Str.join ⟨#[c]⟩ ps) ⟨#[c]⟩ = ps :=
  join_inj (split_ne _ _) hne (StrLaws.split_free _ c) hf (by rw [StrLaws.join_split])
def num (i : Int) : Str := Str.ofString (toString i)
theorem num_free {k : Nat} (hk : k ≠ 45 ∧ (k < 48 ∨ 57 < k)) (n : Int) : k ∉ codes (num n) := PyProof.Rows.int_text_free' k hk n
theorem num_len {n : Int} (h0 : 0 ≤ n) (h1 : n < 10 ^ 10) : (num n).length ≤ 10 := PySem.W.KT.len_num h0 h1
theorem num_log {n : Int} (h0 : 0 ≤ n) (h1 : n < 10 ^ 10) : n.natAbs.log2 < 1920 := by
  have h2 : n.natAbs < 2 ^ 40 := by omega
  by_cases hz : n.natAbs = 0
  · rw [hz]; decide
  · exact Nat.lt_trans ((Nat.log2_lt hz).mpr h2) (by decide)
theorem num_codes (m : Nat) : codes (num (m : Int)) = (Nat.toDigits 10 m).map Char.toNat := PySem.W.KIN.signs_num m
theorem num_digits {n : Int} (h0 : 0 ≤ n) : ∀ c ∈ codes (num n), 48 ≤ c ∧ c ≤ 57 := by
  obtain ⟨m, rfl⟩ := Int.eq_ofNat_of_zero_le h0
  intro c hc
  rw [num_codes m] at hc
  obtain ⟨ch, hch, e⟩ := List.mem_map.mp hc
  have r := PyProof.Rows.digit_range (Nat.isDigit_of_mem_toDigits (by decide) (by decide) hch)
  rw [← e]
  exact r
theorem num_ne {n : Int} (h0 : 0 ≤ n) : codes (num n) ≠ [] := by
  obtain ⟨m, rfl⟩ := Int.eq_ofNat_of_zero_le h0
  rw [num_codes m]
  intro e
  have h := List.map_eq_nil_iff.mp e
  have h2 : 0 < (Nat.toDigits 10 m).length := Nat.length_toDigits_pos
  rw [h] at h2
  exact absurd h2 (by decide)
theorem digits_head : ∀ m : Nat, 0 < m → (Nat.toDigits 10 m).head? ≠ some '0' := by
  intro m
  induction m using Nat.strongRecOn with
  | _ m ih =>
    intro hm
    by_cases h : m < 10
    · rw [Nat.toDigits_of_lt_base h]
      have : m = 1 ∨ m = 2 ∨ m = 3 ∨ m = 4 ∨ m = 5 ∨ m = 6 ∨ m = 7 ∨ m = 8 ∨ m = 9 := by omega
      rcases this with e | e | e | e | e | e | e | e | e <;> subst e <;> decide
    · have hm' : m % 10 < 10 := Nat.mod_lt m (by decide)
      have t : Nat.toDigits 10 (m / 10) ++ Nat.toDigits 10 (m % 10) = Nat.toDigits 10 (10 * (m / 10) + m % 10) := Nat.toDigits_append_toDigits (by decide) (by omega) hm'
      rw [Nat.div_add_mod] at t
      rw [← t, List.head?_append]
      have ih' := ih (m / 10) (by omega) (by omega)
      have h2 : 0 < (Nat.toDigits 10 (m / 10)).length := Nat.length_toDigits_pos
      cases e : Nat.toDigits 10 (m / 10) with
      | nil => rw [e] at h2; exact absurd h2 (by decide)
      | cons a r =>
        rw [e] at ih'
        simpa using ih'
def figs : Str := Str.ofString "0123456789"
theorem figs_mem {c : Nat} : (c ∈ codes figs) ↔ (48 ≤ c ∧ c ≤ 57) := by
  have e : codes figs = [48, 49, 50, 51, 52, 53, 54, 55, 56, 57] := by decide +kernel
  rw [e]
  simp only [List.mem_cons, List.not_mem_nil, or_false]
  omega
def isNum (w : Str) : Bool := decide (1 ≤ w.length) && decide (w.length ≤ 10) && !(decide ((codes w).head? = some 48) && !decide (w = num 0)) && (codes w).all (fun c => decide (c ∈ codes figs))
theorem isNum_num {n : Int} (h0 : 0 ≤ n) (h1 : n < 10 ^ 10) : isNum (num n) = true := by
  have hl := num_len h0 h1
  have hne := num_ne h0
  have hd := num_digits h0
  have h2 : 1 ≤ (num n).length := by
    rw [len_codes]
    cases e : codes (num n) with
    | nil => exact absurd e hne
    | cons a r => simp
  have h3 : (!(decide ((codes (num n)).head? = some 48) && !decide (num n = num 0))) = true := by
    by_cases hz : n = 0
    · subst hz; simp
    · have : (codes (num n)).head? ≠ some 48 := by
        obtain ⟨m, rfl⟩ := Int.eq_ofNat_of_zero_le h0
        rw [num_codes m, List.head?_map]
        have hh := digits_head m (by omega)
        cases e : (Nat.toDigits 10 m).head? with
        | none => simp
        | some ch =>
          rw [e] at hh
          intro z
          have z' : ch.toNat = 48 := by simpa using z
          apply hh
          have : ch = '0' := by
            apply Char.ext
            apply UInt32.toNat_inj.mp
            exact z'
          rw [this]
      simp [this]
  unfold isNum
  rw [decide_eq_true h2, decide_eq_true hl, h3]
  simp only [Bool.true_and, Bool.and_true]
  rw [List.all_eq_true]
  intro c hc
  exact decide_eq_true (figs_mem.mpr (hd c hc))
theorem num_int {n : Int} (h0 : 0 ≤ n) (h1 : n < 10 ^ 10) : PySem.intText? (num n) = some n := PySem.W.KIN.num_reads h0 h1
def sp : Str := ⟨#[32]⟩
def lf : Str := ⟨#[10]⟩
def hotW : Str := Str.ofString "hot"
def coldW : Str := Str.ofString "cold"
def gapW : Str := Str.ofString "gap"
def rowWords (k : Str) (x : S3) : List Str := [k, num x.1, num x.2.1, num x.2.2]
def row (k : Str) (x : S3) : Str := Str.join sp (rowWords k x)
structure NumOk (x : S3) : Prop where
  a0 : 0 ≤ x.1
  a1 : x.1 < 10 ^ 10
  b0 : 0 ≤ x.2.1
  b1 : x.2.1 < 10 ^ 10
  c0 : 0 ≤ x.2.2
  c1 : x.2.2 < 10 ^ 10
theorem len_app (x y : Str) : (x ++ y).length = x.length + y.length := Str.length_append x y
theorem starts0 (w : Str) : (decide (0 + (Str.ofString "0").length ≤ w.length) && Builtin.Str.subAt w (Str.ofString "0") 0) = decide ((codes w).head? = some 48) := by
  have e : Str.ofString "0" = ⟨#[48]⟩ := by decide +kernel
  rw [e, List.head?_eq_getElem?]
  have h := StrLaws.subAt_one w 48 0
  rw [Bool.eq_iff_iff, Bool.and_eq_true, decide_eq_true_iff, decide_eq_true_iff]
  exact h
theorem in_figs (c : Nat) : (!(Builtin.Str.occurrences figs ⟨#[c]⟩ 0 figs.length 1).isEmpty) = decide (c ∈ codes figs) := StrLaws.found_one figs c
end WS
namespace WS
open PySem
def valC (l : List Nat) : Nat := l.foldl (fun a c => 10 * a + (c - 48)) 0
theorem valC_snoc (l : List Nat) (c : Nat) : valC (l ++ [c]) = 10 * valC l + (c - 48) := by
  unfold valC
  rw [List.foldl_append]
  rfl
theorem dig_code {d : Nat} (h : d < 10) : (Nat.toDigits 10 d).map Char.toNat = [d + 48] := by
  rw [Nat.toDigits_of_lt_base h]
  have : d = 0 ∨ d = 1 ∨ d = 2 ∨ d = 3 ∨ d = 4 ∨ d = 5 ∨ d = 6 ∨ d = 7 ∨ d = 8 ∨ d = 9 := by omega
  rcases this with e | e | e | e | e | e | e | e | e | e <;> subst e <;> decide
theorem val_digits : ∀ (n : Nat) (l : List Nat), l.length = n → l ≠ [] → (∀ c ∈ l, 48 ≤ c ∧ c ≤ 57) → l.head? ≠ some 48 → 0 < valC l ∧ (Nat.toDigits 10 (valC l)).map Char.toNat = l := by
  intro n
  induction n with
  | zero => intro l h hne; exact absurd (List.length_eq_zero_iff.mp h) hne
  | succ n ih =>
    intro l hl hne hd hh
    obtain ⟨l', c, rfl⟩ : ∃ l' c, l = l' ++ [c] := ⟨l.dropLast, l.getLast hne, (List.dropLast_concat_getLast hne).symm⟩
    have hc := hd c (by simp)
    rw [valC_snoc]
    by_cases h0 : l' = []
    · subst h0
      have hc' : c ≠ 48 := fun z => hh (by rw [z]; rfl)
      have e : 10 * valC [] + (c - 48) = c - 48 := by unfold valC; simp
      rw [e, dig_code (by omega)]
      exact ⟨by omega, by simp; omega⟩
    · have hh' : l'.head? ≠ some 48 := by
        cases l' with
        | nil => exact absurd rfl h0
        | cons a r => exact hh
      obtain ⟨h1, h2⟩ := ih l' (by rw [List.length_append, List.length_singleton] at hl; omega) h0 (fun c hc => hd c (List.mem_append_left _ hc)) hh'
      refine ⟨by omega, ?_⟩
      rw [← Nat.toDigits_append_toDigits (by decide) h1 (show c - 48 < 10 by omega), List.map_append, h2, dig_code (by omega)]
      congr 2
      omega
theorem valC_lt : ∀ (n : Nat) (l : List Nat), l.length = n → (∀ c ∈ l, 48 ≤ c ∧ c ≤ 57) → valC l < 10 ^ n := by
  intro n
  induction n with
  | zero => intro l h _; rw [List.length_eq_zero_iff.mp h]; decide
  | succ n ih =>
    intro l hl hd
    have hne : l ≠ [] := fun z => by rw [z] at hl; cases hl
    obtain ⟨l', c, rfl⟩ : ∃ l' c, l = l' ++ [c] := ⟨l.dropLast, l.getLast hne, (List.dropLast_concat_getLast hne).symm⟩
    have hc := hd c (by simp)
    have := ih l' (by rw [List.length_append, List.length_singleton] at hl; omega) fun c hc => hd c (List.mem_append_left _ hc)
    rw [valC_snoc, Nat.pow_succ]
    omega
theorem isNum_is {w : Str} (h : isNum w = true) : w = num (valC (codes w) : Int) ∧ (valC (codes w) : Int) < 10 ^ 10 := by
  unfold isNum at h
  simp only [Bool.and_eq_true, decide_eq_true_eq, Bool.not_eq_true', List.all_eq_true] at h
  obtain ⟨⟨⟨h1, h2⟩, h3⟩, h4⟩ := h
  have hd : ∀ c ∈ codes w, 48 ≤ c ∧ c ≤ 57 := fun c hc => figs_mem.mp (h4 c hc)
  have hl := len_codes w
  have lt := valC_lt _ (codes w) rfl hd
  have lt2 : valC (codes w) < 10 ^ 10 := Nat.lt_of_lt_of_le lt (Nat.pow_le_pow_right (by decide) (by omega))
  refine ⟨?_, by exact_mod_cast lt2⟩
  by_cases hz : (codes w).head? = some 48
  · have hw : w = num 0 := by
      rw [decide_eq_true hz, Bool.true_and, Bool.not_eq_false'] at h3
      exact of_decide_eq_true h3
    subst hw
    decide +kernel
  · refine ext_codes ?_
    rw [num_codes]
    exact (val_digits _ (codes w) rfl (fun z => by rw [z] at hl; simp at hl; omega) hd hz).2.symm
end WS
namespace WS
end WS
namespace WS
def sfx (xs : List Int) (L : Nat) : Int := (xs.drop L).sum
structure Drawn (g : Int) (hs cs : List S3) (gv wt : List Int) : Prop where
  lg : gv.length = 251
  lw : wt.length = 251
  ng : ∀ x ∈ gv, 0 ≤ x
  nw : ∀ x ∈ wt, 0 ≤ x
  lack : ∀ L : Nat, L ≤ 251 → lackF g hs cs (L : Nat) ≤ sfx wt L - sfx gv L
  all : sfx wt 0 - sfx gv 0 = lackF g hs cs 0
end WS
namespace WS
end WS
namespace DL
open PySem L2
theorem cut_to {α : Type} (l : List α) (k : Nat) : cutL l none (some ((k : Nat) : Int)) = l.take k := by
  unfold cutL
  rw [HT.sIx_none, HT.sIx_nat, List.drop_zero, Nat.sub_zero, ← List.take_take, List.take_length]
theorem cut_from {α : Type} (l : List α) (k : Nat) : cutL l (some ((k : Nat) : Int)) none = l.drop k := by
  unfold cutL
  rw [HT.sIx_none, HT.sIx_nat]
  by_cases h : k ≤ l.length
  · rw [Nat.min_eq_left h]
    exact List.take_of_length_le (by rw [List.length_drop]; exact Nat.le_refl _)
  · rw [Nat.min_eq_right (by omega), List.drop_eq_nil_of_le (Nat.le_refl _), List.drop_eq_nil_of_le (by omega), List.take_nil]
theorem lc_mapE {α : Type} {xs : List α} {e : α → D} {g : Tg} {te : DT} {ρ : DEnv} {Q : B → Prop} (F : D → D) (f : α → D) (hF : ∀ x ∈ xs, F (e x) = f x) (hz : xs.length ≤ 1000000) (h : ∀ x ∈ xs, g.d (e x) ρ fun ρ' => te ρ' fun b => some b.val = some (f x)) (q : Q (.o (.lst (xs.map f)))) :
    lcI (xs.map e) g dTrue te ρ Q := by
  refine lc_map F (by rw [List.length_map]; exact hz) (fun d hd => ?_) ?_
  · obtain ⟨x, hx, rfl⟩ := List.mem_map.mp hd
    rw [hF x hx]
    exact h x hx
  · rw [List.map_map, show xs.map (F ∘ e) = xs.map f from List.map_congr_left hF]
    exact q
theorem filterMap_congr' {α β : Type} {f g : α → Option β} : ∀ {xs : List α}, (∀ x ∈ xs, f x = g x) → xs.filterMap f = xs.filterMap g
  | [], _ => rfl
  | x :: xs, h => by rw [List.filterMap_cons, List.filterMap_cons, h x List.mem_cons_self, filterMap_congr' fun y hy => h y (List.mem_cons_of_mem _ hy)]
theorem lc_funE {α : Type} {xs : List α} {e : α → D} {g : Tg} {tc : DTT} {te : DT} {ρ : DEnv} {Q : B → Prop} (F : D → Option D) (f : α → Option D) (hF : ∀ x ∈ xs, F (e x) = f x) (hz : xs.length ≤ 1000000) (h : ∀ x ∈ xs, g.d (e x) ρ fun ρ' => tc ρ' fun c => (c = true → te ρ' fun b => some b.val = f x) ∧ (c = false → none = f x)) (q : Q (.o (.lst (xs.filterMap f)))) :
    lcI (xs.map e) g tc te ρ Q := by
  refine lc_fun F (by rw [List.length_map]; exact hz) (fun d hd => ?_) ?_
  · obtain ⟨x, hx, rfl⟩ := List.mem_map.mp hd
    rw [hF x hx]
    exact h x hx
  · rw [List.filterMap_map, show xs.filterMap (F ∘ e) = xs.filterMap f from filterMap_congr' hF]
    exact q
theorem dIx_lst (xs : List D) (i : Int) (Q : B → Prop) : dIx (.lst xs) (.int i) Q = ∃ d, atI xs i = some d ∧ Q (.p d) := rfl
theorem dIx_tup (xs : List D) (i : Int) (Q : B → Prop) : dIx (.tup xs) (.int i) Q = ∃ d, atI xs i = some d ∧ Q (.p d) := rfl
theorem dIx_scr (ns : List Int) (i : Int) (Q : B → Prop) : dIx (.scr ns) (.int i) Q = ∃ n, atI ns i = some n ∧ Q (.p (.int n)) := rfl
theorem dAdd_int (i j : Int) (Q : B → Prop) : dAdd (.int i) (.int j) Q = Q (.p (.int (i + j))) := rfl
theorem dAdd_lst (xs ys : List D) (Q : B → Prop) : dAdd (.lst xs) (.lst ys) Q = (xs.length + ys.length ≤ sizeLine ∧ Q (.o (.lst (xs ++ ys)))) := rfl
theorem dAdd_str (x y : Str) (Q : B → Prop) : dAdd (.str x) (.str y) Q = (x.length + y.length ≤ sizeLine ∧ Q (.p (.str (x ++ y)))) := rfl
theorem dAdd_tup (xs ys : List D) (Q : B → Prop) : dAdd (.tup xs) (.tup ys) Q = (xs ≠ [] ∧ ys ≠ [] ∧ xs.length + ys.length ≤ sizeLine ∧ Q (.p (.tup (xs ++ ys)))) := rfl
theorem dMul_int (i j : Int) (Q : B → Prop) : dMul (.int i) (.int j) Q = (CMul i j ∧ Q (.p (.int (i * j)))) := rfl
theorem dEqS_int (i j : Int) (Q : B → Prop) : dEqS (.int i) (.int j) Q = Q (.p (.bl (decide (i = j)))) := rfl
theorem dEqS_str (i j : Str) (Q : B → Prop) : dEqS (.str i) (.str j) Q = Q (.p (.bl (decide (i = j)))) := rfl
theorem dEqS_bl (i j : Bool) (Q : B → Prop) : dEqS (.bl i) (.bl j) Q = Q (.p (.bl (decide (i = j)))) := rfl
theorem dNeS_int (i j : Int) (Q : B → Prop) : dNeS (.int i) (.int j) Q = Q (.p (.bl (!decide (i = j)))) := rfl
theorem dNeS_str (i j : Str) (Q : B → Prop) : dNeS (.str i) (.str j) Q = Q (.p (.bl (!decide (i = j)))) := rfl
theorem dNeS_bl (i j : Bool) (Q : B → Prop) : dNeS (.bl i) (.bl j) Q = Q (.p (.bl (!decide (i = j)))) := rfl
theorem dLen_lst (xs : List D) (P : B → Prop) : dLen [.lst xs] P = P (.p (.int xs.length)) := rfl
theorem dLen_tup (xs : List D) (P : B → Prop) : dLen [.tup xs] P = P (.p (.int xs.length)) := rfl
theorem dLen_scr (xs : List Int) (P : B → Prop) : dLen [.scr xs] P = P (.p (.int xs.length)) := rfl
def itL (d : D) (P : List D → Prop) : Prop := match d with
  | .lst xs => P xs
  | .scr ns => P (ns.map D.int)
  | _ => False
theorem diList_is (te : DT) (ρ : DEnv) (P : List D → Prop) : diList te ρ P = te ρ fun b => itL b.val P := rfl
theorem itL_lst (xs : List D) (P : List D → Prop) : itL (.lst xs) P = P xs := rfl
theorem itL_scr (xs : List Int) (P : List D → Prop) : itL (.scr xs) P = P (xs.map D.int) := rfl
def slD (d : D) (lo hi : Option Int) (Q : B → Prop) : Prop := match d with
  | .lst xs => Q (.o (.lst (cutL xs lo hi)))
  | .scr ns => Q (.o (.lst ((cutL ns lo hi).map D.int)))
  | .tup xs => ¬ (HT.sIx xs.length 0 lo = 0 ∧ HT.sIx xs.length xs.length hi = xs.length) ∧ Q (.p (.tup (cutL xs lo hi)))
  | _ => False
theorem dSl_is (te : DT) (tl th : DTO) (ρ : DEnv) (Q : B → Prop) : dSl te tl th ρ Q = te ρ fun b => tl ρ fun lo => th ρ fun hi => slD b.val lo hi Q := rfl
theorem slD_lst (xs : List D) (lo hi : Option Int) (Q : B → Prop) : slD (.lst xs) lo hi Q = Q (.o (.lst (cutL xs lo hi))) := rfl
theorem slD_scr (xs : List Int) (lo hi : Option Int) (Q : B → Prop) : slD (.scr xs) lo hi Q = Q (.o (.lst ((cutL xs lo hi).map D.int))) := rfl
theorem slD_tup (xs : List D) (lo hi : Option Int) (Q : B → Prop) : slD (.tup xs) lo hi Q = (¬ (HT.sIx xs.length 0 lo = 0 ∧ HT.sIx xs.length xs.length hi = xs.length) ∧ Q (.p (.tup (cutL xs lo hi)))) := rfl
def slSD (d : D) (lo hi st : Option Int) (Q : B → Prop) : Prop := match d with
  | .lst xs => Q (.o (.lst (stepV xs lo hi st)))
  | .scr ns => Q (.o (.lst ((stepV ns lo hi st).map D.int)))
  | _ => False
theorem dSlS_is (te : DT) (tl th ts : DTO) (ρ : DEnv) (Q : B → Prop) : dSlS te tl th ts ρ Q = te ρ fun b => tl ρ fun lo => th ρ fun hi => ts ρ fun st => st ≠ some 0 ∧ slSD b.val lo hi st Q := rfl
theorem slSD_lst (xs : List D) (lo hi st : Option Int) (Q : B → Prop) : slSD (.lst xs) lo hi st Q = Q (.o (.lst (stepV xs lo hi st))) := rfl
theorem slSD_scr (xs : List Int) (lo hi st : Option Int) (Q : B → Prop) : slSD (.scr xs) lo hi st Q = Q (.o (.lst ((stepV xs lo hi st).map D.int))) := rfl
theorem dCopy_lst (xs : List D) (P : B → Prop) : dCopy [.lst xs] P = P (.o (.lst xs)) := rfl
theorem dCopy_tup (xs : List D) (P : B → Prop) : dCopy [.tup xs] P = P (.o (.lst xs)) := rfl
theorem dCopy_scr (xs : List Int) (P : B → Prop) : dCopy [.scr xs] P = P (.o (.lst (xs.map D.int))) := rfl
theorem ixk0 {α : Type} (a : α) (l : List α) : atI (a :: l) (0 : Int) = some a := by unfold atI ixN; simp
theorem ixk1 {α : Type} (a b : α) (l : List α) : atI (a :: b :: l) (1 : Int) = some b := by
  have : atI (a :: b :: l) (((1 : Nat)) : Int) = some b := atI_nat rfl
  exact this
theorem ixk2 {α : Type} (a b c : α) (l : List α) : atI (a :: b :: c :: l) (2 : Int) = some c := by
  have : atI (a :: b :: c :: l) (((2 : Nat)) : Int) = some c := atI_nat rfl
  exact this
theorem ixk3 {α : Type} (a b c d : α) (l : List α) : atI (a :: b :: c :: d :: l) (3 : Int) = some d := by
  have : atI (a :: b :: c :: d :: l) (((3 : Nat)) : Int) = some d := atI_nat rfl
  exact this
theorem ixk4 {α : Type} (a b c d e : α) (l : List α) : atI (a :: b :: c :: d :: e :: l) (4 : Int) = some e := by
  have : atI (a :: b :: c :: d :: e :: l) (((4 : Nat)) : Int) = some e := atI_nat rfl
  exact this
theorem ex_at {α : Type} (a : α) (p : α → Prop) : (∃ d, some a = some d ∧ p d) = p a := propext ⟨fun ⟨d, e, h⟩ => by cases e; exact h, fun h => ⟨a, rfl, h⟩⟩
theorem atI_of {α : Type} {xs : List α} {e : α → D} {k : Nat} {x : α} (h : xs[k]? = some x) : atI (xs.map e) ((k : Nat) : Int) = some (e x) := by
  refine atI_nat ?_
  rw [List.getElem?_map, h]
  rfl
end DL
set_option maxHeartbeats 4000000
namespace L2
open PySem PySem.Spec PyProof.Rows
theorem ObjOk.has {P : Program} {w : World} {H : Hp} {h : Heap} {a : Addr} {o : HO} (x : ObjOk P w H h a o) : ∃ ob, h.get? a = some ob := by
  cases o with
  | lst xs => obtain ⟨_, _, _, _, e⟩ := x; exact ⟨_, e⟩
  | tup xs => obtain ⟨_, _, _, ob, e, _⟩ := x; exact ⟨_, e⟩
  | dK kvs => obtain ⟨_, _, _, _, o, _, _, e, _⟩ := x; exact ⟨_, e⟩
  | dT kvs => obtain ⟨_, _, _, _, o, _, _, e, _⟩ := x; exact ⟨_, e⟩
  | set S n => obtain ⟨o, _, _, _, e, _⟩ := x; exact ⟨_, e⟩
  | ins C dx fs => obtain ⟨_, _, _, e, _⟩ := x; exact ⟨_, e⟩
  | own y => exact x
  | xd fs => obtain ⟨_, ⟨_, _, _, e, _⟩, _⟩ := x; exact ⟨_, e⟩
  | rng lo hi => obtain ⟨_, _, _, e⟩ := x; exact ⟨_, e⟩
  | frz ob u => obtain ⟨e, _⟩ := x; exact ⟨_, e⟩
  | tbl ps =>
    unfold ObjOk at x
    first
      | exact ⟨_, x⟩
      | (obtain ⟨tb, e, _⟩ := x; exact ⟨_, e⟩)
  | met f y =>
    have e : h.get? a = some (PySem.W.methodObj (.ref f) (.ref y)) := x
    exact ⟨_, e⟩
  | ext φ => obtain ⟨_, e, _⟩ := x; exact e
structure KB (fs : List Addr) (H H' : Hp) (h B : Heap) : Prop where
  keep : ∀ b o, h.get? b = some o → H b = none → b ∉ fs → B.get? b = some o
  there : ∀ b o, h.get? b = some o → b ∉ fs → ∃ o', B.get? b = some o'
  trk : ∀ a u, H' a = some u → ∃ o, B.get? a = some o
theorem KB.un {fs : List Addr} {H H' : Hp} {h h1 h2 B : Heap} (k : KB fs H H' h B) (st : B.StaysIn h2) (u : Un fs [] H H' h h1) (up : h1.UpToSlots h2)
    (nf : ∀ b ∈ fs, ∀ o, h1.get? b = some o → ∀ vs, o.data ≠ .fields vs) : Un fs [] H H' h h2 where
  keep := fun b o e n hb _ => st b o (k.keep b o e n hb)
  slot := fun b o e n hb hx => by
    obtain ⟨sl, e1⟩ := u.slot b o e n hb hx
    obtain ⟨sl', e2⟩ := up b _ e1 (nf b hb _ e1)
    exact ⟨sl', e2⟩
  free := u.free
  there := fun b o e hx => by
    by_cases hb : b ∈ fs
    · obtain ⟨o', e1⟩ := u.there b o e hx
      obtain ⟨sl, e2⟩ := up b o' e1 (nf b hb _ e1)
      exact ⟨_, e2⟩
    · obtain ⟨o', e1⟩ := k.there b o e hb
      exact ⟨o', st b o' e1⟩
  tups := u.tups
  frzs := u.frzs
  tbls := u.tbls
theorem KB.hok {P : Program} {w : World} {fs : List Addr} {H H' : Hp} {h h1 h2 B : Heap} (k : KB fs H H' h B) (st1 : B.StaysIn h1) (st2 : B.StaysIn h2) (ok : HOk P w H' h1) : HOk P w H' h2 := fun a o e => by
  refine (ok a o e).stay (fun b u hb q => ?_) (fun _ z => z) fun _ _ z => z
  have : ∃ v, H' b = some v := by
    rcases hb with rfl | hb
    · exact ⟨o, e⟩
    · exact ⟨_, hb⟩
  obtain ⟨v, ev⟩ := this
  obtain ⟨o', e'⟩ := k.trk b v ev
  have := st1 b o' e'
  rw [q] at this
  cases this
  exact st2 b _ e'
def CXe (P : Program) (w : World) : CXT := fun outer H s E e s' =>
  ∃ (ea : Addr) (cls a0 : Value) (H' : Hp) (B : Heap), e = .ref ea ∧ Heap.FlyingW B outer ea cls a0 s'.heap ∧ KB (frs outer) H H' s.heap B ∧ s'.os = s.os ∧ AllBare s'.gens ∧
    Un (frs outer) [] H H' s.heap s'.heap ∧ HOk P w H' s'.heap ∧ E cls none H'
theorem CXe.never {P : Program} {w : World} {outer : List Env} {H : Hp} {s s' : Shared} {e : Value} (h : CXe P w outer H s (fun _ _ _ => False) e s') : False := by
  obtain ⟨_, _, _, _, _, _, _, _, _, _, _, _, z⟩ := h
  exact z
theorem fun_nf {h base : Heap} {l : List Env} (f : h.FunFrames base l) : ∀ b ∈ frs l, ∀ o, h.get? b = some o → ∀ vs, o.data ≠ .fields vs := fun b hb o e => by
  obtain ⟨_, o', e', d⟩ := f.mem hb
  rw [e] at e'
  cases e'
  exact d
structure Body (X : Cx) (E : XK) : Prop where
  ex : X.ex = []
  stack : X.stack = X.env :: X.outer
  frame : X.env.frame = some X.env.locals
  xe : ∀ e s', wpAny (model X.prog X.w) X.A (leaving X.env e) (fun _ s'' => CXe X.prog X.w X.outer X.H₀ X.s₀ E e s'') (fun e' s'' => CXe X.prog X.w X.outer X.H₀ X.s₀ E e' s'') s' → X.xe e s'
theorem body_cx {P : Program} {w : World} {K : PySem.W.Frag} {mg : Str → Option Value} {base : Heap} {N : List Str} {qual : Str} {scope : Scope} {f : Addr} {cd : Value} {A : Around} {outer : List Env} {s : Shared} {H : Hp} {E : XK} :
    Body (cxOf (CXe P w) P w K mg base N qual scope f cd A outer s H E) E := ⟨rfl, rfl, rfl, fun _ _ h => h⟩
section
variable {X : Cx} {E : XK} {pins : List (Addr × Obj)} {σ : St} {H : Hp} {s s' : Shared}
theorem Body.frs_eq (b : Body X E) : frs X.stack = X.env.locals :: X.fs := by
  rw [b.stack]
  show frs (X.env :: X.outer) = _
  unfold frs
  rw [List.filterMap_cons, b.frame]
  rfl
theorem Body.neL (b : Body X E) (I : Inv X pins σ H s) {c : Addr} {o : Obj} (e : X.s₀.heap.get? c = some o) (hc : c ∉ X.fs) : c ∉ frs X.stack := fun z => by
  rw [b.frs_eq] at z
  rcases List.mem_cons.mp z with rfl | z
  · exact absurd (Nat.lt_of_lt_of_le (Heap.lt_size e) I.ok.above) (Nat.lt_irrefl _)
  · exact hc z
theorem Body.kb {H' : Hp} {B : Heap} (b : Body X E) (I : Inv X pins σ H s) (k : KB (frs X.stack) H H' s.heap B) : KB X.fs X.H₀ H' X.s₀.heap B where
  keep := fun c o e n hc => k.keep c o (I.base.keep c o e n hc (by rw [b.ex]; simp)) (I.base.free c o e n (by rw [b.ex]; simp)) (b.neL I e hc)
  there := fun c o e hc => by
    obtain ⟨o', e'⟩ := I.base.there c o e (by rw [b.ex]; simp)
    exact k.there c o' e' (b.neL I e hc)
  trk := k.trk
theorem Body.un {H' : Hp} {h' : Heap} (b : Body X E) (I : Inv X pins σ H s) (u : Un (frs X.stack) [] H H' s.heap h') : Un X.fs [] X.H₀ H' X.s₀.heap h' := by
  have u0 : Un (frs X.stack) [] X.H₀ H X.s₀.heap s.heap := I.base.mono (fun c hc => by rw [b.frs_eq]; exact .tail _ hc) fun c hc => by rw [b.ex] at hc; exact hc
  have u2 := u0.trans u
  exact ⟨fun c o e n hc hx => u2.keep c o e n (b.neL I e hc) hx, fun c o e n _ hx => u2.any e n hx, u2.free, u2.there, u2.tups, u2.frzs, u2.tbls⟩
theorem Body.passes (b : Body X E) {E' : XK} (hE : ∀ cls dx H, E' cls dx H → E cls dx H) : Passes (CXe X.prog X.w) X E' := by
  intro pins σ H s e s' I h
  obtain ⟨ea, cls, a0, H', B, rfl, fl, k, os, bare, un, hok, q⟩ := h
  refine b.xe _ _ ?_
  have fl' := fl
  rw [b.stack] at fl'
  refine wpAny_leaves_onW (by rw [I.ok.frames, b.stack]) b.frame fl' fun h' fl2 up => ?_
  refine ⟨ea, cls, a0, H', B, rfl, fl2, b.kb I k, os.trans I.os, bare, (b.kb I k).un fl2.1 (b.un I un) up ?_, k.hok fl.1 fl2.1 hok, hE _ _ _ q⟩
  intro c hc
  exact fun_nf fl.2.2.1 c (by rw [b.frs_eq]; exact .tail _ hc)
theorem Body.raises (b : Body X E) (I : Inv X pins σ H s) {ea : Addr} {cls : Value} {args : List Value} (hx : Heap.MadeExcOf s.heap s'.heap ea cls args) (os : s'.os = s.os) (bare : AllBare s'.gens) (q : E cls none H) : X.xe (.ref ea) s' := by
  refine b.xe _ _ ?_
  have hfr : X.A.frames = some (X.env :: X.outer) := by rw [I.ok.frames, b.stack]
  have st : (PySem.W.hideAll s.heap (frs X.stack)).StaysIn s.heap := fun c o e => PySem.W.of_hideAll _ e
  have ff : s.heap.FunFrames (PySem.W.hideAll s.heap (frs X.stack)) (X.env :: X.outer) := by
    have z := I.stack
    rw [b.stack] at z
    exact PySem.W.funFrames_hide z fun env he a ha => by
      rw [b.stack]
      exact List.mem_filterMap.mpr ⟨env, he, ha⟩
  have k : KB (frs X.stack) H H s.heap (PySem.W.hideAll s.heap (frs X.stack)) := by
    refine ⟨fun c o e _ hc => PySem.W.hideAll_get _ e hc, fun c o e hc => ⟨o, PySem.W.hideAll_get _ e hc⟩, fun a u e => ?_⟩
    obtain ⟨o, ho⟩ := (I.hok a u e).has
    exact ⟨o, PySem.W.hideAll_get _ ho fun hm => by rw [I.stkFree a hm] at e; cases e⟩
  refine wpAny_leaves_madeW hfr b.frame st ff hx fun h' t fl _ _ up => ?_
  have u1 : Un (frs X.stack) [] H H s.heap s'.heap := Un.kept hx.keeps
  refine ⟨ea, cls, .ref t, H, _, rfl, fl, b.kb I k, os.trans I.os, bare, (b.kb I k).un fl.1 (b.un I u1) up ?_, k.hok st fl.1 I.hok, q⟩
  intro c hc o e
  obtain ⟨_, o', e', d⟩ := ff.mem (show c ∈ frs (X.env :: X.outer) by rw [← b.stack, b.frs_eq]; exact .tail _ hc)
  have := hx.keeps _ _ e'
  rw [e] at this
  cases this
  exact d
end
end L2
set_option maxHeartbeats 4000000
namespace L2
open PySem PySem.Spec PyProof.Rows
abbrev veM : List Value := [.type "ValueError", .type "Exception", .type "BaseException", .type "object"]
def ErrCls (K : PySem.W.Frag) (C : Addr) : Prop := PySem.W.excIn K C veM "ValueError.__new__" = true
theorem ErrCls.obj {K : PySem.W.Frag} {h : Heap} {C : Addr} (X : K.In h) (q : ErrCls K C) : ∃ bm N nm q bs hdct sn sub ab col dd k0 k1 k2 k3 k5 mN, h.get? C = some (excClassObj nm q C N bs bm hdct sn sub ab col dd k0 k1 k2 k3 k5 "ValueError.__new__") ∧ h.Ns N mN ∧ mN "__init__" = none ∧ OwnTail h veM bm := by
  unfold ErrCls PySem.W.excIn at q
  split at q
  · rename_i dd cd sl ho
    split at q
    · rename_i C' bm k0 k1 k2 k3 n k5 hm hs
      simp only [Bool.and_eq_true, beq_iff_eq, Bool.not_eq_true'] at q
      obtain ⟨⟨⟨⟨⟨rfl, rfl⟩, hdel⟩, ht⟩, hok⟩, hni⟩ := q
      obtain ⟨nm, bs, mro, ns, qn, hd, sn, sub, ab, col, del⟩ := cd
      dsimp only at hm hdel hok hni
      subst hm hdel
      have hsl : sl = #[k0, k1, k2, k3, some (.builtin "ValueError.__new__"), k5] := by
        obtain ⟨l⟩ := sl
        simp only at hs
        rw [hs]
      subst hsl
      exact ⟨bm, ns, nm, qn, bs, hd, sn, sub, ab, col, dd, k0, k1, k2, k3, k5, _, X _ _ ho, .of_isNs (PySem.W.isNs_of_in X hok), PySem.W.nsMap_none_of_in X hok hni, PySem.W.tail_of_in X ht⟩
    · cases q
  · cases q
section
variable {X : Cx} {E : XK} {C : Addr} {x : Str} {e₀ : Expr} {rest : List Expr} {np cpos pos : Pos} {ta : TA}
def tRaise (C : Addr) (E : XK) (ta : TA) : TS := fun _ σ H => ta σ H fun vs H1 => vs.length ≤ sizeLine ∧ E (.ref C) none H1
theorem ps_raise (b : Body X E) (hc : X.calm = true) (q : ErrCls X.K C) (hg : Gl X x) (hm : X.mg x = some (.ref C)) (ha : PA X (e₀ :: rest) ta) (hdb : (x == ("__debug__" : Str)) = false := by decide)
    (he : starEach (e₀ :: rest) X.env = (false, eval e₀ X.env) :: starEach rest X.env := by rfl) (hpl : (backTo cpos (starEach rest X.env)).any (·.1) = false := by rfl) :
    PS X (.Raise (some (.Call (.Name x np) (e₀ :: rest) [] cpos)) none pos) (tRaise C E ta) := by
  intro pins s σ H D I h
  obtain ⟨tl, N, nm, qn, bs, hdct, sn, sub, ab, col, dd, k0, k1, k2, k3, k5, mN, hC, hN, hni, T⟩ := q.obj I.ok.mod.kin
  refine wpAny_Raise_call_subT (C := C) (nm := nm) (q := qn) (N := N) (bs := bs) (bm := tl) (hdct := hdct) (sn := sn) (sub := sub) (ab := ab) (col := col) (dd := dd) (k0 := k0) (k1 := k1) (k2 := k2) (k3 := k3) (k5 := k5)
    PySem.F.excBase_ValueError (mN := mN) (T.hasType PySem.F.excBase_ValueError.hasBase) (I.ok.hd hc) (by rw [he]; show (false || (backTo cpos (starEach rest X.env)).any (·.1)) = false; rw [hpl]; rfl) hni (ld_glob I hg hm ⟨rfl, ?_⟩ hdb)
  have hs := ha cpos pins s σ H _ I h
  rw [he] at hs ⊢
  refine Calls.evalArgs_plain (wpAny_mono hs (fun us s2 ⟨vs, H1, I1, r, hl, qE⟩ => ?_) fun _ _ y => y)
  refine ⟨rfl, by show us.length ≤ _; rw [← r.length]; exact hl, I1.bk _ _ hC, hN.keeps I1.bk, T.keeps I1.bk, fun h' e hx => ?_⟩
  exact b.raises (s' := { s2 with heap := h' }) I1 hx rfl I1.bare qE
end
end L2
set_option maxHeartbeats 4000000
namespace L2
open PySem PySem.Spec PyProof.Rows PySem.W Builtin.Getset_descriptor
structure ExcGet (K : Frag) (C : Addr) : Prop where
  ga : findIn K (.ref C) "__getattribute__" = some (some (.builtin "BaseException.__getattribute__"))
  gt : findIn K (.ref C) "__getattr__" = some none
  cls : findIn K (.ref C) "__class__" = some (some (.builtin "object.__class__"))
  get : specialIn K (.builtin "object.__class__") "__get__" = some (some (.builtin "getset_descriptor.__get__"))
  tk : takesIn K (.builtin "object.__class__") = some true
  mo : mroIn K C (.type "object") = some true
  mb : mroIn K C (.type "BaseException") = some true
  is : (clsIn K C).isSome = true
def InCls (h : Heap) (x C : Addr) : Prop := ∃ ox, h.get? x = some ox ∧ ox.cls = .ref C
theorem InCls.type {M : Model} {h : Heap} {x C : Addr} (I : InCls h x C) : Looks M h (typeOf (.ref x)) (.ref C) := by
  obtain ⟨ox, h1, h2⟩ := I
  exact h2 ▸ (Looks.ld h1).andThen .now
section
variable {prog : Program} {w : World} {A : Around} {E : Value → Shared → Prop} {s : Shared} {K : Frag} {x C : Addr}
theorem exc_find {M : Model} {h : Heap} (G : ExcGet K C) (X : K.In h) : Looks M h (Builtin.ObjectAttr.find (.ref x) (.ref C) "__class__") (.bind (.builtin "getset_descriptor.__get__") (.builtin "object.__class__")) := by
  have L1 := looks_findIn (M := M) X G.cls
  have L2 : Looks M h (Builtin.ObjectAttr.getOf (some (.builtin "object.__class__"))) (some (.builtin "getset_descriptor.__get__")) := looks_specialIn X G.get
  have L3 := looks_takesIn (M := M) X G.tk
  exact L1.andThen (L2.andThen ((show Looks M h (Builtin.ObjectAttr.dataDescriptor? (some (.builtin "object.__class__")) (some (.builtin "getset_descriptor.__get__"))) (some (.builtin "getset_descriptor.__get__", .builtin "object.__class__")) from L3.andThen .now).andThen (Looks.tag .now)))
theorem exc_class_get {tp : Value} {R : Result → Shared → Prop} (X : K.In s.heap) (I : InCls s.heap x C) (hm : mroIn K C (.type "object") = some true)
    (h : R (.ok (.ret (.ref C))) s) : codeAny (model prog w) A (.call (.builtin "getset_descriptor.__get__") ⟨[.builtin "object.__class__", .ref x, tp], []⟩) R s := by
  obtain ⟨hh, g, dr, t, os⟩ := s
  have L0 := I.type (M := model prog w)
  have L1 := looks_mroIn (M := model prog w) X hm
  refine codeAny_call_builtin KF.slot_gs.plain KF.entry_gs (KF.slot_gs.check _ _ _ _ _ _ _ _ KF.type_class (KF.args_gs _ _ _) ?_)
  unfold Builtin.«getset_descriptor.__get__» descrGet
  rw [dga_obj]
  refine wpAny_bind (wpAny_pure ?_)
  unfold descrGetter descrCheckInstance descrNameAndClass isInstance
  simp only [KF.owner_class]
  repeat lk
  refine ⟨Code.quiet_builtin _ (by decide +kernel), codeAny_builtin KF.entry_class ?_⟩
  unfold Builtin.«object.__class__» shownTypeOf
  repeat lk
  exact h
theorem exc_entry {tk : Tok} {Q : Fin → Shared → Prop} (G : ExcGet K C) (X : K.In s.heap) (I : InCls s.heap x C) (hq : Q (.done (.ret (.ref C))) s) :
    wpAny (model prog w) A (Builtin.«object.__getattribute__» ⟨[.ref x, .str "__class__" tk], []⟩) Q E s := by
  have L0 := I.type (M := model prog w)
  have L1 := exc_find (M := model prog w) (x := x) G X
  unfold Builtin.«object.__getattribute__»
  refine wpAny_bind ?_
  refine wpAny_pure ?_
  dsimp only
  refine wpAny_bind (wpAny_pure (wpAny_bind (L0.here (wpAny_bind (L1.here ?_)))))
  dsimp only
  unfold Builtin.ObjectAttr.bindTo
  refine wpAny_bind (wpAny_holding (wpAny_call (exc_class_get X I G.mo ?_)))
  exact wpAny_pure hq
theorem exc_check {nameV : Value} {Q : Unit → Shared → Prop} (G : ExcGet K C) (X : K.In s.heap) (I : InCls s.heap x C) (hq : Q () s) : wpAny (model prog w) A (checkBuiltinCall "BaseException.__getattribute__" ⟨[.ref x, nameV], []⟩) Q E s := by
  have hk : builtinKind "BaseException.__getattribute__" = some .slot := by decide +kernel
  have hsplit : splitId "BaseException.__getattribute__" = some ("BaseException", "__getattribute__") := by decide +kernel
  have ha := F.args_bexc_ga (.ref x) nameV
  have L0 := I.type (M := model prog w)
  have L1 := looks_mroIn (M := model prog w) X G.mb
  simp only [checkBuiltinCall, hk, hsplit]
  refine wpAny_bind ?_
  unfold isInstance
  refine wpAny_bind (L0.here (L1.here ?_))
  repeat (any_goals (first | assumption | wp_step))
theorem exc_class {Q : Option Value → Shared → Prop} (G : ExcGet K C) (X : K.In s.heap) (I : InCls s.heap x C) (h : Q (some (.ref C)) { s with toks := s.toks + 1 }) : wpAny (model prog w) A (getAttr? (.ref x) "__class__") Q E s := by
  obtain ⟨hh, g, d, t, os⟩ := s
  have L0 := I.type (M := model prog w)
  have L1 := looks_findIn (M := model prog w) X G.ga
  have L2 := looks_findIn (M := model prog w) X G.gt
  unfold getAttr? getAttrBy? getAttrBy
  refine wpAny_bind (wpAny_mkText (wpAny_bind (wpAny_attempt (wpAny_holding (wpAny_bind (L0.at (wpAny_bind (L1.at ?_))))))))
  dsimp only
  have hx2 : (Value.builtin "BaseException.__getattribute__" == Value.builtin "object.__getattribute__") = false := by decide +kernel
  rw [hx2, Bool.and_false, if_neg Bool.false_ne_true]
  have hcl : codeAny (model prog w) A (.call (.builtin "BaseException.__getattribute__") ⟨[.ref x, .str "__class__" t], []⟩) (fun r s' => match r with | .ok (.ret v) => v = .ref C ∧ s' = ⟨hh, g, d, t + 1, os⟩ | _ => False) ⟨hh, g, d, t + 1, os⟩ :=
    codeAny_call_builtin PySem.F.excAttr_ValueError.ga.plain F.entry_bexc_ga (exc_check (s := ⟨hh, g, d, t + 1, os⟩) G X I (exc_entry (s := ⟨hh, g, d, t + 1, os⟩) G X I ⟨rfl, rfl⟩))
  have f3 := PySem.F.excAttr_ValueError.ga.bind (.ref x)
  unfold getAttrByItsOwn hookBefore
  rw [if_pos (show onTheHeap (Value.ref C) = true from rfl)]
  refine wpAny_bind (L2.at ?_)
  unfold callGetattribute boundAndCalled
  rw [Bool.false_and, if_neg Bool.false_ne_true]
  rw [f3]
  refine wpAny_bind (wpAny_attempt (wpAny_holding (wpAny_bind (wpAny_pure (wpAny_call (codeAny_mono hcl fun r s' z => ?_))))))
  rcases r with e | fl
  · exact z.elim
  · cases fl with
    | ret v =>
      obtain ⟨rfl, rfl⟩ := z
      exact handed_on rfl (wpAny_pure h)
    | next => exact z.elim
    | brk => exact z.elim
    | cont => exact z.elim
theorem kitx_exc (G : ExcGet K C) : KitX K (.ref x) (.ref C) (fun h => InCls h x C) where
  ty := fun _ _ _ I => I.type
  it := fun _ _ X _ => by
    obtain ⟨cdD, hcD⟩ := Option.isSome_iff_exists.mp G.is
    unfold clsIn at hcD
    split at hcD
    · rename_i c' d' cd' sl' ho
      intro A' Q' E' s' k q
      unfold isType loadHead
      exact wpAny_bind (wpAny_loadPart (k _ _ (X _ _ ho)) (wpAny_pure q))
    · cases hcD
  ne := fun h tp dd its n sl X htp => by
    obtain ⟨cdD, hcD⟩ := Option.isSome_iff_exists.mp G.is
    refine Bool.eq_false_iff.mpr fun q => ?_
    have e : C = tp := Value.ref.inj (beq_iff_eq.mp q)
    subst e
    unfold clsIn at hcD
    split at hcD
    · rename_i c' d' cd' sl' ho
      have z := (X _ _ ho).symm.trans htp
      cases z
    · cases hcD
  ca := fun X I k => exc_class G X I k
end
section
variable {X : Cx} {C : Addr} {x : Addr} {ox : Obj}
def ClsV (cv : V) (c : Value) : Prop := (∃ a, cv = .ref a ∧ c = .ref a) ∨ ∃ T, cv = .ty T ∧ c = .type T
theorem ClsV.eq {cv : V} {c u : Value} (h : ClsV cv c) (r : RelV cv u) : u = c := by
  rcases h with ⟨a, rfl, rfl⟩ | ⟨T, rfl, rfl⟩
  · exact r
  · exact r
theorem call_isX {c : Value} {cv : V} {b : Bool} (hp : (x, ox) ∈ X.pn) (hc : ox.cls = .ref C) (G : ExcGet X.K C) (e : kitOne X.K (.ref C) c = some b) (hv : ClsV cv c) :
    CallR X (.builtin "isinstance") (fun xs H Q => xs = [.ref x, cv] ∧ Q (.bl b) H) := by
  intro pins s σ H vs us Q I r h
  obtain ⟨rfl, q⟩ := h
  obtain ⟨u1, rest, rfl, r1, r2⟩ : ∃ u1 rest, us = u1 :: rest ∧ RelV (.ref x) u1 ∧ Vals [cv] rest := by
    cases r with | cons a b => exact ⟨_, _, rfl, a, b⟩
  obtain ⟨u2, rfl, r3⟩ : ∃ u2, rest = [u2] ∧ RelV cv u2 := by
    cases r2 with | cons a b => cases b with | nil => exact ⟨_, rfl, a⟩
  obtain rfl : u1 = Value.ref x := r1
  have e2 : u2 = c := hv.eq r3
  subst e2
  have pin := I.pin (x, ox) (List.mem_append_left _ hp)
  exact kia_one (kitx_exc G) I.kIn ⟨ox, pin.1, hc⟩ e (fun z => nomatch z) fun tk => ⟨.bl b, H, I.tok tk, rfl, q⟩
def rIsE (K : Frag) (x : Addr) (cls : Value) (xs : List V) (H : Hp) (Q : VK) : Prop := ∃ C cv c b, cls = .ref C ∧ ExcGet K C ∧ ClsV cv c ∧ kitOne K (.ref C) c = some b ∧ xs = [.ref x, cv] ∧ Q (.bl b) H
theorem call_isE {K : Frag} {cls : Value} (hK : X.K = K) (hp : (x, ox) ∈ X.pn) (hc : ox.cls = cls) : CallR X (.builtin "isinstance") (rIsE K x cls) := by
  subst hK
  intro pins s σ H vs us Q I r h
  obtain ⟨C, cv, c, b, rfl, G, hv, e, rfl, q⟩ := h
  exact call_isX hp hc G e hv pins s σ H _ us Q I r ⟨rfl, q⟩
end
end L2
set_option maxHeartbeats 4000000
namespace L2
open PySem PySem.Spec PyProof.Rows PySem.W
structure Flown (X : Cx) (pins : List (Addr × Obj)) (σ : St) (H0 H : Hp) (s0 s : Shared) (ea : Addr) (cls : Value) (B : Heap) : Prop where
  I0 : Inv X pins σ H0 s0
  fl : ∃ a0, Heap.FlyingW B X.stack ea cls a0 s.heap
  kb : KB (frs X.stack) H0 H s0.heap B
  os : s.os = s0.os
  bare : AllBare s.gens
  un : Un (frs X.stack) [] H0 H s0.heap s.heap
  hok : HOk X.prog X.w H s.heap
section
variable {X : Cx} {pins : List (Addr × Obj)} {σ : St} {H0 H : Hp} {s0 s : Shared} {ea : Addr} {cls : Value} {B : Heap}
theorem Flown.inv (F : Flown X pins σ H0 H s0 s ea cls B) : Inv X pins σ H s := F.I0.call' F.os F.un F.hok F.bare (fun b z => absurd z (by simp))
theorem Flown.step {h' : Heap} {a0 : Value} (F : Flown X pins σ H0 H s0 s ea cls B) (fl : Heap.FlyingW B X.stack ea cls a0 h') (up : s.heap.UpToSlots h') : Flown X pins σ H0 H s0 { s with heap := h' } ea cls B := by
  obtain ⟨a1, f1⟩ := F.fl
  exact ⟨F.I0, ⟨a0, fl⟩, F.kb, F.os, F.bare, F.kb.un fl.1 F.un up (fun b hb => fun_nf f1.2.2.1 b hb), F.kb.hok f1.1 fl.1 F.hok⟩
theorem Flown.of {E : XK} {e : Value} {s' : Shared} (I : Inv X pins σ H0 s0) (h : CXe X.prog X.w X.stack H0 s0 E e s') : ∃ ea cls H B, e = .ref ea ∧ Flown X pins σ H0 H s0 s' ea cls B ∧ E cls none H := by
  obtain ⟨ea, cls, a0, H', B, rfl, fl, k, os, bare, un, hok, q⟩ := h
  exact ⟨ea, cls, H', B, rfl, ⟨I, ⟨a0, fl⟩, k, os, bare, un, hok⟩, q⟩
theorem Flown.pin (F : Flown X pins σ H0 H s0 s ea cls B) : ∃ oe, s.heap.get? ea = some oe ∧ oe.cls = cls ∧ H ea = none ∧ ea ≠ X.env.locals ∧ ea ∉ X.fs ∧ ∀ v, oe.data ≠ .cell v := by
  obtain ⟨a0, f1, f2, f3, oe, vs, T, oT, ts, he, ⟨hc, _⟩, hd, _⟩ := F.fl
  have nf : ∀ b ∈ frs X.stack, b ≠ ea := fun b hb z => by
    subst z
    exact fun_nf f3 _ hb _ he _ hd
  have I := F.inv
  refine ⟨oe, he, hc, ?_, fun z => ?_, fun z => ?_, fun v z => by rw [hd] at z; cases z⟩
  · cases q : H ea with
    | none => rfl
    | some u =>
      obtain ⟨o, ho⟩ := F.kb.trk ea u q
      rw [f2] at ho
      cases ho
  · obtain ⟨m, ⟨o, es, ep, ho, hdd, _⟩, _⟩ := I.loc
    rw [← z, he] at ho
    cases ho
    rw [hd] at hdd
    cases hdd
  · obtain ⟨_, o', e', d⟩ := (I.funs).mem z
    rw [he] at e'
    cases e'
    exact d _ hd
end
abbrev Cx.inH (X : Cx) (ea : Addr) (oe : Obj) : Cx := { X with A := X.A.mark (some (.ref ea)), calm := false, pn := (ea, oe) :: X.pn, xe := fun _ _ => False }
theorem Flown.hinv {X : Cx} {pins : List (Addr × Obj)} {σ : St} {H0 H : Hp} {s0 s : Shared} {ea : Addr} {cls : Value} {B : Heap} {oe : Obj} (F : Flown X pins σ H0 H s0 s ea cls B) (he : s.heap.get? ea = some oe) : Inv (X.inH ea oe) pins σ H s := by
  have I := F.inv
  obtain ⟨oe', he', hc, n, h1, h2, h3⟩ := F.pin
  rw [he] at he'
  cases he'
  refine ⟨⟨I.ok.mod, I.ok.kind, I.ok.glob, I.ok.blt, I.ok.above, I.ok.inj, I.ok.has, I.ok.cab, fun z => (by cases z), ?_, I.ok.stk, I.ok.exf, I.ok.bs, I.ok.bsz, I.ok.noex, I.ok.exfs, I.ok.funs, I.ok.frf⟩, I.os, I.bare, I.base, I.loc, I.cell, I.free, I.freeC, fun p hp => ?_, I.hok, I.len⟩
  · exact I.ok.frames
  · rcases List.mem_cons.mp hp with rfl | hp
    · exact ⟨he, n, h1, h2, h3⟩
    · exact I.pin p hp
theorem unH {X : Cx} {pins : List (Addr × Obj)} {σ : St} {H : Hp} {s : Shared} {ea : Addr} {oe : Obj} (I : Inv (X.inH ea oe) pins σ H s) (ok : X.Ok) : Inv X pins σ H s :=
  ⟨ok, I.os, I.bare, I.base, I.loc, I.cell, I.free, I.freeC, fun p hp => I.pin p (.tail _ hp), I.hok, I.len⟩
def PH (X : Cx) (hs : List ExceptHandler) (th : Value → TS) : Prop :=
  ∀ (pins : List (Addr × Obj)) (s0 s : Shared) (σ : St) (H0 H : Hp) (D : Ends) (ea : Addr) (cls : Value) (B : Heap), Flown X pins σ H0 H s0 s ea cls B → th cls D σ H →
    wpAny (model X.prog X.w) X.A (handleBy (.ref ea) X.env hs) (SP X pins D) X.xe s
theorem ph_nil {X : Cx} : PH X [] (fun _ _ _ _ => False) := fun _ _ _ _ _ _ _ _ _ _ _ h => h.elim
def tClause (K : PySem.W.Frag) (c : Value) (ts tr : Value → TS) : Value → TS := fun cls D σ H => ∃ b, PySem.W.exmOne K cls c = some b ∧ if b = true then ts cls D σ H else tr cls D σ H
section
variable {X : Cx} {y : Str} {c : Value} {np hpos : Pos} {b₀ : Stmt} {suite : List Stmt} {rest : List ExceptHandler} {ts : Addr → Value → TS} {tr : Value → TS}
end
end L2
set_option maxHeartbeats 4000000
namespace L2
open PySem PySem.Spec PyProof.Rows PySem.W
section
variable {X : Cx} {pins : List (Addr × Obj)} {σ : St} {H : Hp} {s : Shared}
theorem Inv.gone {i : Nat} {n : Str} {h' : Heap} {m : Str → Option Value} {v : Option Value} {t : Nat} (I : Inv X pins σ H s) (hN : X.N.Nodup) (hi : X.N[i]? = some n) (hk : X.env.scope.names.lookup n = some .local)
    (hn : s.heap.Ns X.env.locals m) (hl : ∀ (j : Nat) (y : Str) (w : V), X.N[j]? = some y → σ[j]? = some (some w) → Vis X.env.scope y → ∃ u, RelV w u ∧ Look X.env s.heap m y u)
    (hn' : h'.Ns X.env.locals (fun x => if x = n then v else m x)) (hs : Heap.SameBut X.env.locals s.heap h') : Inv X pins (σ.set i none) H { s with heap := h', toks := t } := by
  have hiσ : i < σ.length := by rw [I.len]; exact (List.getElem?_eq_some_iff.mp hi).1
  have cne := I.cne
  obtain ⟨oL, _, _, hoL, _⟩ := id hn
  refine ⟨I.ok, I.os, I.bare, ⟨fun b o e n hb hx => ?_, fun b o e n hb hx => ?_, I.base.free, fun b o e hx => ?_, I.base.tups, I.base.frzs, I.base.tbls⟩, ⟨_, hn', fun j y v' e1 e2 e3 => ?_⟩, fun y c e => ?_, I.free, I.freeC, fun p hp => ?_, fun b ob e => ?_, by simpa using I.len⟩
  · exact (hs.2 b (Nat.ne_of_lt (Nat.lt_of_lt_of_le (Heap.lt_size e) I.ok.above))).trans (I.base.keep b o e n hb hx)
  · obtain ⟨sl, e1⟩ := I.base.slot b o e n hb hx
    exact ⟨sl, (hs.2 b (Nat.ne_of_lt (Nat.lt_of_lt_of_le (Heap.lt_size e) I.ok.above))).trans e1⟩
  · obtain ⟨o', e1⟩ := I.base.there b o e hx
    exact ⟨o', (hs.2 b (Nat.ne_of_lt (Nat.lt_of_lt_of_le (Heap.lt_size e) I.ok.above))).trans e1⟩
  · by_cases hj : j = i
    · subst hj
      rw [List.getElem?_set_self hiσ] at e2
      cases e2
    · rw [List.getElem?_set_ne (Ne.symm hj)] at e2
      obtain ⟨u', r', q⟩ := hl j y v' e1 e2 e3
      refine ⟨u', r', ?_⟩
      rcases q with ⟨k, e⟩ | ⟨k, c, e, z⟩
      · refine .inl ⟨k, ?_⟩
        have : y ≠ n := fun e => hj (nodup_ix hN e1 (e ▸ hi))
        simp [this, e]
      · exact .inr ⟨k, c, e, z.sameBut hs (cne y c e)⟩
  · obtain ⟨w', z⟩ := I.cell y c e
    exact ⟨w', z.sameBut hs (cne y c e)⟩
  · obtain ⟨e, n, ne, nf, d⟩ := I.pin p hp
    exact ⟨(hs.2 p.1 ne).trans e, n, ne, nf, d⟩
  · refine (I.hok b ob e).stay (fun c w' hc q => (hs.2 c ?_).trans q) (fun _ q => q) fun _ _ q => q
    rintro rfl
    rcases hc with hc | hc
    · rw [← hc, I.free] at e; cases e
    · rw [I.free] at hc; cases hc
theorem gone_ok {M : Model} {A : Around} {E : Value → Shared → Prop} {i : Nat} {n : Str} {pos : Pos} {Q : Unit → Shared → Prop} (I : Inv X pins σ H s) (hN : X.N.Nodup) (hi : X.N[i]? = some n) (hk : X.env.scope.names.lookup n = some .local)
    (h : ∀ s', Inv X pins (σ.set i none) H s' → Q () s') : wpAny M A (do bindName X.env n .none; unbindBehindTheSuite X.env n pos) Q E s := by
  obtain ⟨m, hn, hl⟩ := id I.loc
  exact wpAny_nameGoes_keeps hk hn (by rw [I.ok.kind]; rfl) fun h' v hn' hs => h _ (I.gone hN hi hk hn hl hn' hs)
end
section
variable {X : Cx} {y n : Str} {i : Nat} {c : Value} {np hpos : Pos} {b₀ : Stmt} {suite : List Stmt} {rest : List ExceptHandler} {ts : Addr → Value → TS} {tr : Value → TS}
def Ends.gone (D : Ends) (i : Nat) : Ends := { nx := fun σ H => D.nx (σ.set i none) H, rt := D.rt, bk := fun σ H => D.bk (σ.set i none) H, ct := fun σ H => D.ct (σ.set i none) H }
theorem ph_as (hN : X.N.Nodup) (hi : X.N[i]? = some n) (hk : X.env.scope.names.lookup n = some .local) (hg : Gl X y) (hm : X.mg y = some c) (hs : ∀ ea oe cls, oe.cls = cls → PSs (X.inH ea oe) (b₀ :: suite) (ts ea cls)) (hr : PH X rest tr) (hdb : (y == ("__debug__" : Str)) = false := by decide) :
    PH X (.ExceptHandler (some (.Name y np)) (some n) (b₀ :: suite) hpos :: rest) (tClause X.K c (fun cls D σ H => ∀ ea, ts ea cls (D.gone i) (σ.set i (some (.ref ea))) H) tr) := by
  intro pins s0 s σ H0 H D ea cls B F h
  obtain ⟨b, e, h⟩ := h
  have I := F.inv
  obtain ⟨oe, he, hc, nH, h1, h2, h3⟩ := F.pin
  have I2 := F.hinv he
  refine wpAny_handleBy_cons (codeAny_handlers_test (ld_glob (X := X.inH ea oe) I2 hg hm ?_ hdb)) (by intro q; cases q)
  refine (exm_one (M := model X.prog X.w) I.kIn (show Looks (model X.prog X.w) s.heap (typeOf (.ref ea)) cls from hc ▸ (Looks.ld he).andThen .now) e).here ?_
  cases b with
  | false => exact hr pins s0 s σ H0 H D ea cls B F h
  | true =>
    obtain ⟨a0, fl⟩ := F.fl
    refine codeAny_handlers_suite_as ?_
    refine lands_againW fl fun h₆ fl₆ up₆ => ?_
    have F6 := F.step fl₆ up₆
    obtain ⟨oe6, he6, hc6, _⟩ := F6.pin
    have q := h ea
    subst hc6
    refine store_ok (X := X.inH ea oe6) (v := .ref ea) (F6.hinv he6) hN hi (.inl hk) rfl (fun s' J => ?_) (.inr hk)
    refine wpAny_mono (hs ea oe6 _ rfl pins s' _ H _ J q) (fun f s4 z => ?_) fun _ _ z => z.elim
    cases f with
    | next => obtain ⟨σ', H', J, z⟩ := z; exact gone_ok (unH J I.ok) hN hi hk fun s5 J5 => ⟨_, H', J5, z⟩
    | brk => obtain ⟨σ', H', J, z⟩ := z; exact gone_ok (unH J I.ok) hN hi hk fun s5 J5 => ⟨_, H', J5, z⟩
    | cont => obtain ⟨σ', H', J, z⟩ := z; exact gone_ok (unH J I.ok) hN hi hk fun s5 J5 => ⟨_, H', J5, z⟩
    | ret u => obtain ⟨v, σ', H', J, r, z⟩ := z; exact gone_ok (unH J I.ok) hN hi hk fun s5 J5 => ⟨v, _, H', J5, r, z⟩
end
section
variable {X : Cx} {CX : CXT} {k : Nat} {f : Addr} {fd : FuncData} {ps : List Str} {sp : Sp} {x : Str} {p pos epos tpos : Pos} {e : Expr} {es : List Expr} {t : TA} {h₀ : ExceptHandler} {hs : List ExceptHandler} {th : Value → TS}
def tTry (sp : Sp) (t : TA) (th : Value → TS) : TS := fun D σ H => t σ H fun vs H1 => sp vs H1 (fun _ H2 => D.nx σ H2) fun cls _ H2 => th cls D σ H2
theorem ps_tryCall (b : ∃ E, Body X E) (F : FnOk X.prog X.w X.K X.mg X.base (CXe X.prog X.w) k f fd ps sp) (hr : Room k X.A) (hg : Gl X x) (hm : X.mg x = some (.ref f)) (hk : keepIn X.K (.ref f) = true) (hb : Binds X.K fd ps [])
    (ha : PA X.nox (e :: es) t) (hh : PH X (h₀ :: hs) th) (hdb : (x == ("__debug__" : Str)) = false := by decide) (he : starEach (e :: es) X.env = (false, eval e X.env) :: starEach es X.env := by rfl)
    (hpl : (backTo pos (starEach es X.env)).any (·.1) = false := by rfl) (hsw : swapsWith (.Call (.Name x p) (e :: es) [] pos) none epos.line X.env = pure false := by rfl) :
    PS X (.Try [.Expr (.Call (.Name x p) (e :: es) [] pos) epos] (h₀ :: hs) [] [] tpos) (tTry sp t th) := by
  intro pins s σ H D I h
  obtain ⟨E, b⟩ := b
  refine wpAny_Try_except ?_
  have body : wpAny (model X.prog X.w) X.A (eval (.Call (.Name x p) (e :: es) [] pos) X.env) (fun _ s1 => ∃ H1, Inv X pins σ H1 s1 ∧ D.nx σ H1)
      (fun e1 s1 => wpAny (model X.prog X.w) X.A (noteFrame e1 X.env) (fun _ s₂ => wpAny (model X.prog X.w) X.A (setFlight e1 none) (fun _ s₃ => wpAny (model X.prog X.w) X.A (handleBy e1 X.env (h₀ :: hs)) (SP X pins D) X.xe s₃) X.xe s₂) X.xe s1) s := by
    refine wpAny_Call_Name_kw (ld_glob I hg hm ?_ hdb)
    refine callWith_K (h₀ := X.base) I.ok.mod.kin hk (wpAny_mono (ha pos pins s σ H _ (I.wish _) h) (fun us s1 z => ?_) fun _ _ z => z.elim) he hpl
    obtain ⟨vs, H1, I1', r, q⟩ := z
    have I1 : Inv X pins σ H1 s1 := I1'.unwish
    refine ⟨I1.kIn, ?_⟩
    have hl : us.length = ps.length := by rw [← r.length]; exact F.len _ _ _ _ q
    have hb' := hb s1 us I1.kIn (by rw [List.append_nil]; exact hl)
    rw [List.append_nil] at hb'
    refine wpAny_call (codeAny_mono (F.run X.A X.stack s1 H1 ⟨us, []⟩ us vs _ _ hr I1.env0 hb' r q) fun r s' hq => ?_)
    cases r with
    | error e1 =>
      have hq' : CXe X.prog X.w X.stack H1 s1 (fun cls _ H2 => th cls D σ H2) e1 s' := hq
      obtain ⟨ea, cls, H', B, rfl, F1, q1⟩ := Flown.of I1 hq'
      obtain ⟨a0, fl⟩ := F1.fl
      have fl' := fl
      rw [b.stack] at fl'
      refine wpAny_looks_onW (by rw [I1.ok.frames, b.stack]) b.frame fl' fun h4 held4 up4 => ?_
      refine wpAny_landsW held4 fun h5 fl5 up5 => ?_
      rw [← b.stack] at fl5
      exact hh pins s1 _ σ H1 H' D ea cls B (F1.step fl5 (up4.trans up5)) q1
    | ok fl =>
      cases fl with
      | ret u =>
        obtain ⟨v, H', J, _, z⟩ := I1.after hq
        exact ⟨H', J, z⟩
      | next => exact False.elim hq
      | brk => exact False.elim hq
      | cont => exact False.elim hq
  refine wpAny_execs_cons (wpAny_Expr_any (wpAny_mono body (fun v s1 z => ?_) fun _ _ z => z) I.quiet hsw)
  obtain ⟨H1, J, z⟩ := z
  exact wpAny_execs_nil (wpAny_execs_nil (show SP X pins D .next s1 from ⟨σ, H1, J, z⟩))
end
section
variable {P : Program} {w : World} {K : PySem.W.Frag} {mg : Str → Option Value} {base : Heap}
theorem Fun.okX {x qual : Str} {st : Stmt} {f : Addr} {fd : FuncData} {N ps : List Str} {k : Nat} {sp : Sp} (F : Fun K x qual st f fd) (S : FnScope N ps (defScope st)) (len : ∀ vs H Q E, sp vs H Q E → vs.length = ps.length)
    (hbody : ∀ (cdv : Value) (A : Around) (outer : List Env) (s : Shared) (H : Hp) (vs : List V) (Q : VK) (E : XK), Room k (A.deeper (envOfC qual (defScope st) s.heap.objs.size f cdv)) → sp vs H Q E →
      ∃ t, PSs (cxOf (CXe P w) P w K mg base N qual (defScope st) f cdv A outer s H E) (defBody st) t ∧ t { nx := fun _ H' => Q .non H', rt := Q } (start N vs) H) : FnOk P w K mg base (CXe P w) (k + 1) f fd ps sp := by
  obtain ⟨oc, od, kV, doc, pm, an, cdv, ct, osl, rfl, lk, hcd⟩ := F.ex
  exact fn_of lk hcd S len fun A outer s H vs Q E hr hsp => hbody cdv A outer s H vs Q E hr hsp
structure FnX (P : Program) (w : World) (K : PySem.W.Frag) (mg : Str → Option Value) (base : Heap) (x : Str) (k : Nat) (ps : List Str) (sp : Sp) : Prop where
  ex : ∃ f fd, FnOk P w K mg base (CXe P w) k f fd ps sp ∧ mg x = some (.ref f) ∧ PySem.W.keepIn K (.ref f) = true ∧ Binds K fd ps []
theorem fnx_mk {x qual : Str} {st : Stmt} {f : Addr} {fd : FuncData} {k : Nat} {ps : List Str} {sp : Sp} (F : Fun K x qual st f fd) (hm : mg x = some (.ref f)) (hb : Binds K fd ps []) (ok : FnOk P w K mg base (CXe P w) k f fd ps sp) :
    FnX P w K mg base x k ps sp := ⟨f, fd, ok, hm, F.kp, hb⟩
end
theorem pe_fnX {X : Cx} {E : XK} {x : Str} {k : Nat} {ps : List Str} {sp : Sp} {p pos : Pos} {e : Expr} {es : List Expr} {t : TA} (b : Body X E) (F : FnX X.prog X.w X.K X.mg X.base x k ps sp) (hr : Room k X.A) (hg : Gl X x) (ha : PA X (e :: es) t)
    (hdb : (x == ("__debug__" : Str)) = false := by decide) (he : starEach (e :: es) X.env = (false, eval e X.env) :: starEach es X.env := by rfl) (hpl : (backTo pos (starEach es X.env)).any (·.1) = false := by rfl) :
    PE X (.Call (.Name x p) (e :: es) [] pos) (tCall sp [] E t) := by
  obtain ⟨f, fd, G, hm, hk, hb⟩ := F.ex
  exact pe_call G hr hg hm hk hb .nil (b.passes fun _ _ _ h => h) ha hdb he hpl
theorem ps_tryFn {X : Cx} {E : XK} {x : Str} {k : Nat} {ps : List Str} {sp : Sp} {p pos epos tpos : Pos} {e : Expr} {es : List Expr} {t : TA} {h₀ : ExceptHandler} {hs : List ExceptHandler} {th : Value → TS} (b : Body X E) (F : FnX X.prog X.w X.K X.mg X.base x k ps sp) (hr : Room k X.A) (hg : Gl X x)
    (ha : PA X.nox (e :: es) t) (hh : PH X (h₀ :: hs) th) (hdb : (x == ("__debug__" : Str)) = false := by decide) (he : starEach (e :: es) X.env = (false, eval e X.env) :: starEach es X.env := by rfl)
    (hpl : (backTo pos (starEach es X.env)).any (·.1) = false := by rfl) (hsw : swapsWith (.Call (.Name x p) (e :: es) [] pos) none epos.line X.env = pure false := by rfl) :
    PS X (.Try [.Expr (.Call (.Name x p) (e :: es) [] pos) epos] (h₀ :: hs) [] [] tpos) (tTry sp t th) := by
  obtain ⟨f, fd, G, hm, hk, hb⟩ := F.ex
  exact ps_tryCall ⟨E, b⟩ G hr hg hm hk hb ha hh hdb he hpl hsw
end L2
set_option maxHeartbeats 4000000
namespace DL
open PySem L2
abbrev DRX := List D → (B → Prop) → (Value → Prop) → Prop
def spX (K : PySem.W.Frag) (R : DRX) : Sp := fun vs H Q E => ∃ (ds : List D) (G : Hp) (P : B → Prop) (Z : Value → Prop), Same G H ∧ Reps K G vs ds ∧ R ds P Z ∧ (∀ b v H' G', P b → Wd H G H' G' → BRes K H G' H' v b → Q v H') ∧ ∀ cls H', Z cls → Same H H' → E cls none H'
abbrev FnDX (P : Program) (w : World) (K : PySem.W.Frag) (mg : Str → Option Value) (base : Heap) (x : Str) (k : Nat) (ps : List Str) (R : DRX) : Prop := FnX P w K mg base x k ps (spX K R)
structure DX (X : Cx) (H0 : Hp) (st : Stmt) (t : DTS) : Prop where
  ps : ∀ G0, PS X st (cS X.K H0 G0 t)
structure DXs (X : Cx) (H0 : Hp) (st : List Stmt) (t : DTS) : Prop where
  pss : ∀ G0, PSs X st (cS X.K H0 G0 t)
section
variable {X : Cx} {H0 : Hp} {E : XK} {Z : Value → Prop} {st : Stmt} {rest : List Stmt} {t u : DTS} {a b c e : Expr} {es : List Expr} {ta tb te : DT} {pos p epos : Pos} {x : Str} {k : Nat} {ps : List Str} {R : DRX} {tA : DTA} {C : Addr}
theorem dx (h : DS X st t) : DX X H0 st t := ⟨fun G0 => h.ps H0 G0⟩
theorem dxs (h : DSs X rest t) : DXs X H0 rest t := ⟨fun G0 => h.pss H0 G0⟩
theorem dxs_nil : DXs X H0 [] dNext := dxs dss_nil
theorem dxs_cons (h1 : DX X H0 st t) (h2 : DXs X H0 rest u) : DXs X H0 (st :: rest) (dSeq t u) := DXs.mk fun G0 => PSs.imp (pss_cons (h1.ps G0) (h2.pss G0)) fun Dn σ H ⟨E, G, ρ, eo, w, en, h⟩ =>
  ⟨{ E with nx := u E }, G, ρ, ⟨fun σ' H' G' ρ' w' en' h' => ⟨E, G', ρ', eo, w', en', h'⟩, eo.bk, eo.ct, eo.rt⟩, w, en, h⟩
theorem dxs_one (h1 : DX X H0 st t) : DXs X H0 [st] t := DXs.mk fun G0 => pss_one (h1.ps G0)
theorem dx_if {x y : List Stmt} {tc : DTT} (hc : DTe X c tc) (ha : DXs X H0 x t) (hb : DXs X H0 y u) : DX X H0 (.If c x y pos) (dIfS tc t u) := DX.mk fun G0 => PS.imp (ps_if hc.pt (ha.pss G0) (hb.pss G0)) fun Dn σ H ⟨E, G, ρ, eo, w, en, h⟩ => by
  obtain ⟨G1, w1, sg, e1⟩ := en.freeze w
  refine ⟨G1, frz ρ, _, w1.gh, e1.p, h, fun c H' G' p' w' => ?_⟩
  cases c with
  | true => exact iteT ⟨E, G, ρ, eo, w.back w', en.back w'.hh, p'.1 rfl⟩
  | false => exact iteF ⟨E, G, ρ, eo, w.back w', en.back w'.hh, p'.2 rfl⟩
def dRaise (Z : Value → Prop) (c : Value) (t : DTA) : DTS := fun _ ρ => t (frz ρ) fun _ => Z c
theorem dx_raise {np cpos : Pos} (bd : Body X E) (hZ : ∀ cls H', Z cls → Same H0 H' → E cls none H') (hc : X.calm = true) (q : ErrCls X.K C) (hg : Gl X x) (hm : X.mg x = some (.ref C)) (ha : DA X (e :: es) tA) (hn : (e :: es).length ≤ 1000 := by decide) (hdb : (x == ("__debug__" : Str)) = false := by decide)
    (he : starEach (e :: es) X.env = (false, eval e X.env) :: starEach es X.env := by rfl) (hpl : (backTo cpos (starEach es X.env)).any (·.1) = false := by rfl) :
    DX X H0 (.Raise (some (.Call (.Name x np) (e :: es) [] cpos)) none pos) (dRaise Z (.ref C) tA) := DX.mk fun G0 => PS.imp (ps_raise bd hc q hg hm ha.pa hdb he hpl) fun Dn σ H ⟨Ed, G, ρ, eo, w, en, h⟩ => by
  obtain ⟨G1, w1, sg, e1⟩ := en.freeze w
  exact ⟨G1, frz ρ, _, w1.gh, e1.p, h, fun ds vs H' G' p' l' w' r' => ⟨by rw [Paired.length r', l']; exact Nat.le_of_lt (small1000 hn), hZ _ _ p' (w.hh.trans w'.hh)⟩⟩
section
variable (bd : Body X E) (hZ : ∀ cls H', Z cls → Same H0 H' → E cls none H') (F : FnDX X.prog X.w X.K X.mg X.base x k ps R) (hr : Room k X.A) (hg : Gl X x) (ha : DA X (e :: es) tA)
include bd hZ F hr hg ha
theorem dx_exprC (hdb : (x == ("__debug__" : Str)) = false := by decide) (he : starEach (e :: es) X.env = (false, eval e X.env) :: starEach es X.env := by rfl) (hpl : (backTo pos (starEach es X.env)).any (·.1) = false := by rfl)
    (hs : swapsWith (.Call (.Name x p) (e :: es) [] pos) none epos.line X.env = pure false := by rfl) : DX X H0 (.Expr (.Call (.Name x p) (e :: es) [] pos) epos) (fun E ρ => tA (frz ρ) fun ds => R ds (fun _ => E.nx ρ) Z) :=
  DX.mk fun G0 => PS.imp (ps_expr (pe_fnX bd F hr hg ha.pa hdb he hpl) hs) fun Dn σ H ⟨Ed, G, ρ, eo, w, en, h⟩ => by
    obtain ⟨G1, w1, sg, e1⟩ := en.freeze w
    refine ⟨G1, frz ρ, _, w1.gh, e1.p, h, fun ds vs H' G' p' l' w' r' => ?_⟩
    show spX X.K R (vs ++ []) H' _ E
    rw [List.append_nil]
    exact ⟨ds, G', _, Z, w'.gh, r', p', fun b v H2 G2 p2 w2 r2 => eo.nx σ H2 G ρ (w.back (w'.trans w2)) (en.back (w'.trans w2).hh) p2, fun cls H2 z s2 => hZ cls H2 z ((w.hh.trans w'.hh).trans s2)⟩
theorem dx_setC {i : Nat} {y : Str} {px : Pos} (hN : X.N.Nodup) (hi : X.N[i]? = some y) (hx : Loc X.env.scope y) (hdb : (x == ("__debug__" : Str)) = false := by decide) (he : starEach (e :: es) X.env = (false, eval e X.env) :: starEach es X.env := by rfl) (hpl : (backTo pos (starEach es X.env)).any (·.1) = false := by rfl)
    (hs : swapsWith (.Call (.Name x p) (e :: es) [] pos) (some (.Name y px)) epos.line X.env = pure false := by rfl) (hf : X.fn y = true ∨ X.env.scope.names.lookup y = some .local := by first | exact .inl rfl | exact .inr rfl | assumption) :
    DX X H0 (.Assign [.Name y px] (.Call (.Name x p) (e :: es) [] pos) epos) (fun E ρ => tA ρ fun ds => R ds (fun b => E.nx (dput ρ i (.p b.val))) Z) :=
  DX.mk fun G0 => PS.imp (ps_set hN hi hx (pe_fnX bd F hr hg ha.pa hdb he hpl) hs hf) fun Dn σ H ⟨Ed, G, ρ, eo, w, en, h⟩ => by
    refine ⟨G, ρ, _, w.gh, en.p, h, fun ds vs H' G' p' l' w' r' => ?_⟩
    show spX X.K R (vs ++ []) H' _ E
    rw [List.append_nil]
    refine ⟨ds, G', _, Z, w'.gh, r', p', fun b v H2 G2 p2 w2 r2 => ?_, fun cls H2 z s2 => hZ cls H2 z ((w.hh.trans w'.hh).trans s2)⟩
    obtain ⟨G3, w3, r3⟩ := (r2.ahead w'.hh).give (w'.trans w2)
    exact set_core i eo w en (b := .p b.val) p2 w3 r3
end
end
theorem for_coreH {K : PySem.W.Frag} {H0 G0 G H : Hp} {σ : St} {ρ : DEnv} {g : Tg} {tb : DTS} {J : It} {xs : List D} {E : DEnds} {Dn : Ends} (eo : EndsOk K H0 G0 E Dn) (w : Wd H0 G0 H G) (en : EnvO K H0 G H σ ρ) (it : ItD K G J xs) (h : forI g tb E xs ρ) :
    ∃ W : Nat → Nat → St → Hp → Prop, (∃ m, W 0 m σ H) ∧ ∀ i m σ H, W i m σ H →
      (J.stop i H ∧ Dn.nx σ H) ∨ (J.go i H ∧ ∃ N : St → Hp → Prop, (∀ σ' H', N σ' H' → ∃ m', m' < m ∧ W (i + 1) m' σ' H') ∧ ∀ x H', J.yld i H x H' → g.v K x σ H' fun σ2 H2 => ∃ G0, cS K H0 G0 tb { Dn with nx := N, ct := N, bk := Dn.nx } σ2 H2) := by
  obtain ⟨I, i0, is, ie⟩ := h
  have w0 : Wd H0 G H G := ⟨w.hh, Same.refl _, w.gh, fun _ _ => rfl⟩
  refine ⟨fun i m σ H => m = xs.length - i ∧ i ≤ xs.length ∧ ∃ G' ρ', Wd H0 G H G' ∧ EnvO K H0 G' H σ ρ' ∧ I i ρ', ⟨xs.length, by simp, Nat.zero_le _, G, ρ, w0, en, i0⟩, ?_⟩
  rintro i m σ H ⟨rfl, hi, G', ρ', w', en', p⟩
  by_cases hlt : i < xs.length
  · have hx : xs[i]? = some xs[i] := List.getElem?_eq_getElem hlt
    refine .inr ⟨it.go i _ H G' hx w'.gg w'.gh, fun σ2 H2 => ∃ G2 ρ2, Wd H0 G H2 G2 ∧ EnvO K H0 G2 H2 σ2 ρ2 ∧ I (i + 1) ρ2, fun σ2 H2 ⟨G2, ρ2, z⟩ => ⟨xs.length - (i + 1), by omega, rfl, hlt, G2, ρ2, z⟩, fun x H2 y => ?_⟩
    obtain ⟨G2, w2, r2⟩ := it.yld i _ H G' x H2 hx w'.gg w'.gh y
    refine Tg.ok w2.gh (en'.on w2) r2 (is i _ ρ' hx p) fun σ3 ρ3 e3 p3 => ?_
    exact ⟨G, { E with nx := I (i + 1), ct := I (i + 1), bk := E.nx }, G2, ρ3, ⟨fun σ4 H4 G4 ρ4 w4 e4 p4 => ⟨G4, ρ4, w4, e4, p4⟩, fun σ4 H4 G4 ρ4 w4 e4 p4 => eo.nx σ4 H4 G4 ρ4 (w.base w4) e4 p4, fun σ4 H4 G4 ρ4 w4 e4 p4 => ⟨G4, ρ4, w4, e4, p4⟩, fun b v H4 G4 w4 r4 p4 => eo.rt b v H4 G4 (w.base w4) r4 p4⟩, w'.trans w2, e3, p3⟩
  · have e : i = xs.length := by omega
    subst e
    exact .inl ⟨it.stop _ H G' rfl w'.gg w'.gh, eo.nx σ H G' ρ' (w.base w') en' (ie ρ' p)⟩
section
variable {X : Cx} {H0 : Hp} {tg iter : Expr} {body : List Stmt} {ti : DTA} {g : Tg} {tb : DTS} {pos : Pos}
theorem DXs.x (h : DXs X H0 body tb) : PSs X body (fun Dn σ H => ∃ G0, cS X.K H0 G0 tb Dn σ H) := fun pins s σ H D I ⟨G0, q⟩ => h.pss G0 pins s σ H D I q
theorem dx_for (hp : PassesOwn (model X.prog X.w) X.A X.env X.xe) (hc : X.calm = true) (hi : DI X tg iter ti) (hg : PG X tg (g.v X.K)) (hb : DXs X H0 body tb) (hs : ∀ x, foldedSetIterable iter X.env x = pure x := by intro _; rfl) : DX X H0 (.For tg iter body [] pos) (dFor ti g tb) := DX.mk fun G0 =>
  PS.imp (ps_for hp hc hi.pi hg hb.x hs) fun Dn σ H ⟨E, G, ρ, eo, w, en, h⟩ => ⟨G, ρ, _, w.gh, en.p, h, fun xs J H' G' p' w' it => for_coreH eo (w.trans w') (en.on w') it p'⟩
end
section
variable {P : Program} {w : World} {K : PySem.W.Frag} {mg : Str → Option Value} {base : Heap}
theorem okDX {x qual : Str} {st : Stmt} {f : Addr} {fd : FuncData} {N ps : List Str} {k : Nat} {R : DRX} (F : Fun K x qual st f fd) (S : FnScope N ps (defScope st)) (len : ∀ ds Q Z, R ds Q Z → ds.length = ps.length)
    (hbody : ∀ (cdv : Value) (A : Around) (outer : List Env) (s : Shared) (H : Hp) (E : XK) (Z : Value → Prop), Room k (A.deeper (PyProof.Rows.envOfC qual (defScope st) s.heap.objs.size f cdv)) → (∀ cls H', Z cls → Same H H' → E cls none H') →
      ∃ t, DXs (cxOf (CXe P w) P w K mg base N qual (defScope st) f cdv A outer s H E) H (defBody st) t ∧ ∀ ds Q, R ds Q Z → t { nx := fun _ => Q (.p .non), rt := Q } (startD N.length ds)) : FnOk P w K mg base (CXe P w) (k + 1) f fd ps (spX K R) := by
  refine F.okX S (fun vs H Q E ⟨ds, G, P, Z, s, r, h, _⟩ => by rw [Paired.length r]; exact len ds P Z h) fun cdv A outer s H vs Q E hr ⟨ds, G, P, Z, sg, r, h, k, kz⟩ => ?_
  obtain ⟨t, h1, h2⟩ := hbody cdv A outer s H E Z hr kz
  obtain ⟨e1, e2, e3⟩ := startD_ok (K := K) N.length r
  refine ⟨_, h1.pss G, _, G, _, ?_, Wd.refl sg, EnvO.only e2 e1 (startD_p _ _), h2 ds P h⟩
  exact ⟨fun σ H' G' ρ w' _ p => k _ _ H' G' p w' (show Rep K G' V.non D.non from .non), fun σ H' G' ρ w' _ p => p.elim, fun σ H' G' ρ w' _ p => p.elim, fun b v H' G' w' r' p => k b v H' G' p w' r'⟩
theorem FnOk.drop {f : Addr} {fd : FuncData} {ps : List Str} {k : Nat} {sp : Sp} (F : FnOk P w K mg base (CXe P w) k f fd ps sp) (h : ∀ vs H Q E, sp vs H Q E → sp vs H Q E0) : FnOk P w K mg base CX0 k f fd ps sp := by
  refine ⟨F.len, fun A outer s H args us vs Q E hr he hb hv hs => codeAny_mono (F.run A outer s H args us vs Q E0 hr he hb hv (h _ _ _ _ hs)) fun r s' q => ?_⟩
  cases r with
  | error e => exact (CXe.never (show CXe P w outer H s (fun _ _ _ => False) e s' from q)).elim
  | ok fl => cases fl <;> exact q
theorem fnx_drop {x : Str} {ps : List Str} {k : Nat} {R : DRX} (F : FnDX P w K mg base x k ps R) : FnD P w K mg base x k ps (fun ds Q => R ds Q fun _ => False) := by
  obtain ⟨f, fd, G, h1, h2, h3⟩ := F.ex
  refine ⟨f, fd, FnOk.drop (G.imp (sp' := spD K fun ds Q => R ds Q fun _ => False) fun vs H Q E ⟨ds, g, P, a, b, c, d⟩ => ⟨ds, g, P, _, a, b, c, d, fun _ _ z => z.elim⟩) (fun vs H Q E z => z), h1, h2, h3⟩
end
structure ErrAt (K : PySem.W.Frag) (mg : Str → Option Value) (x : Str) (C : Addr) : Prop where
  er : ErrCls K C
  at_ : mg x = some (.ref C)
  get : ExcGet K C
end DL
set_option maxHeartbeats 4000000
namespace DL
open PySem L2
section
variable {X : Cx} {o e : Expr} {es : List Expr} {te : DT} {tA : DTA} {pos : Pos}
def MethD (X : Cx) (id : String) (r : Str → List D → (B → Prop) → Prop) : Prop := ∃ rv, MtR X id rv ∧ ∀ (H G : Hp) (y : Str) (vs : List V) (ds : List D) (P : B → Prop) (Q : VK), Same G H → Reps X.K G vs ds → r y ds P → (∀ b v H' G', P b → Wd H G H' G' → BRes X.K H G' H' v b → Q v H') → rv (.str y) vs H Q
def dMeth (r : Str → List D → (B → Prop) → Prop) (te : DT) (t : DTA) : DT := fun ρ Q => te ρ fun b => match b.val with
  | .str y => t ρ fun ds => r y ds Q
  | _ => False
theorem de_strM {r : Str → List D → (B → Prop) → Prop} {name : Str} {apos cpos : Pos} {id : String} (pa : PlainAttrs "str") (slot : Slot "str" name id) (hty : typeOf (.builtin id) = pure (.type "method_descriptor")) (hm : MethD X id r) (ho : DE X o te) (ha : DA X (e :: es) tA)
    (hbase : attributeBase o name X.env (eval o X.env) = eval o X.env := by rfl)
    (hfew : ((backTo cpos (starEach (e :: es) X.env)).all (fun x => !x.1) && (backToKw cpos (keywordEach [] X.env)).all (fun x => x.1.isSome)
      && decide ((e :: es).length + ([] : List Keyword).length + (if ([] : List Keyword).isEmpty then 0 else 1) < 30)) = true := by rfl)
    (hline : (apos.endLine == cpos.line) = true := by rfl) (hs : starEach (e :: es) X.env = (false, eval e X.env) :: starEach es X.env := by rfl) (hplain : (backTo cpos (starEach es X.env)).any (·.1) = false := by rfl) :
    DE X (.Call (.Attribute o name apos) (e :: es) [] cpos) (dMeth r te tA) := by
  obtain ⟨rv, h1, h2⟩ := hm
  refine DE.of (pe_bm pa slot hty h1 ho.pe ha.pa hbase hfew hline hs hplain) fun σ H Q ⟨G, ρ, P, s, re, h, k⟩ => ?_
  refine ⟨G, ρ, _, s, re, h, fun b v H1 G1 p1 w1 r1 => ?_⟩
  obtain ⟨G1', w1', r1'⟩ := r1.give w1
  split at p1
  · rename_i y ey
    rw [ey] at r1'
    cases r1'
    refine ⟨rfl, G1', ρ, _, w1'.gh, re.mono w1'.gg, p1, fun ds vs H2 G2 p2 l2 w2 r2 => ?_⟩
    exact h2 H2 G2 y vs ds P Q w2.gh r2 p2 (go_on k (w1'.trans w2))
  · exact p1.elim
def dSplit (a : Str) (ds : List D) (P : B → Prop) : Prop := match ds with
  | [.str y] => (y.length == 0) = false ∧ a.length + 2 ≤ sizeLine ∧ P (.o (.lst ((Txt.split a y).map D.str)))
  | _ => False
theorem md_split : MethD X "str.split" dSplit := by
  refine ⟨_, mt_split, fun H G a vs ds P Q s r h k => ?_⟩
  unfold dSplit at h
  split at h
  · obtain ⟨v, rfl, rv⟩ := reps1 r
    cases rv
    refine ⟨a, _, rfl, rfl, h.1, h.2.1, fun p hp => ?_⟩
    obtain ⟨w2, r2⟩ := own_new (Wd.refl s) hp (strs_reps (K := X.K) (Txt.split a _))
    exact k _ _ _ _ h.2.2 w2 r2
  · exact h.elim
def dJoinM (sep : Str) (ds : List D) (P : B → Prop) : Prop := match ds with
  | [.lst xs] => ∃ ts : List Str, xs = ts.map D.str ∧ JoinOk sep ts = true ∧ P (.p (.str (Str.join sep ts)))
  | _ => False
theorem md_join : MethD X "str.join" dJoinM := by
  refine ⟨_, mt_join, fun H G a vs ds P Q s r h k => ?_⟩
  unfold dJoinM at h
  split at h
  · obtain ⟨ts, rfl, hj, h⟩ := h
    obtain ⟨v, rfl, rv⟩ := reps1 r
    obtain ⟨p, us, rfl, e, rr⟩ := rv.lst_inv
    rw [reps_strs rr] at e
    exact ⟨a, p, ts, rfl, rfl, SqL.of (s _ _ e), hj, k _ _ H G h (Wd.refl s) (.str _)⟩
  · exact h.elim
def dStarts (a : Str) (ds : List D) (P : B → Prop) : Prop := match ds with
  | [.str y] => P (.p (.bl (decide (0 + y.length ≤ a.length) && Builtin.Str.subAt a y 0)))
  | _ => False
theorem md_starts : MethD X "str.startswith" dStarts := by
  refine ⟨_, mt_starts, fun H G a vs ds P Q s r h k => ?_⟩
  unfold dStarts at h
  split at h
  · obtain ⟨v, rfl, rv⟩ := reps1 r
    cases rv
    exact ⟨a, _, rfl, rfl, k _ _ H G h (Wd.refl s) (.bl _)⟩
  · exact h.elim
def dInS : D2 := fun x y Q => match x, y with
  | .str i, .str j => Q (.p (.bl (!(Builtin.Str.occurrences j i 0 j.length 1).isEmpty)))
  | _, _ => False
theorem od_inS : OpD X (compareOp .In) dInS := by
  refine ⟨_, op_in_str, fun H G x y dx dy P Q s rx ry h k => ?_⟩
  unfold dInS at h
  split at h
  · cases rx; cases ry
    exact ⟨_, _, rfl, rfl, k _ _ H G h (Wd.refl s) (.bl _)⟩
  · exact h.elim
def dIntT : DR := fun ds P => match ds with
  | [.str x] => ∃ n, PySem.intText? x = some n ∧ x.length ≤ 640 ∧ P (.p (.int n))
  | _ => False
theorem cd_intT : CallD X (.type "int") dIntT := by
  refine ⟨_, call_intT, fun H G vs ds P Q s r h k => ?_⟩
  unfold dIntT at h
  split at h
  · obtain ⟨n, h1, h2, h3⟩ := h
    obtain ⟨v, rfl, rv⟩ := reps1 r
    cases rv
    exact ⟨_, n, rfl, h1, h2, k _ _ H G h3 (Wd.refl s) (.int _)⟩
  · exact h.elim
abbrev DTJ := DEnv → Str → (Str → Prop) → Prop
def cJ (K : PySem.W.Frag) (t : DTJ) : TJ := fun σ H acc R => ∃ (G : Hp) (ρ : DEnv) (P : Str → Prop), Same G H ∧ RepE K G σ ρ ∧ t ρ acc P ∧ ∀ out H' G', P out → Wd H G H' G' → R out H'
structure DJ (X : Cx) (es : List Expr) (t : DTJ) : Prop where
  pj : PJ X es (cJ X.K t)
theorem PJ.imp {t t' : TJ} (h : PJ X es t) (i : ∀ σ H acc R, t' σ H acc R → t σ H acc R) : PJ X es t' := fun pins s σ H acc R I q => h pins s σ H acc R I (i σ H acc R q)
def djNil : DTJ := fun _ acc P => P acc
def djStr (x : Str) (t : DTJ) : DTJ := fun ρ acc P => (acc ++ x).length ≤ sizeLine ∧ t ρ (acc ++ x) P
def djVal (te : DT) (t : DTJ) : DTJ := fun ρ acc P => te ρ fun b => match b.val with
  | .str y => y.length ≤ sizeLine ∧ (acc ++ y).length ≤ sizeLine ∧ t ρ (acc ++ y) P
  | .int i => i.natAbs.log2 < 1920 ∧ (acc ++ (toString i : Str)).length ≤ sizeLine ∧ t ρ (acc ++ (toString i : Str)) P
  | _ => False
theorem dj_nil : DJ X [] djNil := ⟨PJ.imp pj_nil fun σ H acc R ⟨G, ρ, P, s, re, h, k⟩ => k _ H G h (Wd.refl s)⟩
theorem dj_str {x : Str} {j : Nat} {t : DTJ} (h : DJ X es t) : DJ X (.Constant (.str x) j pos :: es) (djStr x t) :=
  ⟨PJ.imp (pj_str h.pj) fun σ H acc R ⟨G, ρ, P, s, re, h, k⟩ => ⟨h.1, G, ρ, P, s, re, h.2, k⟩⟩
theorem dj_val {value : Expr} {t : DTJ} (hv : DE X value te) (h : DJ X es t) : DJ X (.FormattedValue value (-1) none pos :: es) (djVal te t) :=
  ⟨PJ.imp (pj_val hv.pe h.pj) fun σ H acc R ⟨G, ρ, P, s, re, h, k⟩ => by
    refine ⟨G, ρ, _, s, re, h, fun b v H1 G1 p1 w1 r1 => ?_⟩
    obtain ⟨G1', w1', r1'⟩ := r1.give w1
    split at p1
    · rename_i y ey
      rw [ey] at r1'
      cases r1'
      exact ⟨y, .inl ⟨rfl, p1.1⟩, p1.2.1, G1', ρ, P, w1'.gh, re.mono w1'.gg, p1.2.2, fun out H2 G2 q w2 => k out H2 G2 q (w1'.trans w2)⟩
    · rename_i i ei
      rw [ei] at r1'
      cases r1'
      exact ⟨_, .inr ⟨i, rfl, p1.1, rfl⟩, p1.2.1, G1', ρ, P, w1'.gh, re.mono w1'.gg, p1.2.2, fun out H2 G2 q w2 => k out H2 G2 q (w1'.trans w2)⟩
    · exact p1.elim⟩
def dFmt (t : DTJ) : DT := fun ρ Q => t ρ Str.empty fun out => out.length ≤ sizeLine ∧ Q (.p (.str out))
theorem de_fmt {v1 v2 : Expr} {rest : List Expr} {t : DTJ} (h : DJ X (v1 :: v2 :: rest) t) : DE X (.JoinedStr (v1 :: v2 :: rest) pos) (dFmt t) :=
  DE.of (pe_join h.pj) fun σ H Q ⟨G, ρ, P, s, re, h, k⟩ => ⟨G, ρ, _, s, re, h, fun out H' G' p' w' => ⟨p'.1, k _ _ H' G' p'.2 w' (.str _)⟩⟩
end
theorem dLen_str (x : Str) (P : B → Prop) : dLen [.str x] P = (x.length ≤ sizeLine ∧ P (.p (.int x.length))) := rfl
theorem dSplit_is (a y : Str) (P : B → Prop) : dSplit a [.str y] P = ((y.length == 0) = false ∧ a.length + 2 ≤ sizeLine ∧ P (.o (.lst ((Txt.split a y).map D.str)))) := rfl
theorem dJoinM_is (sep : Str) (xs : List D) (P : B → Prop) : dJoinM sep [.lst xs] P = ∃ ts : List Str, xs = ts.map D.str ∧ JoinOk sep ts = true ∧ P (.p (.str (Str.join sep ts))) := rfl
theorem dIntT_is (x : Str) (P : B → Prop) : dIntT [.str x] P = ∃ n, PySem.intText? x = some n ∧ x.length ≤ 640 ∧ P (.p (.int n)) := rfl
end DL
set_option maxHeartbeats 4000000
namespace L2
open PySem PySem.Spec PyProof.Rows
section
variable {X : Cx}
def rSlS : V → Option Int → Option Int → Hp → VK → Prop := fun x lo hi H Q => ∃ z, x = .str z ∧ z.length ≤ sizeLine ∧ Q (.str (Txt.slice z lo hi)) H
theorem sl_str : SlR X rSlS := by
  intro pins s σ H x v vl vu lo hi sl Q I rx hs pl pu h
  obtain ⟨z, rfl, hz, q⟩ := h
  obtain ⟨t, rfl⟩ := rx
  refine ⟨"str", _, F.slot_str_getitem.lookup, typeIs_str _ _ _, ?_⟩
  have fin : ∀ t' k, EP X pins σ Q (.str (Txt.slice z lo hi) t') { s with toks := k } := fun t' k => ⟨.str _, H, I.tok k, ⟨t', rfl⟩, q⟩
  have le := Nat.le_trans (Txt.slice_le z lo hi) hz
  cases pl with
  | none => cases pu with
    | none => exact wpAny_getItem_str_slice (l := none) (u := none) (st := none) hs rfl (post_val_or_str ⟨le, fun t' k => fin t' k⟩)
    | int j tj => exact wpAny_getItem_str_slice (l := none) (u := some (j, tj)) (st := none) hs rfl (post_val_or_str ⟨le, fun t' k => fin t' k⟩)
  | int i ti => cases pu with
    | none => exact wpAny_getItem_str_slice (l := some (i, ti)) (u := none) (st := none) hs rfl (post_val_or_str ⟨le, fun t' k => fin t' k⟩)
    | int j tj => exact wpAny_getItem_str_slice (l := some (i, ti)) (u := some (j, tj)) (st := none) hs rfl (post_val_or_str ⟨le, fun t' k => fin t' k⟩)
def findI (x y : Str) : Int := match Builtin.Str.occurrences x y 0 x.length 1 with
  | i :: _ => (i : Int)
  | [] => -1
end
end L2
namespace DL
open PySem L2
section
variable {X : Cx} {o e : Expr} {es : List Expr} {te : DT} {tA : DTA} {pos : Pos}
def dFind (a : Str) (ds : List D) (P : B → Prop) : Prop := match ds with
  | [.str y] => P (.p (.int (findI a y)))
  | _ => False
def dNotInS : D2 := fun x y Q => match x, y with
  | .str i, .str j => Q (.p (.bl (!(!(Builtin.Str.occurrences j i 0 j.length 1).isEmpty))))
  | _, _ => False
def dSlT (te : DT) (tl th : DTO) : DT := fun ρ Q => te ρ fun b => tl ρ fun lo => th ρ fun hi => match b.val with
  | .str z => z.length ≤ sizeLine ∧ Q (.p (.str (Txt.slice z lo hi)))
  | _ => False
theorem de_sliceT {lo hi : Option Expr} {tl th : DTO} {p2 : Pos} (he : DE X e te) (hl : DO X lo tl) (hu : DO X hi th) : DE X (.Subscript e (.Slice lo hi none p2) pos) (dSlT te tl th) :=
  DE.of (pe_slice sl_str he.pe hl.po hu.po) fun σ H Q ⟨G, ρ, P, s, re, h, k⟩ => by
    refine ⟨G, ρ, _, s, re, h, fun b v H1 G1 p1 w1 r1 => ?_⟩
    obtain ⟨G1', w1', r1'⟩ := r1.give w1
    refine ⟨G1', ρ, _, w1'.gh, re.mono w1'.gg, p1, fun l H2 G2 p2 w2 => ?_⟩
    have w12 := w1'.trans w2
    refine ⟨G2, ρ, _, w2.gh, re.mono w12.gg, p2, fun u H3 G3 p3 w3 => ?_⟩
    have w13 := w12.trans w3
    have r3 := r1'.mono (w2.trans w3).gg
    split at p3
    · rename_i z e
      rw [e] at r3
      cases r3
      exact ⟨z, rfl, p3.1, k _ _ H3 G3 p3.2 w13 (.str _)⟩
    · exact p3.elim
theorem dIx_str (z : Str) (i : Int) (Q : B → Prop) : dIx (.str z) (.int i) Q = ∃ c, z.length ≤ sizeLine ∧ atI z.cps.toList i = some c ∧ Q (.p (.str ⟨#[c]⟩)) := rfl
theorem dStrI_is (i : Int) (P : B → Prop) : dStrI [.int i] P = (i.natAbs.log2 < 1920 ∧ P (.p (.str (toString i)))) := rfl
theorem dFind_is (a y : Str) (P : B → Prop) : dFind a [.str y] P = P (.p (.int (findI a y))) := rfl
end
end DL
namespace WS
open PySem L2
theorem slice_to {x : Str} {j : Int} (h0 : 0 ≤ j) (h1 : j ≤ x.length) : codes (Txt.slice x none (some j)) = (codes x).take j.toNat := by
  have h := PyProof.Rows.slice_closes_to (x := x) (j := j) ⟨h0, by rw [len_codes] at h1; exact h1⟩
  have h' := eq_of_beq h
  rw [h']
  show List.take (j - 0).toNat (List.drop (0 : Int).toNat x.cps.toList) = _
  rw [Int.sub_zero]
  rfl
theorem slice_from {x : Str} {j : Int} (h0 : 0 ≤ j) (h1 : j ≤ x.length) : codes (Txt.slice x (some j) none) = (codes x).drop j.toNat := by
  have h := PyProof.Rows.slice_from_eq (x := x) (i := j) (b := x.length) h0 h1 rfl
  rw [h]
  show List.take _ (List.drop j.toNat x.cps.toList) = _
  refine List.take_of_length_le ?_
  rw [List.length_drop, ← len_codes]
  omega
theorem join_app {sep : Str} : ∀ (a b : List Str), a ≠ [] → b ≠ [] → Str.join sep (a ++ b) = Str.join sep a ++ sep ++ Str.join sep b
  | [], _, h, _ => absurd rfl h
  | [x], [], _, h => absurd rfl h
  | [x], y :: r, _, _ => by rw [List.cons_append, List.nil_append, join_cons]; rfl
  | x :: y :: r, b, _, hb => by
    have ih := join_app (sep := sep) (y :: r) b (by simp) hb
    rw [List.cons_append, List.cons_append, join_cons, ← List.cons_append, ih, join_cons]
    simp only [Str.append_assoc]
theorem split_app (c : Nat) (a b : Str) : Txt.split (a ++ ⟨#[c]⟩ ++ b) ⟨#[c]⟩ = Txt.split a ⟨#[c]⟩ ++ Txt.split b ⟨#[c]⟩ := by
  have ha := split_ne a ⟨#[c]⟩
  have hb := split_ne b ⟨#[c]⟩
  have h := split_join (c := c) (ps := Txt.split a ⟨#[c]⟩ ++ Txt.split b ⟨#[c]⟩) (fun z => ha (List.append_eq_nil_iff.mp z).1) (fun p hp => (List.mem_append.mp hp).elim (StrLaws.split_free _ c p) (StrLaws.split_free _ c p))
  rw [join_app _ _ ha hb, StrLaws.join_split, StrLaws.join_split] at h
  exact h
theorem isNum_free {c : Nat} {w : Str} (hc : c < 48 ∨ 57 < c) (h : isNum w = true) : c ∉ codes w := fun z => by
  unfold isNum at h
  simp only [Bool.and_eq_true, decide_eq_true_eq, List.all_eq_true] at h
  have := figs_mem.mp (h.2 c z)
  omega
end WS
set_option maxHeartbeats 4000000
namespace L2
open PySem PySem.Spec PyProof.Rows
section
variable {X : Cx} {value : Expr} {pos : Pos} {te : TE} {es : List Expr} {t : TJ}
def jReprS (te : TE) (t : TJ) : TJ := fun σ H acc R => te σ H fun v H1 => ∃ x, v = .str x ∧ (reprText x).length ≤ sizeLine ∧ (acc ++ reprText x).length ≤ sizeLine ∧ t σ H1 (acc ++ reprText x) R
theorem pj_reprS (hv : PE X value te) (h : PJ X es t) : PJ X (.FormattedValue value 114 none pos :: es) (jReprS te t) := by
  intro pins s σ H acc R I q
  show wpAny _ _ (eval (.FormattedValue value 114 none pos) X.env) _ _ s
  refine wpAny_FormattedValue_repr (thn (hv pins s σ H _ I q) fun v s1 ⟨y, H1, I1, r1, x, ex, hz, hz2, q1⟩ => ?_)
  subst ex
  obtain ⟨t', rfl⟩ := r1
  refine pyReprObj_str ?_ hz
  exact wpAny_formatField_str ⟨_, _, rfl, hz2, h pins _ σ H1 _ R (I1.tok _) q1⟩ ⟨_, _, rfl, hz2, h pins _ σ H1 _ R ((I1.tok _).tok _) q1⟩ hz
def jReprL (K : PySem.W.Frag) (te : TE) (t : TJ) : TJ := fun σ H acc R => te σ H fun v H1 => ∃ (p : Addr) (xs : List Str), v = .ref p ∧ SqL K H1 p (xs.map V.str) ∧ xs ≠ [] ∧ (∀ x ∈ xs, (reprText x).length ≤ sizeLine) ∧ (listText (xs.map reprText)).length ≤ sizeLine ∧
  (acc ++ listText (xs.map reprText)).length ≤ sizeLine ∧ t σ H1 (acc ++ listText (xs.map reprText)) R
theorem strs_vals : ∀ {xs : List Str} {us : List Value}, Vals (xs.map V.str) us → us.length = xs.length ∧ ∀ (i : Nat) (y : Value), us[i]? = some y → ∃ x tk, xs[i]? = some x ∧ y = .str x tk
  | [], us, h => by
    cases h
    exact ⟨rfl, fun i y e => by cases e⟩
  | x :: xs, us, h => by
    cases h with
    | cons a b =>
      obtain ⟨e1, e2⟩ := strs_vals b
      obtain ⟨tk, rfl⟩ := a
      refine ⟨by rw [List.length_cons, List.length_cons, e1], fun i y e => ?_⟩
      cases i with
      | zero => cases e; exact ⟨x, tk, rfl, rfl⟩
      | succ i => exact e2 i y e
theorem pj_reprL {k : Nat} (hr : Room k X.A) (hv : PE X value te) (h : PJ X es t) : PJ X (.FormattedValue value 114 none pos :: es) (jReprL X.K te t) := by
  intro pins s σ H acc R I q
  show wpAny _ _ (eval (.FormattedValue value 114 none pos) X.env) _ _ s
  refine wpAny_FormattedValue_repr (thn (hv pins s σ H _ I q) fun v s1 ⟨y, H1, I1, r1, p, xs, ex, hs, hne, hz0, hz, hz2, q1⟩ => ?_)
  subst ex
  obtain rfl : v = Value.ref p := r1
  obtain ⟨its, rv, pl, _⟩ := I1.list hs
  obtain ⟨e1, e2⟩ := strs_vals rv
  obtain ⟨oa, na, ho, hc, _, hd⟩ := pl
  cases its with
  | nil => exact absurd (List.length_eq_zero_iff.mp e1.symm) hne
  | cons y0 l =>
    refine wpAny_pyReprObj_listK (as := []) (h₀ := s1.heap) (d := 0) (ts := xs.map reprText) ho hc hd (by simp) (by rw [List.length_map, List.size_toArray]; exact e1.symm) (fun i y e => ?_) hr.gs (fun b _ => Clear.nil b) (by have := hr.units; omega) (fun b o e => e) (fun h' u tk hk => ?_) hz
    · have e' : (y0 :: l)[i]? = some y := by simpa using e
      obtain ⟨x, tk, h1, rfl⟩ := e2 i y e'
      exact ⟨reprText x, by rw [List.getElem?_map, h1]; rfl, ReprK.of_is (ReprIs.str x tk (hz0 x (List.mem_of_getElem? h1))) _ _ _⟩
    · exact wpAny_formatField_str ⟨_, _, rfl, hz2, h pins _ σ H1 _ R (I1.kept hk) q1⟩ ⟨_, _, rfl, hz2, h pins _ σ H1 _ R ((I1.kept hk).tok _) q1⟩ hz
end
end L2
set_option maxHeartbeats 4000000
namespace DL
open PySem L2
section
variable {X : Cx} {value : Expr} {pos : Pos} {te : DT} {es : List Expr} {t : DTJ}
def djReprS (te : DT) (t : DTJ) : DTJ := fun ρ acc P => te ρ fun b => match b.val with
  | .str x => (reprText x).length ≤ sizeLine ∧ (acc ++ reprText x).length ≤ sizeLine ∧ t ρ (acc ++ reprText x) P
  | _ => False
theorem dj_reprS (hv : DE X value te) (h : DJ X es t) : DJ X (.FormattedValue value 114 none pos :: es) (djReprS te t) :=
  ⟨PJ.imp (pj_reprS hv.pe h.pj) fun σ H acc R ⟨G, ρ, P, s, re, h, k⟩ => by
    refine ⟨G, ρ, _, s, re, h, fun b v H1 G1 p1 w1 r1 => ?_⟩
    obtain ⟨G1', w1', r1'⟩ := r1.give w1
    split at p1
    · rename_i y ey
      rw [ey] at r1'
      cases r1'
      exact ⟨y, rfl, p1.1, p1.2.1, G1', ρ, P, w1'.gh, re.mono w1'.gg, p1.2.2, fun out H2 G2 q w2 => k out H2 G2 q (w1'.trans w2)⟩
    · exact p1.elim⟩
def djReprL (te : DT) (t : DTJ) : DTJ := fun ρ acc P => te ρ fun b => match b.val with
  | .lst ds => ∃ xs : List Str, ds = xs.map D.str ∧ xs ≠ [] ∧ (∀ x ∈ xs, (reprText x).length ≤ sizeLine) ∧ (listText (xs.map reprText)).length ≤ sizeLine ∧ (acc ++ listText (xs.map reprText)).length ≤ sizeLine ∧ t ρ (acc ++ listText (xs.map reprText)) P
  | _ => False
theorem dj_reprL {k : Nat} (hr : Room k X.A) (hv : DE X value te) (h : DJ X es t) : DJ X (.FormattedValue value 114 none pos :: es) (djReprL te t) :=
  ⟨PJ.imp (pj_reprL hr hv.pe h.pj) fun σ H acc R ⟨G, ρ, P, s, re, h, k⟩ => by
    refine ⟨G, ρ, _, s, re, h, fun b v H1 G1 p1 w1 r1 => ?_⟩
    obtain ⟨G1', w1', r1'⟩ := r1.give w1
    split at p1
    · rename_i ds ey
      rw [ey] at r1'
      obtain ⟨xs, rfl, h1, h2, h3, h4, h5⟩ := p1
      obtain ⟨p, us, rfl, e, rr⟩ := r1'.lst_inv
      rw [reps_strs rr] at e
      exact ⟨p, xs, rfl, SqL.of (w1'.gh _ _ e), h1, h2, h3, h4, G1', ρ, P, w1'.gh, re.mono w1'.gg, h5, fun out H2 G2 q w2 => k out H2 G2 q (w1'.trans w2)⟩
    · exact p1.elim⟩
end
end DL
set_option maxHeartbeats 4000000
namespace DL
open PySem L2
section
variable {X : Cx} {e e1 a b : Expr} {es : List Expr} {te t1 ta tb : DT} {tA : DTA} {pos : Pos}
def cEO (K : PySem.W.Frag) (H0 : Hp) (t : DT) : TE := fun σ H Q => ∃ (G : Hp) (ρ : DEnv) (P : B → Prop), Same G H ∧ EnvO K H0 G H σ ρ ∧ t ρ P ∧ ∀ b v H' G', P b → Wd H G H' G' → BRes K H G' H' v b → Q v H'
structure DEO (X : Cx) (e : Expr) (t : DT) : Prop where
  pe : ∀ H0, PE X e (cEO X.K H0 t)
theorem DEO.of {t : Hp → TE} {t' : DT} (h : ∀ H0, PE X e (t H0)) (i : ∀ H0 σ H Q, cEO X.K H0 t' σ H Q → t H0 σ H Q) : DEO X e t' := ⟨fun H0 pins s σ H Q I q => h H0 pins s σ H Q I (i H0 σ H Q q)⟩
def dIxO (i : Nat) (tk : DT) : DT := fun ρ Q => match dget ρ i with
  | some (.o (.lst ds)) => tk ρ fun b => match b.val with
    | .int k => ∃ d, atI ds k = some d ∧ Q (.p d)
    | _ => False
  | _ => False
theorem deo_ix {x : Str} {px : Pos} {i : Nat} {k : Expr} {tk : DT} (hk : DE X k tk) (hN : X.N[i]? = some x := by rfl) (hv : Vis X.env.scope x := by first | exact Or.inl rfl | exact Or.inr (Or.inl rfl) | exact Or.inr (Or.inr rfl)) (hs : PlainIx k := by exact fun _ _ => rfl) (hd : (x == ("__debug__" : Str)) = false := by decide)
    (hcd : (x == ("__classdict__" : Str)) = false := by decide) : DEO X (.Subscript (.Name x px) k pos) (dIxO i tk) :=
  DEO.of (fun _ => pe_ix ix_seq (pe_var hN hv hd hcd) hk.pe hs) fun H0 σ H Q ⟨G, ρ, P, s, en, h, k⟩ => by
    unfold dIxO at h
    split at h
    · rename_i ds q
      obtain ⟨a, h1, h2, h3, vs, h4, h5⟩ := en.o i _ q
      refine ⟨.ref a, h1, G, ρ, _, s, en.repE, h, fun b v H1 G1 p1 w1 r1 => ?_⟩
      split at p1
      · rename_i z ez
        obtain ⟨d, h6, h7⟩ := p1
        have e := bres_int w1 r1 ez
        subst e
        obtain ⟨u, h8, h9⟩ := atI_rep (h5.mono w1.gg) h6
        exact .inl ⟨a, vs, _, u, rfl, rfl, SqL.of (w1.hh _ _ h4), h8, k _ _ H1 G1 h7 w1 h9⟩
      · exact p1.elim
    · exact h.elim
def dCallO (R : DR) (t1 : DT) (tA : DTA) : DT := fun ρ Q => t1 ρ fun b => tA ρ fun ds => R (b.val :: ds) Q
theorem deo_fn {x : Str} {k : Nat} {ps : List Str} {R : DR} {p : Pos} (F : FnD X.prog X.w X.K X.mg X.base x k ps R) (hr : Room k X.A) (hg : Gl X x) (h1 : DEO X e t1) (ha : DA X es tA)
    (hdb : (x == ("__debug__" : Str)) = false := by decide) (he : starEach (e :: es) X.env = (false, eval e X.env) :: starEach es X.env := by rfl) (hpl : (backTo pos (starEach es X.env)).any (·.1) = false := by rfl) :
    DEO X (.Call (.Name x p) (e :: es) [] pos) (dCallO R t1 tA) :=
  DEO.of (fun H0 => pe_fn F hr hg (pa_cons (h1.pe H0) ha.pa he) hdb he hpl) fun H0 σ H Q ⟨G, ρ, P, s, en, h, k⟩ => by
    refine ⟨G, ρ, _, s, en, h, fun b v H1 G1 p1 w1 r1 => ?_⟩
    obtain ⟨G1', w1', r1'⟩ := r1.give w1
    refine ⟨G1', ρ, _, w1'.gh, en.repE.mono w1'.gg, p1, fun ds vs H2 G2 p2 l2 w2 r2 => ?_⟩
    show spD X.K R (v :: vs ++ []) H2 Q E0
    rw [List.append_nil]
    exact ⟨b.val :: ds, G2, P, w2.gh, .cons (r1'.mono w2.gg) r2, p2, go_on k (w1'.trans w2)⟩
def dAsgD (te : DT) (g : Tg) : DTS := fun E ρ => te (frz ρ) fun b => g.d b.val (frz ρ) E.nx
theorem ds_setIxEO {i : Nat} {x : Str} {px : Pos} {k : Expr} {tk : DT} {tpos : Pos} (hN : X.N[i]? = some x) (hv : Vis X.env.scope x) (hk : DE X k tk) (he : DEO X e te) (hd : (x == ("__debug__" : Str)) = false := by decide) (hcd : (x == ("__classdict__" : Str)) = false := by decide)
    (ha : ∀ v, assign (.Subscript (.Name x px) k tpos) X.env v = (do
      let ov ← holding [v] (eval (.Name x px) X.env)
      let iv ← holding [v, ov] (eval k X.env)
      standAt tpos
      holding [v, ov, iv] (setItem ov iv v)
      release [v, ov, iv] []) := by intro _; rfl)
    (hs : swapsWithSole [.Subscript (.Name x px) k tpos] e pos.line X.env = pure false := by rfl) (hw : swappedStores [.Subscript (.Name x px) k tpos] e X.env = pure none := by rfl)
    (h1 : (assignEach [.Subscript (.Name x px) k tpos] X.env).map (·.2) = [assign (.Subscript (.Name x px) k tpos) X.env] := by rfl) :
    DS X (.Assign [.Subscript (.Name x px) k tpos] e pos) (dSetIx i tk te) := DS.mk fun H0 G0 =>
  PS.imp (ps_asg (he.pe H0) (pg_sub (pe_var hN hv hd hcd) hk.pe set_list ha) hs hw h1) fun Dn σ H ⟨E, G, ρ, eo, w, en, h⟩ => by
    refine ⟨G, ρ, _, w.gh, en, h, fun b v H' G' p' w' r' => ?_⟩
    obtain ⟨G2, w2, r2⟩ := r'.give w'
    split at p'
    · rename_i ds q
      exact setix_fin eo (w.trans w2) (en.on w2) r2 q p'
    · exact p'.elim
end
end DL
set_option maxHeartbeats 4000000
namespace DL
open PySem L2
section
variable {X : Cx}
theorem EnvO.setN {K : PySem.W.Frag} {H0 G H : Hp} {σ : St} {ρ : DEnv} {i : Nat} {v : V} (h : EnvO K H0 G H σ ρ) (hi : dget ρ i = none) : EnvO K H0 G H (σ.set i (some v)) ρ := by
  obtain ⟨w, h⟩ := h
  have ne : ∀ {j b}, dget ρ j = some b → i ≠ j := fun q z => by rw [z] at hi; rw [hi] at q; cases q
  refine ⟨w, by rw [List.length_set]; exact h.len, fun j d q => ?_, fun j d q => ?_, fun j t ds q => ?_⟩
  · obtain ⟨u, h1, h2⟩ := h.p j d q
    exact ⟨u, by rw [List.getElem?_set_ne (ne q)]; exact h1, h2⟩
  · obtain ⟨a, h1, h2⟩ := h.o j d q
    exact ⟨a, by rw [List.getElem?_set_ne (ne q)]; exact h1, h2⟩
  · obtain ⟨a, h1, h2⟩ := h.n j t ds q
    exact ⟨a, by rw [List.getElem?_set_ne (ne q)]; exact h1, h2⟩
def dAlias (i j0 j1 jo : Nat) (m : Int) (tc : DT) : DTS := fun E ρ => dget ρ i = none ∧ i < ρ.length ∧ ∃ ds0 ds1 d, dget ρ j0 = some (.o (.lst ds0)) ∧ dget ρ j1 = some (.o (.lst ds1)) ∧ dget ρ jo = some (.p d) ∧ ds0.length < sizeLine ∧ ds1.length < sizeLine ∧ tc ρ fun b => match b.val with
  | .bl true => ((ds1.length : Int) < m → E.nx (dput ρ j1 (.o (.lst (ds1 ++ [d]))))) ∧ (¬ (ds1.length : Int) < m → E.nx ρ)
  | .bl false => ((ds0.length : Int) < m → E.nx (dput ρ j0 (.o (.lst (ds0 ++ [d]))))) ∧ (¬ (ds0.length : Int) < m → E.nx ρ)
  | _ => False
def tAliasB (K : PySem.W.Frag) (i jo : Nat) (m : Int) : TS := tIfS (tTest (tOp (rI0 fun i j => V.bl (decide (i < j))) (tCB (rLen K) (tCons (tVar i) tNil)) (tC (.int m)))) (tDrop (tBM K "list" rAppend (tVar i) (tCons (tVar jo) tNil))) tNext
def tAlias (K : PySem.W.Frag) (i j0 j1 jo : Nat) (m : Int) (tc : TE) : TS :=
  tSeq (tAsg (tOp (rIxL K) (tLst (tCons (tVar j0) (tCons (tVar j1) tNil))) (tCB (fun xs H Q => (∃ i, xs = [V.int i] ∧ Q (V.int i) H) ∨ ∃ k, xs = [V.bl k] ∧ Q (V.int (if k = true then 1 else 0)) H) (tCons tc tNil))) (gName i)) (tAliasB K i jo m)
theorem alias_fin {K : PySem.W.Frag} {H0 G0 H G : Hp} {σ : St} {ρ : DEnv} {E : DEnds} {Dn : Ends} {i j jo : Nat} {m : Int} {ds : List D} {d : D} {a : Addr} (eo : EndsOk K H0 G0 E Dn) (w : Wd H0 G0 H G) (en : EnvO K H0 G H σ ρ) (hi : dget ρ i = none) (li : i < ρ.length) (q : dget ρ j = some (.o (.lst ds))) (qa : σ[j]? = some (some (.ref a))) (qo : dget ρ jo = some (.p d)) (z : ds.length < sizeLine)
    (h : ((ds.length : Int) < m → E.nx (dput ρ j (.o (.lst (ds ++ [d]))))) ∧ (¬ (ds.length : Int) < m → E.nx ρ)) : tAliasB K i jo m Dn (σ.set i (some (.ref a))) H := by
  obtain ⟨a', s1, n1, g1, vs, e1, r1⟩ := en.o j _ q
  rw [qa] at s1
  cases s1
  obtain ⟨vo, so, ro⟩ := en.p jo _ qo
  have en' : EnvO K H0 G H (σ.set i (some (.ref a))) ρ := en.setN hi
  have si : (σ.set i (some (V.ref a)))[i]? = some (some (.ref a)) := List.getElem?_set_self (by rw [en.len]; exact li)
  have nj : i ≠ j := fun e => by rw [e, q] at hi; cases hi
  have no : i ≠ jo := fun e => by rw [e, qo] at hi; cases hi
  have sj : (σ.set i (some (V.ref a)))[j]? = some (some (.ref a)) := by rw [List.getElem?_set_ne nj]; exact qa
  have so' : (σ.set i (some (V.ref a)))[jo]? = some (some vo) := by rw [List.getElem?_set_ne no]; exact so
  have lv := Paired.length r1
  refine ⟨_, si, _, vs.length, rfl, .inl ⟨_, SqL.of e1, rfl⟩, _, _, rfl, rfl, _, rfl, ?_⟩
  rw [lv]
  refine ite2 (fun c => ?_) (fun c => ?_)
  · have c' := of_decide_eq_true c
    refine ⟨_, si, .inl ⟨rfl, _, SqL.of e1⟩, _, so', a, vs, _, rfl, rfl, e1, by omega, ?_⟩
    exact eo.nx _ _ G _ (w.own n1 g1) (en'.setO q sj (Paired.snoc r1 ro)) (h.1 c')
  · exact eo.nx _ _ G _ w en' (h.2 (of_decide_eq_false (by simpa using c)))
theorem dss_alias {sts : List Stmt} {tc : DT} {i j0 j1 jo : Nat} {m : Int} (h : PSs X sts (tAlias X.K i j0 j1 jo m (cE X.K tc))) : DSs X sts (dAlias i j0 j1 jo m tc) := DSs.mk fun H0 G0 => PSs.imp h fun Dn σ H ⟨E, G, ρ, eo, w, en, hi, li, ds0, ds1, d, q0, q1, qo, z0, z1, hc⟩ => by
  obtain ⟨a0, s0, n0, g0, vs0, e0, r0⟩ := en.o j0 _ q0
  obtain ⟨a1, s1, n1, g1, vs1, e1, r1⟩ := en.o j1 _ q1
  refine ⟨_, s0, _, s1, small_len (Nat.le_of_ble_eq_true rfl), fun p hp => ?_⟩
  have wp : Wd H G (upd H p (.lst [.ref a0, .ref a1])) G := (Wd.refl w.gh).own hp (w.gh.free hp)
  refine ⟨G, ρ, _, wp.gh, en.repE, hc, fun b v H2 G2 p2 w2 r2 => ?_⟩
  obtain ⟨G2', w2', r2'⟩ := r2.give w2
  have wa := wp.trans w2'
  have hp2 := w2'.hh _ _ (upd_same (H := H) (a := p))
  split at p2
  · rename_i ev
    rw [ev] at r2'
    cases r2'
    exact .inr ⟨true, rfl, p, _, 1, .ref a1, rfl, rfl, SqL.of hp2, rfl, alias_fin eo (w.trans wa) (en.on wa) hi li q1 s1 qo z1 p2⟩
  · rename_i ev
    rw [ev] at r2'
    cases r2'
    exact .inr ⟨false, rfl, p, _, 0, .ref a0, rfl, rfl, SqL.of hp2, rfl, alias_fin eo (w.trans wa) (en.on wa) hi li q0 s0 qo z0 p2⟩
  · exact p2.elim
end
end DL
set_option maxHeartbeats 4000000
namespace L2
open PySem PySem.Spec PyProof.Rows
section
variable {X : Cx}
theorem pe_fn0 {x : Str} {k : Nat} {ps : List Str} {sp : Sp} {p pos : Pos} (F : Fn X.prog X.w X.K X.mg X.base x k ps sp) (hr : Room k X.A) (hg : Gl X x) (hdb : (x == ("__debug__" : Str)) = false := by decide) :
    PE X (.Call (.Name x p) [] [] pos) (tCall sp [] E0 tNil) := by
  obtain ⟨f, fd, G, hm, hk, hb⟩ := F.ex
  exact pe_call0 G hr hg hm hk hb .nil pass0 hdb
def upperS (x : Str) : Str := ⟨PySem.placed x fun _ c => Unicode.upperOf c⟩
def rUpper : V → List V → Hp → VK → Prop := fun x vs H Q => ∃ a : Str, x = .str a ∧ vs = [] ∧ Builtin.Str.tooLong (PySem.placed a fun _ c => Unicode.upperOf c).size = false ∧ Q (.str (upperS a)) H
theorem mt_upper : MtR X "str.upper" rUpper := by
  intro pins s σ H x xs v us Q I rx r h
  obtain ⟨a, rfl, rfl, hf, q⟩ := h
  obtain ⟨t, rfl⟩ := rx
  cases r
  refine call_gives F.slot_str_upper (typeIs_str _ _ _) F.entry_str_upper (F.args_str_upper_1 _) (gives_str_upper a t hf) ⟨fit_le hf, .str _, H, I.tok _, ⟨_, rfl⟩, q⟩
end
end L2
namespace DL
open PySem L2
section
variable {X : Cx} {o : Expr} {te : DT} {pos : Pos}
def dCall0 (R : DR) : DT := fun _ Q => R [] Q
theorem de_fn0 {x : Str} {k : Nat} {ps : List Str} {R : DR} {p : Pos} (F : FnD X.prog X.w X.K X.mg X.base x k ps R) (hr : Room k X.A) (hg : Gl X x) (hdb : (x == ("__debug__" : Str)) = false := by decide) : DE X (.Call (.Name x p) [] [] pos) (dCall0 R) :=
  DE.of (pe_fn0 F hr hg hdb) fun σ H Q ⟨G, ρ, P, s, re, h, k⟩ => by
    show spD X.K R ([] ++ []) H Q E0
    exact ⟨[], G, P, s, .nil, h, k⟩
def dUpper (te : DT) : DT := fun ρ Q => te ρ fun b => match b.val with
  | .str a => Builtin.Str.tooLong (PySem.placed a fun _ c => Unicode.upperOf c).size = false ∧ Q (.p (.str (upperS a)))
  | _ => False
theorem de_upper {apos cpos : Pos} (ho : DE X o te) (hbase : attributeBase o "upper" X.env (eval o X.env) = eval o X.env := by rfl) (hline : (apos.endLine == cpos.line) = true := by rfl) : DE X (.Call (.Attribute o "upper" apos) [] [] cpos) (dUpper te) :=
  DE.of (pe_bm0 PySem.F.plainAttrs_str PySem.F.slot_str_upper PySem.F.type_str_upper mt_upper ho.pe hbase hline) fun σ H Q ⟨G, ρ, P, s, re, h, k⟩ => by
    refine ⟨G, ρ, _, s, re, h, fun b v H1 G1 p1 w1 r1 => ?_⟩
    obtain ⟨G1', w1', r1'⟩ := r1.give w1
    split at p1
    · rename_i y ey
      rw [ey] at r1'
      cases r1'
      exact ⟨rfl, y, rfl, rfl, p1.1, k _ _ H1 G1' p1.2 w1' (.str _)⟩
    · exact p1.elim
end
end DL
set_option maxHeartbeats 4000000
namespace WS
open PySem L2 DL
local macro_rules | `(tactic| walk_at "rs1") => do let ns := ("dSeq dNext dRet dRetN dRetO dIfS dSet dSetP dSetF dSetD dSetDP dAug dAsg dApp dAppF dSetIx dSetIxF dAugIx dDrop dFor dForD dForS dVar dC dOp dI dIC dIsN dNotN dUn dNeg dNotV dAndV dOrV dTst dNot dAnd dOr dIfE dChain dNil dCons dTup dLst dCall dCB dII dAbs dInt dNoPart dPart dIsi dTrue dget dput frz frz1 B.val startD Tg.d putN diTup diRng1 diRng2 diRevr1 di_enumerateT di_zipT di_reversedT onlyP frD dLC List.map List.length dIx_lst dIx_tup dIx_scr dAdd_int dAdd_lst dAdd_str dAdd_tup dMul_int dEqS_int dEqS_str dEqS_bl dNeS_int dNeS_str dNeS_bl dLen_lst dLen_tup dLen_scr diList_is itL_lst itL_scr dSl_is slD_lst slD_scr slD_tup dSlS_is slSD_lst slSD_scr dCopy_lst dCopy_tup dCopy_scr dMeth dSplit_is dJoinM_is dStarts dInS dIntT_is djNil djStr djVal dFmt diStr dLen_str dFind_is dNotInS dSlT dIx_str dStrI_is dIxO dCallO dAsgD dAlias dCall0 dUpper dRaise djReprS djReprL".splitOn " ").toArray.map fun s => Lean.mkIdent s.toName; `(tactic| dsimp only [$[$ns:ident],*])
def top (i : Nat) : Stmt := PySem.Challenge.pw_warmshare_k03_one_fault.main.body.getD i (.Pass ⟨0, 0, 0, 0⟩)
structure Blt (mg : Str → Option Value) : Prop where
  b_len : mg "len" = none
  b_min : mg "min" = none
  b_str : mg "str" = none
  b_int : mg "int" = none
  b_range : mg "range" = none
  b_all : mg "all" = none
  b_isinstance : mg "isinstance" = none
  b_ValueError : mg "ValueError" = none
  g_FIGURES : ∃ t, mg "FIGURES" = some (.str "0123456789" t)
  g_MOST_FIGURES : ∃ t, mg "MOST_FIGURES" = some (.int 10 t)
  g_MOST_GAP : ∃ t, mg "MOST_GAP" = some (.int 50 t)
  g_MOST_DEGREE : ∃ t, mg "MOST_DEGREE" = some (.int 200 t)
  g_LEAST_RATE : ∃ t, mg "LEAST_RATE" = some (.int 1 t)
  g_MOST_RATE : ∃ t, mg "MOST_RATE" = some (.int 1000000000 t)
  g_MOST_OF_A_KIND : ∃ t, mg "MOST_OF_A_KIND" = some (.int 12 t)
abbrev s_law_cell_at : Stmt := top 24
theorem sc_law_cell_at : FnScope ["script", "k"] ["script", "k"] (defScope s_law_cell_at) := ⟨rfl, rfl, rfl, by decide +kernel, rfl, by decide +kernel, by decide +kernel⟩
abbrev s_law_stir : Stmt := top 25
theorem sc_law_stir : FnScope ["cell", "k", "number"] ["cell", "k"] (defScope s_law_stir) := ⟨rfl, rfl, rfl, by decide +kernel, rfl, by decide +kernel, by decide +kernel⟩
abbrev s_law_stream : Stmt := top 27
theorem sc_law_stream : FnScope ["cell", "base", "low", "high", "far", "rate"] ["cell", "base"] (defScope s_law_stream) := ⟨rfl, rfl, rfl, by decide +kernel, rfl, by decide +kernel, by decide +kernel⟩
abbrev s_law_rows : Stmt := top 28
theorem sc_law_rows : FnScope ["script", "first", "hots", "colds", "cell", "one", "some"] ["script"] (defScope s_law_rows) := ⟨rfl, rfl, rfl, by decide +kernel, rfl, by decide +kernel, by decide +kernel⟩
abbrev s_law_text : Stmt := top 35
theorem sc_law_text : FnScope ["rows"] ["rows"] (defScope s_law_text) := ⟨rfl, rfl, rfl, by decide +kernel, rfl, by decide +kernel, by decide +kernel⟩
abbrev s_law_beyond : Stmt := top 32
theorem sc_law_beyond : FnScope ["words", "cell", "far", "at"] ["words", "cell"] (defScope s_law_beyond) := ⟨rfl, rfl, rfl, by decide +kernel, rfl, by decide +kernel, by decide +kernel⟩
abbrev s_law_signs : Stmt := top 26
theorem sc_law_signs : FnScope ["some"] [] (defScope s_law_signs) := ⟨rfl, rfl, rfl, by decide +kernel, rfl, by decide +kernel, by decide +kernel⟩
abbrev s_law_exchanged : Stmt := top 36
theorem sc_law_exchanged : FnScope ["text", "cell", "places", "at", "sign"] ["text", "cell"] (defScope s_law_exchanged) := ⟨rfl, rfl, rfl, by decide +kernel, rfl, by decide +kernel, by decide +kernel⟩
abbrev s_is_numeral : Stmt := top 18
theorem sc_is_numeral : FnScope ["word"] ["word"] (defScope s_is_numeral) := ⟨rfl, rfl, rfl, by decide +kernel, rfl, by decide +kernel, by decide +kernel⟩
abbrev s_numbers_of : Stmt := top 17
theorem sc_numbers_of : FnScope ["words", "count", "numerals"] ["words", "count"] (defScope s_numbers_of) := ⟨rfl, rfl, rfl, by decide +kernel, rfl, by decide +kernel, by decide +kernel⟩
abbrev s_check_within : Stmt := top 22
theorem sc_check_within : FnScope ["number", "least", "most"] ["number", "least", "most"] (defScope s_check_within) := ⟨rfl, rfl, rfl, by decide +kernel, rfl, by decide +kernel, by decide +kernel⟩
abbrev s_read_gap : Stmt := top 16
theorem sc_read_gap : FnScope ["row", "words", "numbers"] ["row"] (defScope s_read_gap) := ⟨rfl, rfl, rfl, by decide +kernel, rfl, by decide +kernel, by decide +kernel⟩
abbrev s_check_room : Stmt := top 20
theorem sc_check_room : FnScope ["streams"] ["streams"] (defScope s_check_room) := ⟨rfl, rfl, rfl, by decide +kernel, rfl, by decide +kernel, by decide +kernel⟩
abbrev s_check_place : Stmt := top 19
theorem sc_check_place : FnScope ["kind", "hots", "colds"] ["kind", "hots", "colds"] (defScope s_check_place) := ⟨rfl, rfl, rfl, by decide +kernel, rfl, by decide +kernel, by decide +kernel⟩
abbrev s_check_stream : Stmt := top 21
theorem sc_check_stream : FnScope ["kind", "stream", "start", "goal"] ["kind", "stream"] (defScope s_check_stream) := ⟨rfl, rfl, rfl, by decide +kernel, rfl, by decide +kernel, by decide +kernel⟩
abbrev s_read : Stmt := top 15
theorem sc_read : FnScope ["text", "rows", "gap", "hots", "colds", "row", "words", "numbers", "stream"] ["text"] (defScope s_read) := ⟨rfl, rfl, rfl, by decide +kernel, rfl, by decide +kernel, by decide +kernel⟩
abbrev s_law_refusal : Stmt := top 37
theorem sc_law_refusal : FnScope ["text", "told", "e"] ["text"] (defScope s_law_refusal) := ⟨rfl, rfl, rfl, by decide +kernel, rfl, by decide +kernel, by decide +kernel⟩
abbrev s_law_wrong : Stmt := top 33
theorem sc_law_wrong : FnScope ["words", "cell"] ["words", "cell"] (defScope s_law_wrong) := ⟨rfl, rfl, rfl, by decide +kernel, rfl, by decide +kernel, by decide +kernel⟩
abbrev s_law_out_of_place : Stmt := top 34
theorem sc_law_out_of_place : FnScope ["rows", "cell", "far", "hots", "colds", "at"] ["rows", "cell"] (defScope s_law_out_of_place) := ⟨rfl, rfl, rfl, by decide +kernel, rfl, by decide +kernel, by decide +kernel⟩
abbrev s_law_other_word : Stmt := top 30
theorem sc_law_other_word : FnScope ["word", "cell", "far", "some", "at", "spot"] ["word", "cell"] (defScope s_law_other_word) := ⟨rfl, rfl, rfl, by decide +kernel, rfl, by decide +kernel, by decide +kernel⟩
abbrev s_law_bad_number : Stmt := top 29
theorem sc_law_bad_number : FnScope ["word", "cell", "signs", "far", "at"] ["word", "cell"] (defScope s_law_bad_number) := ⟨rfl, rfl, rfl, by decide +kernel, rfl, by decide +kernel, by decide +kernel⟩
abbrev s_law_no_form : Stmt := top 31
theorem sc_law_no_form : FnScope ["words", "cell", "far", "at"] ["words", "cell"] (defScope s_law_no_form) := ⟨rfl, rfl, rfl, by decide +kernel, rfl, by decide +kernel, by decide +kernel⟩
abbrev s_law : Stmt := top 38
theorem sc_law : FnScope ["script", "rows", "at", "cell", "kind", "due", "text"] ["script"] (defScope s_law) := ⟨rfl, rfl, rfl, by decide +kernel, rfl, by decide +kernel, by decide +kernel⟩
structure Cls where
  HeatError : Addr
  NoRow : Addr
  NoMeasure : Addr
  WrongWay : Addr
  Full : Addr
  NoStream : Addr
structure Errs (K : PySem.W.Frag) (mg : Str → Option Value) (cs : Cls) : Prop where
  x_HeatError : ErrAt K mg "HeatError" cs.HeatError
  x_NoRow : ErrAt K mg "NoRow" cs.NoRow
  x_NoMeasure : ErrAt K mg "NoMeasure" cs.NoMeasure
  x_WrongWay : ErrAt K mg "WrongWay" cs.WrongWay
  x_Full : ErrAt K mg "Full" cs.Full
  x_NoStream : ErrAt K mg "NoStream" cs.NoStream
  is_NoRow_HeatError : PySem.W.kitOne K (.ref cs.NoRow) (.ref cs.HeatError) = some true
  ex_NoRow_HeatError : PySem.W.exmOne K (.ref cs.NoRow) (.ref cs.HeatError) = some true
  is_NoRow_NoRow : PySem.W.kitOne K (.ref cs.NoRow) (.ref cs.NoRow) = some true
  ex_NoRow_NoRow : PySem.W.exmOne K (.ref cs.NoRow) (.ref cs.NoRow) = some true
  is_NoRow_NoMeasure : PySem.W.kitOne K (.ref cs.NoRow) (.ref cs.NoMeasure) = some false
  ex_NoRow_NoMeasure : PySem.W.exmOne K (.ref cs.NoRow) (.ref cs.NoMeasure) = some false
  is_NoRow_WrongWay : PySem.W.kitOne K (.ref cs.NoRow) (.ref cs.WrongWay) = some false
  ex_NoRow_WrongWay : PySem.W.exmOne K (.ref cs.NoRow) (.ref cs.WrongWay) = some false
  is_NoRow_Full : PySem.W.kitOne K (.ref cs.NoRow) (.ref cs.Full) = some false
  ex_NoRow_Full : PySem.W.exmOne K (.ref cs.NoRow) (.ref cs.Full) = some false
  is_NoRow_NoStream : PySem.W.kitOne K (.ref cs.NoRow) (.ref cs.NoStream) = some false
  ex_NoRow_NoStream : PySem.W.exmOne K (.ref cs.NoRow) (.ref cs.NoStream) = some false
  iv_NoRow : PySem.W.kitOne K (.ref cs.NoRow) (.type "ValueError") = some true
  is_NoMeasure_HeatError : PySem.W.kitOne K (.ref cs.NoMeasure) (.ref cs.HeatError) = some true
  ex_NoMeasure_HeatError : PySem.W.exmOne K (.ref cs.NoMeasure) (.ref cs.HeatError) = some true
  is_NoMeasure_NoRow : PySem.W.kitOne K (.ref cs.NoMeasure) (.ref cs.NoRow) = some false
  ex_NoMeasure_NoRow : PySem.W.exmOne K (.ref cs.NoMeasure) (.ref cs.NoRow) = some false
  is_NoMeasure_NoMeasure : PySem.W.kitOne K (.ref cs.NoMeasure) (.ref cs.NoMeasure) = some true
  ex_NoMeasure_NoMeasure : PySem.W.exmOne K (.ref cs.NoMeasure) (.ref cs.NoMeasure) = some true
  is_NoMeasure_WrongWay : PySem.W.kitOne K (.ref cs.NoMeasure) (.ref cs.WrongWay) = some false
  ex_NoMeasure_WrongWay : PySem.W.exmOne K (.ref cs.NoMeasure) (.ref cs.WrongWay) = some false
  is_NoMeasure_Full : PySem.W.kitOne K (.ref cs.NoMeasure) (.ref cs.Full) = some false
  ex_NoMeasure_Full : PySem.W.exmOne K (.ref cs.NoMeasure) (.ref cs.Full) = some false
  is_NoMeasure_NoStream : PySem.W.kitOne K (.ref cs.NoMeasure) (.ref cs.NoStream) = some false
  ex_NoMeasure_NoStream : PySem.W.exmOne K (.ref cs.NoMeasure) (.ref cs.NoStream) = some false
  iv_NoMeasure : PySem.W.kitOne K (.ref cs.NoMeasure) (.type "ValueError") = some true
  is_WrongWay_HeatError : PySem.W.kitOne K (.ref cs.WrongWay) (.ref cs.HeatError) = some true
  ex_WrongWay_HeatError : PySem.W.exmOne K (.ref cs.WrongWay) (.ref cs.HeatError) = some true
  is_WrongWay_NoRow : PySem.W.kitOne K (.ref cs.WrongWay) (.ref cs.NoRow) = some false
  ex_WrongWay_NoRow : PySem.W.exmOne K (.ref cs.WrongWay) (.ref cs.NoRow) = some false
  is_WrongWay_NoMeasure : PySem.W.kitOne K (.ref cs.WrongWay) (.ref cs.NoMeasure) = some false
  ex_WrongWay_NoMeasure : PySem.W.exmOne K (.ref cs.WrongWay) (.ref cs.NoMeasure) = some false
  is_WrongWay_WrongWay : PySem.W.kitOne K (.ref cs.WrongWay) (.ref cs.WrongWay) = some true
  ex_WrongWay_WrongWay : PySem.W.exmOne K (.ref cs.WrongWay) (.ref cs.WrongWay) = some true
  is_WrongWay_Full : PySem.W.kitOne K (.ref cs.WrongWay) (.ref cs.Full) = some false
  ex_WrongWay_Full : PySem.W.exmOne K (.ref cs.WrongWay) (.ref cs.Full) = some false
  is_WrongWay_NoStream : PySem.W.kitOne K (.ref cs.WrongWay) (.ref cs.NoStream) = some false
  ex_WrongWay_NoStream : PySem.W.exmOne K (.ref cs.WrongWay) (.ref cs.NoStream) = some false
  iv_WrongWay : PySem.W.kitOne K (.ref cs.WrongWay) (.type "ValueError") = some true
section
variable {cs : Cls}
variable {Pt : Addr} {P : Program} {w : World} {K : PySem.W.Frag} {mg : Str → Option Value} {base : Heap} {f : Addr} {fd : FuncData}
theorem mulR {i j : Int} (h : -(2 ^ 64) < j ∧ j < 2 ^ 64) : CMul i j := .inr h
theorem mulL {i j : Int} (h : -(2 ^ 64) < i ∧ i < 2 ^ 64) : CMul i j := .inl h
local macro_rules | `(tactic| walk_at "side") => `(tactic| first | decide | omega | exact mulR (by decide) | exact mulL (by decide) | exact ⟨by decide, by decide, by decide⟩ | exact ⟨by omega, by decide⟩ | exact mulL ⟨by omega, by omega⟩ | exact mulR ⟨by omega, by omega⟩ | exact ⟨by omega, by omega⟩)
local macro_rules | `(tactic| walk_at "go") => `(tactic| repeat (refine ⟨by walk_at "side", ?_⟩))
def stirX (c k : Int) : Int := ((c + 977 * k + 1) * 48271 % 2147483647) * ((c + 977 * k + 1) * 48271 % 2147483647) % 2147483629 * 69621 % 2147483587 / 8
def r_law_stir : DR := fun ds P => match ds with
  | [.int c, .int k] => P (.p (.int (stirX c k)))
  | _ => False
theorem ok_law_stir (T : Blt mg) (F : Fun K "_law_stir" "_law_stir" s_law_stir f fd) : FnOk P w K mg base CX0 1 f fd ["cell", "k"] (spD K r_law_stir) := by
  refine okD F sc_law_stir (fun ds Q h => by unfold r_law_stir at h; split at h <;> first | rfl | exact h.elim) fun cdv A outer s H E hr => ⟨_, (dss_cons (ds_setP (i := 2) sc_law_stir.nd rfl (Or.inl rfl) (de_op od_mod (de_op od_times (de_op od_plus (de_op od_plus (dv 0) (de_op od_times de_int (dv 1))) de_int) de_int) de_int))
      (dss_cons (ds_setP (i := 2) sc_law_stir.nd rfl (Or.inl rfl) (de_op od_mod (de_op od_times (dv 2) (dv 2)) de_int))
      (dss_one (ds_ret (de_op od_fdiv (de_op od_mod (de_op od_times (dv 2) de_int) de_int) de_int))))), fun ds Q h => ?_⟩
  unfold r_law_stir at h
  split at h
  rotate_left
  · exact h.elim
  rename_i c k
  try dsimp only [dSeq, dNext, dRet, dRetN, dRetO, dIfS, dSet, dSetP, dSetF, dSetD, dSetDP, dAug, dAsg, dApp, dAppF, dSetIx, dSetIxF, dAugIx, dDrop, dFor, dForD, dForS, dVar, dC, dOp, dI, dIC, dEqS, dNeS, dIsN, dNotN, dUn, dNeg, dNotV, dAndV, dOrV, dTst, dNot, dAnd, dOr, dIfE, dChain, dNil, dCons, dTup, dLst, dCall, dCB, dLen, dII, dAbs, dInt, dCopy, dIx, dNoPart, dPart, dSl, dSlS, dAdd, dMul, dIsi, dTrue, dget, dput, frz, frz1, B.val, startD, Tg.d, putN, diList, diTup, diRng1, diRng2, diRevr1, di_enumerateT, di_zipT, di_reversedT, onlyP, frD, dLC, List.map, List.length]
  have h0 : 0 ≤ ((c + 977 * k + 1) * 48271 % 2147483647 : Int) := Int.emod_nonneg _ (by decide)
  have h1 : ((c + 977 * k + 1) * 48271 % 2147483647 : Int) < 2147483647 := Int.emod_lt_of_pos _ (by decide)
  walk_at "go"
  exact h
theorem signs_lc {w : Str} {Q : B → Prop} (hz : w.length ≤ 1000) (q : Q (.p (.bl ((codes w).all fun c => decide (c ∈ codes figs))))) :
    lcI (signsOf w) (Tg.n 0) dTrue (dOp dInS (dVar 0) (dC (D.str (Str.ofString "0123456789")))) [none] (fun b => dAll [b.val] Q) := by
  have h3 := len_codes w
  refine lc_mapE (xs := codes w) (e := fun c => D.str ⟨#[c]⟩) (fun d => match d with | .str s => .bl (!(Builtin.Str.occurrences figs s 0 figs.length 1).isEmpty) | d => d) (fun c => .bl (!(Builtin.Str.occurrences figs ⟨#[c]⟩ 0 figs.length 1).isEmpty)) (fun _ _ => rfl) (by omega) (fun c _ => rfl) ?_
  refine ⟨(codes w).map fun c => decide (c ∈ codes figs), ?_, ?_⟩
  · rw [List.map_map]
    exact List.map_congr_left fun c _ => by rw [in_figs]; rfl
  · rw [List.all_map]
    exact q
def r_is_numeral : DR := fun ds Q => ∃ w : Str, ds = [.str w] ∧ w.length ≤ 1000 ∧ Q (.p (.bl (isNum w)))
theorem ok_is_numeral (T : Blt mg) (F : Fun K "is_numeral" "is_numeral" s_is_numeral f fd) : FnOk P w K mg base CX0 1 f fd ["word"] (spD K r_is_numeral) := by
  refine okD F sc_is_numeral (fun ds Q h => by obtain ⟨w, rfl, hz, q⟩ := h; rfl) fun cdv A outer s H E hr => ⟨_, (dss_cons (ds_if (dw_or (dt_cmp od_lt (de_callB cd_len (by rfl) T.b_len PySem.boot_len (da_cons (dv 0) da_nil)) de_int (nomark _)) (dw_or1 (dt_cmp od_gt (de_callB cd_len (by rfl) T.b_len PySem.boot_len (da_cons (dv 0) da_nil)) (de_gI (by rfl) T.g_MOST_FIGURES) (nomark _)))).dt (dss_one (ds_ret de_bl)) dss_nil)
      (dss_cons (ds_if (dw_and (dt_val (de_strM PySem.F.plainAttrs_str PySem.F.slot_str_startswith PySem.F.type_str_startswith md_starts (dv 0) (da_cons de_str da_nil))) (dw_and1 (dt_cmp od_ne (dv 0) de_str (nomark _)))).dt (dss_one (ds_ret de_bl)) dss_nil)
      (dss_one (ds_ret (de_callB (cd_all rfl) (by rfl) T.b_all PyProof.Rows.boot_all (da_cons (de_lc (g := (.n 0)) (tc := dTrue) (te := (dOp _ (dVar 0) (dC _))) (sc0 := defScope s_is_numeral) (N0 := ["word"]) ["sign"] [none] rfl (di_str (dv 0)) (fun _ _ _ _ _ => (pg_name (i := 0) (show (["sign"] : List Str).Nodup by decide +kernel) rfl (Or.inl rfl))) (fun _ _ _ _ _ => difs_nil) (fun _ _ _ _ _ => (de_cmp od_inS (dv 0) (de_gS (by rfl) T.g_FIGURES) (by with_unfolding_all rfl)))) da_nil)))))), fun ds Q h => ?_⟩
  obtain ⟨w, rfl, hz, q⟩ := h
  repeat (first | walk_at "rs1" | set_option simprocs false in simp only [ixk0, ixk1, ixk2, ixk3, ixk4, ex_at])
  have zz : w.length ≤ sizeLine := small_len hz
  have fin : ∀ b : Bool, isNum w = b → Q (.p (.bl b)) := fun b e => e ▸ q
  refine ⟨zz, fun c1 => ⟨fun _ => fin _ ?_, fun z => (by cases z)⟩, fun c1 => ⟨zz, fun c2 => fin _ ?_, fun c2 => ?_⟩⟩
  · have c1' := of_decide_eq_true c1
    unfold isNum
    rw [decide_eq_false (by omega)]
    rfl
  · have c2' := of_decide_eq_true c2
    unfold isNum
    rw [decide_eq_false (show ¬ w.length ≤ 10 by omega), Bool.and_false]
    rfl
  have c1' := of_decide_eq_false c1
  have c2' := of_decide_eq_false c2
  have e0 : isNum w = (!(decide ((codes w).head? = some 48) && !decide (w = num 0)) && (codes w).all (fun c => decide (c ∈ codes figs))) := by
    unfold isNum
    rw [decide_eq_true (show 1 ≤ w.length by omega), decide_eq_true (show w.length ≤ 10 by omega)]
    simp only [Bool.true_and]
  rw [starts0]
  refine ⟨fun c3 => ⟨fun c4 => fin _ ?_, fun c4 => ?_⟩, fun c3 => ⟨fun z => (by cases z), fun _ => ?_⟩⟩
  · rw [e0, c3, show (!decide (w = num 0)) = true from c4]
    rfl
  · refine signs_lc hz (fin _ ?_)
    rw [e0, show (!decide (w = num 0)) = false from c4, Bool.and_false]
    rfl
  · refine signs_lc hz (fin _ ?_)
    rw [e0, c3]
    rfl
theorem cutL1 {α : Type} (x : α) (r : List α) : cutL (x :: r) (some 1) none = r := cut_from (x :: r) 1
def TOk (w : Str) : Prop := w.length ≤ 1000 ∧ ∀ c ∈ codes w, c < 16 ^ 8
theorem TOk.rep {w : Str} (h : TOk w) : (reprText w).length ≤ 10002 := by
  have := StrLaws.reprText_len w h.2
  have := h.1
  omega
theorem reps_sum : ∀ l : List Str, (∀ w ∈ l, TOk w) → ((l.map reprText).map (·.length)).sum ≤ l.length * 10002
  | [], _ => Nat.zero_le _
  | w :: l, h => by
    have h1 := (h w List.mem_cons_self).rep
    have h2 := reps_sum l fun x hx => h x (List.mem_cons_of_mem _ hx)
    rw [List.map_cons, List.map_cons, List.sum_cons, List.length_cons, Nat.add_mul]
    omega
theorem reps_len {l : List Str} (h : ∀ w ∈ l, TOk w) (hl : l.length ≤ 101) : (listText (l.map reprText)).length ≤ 1100000 := by
  have h1 := listText_len_le (l.map reprText)
  have h2 := reps_sum l h
  have h3 : l.length * 10002 ≤ 101 * 10002 := Nat.mul_le_mul_right _ hl
  rw [List.length_map] at h1
  omega
def Sm (n : Int) : Prop := 0 ≤ n ∧ n < 10 ^ 10
theorem le0 : Str.empty.length = 0 := rfl
theorem ln_of {n : Int} (h : Sm n) : (Str.ofString (toString n)).length ≤ 10 := num_len h.1 h.2
def rx_numbers_of (cs : Cls) : DRX := fun ds Q Z => ∃ (w0 : Str) (ws : List Str) (k : Int), ds = [.lst ((w0 :: ws).map D.str), .int k] ∧ 0 ≤ k ∧ k < 100 ∧ (∀ w ∈ w0 :: ws, TOk w) ∧ ws.length ≤ 100 ∧
  if ((ws.length : Int) = k ∧ ws.all isNum = true) then Q (.o (.lst (ws.map fun w => .int (valC (codes w))))) else Z (.ref cs.NoRow)
theorem ok_numbers_of (T : Blt mg) (TX : Errs K mg cs) (F_is_numeral : Fn P w K mg base "is_numeral" 1 ["word"] (spD K r_is_numeral)) (F : Fun K "numbers_of" "numbers_of" s_numbers_of f fd) : FnOk P w K mg base (CXe P w) 2 f fd ["words", "count"] (spX K (rx_numbers_of cs)) := by
  refine okDX F sc_numbers_of (fun ds Q Z h => by obtain ⟨w0, ws, k, rfl, k0, k1, hw, hlen, q⟩ := h; rfl) fun cdv A outer s H E Z hr hZ => ⟨_, (dxs_cons (dx (ds_setP (i := 2) sc_numbers_of.nd rfl (Or.inl rfl) (de_slice (dv 0) (do_some de_int) do_none)))
      (dxs_cons (dx_if (dt_cmp od_ne (de_callB cd_len (by rfl) T.b_len PySem.boot_len (da_cons (dv 2) da_nil)) (dv 1) (nomark _)) (dxs_one (dx_raise body_cx hZ rfl TX.x_NoRow.er (by rfl) TX.x_NoRow.at_ (da_cons (de_fmt (dj_str (dj_val (dv 1) (dj_str (dj_reprL hr (dv 0) dj_nil))))) da_nil))) dxs_nil)
      (dxs_cons (dx_if (dt_not (dt_val (de_callB (cd_all rfl) (by rfl) T.b_all PyProof.Rows.boot_all (da_cons (de_lc (g := (.n 0)) (tc := dTrue) (te := (dCall _ (dCons (dVar 0) dNil))) (sc0 := defScope s_numbers_of) (N0 := ["words", "count", "numerals"]) ["word"] [none] rfl (di_list (dv 2)) (fun _ _ _ _ _ => (pg_name (i := 0) (show (["word"] : List Str).Nodup by decide +kernel) rfl (Or.inl rfl))) (fun _ _ _ _ _ => difs_nil) (fun _ _ _ _ _ => (de_fn F_is_numeral (hr.mono (by decide)) (by rfl) (da_cons (dv 0) da_nil)))) da_nil)))) (dxs_one (dx_raise body_cx hZ rfl TX.x_NoRow.er (by rfl) TX.x_NoRow.at_ (da_cons (de_fmt (dj_str (dj_reprL hr (dv 0) dj_nil))) da_nil))) dxs_nil)
      (dxs_one (dx (ds_ret (de_lc (g := (.n 0)) (tc := dTrue) (te := (dCB _ (dCons (dVar 0) dNil))) (sc0 := defScope s_numbers_of) (N0 := ["words", "count", "numerals"]) ["word"] [none] rfl (di_list (dv 2)) (fun _ _ _ _ _ => (pg_name (i := 0) (show (["word"] : List Str).Nodup by decide +kernel) rfl (Or.inl rfl))) (fun _ _ _ _ _ => difs_nil) (fun _ _ _ _ _ => (de_callTy cd_intT (by rfl) T.b_int PyProof.Rows.boot_int (da_cons (dv 0) da_nil)))))))))), fun ds Q h => ?_⟩
  obtain ⟨w0, ws, k, rfl, k0, k1, hw, hlen, q⟩ := h
  repeat (first | walk_at "rs1" | set_option simprocs false in simp only [ixk0, ixk1, ixk2, ixk3, ixk4, ex_at])
  rw [cutL1, List.length_map]
  have sz : sizeLine = 16777216 := sizeLine_eq
  have lk := ln_of (n := k) ⟨k0, by omega⟩
  have c0 : (Str.ofString "a word and ").length = 11 := by decide +kernel
  have c1 : (Str.ofString " numbers are due, not ").length = 22 := by decide +kernel
  have c2 : (Str.ofString "not all are numbers in ").length = 23 := by decide +kernel
  have lt := reps_len hw (by rw [List.length_cons]; omega)
  have lr : ∀ x ∈ w0 :: ws, (reprText x).length ≤ sizeLine := fun x hx => by have := (hw x hx).rep; omega
  have ne : w0 :: ws ≠ [] := by simp
  simp only [len_app, le0, c0, c1, c2]
  refine ⟨fun z => ⟨by omega, num_log k0 (by omega), by omega, by omega, w0 :: ws, rfl, ne, lr, by omega, by omega, by omega, ?_⟩, fun z => ?_⟩
  · rw [if_neg (fun y => by rw [decide_eq_true y.1] at z; cases z)] at q
    exact q
  have hk : (ws.length : Int) = k := by simpa using z
  refine lc_mapE (xs := ws) (e := D.str) (fun d => match d with | .str w => .bl (isNum w) | d => d) (fun w => .bl (isNum w)) (fun _ _ => rfl) (by omega) (fun w hm => ⟨w, rfl, (hw w (List.mem_cons_of_mem _ hm)).1, rfl⟩) ?_
  refine ⟨ws.map isNum, by rw [List.map_map]; rfl, ?_⟩
  have ea : (ws.map isNum).all id = ws.all isNum := by rw [List.all_map]; rfl
  rw [ea]
  refine ⟨fun z2 => ⟨by omega, w0 :: ws, rfl, ne, lr, by omega, by omega, by omega, ?_⟩, fun z2 => ?_⟩
  · rw [if_neg (fun y => by rw [y.2] at z2; cases z2)] at q
    exact q
  have hall : ws.all isNum = true := by simpa using z2
  rw [if_pos ⟨hk, hall⟩] at q
  refine lc_mapE (xs := ws) (e := D.str) (fun d => match d with | .str w => .int (valC (codes w)) | d => d) (fun w => .int (valC (codes w))) (fun _ _ => rfl) (by omega) (fun w hm => ?_) q
  have hi := isNum_is (List.all_eq_true.mp hall w hm)
  refine ⟨valC (codes w), ?_, ?_, rfl⟩
  · have := num_int (Int.natCast_nonneg (valC (codes w))) hi.2
    rw [← hi.1] at this
    exact this
  · have := num_len (Int.natCast_nonneg (valC (codes w))) hi.2
    rw [← hi.1] at this
    omega
theorem ch_ne : ¬ coldW = Str.ofString "hot" := by decide +kernel
theorem hc_ne : ¬ hotW = Str.ofString "cold" := by decide +kernel
def rx_check_room (cs : Cls) : DRX := fun ds Q Z => ∃ xs : List D, ds = [.lst xs] ∧ if xs.length < 12 then Q (.p .non) else Z (.ref cs.NoRow)
theorem ok_check_room (T : Blt mg) (TX : Errs K mg cs) (F : Fun K "check_room" "check_room" s_check_room f fd) : FnOk P w K mg base (CXe P w) 1 f fd ["streams"] (spX K (rx_check_room cs)) := by
  refine okDX F sc_check_room (fun ds Q Z h => by obtain ⟨xs, rfl, q⟩ := h; rfl) fun cdv A outer s H E Z hr hZ => ⟨_, (dxs_one (dx_if (dt_cmp od_ge (de_callB cd_len (by rfl) T.b_len PySem.boot_len (da_cons (dv 0) da_nil)) (de_gI (by rfl) T.g_MOST_OF_A_KIND) (nomark _)) (dxs_one (dx_raise body_cx hZ rfl TX.x_NoRow.er (by rfl) TX.x_NoRow.at_ (da_cons (de_fmt (dj_str (dj_val (de_gI (by rfl) T.g_MOST_OF_A_KIND) (dj_str dj_nil)))) da_nil))) dxs_nil)), fun ds Q h => ?_⟩
  obtain ⟨xs, rfl, q⟩ := h
  repeat (first | walk_at "rs1" | set_option simprocs false in simp only [ixk0, ixk1, ixk2, ixk3, ixk4, ex_at])
  have sz : sizeLine = 16777216 := sizeLine_eq
  have lk := ln_of (n := 12) ⟨by decide, by decide⟩
  have c0 : (Str.ofString "there are ").length = 10 := by decide +kernel
  have c1 : (Str.ofString " streams of a kind at most").length = 26 := by decide +kernel
  simp only [len_app, le0, c0, c1]
  refine ⟨fun z => ⟨by omega, num_log (by decide) (by decide), by omega, by omega, by omega, ?_⟩, fun z => ?_⟩
  · have := of_decide_eq_true z
    rw [if_neg (by omega)] at q
    exact q
  · have := of_decide_eq_false z
    rw [if_pos (by omega)] at q
    exact q
def rx_check_place (cs : Cls) : DRX := fun ds Q Z => ∃ (k : Str) (hs ks : List D), ds = [.str k, .lst hs, .lst ks] ∧ TOk k ∧
  if k = hotW then (if 0 < ks.length then Z (.ref cs.NoRow) else if hs.length < 12 then Q (.p .non) else Z (.ref cs.NoRow)) else if k = coldW then (if ks.length < 12 then Q (.p .non) else Z (.ref cs.NoRow)) else Z (.ref cs.NoRow)
theorem ok_check_place (T : Blt mg) (TX : Errs K mg cs) (FX_check_room : FnX P w K mg base "check_room" 1 ["streams"] (spX K (rx_check_room cs))) (F : Fun K "check_place" "check_place" s_check_place f fd) : FnOk P w K mg base (CXe P w) 2 f fd ["kind", "hots", "colds"] (spX K (rx_check_place cs)) := by
  refine okDX F sc_check_place (fun ds Q Z h => by obtain ⟨k, hs, ks, rfl, hk, q⟩ := h; rfl) fun cdv A outer s H E Z hr hZ => ⟨_, (dxs_one (dx_if (dt_cmp od_eq (dv 0) de_str (nomark _)) (dxs_cons (dx_if (dt_cmp od_gt (de_callB cd_len (by rfl) T.b_len PySem.boot_len (da_cons (dv 2) da_nil)) de_int (nomark _)) (dxs_one (dx_raise body_cx hZ rfl TX.x_NoRow.er (by rfl) TX.x_NoRow.at_ (da_cons de_str da_nil))) dxs_nil)
      (dxs_one (dx_exprC body_cx hZ FX_check_room (hr.mono (by decide)) (by rfl) (da_cons (dv 1) da_nil)))) (dxs_one (dx_if (dt_cmp od_eq (dv 0) de_str (nomark _)) (dxs_one (dx_exprC body_cx hZ FX_check_room (hr.mono (by decide)) (by rfl) (da_cons (dv 2) da_nil))) (dxs_one (dx_raise body_cx hZ rfl TX.x_NoRow.er (by rfl) TX.x_NoRow.at_ (da_cons (de_fmt (dj_str (dj_reprS (dv 0) dj_nil))) da_nil))))))), fun ds Q h => ?_⟩
  obtain ⟨k, hs, ks, rfl, hk, q⟩ := h
  repeat (first | dsimp only [rx_check_room] | walk_at "rs1" | set_option simprocs false in simp only [ixk0, ixk1, ixk2, ixk3, ixk4, ex_at])
  have sz : sizeLine = 16777216 := sizeLine_eq
  have lr := hk.rep
  have c0 : (Str.ofString "a stream is hot or cold, not ").length = 29 := by decide +kernel
  simp only [len_app, le0, c0]
  refine ⟨fun z => ?_, fun z => ?_⟩
  · rw [if_pos (show k = hotW from of_decide_eq_true z)] at q
    refine ⟨fun y => ?_, fun y => ⟨hs, rfl, ?_⟩⟩
    · rw [if_pos (by have := of_decide_eq_true y; omega)] at q
      exact q
    · rw [if_neg (by have := of_decide_eq_false y; omega)] at q
      exact q
  · rw [if_neg (show ¬ k = hotW from of_decide_eq_false z)] at q
    refine ⟨fun y => ⟨ks, rfl, ?_⟩, fun y => ?_⟩
    · rw [if_pos (show k = coldW from of_decide_eq_true y)] at q
      exact q
    · rw [if_neg (show ¬ k = coldW from of_decide_eq_false y)] at q
      exact ⟨by omega, by omega, by omega, by omega, q⟩
def rx_check_within (cs : Cls) : DRX := fun ds Q Z => ∃ n a b : Int, ds = [.int n, .int a, .int b] ∧ Sm n ∧ Sm a ∧ Sm b ∧ if n < a ∨ b < n then Z (.ref cs.NoMeasure) else Q (.p .non)
theorem ok_check_within (T : Blt mg) (TX : Errs K mg cs) (F : Fun K "check_within" "check_within" s_check_within f fd) : FnOk P w K mg base (CXe P w) 1 f fd ["number", "least", "most"] (spX K (rx_check_within cs)) := by
  refine okDX F sc_check_within (fun ds Q Z h => by obtain ⟨n, a, b, rfl, hn, ha, hb, q⟩ := h; rfl) fun cdv A outer s H E Z hr hZ => ⟨_, (dxs_one (dx_if (dw_or (dt_cmp od_lt (dv 0) (dv 1) (nomark _)) (dw_or1 (dt_cmp od_gt (dv 0) (dv 2) (nomark _)))).dt (dxs_one (dx_raise body_cx hZ rfl TX.x_NoMeasure.er (by rfl) TX.x_NoMeasure.at_ (da_cons (de_fmt (dj_val (dv 0) (dj_str (dj_val (dv 1) (dj_str (dj_val (dv 2) dj_nil)))))) da_nil))) dxs_nil)), fun ds Q h => ?_⟩
  obtain ⟨n, a, b, rfl, hn, ha, hb, q⟩ := h
  repeat (first | walk_at "rs1" | set_option simprocs false in simp only [ixk0, ixk1, ixk2, ixk3, ixk4, ex_at])
  have l1 := ln_of hn
  have l2 := ln_of ha
  have l3 := ln_of hb
  have c1 : (Str.ofString " is not from ").length = 13 := by decide +kernel
  have c2 : (Str.ofString " to ").length = 4 := by decide +kernel
  have sz : sizeLine = 16777216 := sizeLine_eq
  have g1 := num_log hn.1 hn.2
  have g2 := num_log ha.1 ha.2
  have g3 := num_log hb.1 hb.2
  simp only [len_app, le0, c1, c2]
  refine ⟨fun z => ⟨fun _ => ⟨g1, by omega, by omega, g2, by omega, by omega, g3, by omega, by omega, ?_⟩, fun z => (by cases z)⟩, fun z => ⟨fun y => ⟨g1, by omega, by omega, g2, by omega, by omega, g3, by omega, by omega, ?_⟩, fun y => ?_⟩⟩
  · rw [if_pos (.inl (of_decide_eq_true z))] at q; exact q
  · rw [if_pos (.inr (of_decide_eq_true y))] at q; exact q
  · rw [if_neg (fun w => w.elim (of_decide_eq_false z) (of_decide_eq_false y))] at q; exact q
def rx_check_stream (cs : Cls) : DRX := fun ds Q Z => ∃ (k : Str) (x : S3), ds = [.str k, .tup [.int x.1, .int x.2.1, .int x.2.2]] ∧ (k = hotW ∨ k = coldW) ∧ Sm x.1 ∧ Sm x.2.1 ∧ Sm x.2.2 ∧
  if 200 < x.1 ∨ 200 < x.2.1 ∨ x.2.2 < 1 ∨ 1000000000 < x.2.2 then Z (.ref cs.NoMeasure) else if (k = hotW ∧ x.1 ≤ x.2.1) ∨ (k = coldW ∧ x.2.1 ≤ x.1) then Z (.ref cs.WrongWay) else Q (.p .non)
theorem sm_lit (n : Nat) (h : n < 10 ^ 10) : Sm (n : Int) := ⟨Int.natCast_nonneg n, by exact_mod_cast h⟩
theorem ok_check_stream (T : Blt mg) (TX : Errs K mg cs) (FX_check_within : FnX P w K mg base "check_within" 1 ["number", "least", "most"] (spX K (rx_check_within cs))) (F : Fun K "check_stream" "check_stream" s_check_stream f fd) : FnOk P w K mg base (CXe P w) 2 f fd ["kind", "stream"] (spX K (rx_check_stream cs)) := by
  refine okDX F sc_check_stream (fun ds Q Z h => by obtain ⟨k, x, rfl, hk, h1, h2, h3, q⟩ := h; rfl) fun cdv A outer s H E Z hr hZ => ⟨_, (dxs_cons (dx (ds_setP (i := 2) sc_check_stream.nd rfl (Or.inl rfl) (de_ix (dv 1) de_int)))
      (dxs_cons (dx (ds_setP (i := 3) sc_check_stream.nd rfl (Or.inl rfl) (de_ix (dv 1) de_int)))
      (dxs_cons (dx_exprC body_cx hZ FX_check_within (hr.mono (by decide)) (by rfl) (da_cons (dv 2) (da_cons de_int (da_cons (de_gI (by rfl) T.g_MOST_DEGREE) da_nil))))
      (dxs_cons (dx_exprC body_cx hZ FX_check_within (hr.mono (by decide)) (by rfl) (da_cons (dv 3) (da_cons de_int (da_cons (de_gI (by rfl) T.g_MOST_DEGREE) da_nil))))
      (dxs_cons (dx_exprC body_cx hZ FX_check_within (hr.mono (by decide)) (by rfl) (da_cons (de_ix (dv 1) de_int) (da_cons (de_gI (by rfl) T.g_LEAST_RATE) (da_cons (de_gI (by rfl) T.g_MOST_RATE) da_nil))))
      (dxs_cons (dx_if (dw_and (dt_cmp od_eq (dv 0) de_str (nomark _)) (dw_and1 (dt_cmp od_ge (dv 3) (dv 2) (nomark _)))).dt (dxs_one (dx_raise body_cx hZ rfl TX.x_WrongWay.er (by rfl) TX.x_WrongWay.at_ (da_cons (de_fmt (dj_str (dj_val (dv 2) (dj_str (dj_val (dv 3) dj_nil))))) da_nil))) dxs_nil)
      (dxs_one (dx_if (dw_and (dt_cmp od_eq (dv 0) de_str (nomark _)) (dw_and1 (dt_cmp od_le (dv 3) (dv 2) (nomark _)))).dt (dxs_one (dx_raise body_cx hZ rfl TX.x_WrongWay.er (by rfl) TX.x_WrongWay.at_ (da_cons (de_fmt (dj_str (dj_val (dv 2) (dj_str (dj_val (dv 3) dj_nil))))) da_nil))) dxs_nil)))))))), fun ds Q h => ?_⟩
  obtain ⟨k, x, rfl, hk, h1, h2, h3, q⟩ := h
  repeat (first | dsimp only [rx_check_within] | walk_at "rs1" | set_option simprocs false in simp only [ixk0, ixk1, ixk2, ixk3, ixk4, ex_at])
  have s0 : Sm 0 := sm_lit 0 (by decide)
  have s2 : Sm 200 := sm_lit 200 (by decide)
  have l1 := ln_of h1
  have l2 := ln_of h2
  have c0 : (Str.ofString "a hot stream is cooled, not brought from ").length = 41 := by decide +kernel
  have c1 : (Str.ofString "a cold stream is warmed, not brought from ").length = 42 := by decide +kernel
  have c2 : (Str.ofString " to ").length = 4 := by decide +kernel
  have sz : sizeLine = 16777216 := sizeLine_eq
  have g1 := num_log h1.1 h1.2
  have g2 := num_log h2.1 h2.2
  have p1 := h1.1
  have p2 := h2.1
  refine ⟨x.1, 0, 200, rfl, h1, s0, s2, ite2 (fun z => ?_) fun z => ⟨x.2.1, 0, 200, rfl, h2, s0, s2, ite2 (fun z2 => ?_) fun z2 => ⟨x.2.2, 1, 1000000000, rfl, h3, sm_lit 1 (by decide), sm_lit 1000000000 (by decide), ite2 (fun z3 => ?_) fun z3 => ?_⟩⟩⟩
  · rw [if_pos (by omega)] at q; exact q
  · rw [if_pos (by omega)] at q; exact q
  · rw [if_pos (by omega)] at q; exact q
  rw [if_neg (by omega)] at q
  simp only [len_app, le0, c0, c1, c2]
  rcases hk with rfl | rfl
  · refine ⟨fun _ => ⟨fun y => ⟨by omega, g1, by omega, by omega, g2, by omega, by omega, ?_⟩, fun y => ⟨fun w => absurd (of_decide_eq_true w) hc_ne, fun _ => ⟨fun w => (by cases w), fun _ => ?_⟩⟩⟩, fun w => absurd rfl (of_decide_eq_false w)⟩
    · rw [if_pos (.inl ⟨rfl, of_decide_eq_true y⟩)] at q; exact q
    · rw [if_neg (fun w => w.elim (fun w => of_decide_eq_false y w.2) fun w => hc_ne w.1)] at q; exact q
  · refine ⟨fun w => absurd (of_decide_eq_true w) ch_ne, fun _ => ⟨fun w => (by cases w), fun _ => ⟨fun _ => ⟨fun y => ⟨by omega, g1, by omega, by omega, g2, by omega, by omega, ?_⟩, fun y => ?_⟩, fun w => absurd rfl (of_decide_eq_false w)⟩⟩⟩
    · rw [if_pos (.inr ⟨rfl, of_decide_eq_true y⟩)] at q; exact q
    · rw [if_neg (fun w => w.elim (fun w => ch_ne w.1) fun w => of_decide_eq_false y w.2)] at q; exact q
theorem sp_is : Str.ofString " " = sp := by decide +kernel
theorem lf_is : Str.ofString "\n" = lf := by decide +kernel
def gapO (cs : Cls) (w0 : Str) (ws : List Str) (Q : Int → Prop) (Z : Value → Prop) : Prop :=
  if ((ws.length : Int) = 1 ∧ ws.all isNum = true) then (if w0 = gapW then (if 50 < (valC (codes (ws.headD Str.empty)) : Int) then Z (.ref cs.NoMeasure) else Q (valC (codes (ws.headD Str.empty)))) else Z (.ref cs.NoRow)) else Z (.ref cs.NoRow)
def rx_read_gap (cs : Cls) : DRX := fun ds Q Z => ∃ (r w0 : Str) (ws : List Str), ds = [.str r] ∧ TOk r ∧ Txt.split r sp = w0 :: ws ∧ (∀ w ∈ w0 :: ws, TOk w) ∧ ws.length ≤ 100 ∧ gapO cs w0 ws (fun n => Q (.p (.int n))) Z
theorem ok_read_gap (T : Blt mg) (TX : Errs K mg cs) (FX_numbers_of : FnX P w K mg base "numbers_of" 2 ["words", "count"] (spX K (rx_numbers_of cs))) (FX_check_within : FnX P w K mg base "check_within" 1 ["number", "least", "most"] (spX K (rx_check_within cs))) (F : Fun K "read_gap" "read_gap" s_read_gap f fd) : FnOk P w K mg base (CXe P w) 3 f fd ["row"] (spX K (rx_read_gap cs)) := by
  refine okDX F sc_read_gap (fun ds Q Z h => by obtain ⟨r, w0, ws, rfl, hr1, e, hw, hl, q⟩ := h; rfl) fun cdv A outer s H E Z hr hZ => ⟨_, (dxs_cons (dx (ds_setP (i := 1) sc_read_gap.nd rfl (Or.inl rfl) (de_strM PySem.F.plainAttrs_str PySem.F.slot_str_split PySem.F.type_str_split md_split (dv 0) (da_cons de_str da_nil))))
      (dxs_cons (dx_setC (i := 2) body_cx hZ FX_numbers_of (hr.mono (by decide)) (by rfl) (da_cons (dv 1) (da_cons de_int da_nil)) sc_read_gap.nd rfl (Or.inl rfl))
      (dxs_cons (dx_if (dt_cmp od_ne (de_ix (dv 1) de_int) de_str (nomark _)) (dxs_one (dx_raise body_cx hZ rfl TX.x_NoRow.er (by rfl) TX.x_NoRow.at_ (da_cons (de_fmt (dj_str (dj_reprS (dv 0) dj_nil))) da_nil))) dxs_nil)
      (dxs_cons (dx_exprC body_cx hZ FX_check_within (hr.mono (by decide)) (by rfl) (da_cons (de_ix (dv 2) de_int) (da_cons de_int (da_cons (de_gI (by rfl) T.g_MOST_GAP) da_nil))))
      (dxs_one (dx (ds_ret (de_ix (dv 2) de_int)))))))), fun ds Q h => ?_⟩
  obtain ⟨r, w0, ws, rfl, hr1, e, hw, hl, q⟩ := h
  rw [← sp_is] at e
  repeat (first | dsimp only [rx_numbers_of, rx_check_within] | walk_at "rs1" | set_option simprocs false in simp only [ixk0, ixk1, ixk2, ixk3, ixk4, ex_at, e])
  have sz : sizeLine = 16777216 := sizeLine_eq
  have lr := hr1.rep
  have l1 := hr1.1
  refine ⟨by decide +kernel, by omega, w0, ws, 1, rfl, by decide, by decide, hw, hl, ?_⟩
  unfold gapO at q
  refine ite2 (fun z => ?_) fun z => ?_
  · rw [if_pos z] at q
    obtain ⟨w1, rfl⟩ : ∃ w1, ws = [w1] := by
      have h1 : ws.length = 1 := by have := z.1; omega
      exact List.length_eq_one_iff.mp h1
    have hi := isNum_is (List.all_eq_true.mp z.2 w1 (by simp))
    have n0 : (0 : Int) ≤ valC (codes w1) := Int.natCast_nonneg _
    have c0 : (Str.ofString "the first row is the gap's, not ").length = 32 := by decide +kernel
    simp only [len_app, le0, c0]
    refine ⟨fun y => ⟨by omega, by omega, by omega, by omega, ?_⟩, fun y => ⟨_, atI_nat (j := 0) rfl, _, 0, 50, rfl, ⟨n0, hi.2⟩, sm_lit 0 (by decide), sm_lit 50 (by decide), ?_⟩⟩
    · rw [if_neg (fun h => by rw [decide_eq_true (show w0 = Str.ofString "gap" from h)] at y; cases y)] at q
      exact q
    · have hg : w0 = gapW := by
        have : decide (w0 = Str.ofString "gap") = true := by simpa using y
        exact of_decide_eq_true this
      rw [if_pos hg] at q
      have q' : if 50 < (valC (codes w1) : Int) then Z (.ref cs.NoMeasure) else Q (.p (.int (valC (codes w1)))) := q
      refine ite2 (fun h => ?_) fun h => ⟨_, atI_nat (j := 0) rfl, ?_⟩
      · rw [if_pos (by omega)] at q'
        exact q'
      · rw [if_neg (by omega)] at q'
        exact q'
  · rw [if_neg z] at q
    exact q
def tS (x : S3) : D := .tup [.int x.1, .int x.2.1, .int x.2.2]
def wordsO (cs : Cls) (k : Str) (ws : List Str) (hs ks : List S3) (next : List S3 → List S3 → Prop) (Z : Value → Prop) : Prop :=
  if ((ws.length : Int) = 3 ∧ ws.all isNum = true) then
    (fun x : S3 => (fun go : (List S3 → List S3 → Prop) → Prop =>
      if k = hotW then (if 0 < ks.length then Z (.ref cs.NoRow) else if hs.length < 12 then go (fun _ _ => next (hs ++ [x]) ks) else Z (.ref cs.NoRow))
      else if k = coldW then (if ks.length < 12 then go (fun _ _ => next hs (ks ++ [x])) else Z (.ref cs.NoRow)) else Z (.ref cs.NoRow))
      fun nx => if 200 < x.1 ∨ 200 < x.2.1 ∨ x.2.2 < 1 ∨ 1000000000 < x.2.2 then Z (.ref cs.NoMeasure) else if (k = hotW ∧ x.1 ≤ x.2.1) ∨ (k = coldW ∧ x.2.1 ≤ x.1) then Z (.ref cs.WrongWay) else nx [] [])
      ((valC (codes (ws.getD 0 Str.empty)) : Int), (valC (codes (ws.getD 1 Str.empty)) : Int), (valC (codes (ws.getD 2 Str.empty)) : Int))
  else Z (.ref cs.NoRow)
def rowsO (cs : Cls) (Z : Value → Prop) (fin : List S3 → List S3 → Prop) : List Str → List S3 → List S3 → Prop
  | [], hs, ks => fin hs ks
  | r :: rs, hs, ks => wordsO cs ((Txt.split r sp).headD Str.empty) (Txt.split r sp).tail hs ks (fun hs' ks' => rowsO cs Z fin rs hs' ks') Z
def RowOk (r : Str) : Prop := TOk r ∧ (∀ w ∈ Txt.split r sp, TOk w) ∧ (Txt.split r sp).length ≤ 101
def rx_read (cs : Cls) : DRX := fun ds Q Z => ∃ (text r0 : Str) (rs : List Str), ds = [.str text] ∧ text.length ≤ 100000 ∧ Txt.split text lf = r0 :: rs ∧ (∀ r ∈ r0 :: rs, RowOk r) ∧ rs.length ≤ 1000 ∧
  gapO cs ((Txt.split r0 sp).headD Str.empty) (Txt.split r0 sp).tail (fun g => rowsO cs Z (fun hs ks => Q (.p (.tup [.int g, .lst (hs.map tS), .lst (ks.map tS)]))) rs [] []) Z
theorem split_cons (r : Str) : Txt.split r sp = (Txt.split r sp).headD Str.empty :: (Txt.split r sp).tail := by
  have h := split_ne r sp
  cases e : Txt.split r sp with
  | nil => exact absurd e h
  | cons a l => rfl
theorem gapO_mono {cs : Cls} {w0 : Str} {ws : List Str} {Q Q' : Int → Prop} {Z : Value → Prop} (h : gapO cs w0 ws Q Z) (m : ∀ n, Q n → Q' n) : gapO cs w0 ws Q' Z := by
  unfold gapO at h ⊢
  split
  · rename_i h1
    rw [if_pos h1] at h
    split
    · rename_i h2
      rw [if_pos h2] at h
      split
      · rename_i h3
        rw [if_pos h3] at h
        exact h
      · rename_i h3
        rw [if_neg h3] at h
        exact m _ h
    · rename_i h2
      rw [if_neg h2] at h
      exact h
  · rename_i h1
    rw [if_neg h1] at h
    exact h
theorem ok_read (T : Blt mg) (TX : Errs K mg cs) (FX_read_gap : FnX P w K mg base "read_gap" 3 ["row"] (spX K (rx_read_gap cs))) (FX_numbers_of : FnX P w K mg base "numbers_of" 2 ["words", "count"] (spX K (rx_numbers_of cs))) (FX_check_place : FnX P w K mg base "check_place" 2 ["kind", "hots", "colds"] (spX K (rx_check_place cs))) (FX_check_stream : FnX P w K mg base "check_stream" 2 ["kind", "stream"] (spX K (rx_check_stream cs))) (F : Fun K "read" "read" s_read f fd) : FnOk P w K mg base (CXe P w) 4 f fd ["text"] (spX K (rx_read cs)) := by
  refine okDX F sc_read (fun ds Q Z h => by obtain ⟨text, r0, rs, rfl, lt, e, hr0, hl, q⟩ := h; rfl) fun cdv A outer s H E Z hr hZ => ⟨_, (dxs_cons (dx (ds_setP (i := 1) sc_read.nd rfl (Or.inl rfl) (de_strM PySem.F.plainAttrs_str PySem.F.slot_str_split PySem.F.type_str_split md_split (dv 0) (da_cons de_str da_nil))))
      (dxs_cons (dx_setC (i := 2) body_cx hZ FX_read_gap (hr.mono (by decide)) (by rfl) (da_cons (de_ix (dv 1) de_int) da_nil) sc_read.nd rfl (Or.inl rfl))
      (dxs_cons (dx (ds_set (i := 3) sc_read.nd rfl (Or.inl rfl) (de_lst da_nil)))
      (dxs_cons (dx (ds_set (i := 4) sc_read.nd rfl (Or.inl rfl) (de_lst da_nil)))
      (dxs_cons (dx_for (g := (.n 5)) PassesOwn.leaving rfl (di_list (de_slice (dv 1) (do_some de_int) do_none)) (pg_name (i := 5) sc_read.nd rfl (Or.inl rfl)) (dxs_cons (dx (ds_setP (i := 6) sc_read.nd rfl (Or.inl rfl) (de_strM PySem.F.plainAttrs_str PySem.F.slot_str_split PySem.F.type_str_split md_split (dv 5) (da_cons de_str da_nil))))
      (dxs_cons (dx_setC (i := 7) body_cx hZ FX_numbers_of (hr.mono (by decide)) (by rfl) (da_cons (dv 6) (da_cons de_int da_nil)) sc_read.nd rfl (Or.inl rfl))
      (dxs_cons (dx_exprC body_cx hZ FX_check_place (hr.mono (by decide)) (by rfl) (da_cons (de_ix (dv 6) de_int) (da_cons (dv 3) (da_cons (dv 4) da_nil))))
      (dxs_cons (dx (ds_setP (i := 8) sc_read.nd rfl (Or.inl rfl) (de_tup (da_cons (de_ix (dv 7) de_int) (da_cons (de_ix (dv 7) de_int) (da_cons (de_ix (dv 7) de_int) da_nil))))))
      (dxs_cons (dx_exprC body_cx hZ FX_check_stream (hr.mono (by decide)) (by rfl) (da_cons (de_ix (dv 6) de_int) (da_cons (dv 8) da_nil)))
      (dxs_one (dx (ds_if (dt_cmp od_eq (de_ix (dv 6) de_int) de_str (nomark _)) (dss_one (ds_app (i := 3) rfl (by first | exact Or.inl rfl | exact Or.inr (Or.inl rfl) | exact Or.inr (Or.inr rfl)) (dv 8))) (dss_one (ds_app (i := 4) rfl (by first | exact Or.inl rfl | exact Or.inr (Or.inl rfl) | exact Or.inr (Or.inr rfl)) (dv 8))))))))))))
      (dxs_one (dx (ds_ret (de_tup (da_cons (dv 2) (da_cons (dv 3) (da_cons (dv 4) da_nil)))))))))))), fun ds Q h => ?_⟩
  obtain ⟨text, r0, rs, rfl, lt, e, hr0, hl, q⟩ := h
  rw [← lf_is] at e
  repeat (first | dsimp only [rx_read_gap] | walk_at "rs1" | set_option simprocs false in simp only [ixk0, ixk1, ixk2, ixk3, ixk4, ex_at, e])
  have sz : sizeLine = 16777216 := sizeLine_eq
  have h00 := hr0 r0 (by simp)
  refine ⟨by decide +kernel, by omega, r0, _, _, rfl, h00.1, split_cons r0, ?_, ?_, gapO_mono q fun g qg => ?_⟩
  · rw [← split_cons]
    exact h00.2.1
  · have h := h00.2.2
    rw [split_cons r0, List.length_cons] at h
    omega
  rw [cutL1]
  refine for_nat (fun i ρ => ∃ hs ks a b c d, ρ = [some (B.p (D.str text)), some (B.p (D.lst (D.str r0 :: List.map D.str rs))), some (B.p (D.int g)), some (B.o (D.lst (List.map tS hs))), some (B.o (D.lst (List.map tS ks))), a, b, c, d] ∧ hs.length ≤ 12 ∧ ks.length ≤ 12 ∧
    rowsO cs Z (fun hs ks => Q (B.p (D.tup [D.int g, D.lst (List.map tS hs), D.lst (List.map tS ks)]))) (rs.drop i) hs ks) ⟨[], [], none, none, none, none, rfl, by decide, by decide, qg⟩ ?_ ?_
  · rintro i d ρ hx ⟨hs, ks, a1, a2, a3, a4, rfl, nh, nk, qr⟩
    rw [List.getElem?_map] at hx
    obtain ⟨r, hr2, rfl⟩ := Option.map_eq_some_iff.mp hx
    obtain ⟨hi, hri⟩ := List.getElem?_eq_some_iff.mp hr2
    rw [List.drop_eq_getElem_cons hi, hri] at qr
    have ro := hr0 r (List.mem_cons_of_mem _ (List.mem_of_getElem? hr2))
    obtain ⟨w0, ws, es⟩ : ∃ w0 ws, Txt.split r sp = w0 :: ws := ⟨_, _, split_cons r⟩
    have qw : wordsO cs w0 ws hs ks (fun hs' ks' => rowsO cs Z (fun hs ks => Q (B.p (D.tup [D.int g, D.lst (List.map tS hs), D.lst (List.map tS ks)]))) (rs.drop (i + 1)) hs' ks') Z := by
      have h := qr
      unfold rowsO at h
      rw [es] at h
      exact h
    have tw := ro.2.1
    have tl := ro.2.2
    rw [es] at tw tl
    rw [List.length_cons] at tl
    rw [← sp_is] at es
    have l1 := ro.1.1
    repeat (first | dsimp only [rx_numbers_of, rx_check_place, rx_check_stream] | walk_at "rs1" | set_option simprocs false in simp only [ixk0, ixk1, ixk2, ixk3, ixk4, ex_at, es])
    refine ⟨by decide +kernel, by omega, w0, ws, 3, rfl, by decide, by decide, tw, by omega, ?_⟩
    unfold wordsO at qw
    refine ite2 (fun z => ?_) fun z => ?_
    · rw [if_pos z] at qw
      obtain ⟨a, b, c, rfl⟩ : ∃ a b c, ws = [a, b, c] := by
        have h3 : ws.length = 3 := by have := z.1; omega
        match ws, h3 with
        | [a, b, c], _ => exact ⟨a, b, c, rfl⟩
      have ia := isNum_is (List.all_eq_true.mp z.2 a (by simp))
      have ib := isNum_is (List.all_eq_true.mp z.2 b (by simp))
      have ic := isNum_is (List.all_eq_true.mp z.2 c (by simp))
      have na : (0 : Int) ≤ valC (codes a) := Int.natCast_nonneg _
      have nb : (0 : Int) ≤ valC (codes b) := Int.natCast_nonneg _
      have nc : (0 : Int) ≤ valC (codes c) := Int.natCast_nonneg _
      simp only [List.getD_cons_zero, List.getD_cons_succ] at qw
      refine ⟨w0, _, _, rfl, tw w0 (by simp), ?_⟩
      rw [List.length_map, List.length_map]
      have lh : hs.length < sizeLine := by omega
      have lk : ks.length < sizeLine := by omega
      by_cases h1 : w0 = hotW
      · rw [if_pos h1] at qw ⊢
        by_cases h2 : 0 < ks.length
        · rw [if_pos h2] at qw ⊢; exact qw
        rw [if_neg h2] at qw ⊢
        by_cases h3 : hs.length < 12
        · rw [if_pos h3] at qw ⊢
          refine ⟨_, atI_nat (j := 0) rfl, _, atI_nat (j := 1) rfl, _, atI_nat (j := 2) rfl, w0, (_, _, _), rfl, .inl h1, ⟨na, ia.2⟩, ⟨nb, ib.2⟩, ⟨nc, ic.2⟩, ?_⟩
          dsimp only
          refine ite2 (fun h4 => ?_) fun h4 => ite2 (fun h5 => ?_) fun h5 => ?_
          · rw [if_pos h4] at qw; exact qw
          · rw [if_neg h4, if_pos h5] at qw; exact qw
          · rw [if_neg h4, if_neg h5] at qw
            exact ⟨fun _ => ⟨lh, hs ++ [(_, _, _)], ks, _, _, _, _, by rw [List.map_append]; rfl, by rw [List.length_append, List.length_singleton]; omega, nk, qw⟩, fun y => absurd h1 (of_decide_eq_false y)⟩
        · rw [if_neg h3] at qw ⊢; exact qw
      · rw [if_neg h1] at qw ⊢
        by_cases h2 : w0 = coldW
        · rw [if_pos h2] at qw ⊢
          by_cases h3 : ks.length < 12
          · rw [if_pos h3] at qw ⊢
            refine ⟨_, atI_nat (j := 0) rfl, _, atI_nat (j := 1) rfl, _, atI_nat (j := 2) rfl, w0, (_, _, _), rfl, .inr h2, ⟨na, ia.2⟩, ⟨nb, ib.2⟩, ⟨nc, ic.2⟩, ?_⟩
            dsimp only
            refine ite2 (fun h4 => ?_) fun h4 => ite2 (fun h5 => ?_) fun h5 => ?_
            · rw [if_pos h4] at qw; exact qw
            · rw [if_neg h4, if_pos h5] at qw; exact qw
            · rw [if_neg h4, if_neg h5] at qw
              exact ⟨fun y => absurd (of_decide_eq_true y) h1, fun _ => ⟨lk, hs, ks ++ [(_, _, _)], _, _, _, _, by rw [List.map_append]; rfl, nh, by rw [List.length_append, List.length_singleton]; omega, qw⟩⟩
          · rw [if_neg h3] at qw ⊢; exact qw
        · rw [if_neg h2] at qw ⊢; exact qw
    · rw [if_neg z] at qw
      exact qw
  · rintro ρ ⟨hs, ks, a1, a2, a3, a4, rfl, nh, nk, qr⟩
    rw [List.length_map, List.drop_length] at qr
    repeat (first | walk_at "rs1" | set_option simprocs false in simp only [ixk0, ixk1, ixk2, ixk3, ixk4, ex_at])
    exact qr
theorem join_mem {d : Nat} : ∀ {ps : List Str} {p : Str}, p ∈ ps → ∀ c ∈ codes p, c ∈ codes (Str.join ⟨#[d]⟩ ps)
  | [], _, h => nomatch h
  | [x], p, h => fun c hc => by rw [List.mem_singleton] at h; subst h; exact hc
  | x :: y :: r, p, h => fun c hc => by
    rw [codes_join]
    rcases List.mem_cons.mp h with e | e
    · subst e; exact List.mem_append_left _ hc
    · exact List.mem_append_right _ (List.mem_cons_of_mem _ (join_mem e c hc))
theorem join_le {d : Nat} : ∀ {ps : List Str} {p : Str}, p ∈ ps → p.length ≤ (Str.join ⟨#[d]⟩ ps).length
  | [], _, h => nomatch h
  | [x], p, h => by rw [List.mem_singleton] at h; subst h; exact Nat.le_refl _
  | x :: y :: r, p, h => by
    rw [len_codes (Str.join _ _), codes_join, List.length_append, List.length_cons, ← len_codes, ← len_codes]
    rcases List.mem_cons.mp h with e | e
    · subst e; omega
    · have := join_le (d := d) e; omega
theorem split_mem {d : Nat} {r p : Str} (h : p ∈ Txt.split r ⟨#[d]⟩) : p.length ≤ r.length ∧ ∀ c ∈ codes p, c ∈ codes r := by
  have h1 := join_le (d := d) h
  have h2 := join_mem (d := d) h
  rw [StrLaws.join_split] at h1 h2
  exact ⟨h1, h2⟩
theorem rowok_of {r : Str} (h1 : r.length ≤ 99) (h2 : ∀ c ∈ codes r, c < 16 ^ 8) : RowOk r :=
  ⟨⟨by omega, h2⟩, fun w hw => ⟨Nat.le_trans (split_mem (d := 32) hw).1 (by omega), fun c hc => h2 c ((split_mem (d := 32) hw).2 c hc)⟩, Nat.le_trans (split_len r sp) (by omega)⟩
inductive Out where
  | told (d : D)
  | nr
  | nm
  | ww
def Out.go (cs : Cls) (Q : B → Prop) (Z : Value → Prop) : Out → Prop
  | .told d => Q (.p d)
  | .nr => Z (.ref cs.NoRow)
  | .nm => Z (.ref cs.NoMeasure)
  | .ww => Z (.ref cs.WrongWay)
theorem WOk.app {a b : Str} (ha : ∀ c ∈ codes a, c < 128 ∧ c ≠ 10) (hb : ∀ c ∈ codes b, c < 128 ∧ c ≠ 10) : ∀ c ∈ codes (a ++ b), c < 128 ∧ c ≠ 10 := fun c hc => by
  rw [codes_app] at hc
  exact (List.mem_append.mp hc).elim (ha c) (hb c)
theorem wok_row {r : Str} (h1 : r.length ≤ 99) (h : ∀ c ∈ codes r, c < 128 ∧ c ≠ 10) : RowOk r := rowok_of h1 fun c hc => Nat.lt_trans (h c hc).1 (by decide)
theorem ok_num {n : Int} (h0 : 0 ≤ n) : ∀ c ∈ codes (num n), c < 128 ∧ c ≠ 10 := fun c hc => by have := num_digits h0 c hc; omega
abbrev RowC (r : Str) : Prop := ∀ c ∈ codes r, c < 128 ∧ c ≠ 10
theorem sp_c : RowC sp := by decide +kernel
def rowT (ws : List Str) : Str := Str.join sp ws
def rowW (k : Str) (x : S3) : List Str := [k, num x.1, num x.2.1, num x.2.2]
def rowsW (g : Int) (hs ks : List S3) : List (List Str) := [gapW, num g] :: (hs.map (rowW hotW) ++ ks.map (rowW coldW))
def kindW (hot : Bool) : Str := if hot then hotW else coldW
structure GoodS (hot : Bool) (x : S3) : Prop where
  a0 : 0 ≤ x.1
  a1 : x.1 ≤ 200
  b0 : 0 ≤ x.2.1
  b1 : x.2.1 ≤ 200
  c0 : 1 ≤ x.2.2
  c1 : x.2.2 ≤ 1000000000
  way : if hot = true then x.2.1 < x.1 else x.1 < x.2.1
def RowG (r : Str) : Prop := r.length ≤ 99 ∧ RowC r
theorem chne : ¬ coldW = hotW := by decide +kernel
theorem gapne {hot : Bool} : ¬ kindW hot = gapW := by cases hot <;> decide +kernel
theorem join_len : ∀ (R : List Str), (∀ r ∈ R, r.length ≤ 99) → (Str.join lf R).length ≤ R.length * 100
  | [], _ => Nat.zero_le _
  | [r], h => by have := h r (by simp); show r.length ≤ _; rw [List.length_singleton]; omega
  | r :: q :: R, h => by
    have h1 := h r (by simp)
    have h2 := join_len (q :: R) fun x hx => h x (List.mem_cons_of_mem _ hx)
    rw [len_codes, show lf = ⟨#[10]⟩ from rfl, codes_join, List.length_append, List.length_cons, ← len_codes, ← len_codes, List.length_cons]
    have h3 : (Str.join ⟨#[10]⟩ (q :: R)).length ≤ (q :: R).length * 100 := h2
    omega
theorem read_rows {cs : Cls} {r0 : Str} {rs : List Str} (hR : ∀ r ∈ r0 :: rs, RowG r) (hl : rs.length ≤ 900) {Q : B → Prop} {Z : Value → Prop}
    (h : gapO cs ((Txt.split r0 sp).headD Str.empty) (Txt.split r0 sp).tail (fun g => rowsO cs Z (fun hs ks => Q (.p (.tup [.int g, .lst (hs.map tS), .lst (ks.map tS)]))) rs [] []) Z) : rx_read cs [.str (Str.join lf (r0 :: rs))] Q Z := by
  refine ⟨_, r0, rs, rfl, ?_, split_join (c := 10) (by simp) (fun p hp z => ((hR p hp).2 10 z).2 rfl), fun r hr => wok_row (hR r hr).1 (hR r hr).2, by omega, h⟩
  have := join_len (r0 :: rs) fun r hr => (hR r hr).1
  rw [List.length_cons] at this
  omega
theorem val_num {n : Int} (h0 : 0 ≤ n) (h1 : n < 10 ^ 10) : (valC (codes (num n)) : Int) = n := by
  have hi := isNum_is (isNum_num h0 h1)
  have e1 := num_int h0 h1
  have e2 := num_int (Int.natCast_nonneg (valC (codes (num n)))) hi.2
  rw [← hi.1, e1] at e2
  exact (Option.some.inj e2).symm
theorem free_num {n : Int} (h0 : 0 ≤ n) : 32 ∉ codes (num n) := num_free (by decide) n
theorem free_kind {hot : Bool} : 32 ∉ codes (kindW hot) := by cases hot <;> decide +kernel
theorem free_gap : 32 ∉ codes gapW := by decide +kernel
theorem words_back {ws : List Str} (hne : ws ≠ []) (h : ∀ w ∈ ws, 32 ∉ codes w) : Txt.split (rowT ws) sp = ws := split_join (c := 32) hne h
def Shape (kd : Option Bool) (ns : List Int) : List Str → Prop := fun ws => (∀ n ∈ ns, Sm n) ∧ match kd with
  | none => ns.length = 1 ∧ ws = gapW :: ns.map num
  | some hot => ns.length = 3 ∧ ws = kindW hot :: ns.map num
def clsOf (cs : Cls) : Nat → Value
  | 0 => .ref cs.NoRow
  | 1 => .ref cs.NoMeasure
  | _ => .ref cs.WrongWay
def Bad (cs : Cls) (kd : Option Bool) (ws : List Str) (c : Nat) : Prop := match kd with
  | none => ∀ Q Z, Z (clsOf cs c) → gapO cs ((Txt.split (rowT ws) sp).headD Str.empty) (Txt.split (rowT ws) sp).tail Q Z
  | some hot => ∀ hs ks next Z, (if hot = true then ks = [] ∧ hs.length < 12 else ks.length < 12) → Z (clsOf cs c) → wordsO cs ((Txt.split (rowT ws) sp).headD Str.empty) (Txt.split (rowT ws) sp).tail hs ks next Z
def numsOf : Option Bool → Nat
  | none => 1
  | some _ => 3
theorem bad_form {cs : Cls} {kd : Option Bool} {ws fw : List Str} (e : Txt.split (rowT ws) sp = fw) (h : ¬ (fw.tail.length = numsOf kd ∧ fw.tail.all isNum = true) ∨ (match kd with | none => fw.headD Str.empty ≠ gapW | some _ => fw.headD Str.empty ≠ hotW ∧ fw.headD Str.empty ≠ coldW)) : Bad cs kd ws 0 := by
  cases kd with
  | none =>
    intro Q Z z
    rw [e]
    unfold gapO
    by_cases h1 : (fw.tail.length : Int) = 1 ∧ fw.tail.all isNum = true
    · rw [if_pos h1]
      rcases h with h | h
      · exact absurd ⟨by have := h1.1; show fw.tail.length = 1; omega, h1.2⟩ h
      · rw [if_neg h]; exact z
    · rw [if_neg h1]; exact z
  | some hot =>
    intro hs ks next Z _ z
    rw [e]
    unfold wordsO
    by_cases h1 : (fw.tail.length : Int) = 3 ∧ fw.tail.all isNum = true
    · rw [if_pos h1]
      rcases h with h | h
      · exact absurd ⟨by have := h1.1; show fw.tail.length = 3; omega, h1.2⟩ h
      · rw [if_neg h.1, if_neg h.2]; exact z
    · rw [if_neg h1]; exact z
theorem three {α : Type} {ns : List α} (h : ns.length = 3) : ∃ a b c, ns = [a, b, c] := by
  match ns, h with
  | [a, b, c], _ => exact ⟨a, b, c, rfl⟩
theorem shape_words {kd : Option Bool} {ns : List Int} {ws : List Str} (h : Shape kd ns ws) : Txt.split (rowT ws) sp = ws ∧ ws.tail = ns.map num ∧ ns.length = numsOf kd ∧ (ns.map num).all isNum = true := by
  obtain ⟨hn, h⟩ := h
  have hall : (ns.map num).all isNum = true := by
    rw [List.all_map, List.all_eq_true]
    exact fun n hm => isNum_num (hn n hm).1 (hn n hm).2
  have fr : ∀ w ∈ ns.map num, 32 ∉ codes w := fun w hw => by
    obtain ⟨n, hm, rfl⟩ := List.mem_map.mp hw
    exact free_num (hn n hm).1
  cases kd with
  | none =>
    obtain ⟨hl, rfl⟩ := h
    exact ⟨words_back (by simp) fun w hw => (List.mem_cons.mp hw).elim (fun z => z ▸ free_gap) (fr w), rfl, hl, hall⟩
  | some hot =>
    obtain ⟨hl, rfl⟩ := h
    exact ⟨words_back (by simp) fun w hw => (List.mem_cons.mp hw).elim (fun z => z ▸ free_kind) (fr w), rfl, hl, hall⟩
def measO : Option Bool → List Int → Option Nat
  | none, [n] => if 50 < n then some 1 else none
  | some hot, [a, b, c] => if 200 < a ∨ 200 < b ∨ c < 1 ∨ 1000000000 < c then some 1 else if (if hot = true then a ≤ b else b ≤ a) then some 2 else none
  | _, _ => none
theorem measO_gap (n : Int) : measO none [n] = if 50 < n then some 1 else none := rfl
theorem measO_str (hot : Bool) (a b c : Int) : measO (some hot) [a, b, c] = if 200 < a ∨ 200 < b ∨ c < 1 ∨ 1000000000 < c then some 1 else if (if hot = true then a ≤ b else b ≤ a) then some 2 else none := rfl
theorem bad_meas {cs : Cls} {kd : Option Bool} {ns : List Int} {ws : List Str} {c : Nat} (h : Shape kd ns ws) (hm : measO kd ns = some c) : Bad cs kd ws c := by
  obtain ⟨e1, e2, e3, e4⟩ := shape_words h
  obtain ⟨hn, h⟩ := h
  cases kd with
  | none =>
    intro Q Z z
    obtain ⟨hl, rfl⟩ := h
    obtain ⟨n, rfl⟩ := List.length_eq_one_iff.mp hl
    rw [e1]
    rw [measO_gap] at hm
    have sn := hn n (by simp)
    show gapO cs gapW [num n] Q Z
    unfold gapO
    rw [if_pos ⟨rfl, e4⟩, if_pos rfl]
    show if 50 < (valC (codes (num n)) : Int) then _ else _
    rw [val_num sn.1 sn.2]
    by_cases h5 : 50 < n
    · rw [if_pos h5] at hm ⊢
      cases hm
      exact z
    · rw [if_neg h5] at hm
      cases hm
  | some hot =>
    intro hs ks next Z hpl z
    obtain ⟨hl, rfl⟩ := h
    obtain ⟨a, b, d, rfl⟩ := three hl
    rw [e1]
    have sa := hn a (by simp)
    have sb := hn b (by simp)
    have sd := hn d (by simp)
    show wordsO cs (kindW hot) [num a, num b, num d] hs ks next Z
    unfold wordsO
    rw [if_pos ⟨rfl, e4⟩]
    simp only [List.getD_cons_zero, List.getD_cons_succ, val_num sa.1 sa.2, val_num sb.1 sb.2, val_num sd.1 sd.2]
    have key : (if 200 < a ∨ 200 < b ∨ d < 1 ∨ 1000000000 < d then Z (.ref cs.NoMeasure) else if (kindW hot = hotW ∧ a ≤ b) ∨ (kindW hot = coldW ∧ b ≤ a) then Z (.ref cs.WrongWay) else False) := by
      rw [measO_str] at hm
      by_cases h1 : 200 < a ∨ 200 < b ∨ d < 1 ∨ 1000000000 < d
      · rw [if_pos h1] at hm ⊢
        cases hm
        exact z
      · rw [if_neg h1] at hm ⊢
        by_cases h2 : if hot = true then a ≤ b else b ≤ a
        · rw [if_pos h2] at hm
          cases hm
          cases hot with
          | true => rw [if_pos (.inl ⟨rfl, by simpa using h2⟩)]; exact z
          | false => rw [if_pos (.inr ⟨rfl, by simpa using h2⟩)]; exact z
        · rw [if_neg h2] at hm
          cases hm
    have fin : ∀ {R : Prop}, (if 200 < a ∨ 200 < b ∨ d < 1 ∨ 1000000000 < d then Z (.ref cs.NoMeasure) else if (kindW hot = hotW ∧ a ≤ b) ∨ (kindW hot = coldW ∧ b ≤ a) then Z (.ref cs.WrongWay) else R) := by
      intro R
      split
      · rename_i h1; rw [if_pos h1] at key; exact key
      · rename_i h1
        rw [if_neg h1] at key
        split
        · rename_i h2; rw [if_pos h2] at key; exact key
        · rename_i h2; rw [if_neg h2] at key; exact key.elim
    cases hot with
    | true =>
      obtain ⟨rfl, hh⟩ := (show ks = [] ∧ hs.length < 12 by simpa using hpl)
      rw [if_pos (show kindW true = hotW from rfl), if_neg (by decide), if_pos hh]
      exact fin
    | false =>
      have hh : ks.length < 12 := by simpa using hpl
      rw [if_neg (show ¬ kindW false = hotW from chne), if_pos (show kindW false = coldW from rfl), if_pos hh]
      exact fin
theorem good_shape {hot : Bool} {x : S3} (h : GoodS hot x) : Shape (some hot) [x.1, x.2.1, x.2.2] (rowW (kindW hot) x) := by
  refine ⟨fun n hn => ?_, rfl, rfl⟩
  have := h.a0; have := h.a1; have := h.b0; have := h.b1; have := h.c0; have := h.c1
  simp only [List.mem_cons, List.not_mem_nil, or_false] at hn
  rcases hn with rfl | rfl | rfl <;> exact ⟨by omega, by omega⟩
theorem good_word {cs : Cls} {hot : Bool} {x : S3} (h : GoodS hot x) {hs ks : List S3} {next : List S3 → List S3 → Prop} {Z : Value → Prop} (hpl : if hot = true then ks = [] ∧ hs.length < 12 else ks.length < 12)
    (q : if hot = true then next (hs ++ [x]) ks else next hs (ks ++ [x])) : wordsO cs ((Txt.split (rowT (rowW (kindW hot) x)) sp).headD Str.empty) (Txt.split (rowT (rowW (kindW hot) x)) sp).tail hs ks next Z := by
  have sh := good_shape h
  obtain ⟨e1, e2, e3, e4⟩ := shape_words sh
  have sa := sh.1 x.1 (by simp)
  have sb := sh.1 x.2.1 (by simp)
  have sd := sh.1 x.2.2 (by simp)
  rw [e1]
  show wordsO cs (kindW hot) [num x.1, num x.2.1, num x.2.2] hs ks next Z
  unfold wordsO
  rw [if_pos ⟨rfl, e4⟩]
  simp only [List.getD_cons_zero, List.getD_cons_succ, val_num sa.1 sa.2, val_num sb.1 sb.2, val_num sd.1 sd.2]
  have := h.a0; have := h.a1; have := h.b0; have := h.b1; have := h.c0; have := h.c1
  have hw := h.way
  have n1 : ¬ (200 < x.1 ∨ 200 < x.2.1 ∨ x.2.2 < 1 ∨ 1000000000 < x.2.2) := by omega
  cases hot with
  | true =>
    obtain ⟨rfl, hh⟩ := (show ks = [] ∧ hs.length < 12 by simpa using hpl)
    have hw' : x.2.1 < x.1 := by simpa using hw
    rw [if_pos (show kindW true = hotW from rfl), if_neg (by decide), if_pos hh, if_neg n1, if_neg (fun z => z.elim (fun z => by omega) fun z => chne z.1.symm)]
    simpa using q
  | false =>
    have hh : ks.length < 12 := by simpa using hpl
    have hw' : x.1 < x.2.1 := by simpa using hw
    rw [if_neg (show ¬ kindW false = hotW from chne), if_pos (show kindW false = coldW from rfl), if_pos hh, if_neg n1, if_neg (fun z => z.elim (fun z => chne z.1) fun z => by omega)]
    simpa using q
theorem rows_hot {cs : Cls} {Z : Value → Prop} {fin : List S3 → List S3 → Prop} {tl : List Str} : ∀ {xs hs : List S3}, (∀ x ∈ xs, GoodS true x) → hs.length + xs.length ≤ 12 → rowsO cs Z fin tl (hs ++ xs) [] → rowsO cs Z fin (xs.map (fun x => rowT (rowW hotW x)) ++ tl) hs []
  | [], hs, _, _, q => by rw [List.append_nil] at q; exact q
  | x :: xs, hs, hg, hl, q => by
    rw [List.length_cons] at hl
    rw [List.map_cons, List.cons_append]
    refine good_word (hot := true) (hg x (by simp)) (by rw [if_pos rfl]; exact ⟨rfl, by omega⟩) ?_
    rw [if_pos rfl]
    refine rows_hot (fun y hy => hg y (List.mem_cons_of_mem _ hy)) (by rw [List.length_append, List.length_singleton]; omega) ?_
    rw [List.append_assoc]
    exact q
theorem rows_cold {cs : Cls} {Z : Value → Prop} {fin : List S3 → List S3 → Prop} {tl : List Str} {hs : List S3} : ∀ {xs ks : List S3}, (∀ x ∈ xs, GoodS false x) → ks.length + xs.length ≤ 12 → rowsO cs Z fin tl hs (ks ++ xs) → rowsO cs Z fin (xs.map (fun x => rowT (rowW coldW x)) ++ tl) hs ks
  | [], ks, _, _, q => by rw [List.append_nil] at q; exact q
  | x :: xs, ks, hg, hl, q => by
    rw [List.length_cons] at hl
    rw [List.map_cons, List.cons_append]
    refine good_word (hot := false) (hg x (by simp)) (by rw [if_neg (by decide)]; omega) ?_
    rw [if_neg (by decide)]
    refine rows_cold (fun y hy => hg y (List.mem_cons_of_mem _ hy)) (by rw [List.length_append, List.length_singleton]; omega) ?_
    rw [List.append_assoc]
    exact q
theorem good_gap {cs : Cls} {g : Int} (g0 : 0 ≤ g) (g1 : g ≤ 50) {Q : Int → Prop} {Z : Value → Prop} (q : Q g) : gapO cs ((Txt.split (rowT [gapW, num g]) sp).headD Str.empty) (Txt.split (rowT [gapW, num g]) sp).tail Q Z := by
  have sh : Shape none [g] [gapW, num g] := ⟨fun n hn => by rw [List.mem_singleton] at hn; subst hn; exact ⟨g0, by omega⟩, rfl, rfl⟩
  obtain ⟨e1, e2, e3, e4⟩ := shape_words sh
  rw [e1]
  show gapO cs gapW [num g] Q Z
  unfold gapO
  rw [if_pos ⟨rfl, e4⟩, if_pos rfl]
  show if 50 < (valC (codes (num g)) : Int) then _ else Q (valC (codes (num g)) : Int)
  rw [val_num g0 (by omega), if_neg (by omega)]
  exact q
structure WksG (g : Int) (hs ks : List S3) : Prop where
  g0 : 0 ≤ g
  g1 : g ≤ 50
  nh : hs.length ≤ 12
  nk : ks.length ≤ 12
  oh : ∀ x ∈ hs, GoodS true x
  ok : ∀ x ∈ ks, GoodS false x
def kdAt (hs : List S3) (i : Nat) : Option Bool := if i = 0 then none else if i ≤ hs.length then some true else some false
theorem rowC_join : ∀ {ws : List Str}, (∀ w ∈ ws, RowC w) → RowC (rowT ws)
  | [], _ => by intro c hc; exact nomatch (show c ∈ ([] : List Nat) from hc)
  | [w], h => h w (by simp)
  | w :: v :: r, h => by
    show RowC (w ++ sp ++ Str.join sp (v :: r))
    exact WOk.app (WOk.app (h w (by simp)) sp_c) (rowC_join fun x hx => h x (List.mem_cons_of_mem _ hx))
theorem rowT_len : ∀ {ws : List Str} {n : Nat}, (∀ w ∈ ws, w.length ≤ n) → (rowT ws).length ≤ ws.length * (n + 1)
  | [], _, _ => Nat.zero_le _
  | [w], n, h => by have := h w (by simp); show w.length ≤ _; rw [List.length_singleton]; omega
  | w :: v :: r, n, h => by
    have h1 := h w (by simp)
    have h2 := rowT_len (ws := v :: r) (n := n) fun x hx => h x (List.mem_cons_of_mem _ hx)
    have e2 : sp.length = 1 := by decide +kernel
    show (w ++ sp ++ rowT (v :: r)).length ≤ _
    rw [len_app, len_app, List.length_cons, Nat.add_mul]
    omega
theorem rowG_of {ws : List Str} (hl : ws.length ≤ 8) (h : ∀ w ∈ ws, w.length ≤ 11 ∧ RowC w) : RowG (rowT ws) := by
  refine ⟨?_, rowC_join fun w hw => (h w hw).2⟩
  have := rowT_len (n := 11) fun w hw => (h w hw).1
  have : ws.length * (11 + 1) ≤ 8 * 12 := Nat.mul_le_mul_right 12 hl
  omega
theorem kindLen (hot : Bool) : (kindW hot).length ≤ 11 ∧ RowC (kindW hot) := by cases hot <;> exact ⟨by decide +kernel, by decide +kernel⟩
theorem gapLen : gapW.length ≤ 11 ∧ RowC gapW := ⟨by decide +kernel, by decide +kernel⟩
theorem numLen {n : Int} (h : Sm n) : (num n).length ≤ 11 ∧ RowC (num n) := ⟨by have := num_len h.1 h.2; omega, ok_num h.1⟩
theorem shape_G {kd : Option Bool} {ns : List Int} {ws : List Str} (h : Shape kd ns ws) : ws.length ≤ 4 ∧ ∀ w ∈ ws, w.length ≤ 11 ∧ RowC w := by
  obtain ⟨hn, h⟩ := h
  cases kd with
  | none =>
    obtain ⟨hl, rfl⟩ := h
    refine ⟨by rw [List.length_cons, List.length_map]; omega, fun w hw => ?_⟩
    rcases List.mem_cons.mp hw with rfl | hw
    · exact gapLen
    · obtain ⟨n, hm, rfl⟩ := List.mem_map.mp hw
      exact numLen (hn n hm)
  | some hot =>
    obtain ⟨hl, rfl⟩ := h
    refine ⟨by rw [List.length_cons, List.length_map]; omega, fun w hw => ?_⟩
    rcases List.mem_cons.mp hw with rfl | hw
    · exact kindLen hot
    · obtain ⟨n, hm, rfl⟩ := List.mem_map.mp hw
      exact numLen (hn n hm)
theorem gap_shape {g : Int} (g0 : 0 ≤ g) (g1 : g ≤ 50) : Shape none [g] [gapW, num g] := ⟨fun n hn => by rw [List.mem_singleton] at hn; subst hn; exact ⟨g0, by omega⟩, rfl, rfl⟩
theorem rows_G {g : Int} {hs ks : List S3} (W : WksG g hs ks) : ∀ ws ∈ rowsW g hs ks, RowG (rowT ws) := fun ws hw => by
  have fin : ∀ kd ns, Shape kd ns ws → RowG (rowT ws) := fun kd ns h => rowG_of (by have := (shape_G h).1; omega) (shape_G h).2
  unfold rowsW at hw
  rcases List.mem_cons.mp hw with rfl | hw
  · exact fin _ _ (gap_shape W.g0 W.g1)
  · rcases List.mem_append.mp hw with hw | hw
    · obtain ⟨x, hx, rfl⟩ := List.mem_map.mp hw
      exact fin _ _ (good_shape (W.oh x hx))
    · obtain ⟨x, hx, rfl⟩ := List.mem_map.mp hw
      exact fin _ _ (good_shape (W.ok x hx))
theorem rows_len (g : Int) (hs ks : List S3) : (rowsW g hs ks).length = 1 + hs.length + ks.length := by unfold rowsW; rw [List.length_cons, List.length_append, List.length_map, List.length_map]; omega
theorem bad_at {cs : Cls} {g : Int} {hs ks : List S3} (W : WksG g hs ks) {i : Nat} (hi : i < 1 + hs.length + ks.length) {ws : List Str} {c : Nat} (hb : Bad cs (kdAt hs i) ws c) {tl : List Str} (hG : ∀ r ∈ rowT ws :: tl, RowG r) (hl : tl.length ≤ 800) {Q : B → Prop} {Z : Value → Prop} (z : Z (clsOf cs c)) :
    rx_read cs [.str (Str.join lf (((rowsW g hs ks).take i).map rowT ++ rowT ws :: tl))] Q Z := by
  have nh := W.nh
  have nk := W.nk
  cases i with
  | zero =>
    rw [List.take_zero, List.map_nil, List.nil_append]
    refine read_rows hG (by omega) ?_
    exact hb _ Z z
  | succ j =>
    have e1 : (rowsW g hs ks).take (j + 1) = [gapW, num g] :: (hs.map (rowW hotW) ++ ks.map (rowW coldW)).take j := rfl
    have hP : ∀ r ∈ ((rowsW g hs ks).take (j + 1)).map rowT, RowG r := fun r hr => by
      obtain ⟨w, hw, rfl⟩ := List.mem_map.mp hr
      exact rows_G W w (List.mem_of_mem_take hw)
    have lP : (((rowsW g hs ks).take (j + 1)).map rowT).length ≤ 25 := by
      rw [List.length_map, List.length_take, rows_len]
      omega
    rw [e1, List.map_cons] at hP lP ⊢
    rw [List.length_cons] at lP
    rw [List.cons_append]
    refine read_rows (fun r hr => ?_) ?_ (good_gap W.g0 W.g1 ?_)
    · rw [← List.cons_append] at hr
      exact (List.mem_append.mp hr).elim (hP r) (hG r)
    · rw [List.length_append, List.length_cons]
      omega
    by_cases hj : j < hs.length
    · have e2 : (hs.map (rowW hotW) ++ ks.map (rowW coldW)).take j = (hs.take j).map (rowW hotW) := by
        rw [List.take_append_of_le_length (by rw [List.length_map]; omega), List.map_take]
      rw [e2, List.map_map]
      have lt : (hs.take j).length = j := by rw [List.length_take]; omega
      refine rows_hot (xs := hs.take j) (hs := []) (fun x hx => W.oh x (List.mem_of_mem_take hx)) (by rw [List.length_nil]; omega) ?_
      rw [List.nil_append]
      have hb' : Bad cs (some true) ws c := by
        unfold kdAt at hb
        rw [if_neg (by omega), if_pos (by omega)] at hb
        exact hb
      exact hb' _ _ _ Z (by rw [if_pos rfl]; exact ⟨rfl, by omega⟩) z
    · have e2 : (hs.map (rowW hotW) ++ ks.map (rowW coldW)).take j = hs.map (rowW hotW) ++ (ks.take (j - hs.length)).map (rowW coldW) := by
        rw [List.take_append, List.take_of_length_le (by rw [List.length_map]; omega), List.map_take, List.length_map]
      rw [e2, List.map_append, List.map_map, List.map_map, List.append_assoc]
      have lt : (ks.take (j - hs.length)).length = j - hs.length := by rw [List.length_take]; omega
      refine rows_hot (xs := hs) (hs := []) W.oh (by rw [List.length_nil]; omega) ?_
      rw [List.nil_append]
      refine rows_cold (xs := ks.take (j - hs.length)) (ks := []) (fun x hx => W.ok x (List.mem_of_mem_take hx)) (by rw [List.length_nil]; omega) ?_
      rw [List.nil_append]
      have hb' : Bad cs (some false) ws c := by
        unfold kdAt at hb
        rw [if_neg (by omega), if_neg (by omega)] at hb
        exact hb
      exact hb' _ _ _ Z (by rw [if_neg (by decide)]; omega) z
theorem out_at {cs : Cls} {g : Int} {hs ks : List S3} (W : WksG g hs ks) {hot : Bool} {ns : List Int} {ws : List Str} (hS : Shape (some hot) ns ws) (hp : if hot = true then 0 < ks.length ∨ hs.length = 12 else ks.length = 12) {tl : List Str} (hG : ∀ r ∈ tl, RowG r) (hl : tl.length ≤ 800) {Q : B → Prop} {Z : Value → Prop} (z : Z (clsOf cs 0)) :
    rx_read cs [.str (Str.join lf ((rowsW g hs ks).map rowT ++ rowT ws :: tl))] Q Z := by
  have nh := W.nh
  have nk := W.nk
  have hP : ∀ r ∈ (rowsW g hs ks).map rowT, RowG r := fun r hr => by
    obtain ⟨w, hw, rfl⟩ := List.mem_map.mp hr
    exact rows_G W w hw
  have lP : ((rowsW g hs ks).map rowT).length ≤ 25 := by rw [List.length_map, rows_len]; omega
  have gW : RowG (rowT ws) := rowG_of (by have := (shape_G hS).1; omega) (shape_G hS).2
  unfold rowsW at hP lP ⊢
  rw [List.map_cons] at hP lP ⊢
  rw [List.length_cons] at lP
  rw [List.cons_append]
  refine read_rows (fun r hr => ?_) ?_ (good_gap W.g0 W.g1 ?_)
  · rw [← List.cons_append] at hr
    rcases List.mem_append.mp hr with h | h
    · exact hP r h
    · rcases List.mem_cons.mp h with rfl | h
      · exact gW
      · exact hG r h
  · rw [List.length_append, List.length_cons]
    omega
  rw [List.map_append, List.map_map, List.map_map, List.append_assoc]
  refine rows_hot (xs := hs) (hs := []) W.oh (by rw [List.length_nil]; omega) ?_
  rw [List.nil_append]
  refine rows_cold (xs := ks) (ks := []) W.ok (by rw [List.length_nil]; omega) ?_
  rw [List.nil_append]
  obtain ⟨e1, e2, e3, e4⟩ := shape_words hS
  obtain ⟨hn, hl3, rfl⟩ := hS
  show wordsO cs _ _ hs ks _ Z
  rw [e1]
  show wordsO cs (kindW hot) (ns.map num) hs ks _ Z
  unfold wordsO
  rw [if_pos ⟨by rw [List.length_map]; omega, e4⟩]
  cases hot with
  | true =>
    rw [if_pos rfl] at hp
    rw [if_pos (show kindW true = hotW from rfl)]
    rcases hp with hp | hp
    · rw [if_pos hp]; exact z
    · by_cases h0 : 0 < ks.length
      · rw [if_pos h0]; exact z
      · rw [if_neg h0, if_neg (by omega)]; exact z
  | false =>
    have hp' : ks.length = 12 := by simpa using hp
    rw [if_neg (show ¬ kindW false = hotW from chne), if_pos (show kindW false = coldW from rfl), if_neg (by omega)]
    exact z
theorem pick_some {l : List D} {v : Int} {P : D → Prop} (h0 : 0 ≤ v) (h1 : v < l.length) (h : ∀ d ∈ l, P d) : ∃ d, atI l v = some d ∧ P d := by
  obtain ⟨n, rfl⟩ := Int.eq_ofNat_of_zero_le h0
  have hn : n < l.length := by omega
  exact ⟨l[n], atI_nat (List.getElem?_eq_getElem hn), h _ (List.getElem_mem hn)⟩
def r_law_cell_at : DR := fun ds Q => ∃ (ns : List Int) (k : Int), ds = [.scr ns, .int k] ∧ 0 ≤ k ∧ ∀ n : Int, Q (.p (.int n))
theorem ok_law_cell_at (T : Blt mg) (F : Fun K "_law_cell_at" "_law_cell_at" s_law_cell_at f fd) : FnOk P w K mg base CX0 1 f fd ["script", "k"] (spD K r_law_cell_at) := by
  refine okD F sc_law_cell_at (fun ds Q h => by obtain ⟨ns, k, rfl, k0, q⟩ := h; rfl) fun cdv A outer s H E hr => ⟨_, (dss_cons (ds_if (dt_cmp od_lt (dv 1) (de_callB cd_len (by rfl) T.b_len PySem.boot_len (da_cons (dv 0) da_nil)) (nomark _)) (dss_one (ds_ret (de_ix (dv 0) (dv 1)))) dss_nil)
      (dss_one (ds_ret de_int))), fun ds Q h => ?_⟩
  obtain ⟨ns, k, rfl, k0, q⟩ := h
  repeat (first | walk_at "rs1" | set_option simprocs false in simp only [ixk0, ixk1, ixk2, ixk3, ixk4, ex_at])
  refine ⟨fun z => ?_, fun _ => q 0⟩
  have hk := of_decide_eq_true z
  obtain ⟨j, rfl⟩ := Int.eq_ofNat_of_zero_le k0
  have hj : j < ns.length := by omega
  exact ⟨ns[j], atI_nat (List.getElem?_eq_getElem hj), q _⟩
def wordsD (ws : List Str) : D := .lst (ws.map D.str)
def rowsD (rows : List (List Str)) : D := .lst (rows.map wordsD)
def r_law_stream : DR := fun ds Q => ∃ c b : Int, ds = [.int c, .int b] ∧ 0 ≤ b ∧ b < 200 ∧ ∀ hot x, GoodS hot x → Q (.o (wordsD (rowW (kindW hot) x)))
theorem ok_law_stream (T : Blt mg) (F_law_stir : Fn P w K mg base "_law_stir" 1 ["cell", "k"] (spD K r_law_stir)) (F : Fun K "_law_stream" "_law_stream" s_law_stream f fd) : FnOk P w K mg base CX0 2 f fd ["cell", "base"] (spD K r_law_stream) := by
  refine okD F sc_law_stream (fun ds Q h => by obtain ⟨c, b, rfl, b0, b1, q⟩ := h; rfl) fun cdv A outer s H E hr => ⟨_, (dss_cons (ds_setP (i := 2) sc_law_stream.nd rfl (Or.inl rfl) (de_callB (cd_min2 rfl) (by rfl) T.b_min PyProof.Rows.boot_min (da_cons (de_op od_plus (dv 1) (de_op od_mod (de_fn F_law_stir (hr.mono (by decide)) (by rfl) (da_cons (dv 0) (da_cons de_int da_nil))) de_int)) (da_cons de_int da_nil))))
      (dss_cons (ds_setP (i := 3) sc_law_stream.nd rfl (Or.inl rfl) (de_callB (cd_min2 rfl) (by rfl) T.b_min PyProof.Rows.boot_min (da_cons (de_op od_plus (de_op od_plus (dv 2) de_int) (de_op od_mod (de_fn F_law_stir (hr.mono (by decide)) (by rfl) (da_cons (dv 0) (da_cons de_int da_nil))) de_int)) (da_cons de_int da_nil))))
      (dss_cons (ds_setP (i := 4) sc_law_stream.nd rfl (Or.inl rfl) (de_op od_plus (de_op od_times (de_fn F_law_stir (hr.mono (by decide)) (by rfl) (da_cons (dv 0) (da_cons de_int da_nil))) de_int) (de_op od_mod (de_fn F_law_stir (hr.mono (by decide)) (by rfl) (da_cons (dv 0) (da_cons de_int da_nil))) de_int)))
      (dss_cons (ds_setP (i := 5) sc_law_stream.nd rfl (Or.inl rfl) (de_ix (de_lst (da_cons (de_op od_plus de_int (de_op od_mod (dv 4) de_int)) (da_cons (de_op od_plus de_int (de_op od_mod (dv 4) (de_op od_pow de_int de_int))) da_nil))) (de_op od_mod (de_fn F_law_stir (hr.mono (by decide)) (by rfl) (da_cons (dv 0) (da_cons de_int da_nil))) de_int)))
      (dss_cons (ds_if (dt_cmp od_eq (de_op od_mod (de_fn F_law_stir (hr.mono (by decide)) (by rfl) (da_cons (dv 0) (da_cons de_int da_nil))) de_int) de_int (nomark _)) (dss_one (ds_ret (de_lst (da_cons de_str (da_cons (de_callTy cd_str (by rfl) T.b_str PyProof.Rows.boot_str (da_cons (dv 3) da_nil)) (da_cons (de_callTy cd_str (by rfl) T.b_str PyProof.Rows.boot_str (da_cons (dv 2) da_nil)) (da_cons (de_callTy cd_str (by rfl) T.b_str PyProof.Rows.boot_str (da_cons (dv 5) da_nil)) da_nil))))))) dss_nil)
      (dss_one (ds_ret (de_lst (da_cons de_str (da_cons (de_callTy cd_str (by rfl) T.b_str PyProof.Rows.boot_str (da_cons (dv 2) da_nil)) (da_cons (de_callTy cd_str (by rfl) T.b_str PyProof.Rows.boot_str (da_cons (dv 3) da_nil)) (da_cons (de_callTy cd_str (by rfl) T.b_str PyProof.Rows.boot_str (da_cons (dv 5) da_nil)) da_nil)))))))))))), fun ds Q h => ?_⟩
  obtain ⟨c, b, rfl, b0, b1, q⟩ := h
  repeat (first | dsimp only [r_law_stir] | walk_at "rs1" | set_option simprocs false in simp only [ixk0, ixk1, ixk2, ixk3, ixk4, ex_at])
  have e9 : (10 : Int) ^ Int.toNat 9 = 1000000000 := by decide
  have cp9 : CPow 10 9 := ⟨by decide, by decide, by decide⟩
  obtain ⟨lo, hlo, l0, l1⟩ : ∃ lo : Int, (if 199 < b + stirX c 2 % 12 then 199 else b + stirX c 2 % 12) = lo ∧ 0 ≤ lo ∧ lo ≤ 199 := ⟨_, rfl, by split <;> omega, by split <;> omega⟩
  obtain ⟨hi, hhi, h0, h1⟩ : ∃ hi : Int, (if 200 < lo + 1 + stirX c 3 % 12 then 200 else lo + 1 + stirX c 3 % 12) = hi ∧ lo < hi ∧ hi ≤ 200 := ⟨_, rfl, by split <;> omega, by split <;> omega⟩
  simp only [hlo, hhi, e9]
  refine ⟨by decide, by decide, mulR (by decide), by decide, by decide, cp9, by decide, by decide, pick_some (by omega) (show stirX c 8 % 2 < 2 by omega) fun d hd => ?_⟩
  obtain ⟨r, rfl, r0, r1⟩ : ∃ r : Int, d = .int r ∧ 1 ≤ r ∧ r ≤ 1000000000 := by
    simp only [List.mem_cons, List.not_mem_nil, or_false] at hd
    rcases hd with rfl | rfl
    · exact ⟨_, rfl, by omega, by omega⟩
    · exact ⟨_, rfl, by omega, by omega⟩
  have n1 := num_log (n := lo) l0 (by omega)
  have n2 := num_log (n := hi) (by omega) (by omega)
  have n3 := num_log (n := r) (by omega) (by omega)
  exact ⟨by decide, fun _ => ⟨n2, n1, n3, q true (hi, lo, r) ⟨by dsimp only; omega, h1, l0, by dsimp only; omega, r0, r1, h0⟩⟩, fun _ => ⟨n1, n2, n3, q false (lo, hi, r) ⟨l0, by dsimp only; omega, by dsimp only; omega, h1, r0, r1, h0⟩⟩⟩
def r_law_rows : DR := fun ds Q => ∃ ns : List Int, ds = [.scr ns] ∧ ns.length ≤ 63 ∧ ∀ g hs ks, WksG g hs ks → Q (.o (rowsD (rowsW g hs ks)))
theorem ok_law_rows (T : Blt mg) (F_law_cell_at : Fn P w K mg base "_law_cell_at" 1 ["script", "k"] (spD K r_law_cell_at)) (F_law_stream : Fn P w K mg base "_law_stream" 2 ["cell", "base"] (spD K r_law_stream)) (F_law_stir : Fn P w K mg base "_law_stir" 1 ["cell", "k"] (spD K r_law_stir)) (F : Fun K "_law_rows" "_law_rows" s_law_rows f fd) : FnOk P w K mg base CX0 3 f fd ["script"] (spD K r_law_rows) := by
  refine okD F sc_law_rows (fun ds Q h => by obtain ⟨ns, rfl, hl, q⟩ := h; rfl) fun cdv A outer s H E hr => ⟨_, (dss_cons (ds_setP (i := 1) sc_law_rows.nd rfl (Or.inl rfl) (de_fn F_law_cell_at (hr.mono (by decide)) (by rfl) (da_cons (dv 0) (da_cons de_int da_nil))))
      (dss_cons (ds_set (i := 2) sc_law_rows.nd rfl (Or.inl rfl) (de_lst da_nil))
      (dss_cons (ds_set (i := 3) sc_law_rows.nd rfl (Or.inl rfl) (de_lst da_nil))
      (dss_cons (ds_for (g := (.n 4)) PassesOwn.never rfl (di_list (de_slice (dv 0) (do_some de_int) do_none)) (pg_name (i := 4) sc_law_rows.nd rfl (Or.inl rfl)) (dss_cons (ds_setP (i := 5) sc_law_rows.nd rfl (Or.inl rfl) (de_fn F_law_stream (hr.mono (by decide)) (by rfl) (da_cons (dv 4) (da_cons (de_op od_mod (de_fn F_law_stir (hr.mono (by decide)) (by rfl) (da_cons (dv 1) (da_cons de_int da_nil))) de_int) da_nil))))
      (dss_alias (pss_cons (ps_set (i := 6) sc_law_rows.nd rfl (Or.inl rfl) (pe_ix ix_list (pe_lst (pa_cons (pv 3) (pa_cons (pv 2) pa_nil))) (pe_callTy (call_int1) (by rfl) T.b_int PyProof.Rows.boot_int (pa_cons ((de_cmp od_eq (de_ix (dv 5) de_int) de_str (nomark _))).pe pa_nil)) (fun _ _ => rfl))) (pss_one (ps_if (pt_cmpR op_lt (pe_callB (call_lenK) (by rfl) T.b_len PySem.boot_len (pa_cons (pv 6) pa_nil)) pe_int (nomark _)) (pss_one (ps_expr (pe_bm PySem.F.plainAttrs_list PySem.F.slot_list_append PySem.F.type_list_append mt_append (pv 6) (pa_cons (pv 5) pa_nil)))) pss_nil))))))
      (dss_one (ds_ret (de_op od_plus (de_op od_plus (de_lst (da_cons (de_lst (da_cons de_str (da_cons (de_callTy cd_str (by rfl) T.b_str PyProof.Rows.boot_str (da_cons (de_op od_mod (de_fn F_law_stir (hr.mono (by decide)) (by rfl) (da_cons (dv 1) (da_cons de_int da_nil))) de_int) da_nil)) da_nil))) da_nil)) (dv 2)) (dv 3)))))))), fun ds Q h => ?_⟩
  obtain ⟨ns, rfl, hl, q⟩ := h
  repeat (first | dsimp only [r_law_cell_at] | walk_at "rs1" | set_option simprocs false in simp only [ixk0, ixk1, ixk2, ixk3, ixk4, ex_at])
  refine ⟨ns, 3, rfl, by decide, fun first => ?_⟩
  have sz : sizeLine = 16777216 := sizeLine_eq
  refine for_nat (fun i ρ => ∃ a b hs ks, ρ = [some (B.p (D.scr ns)), some (B.p (D.int first)), some (B.o (D.lst (hs.map fun x => wordsD (rowW hotW x)))), some (B.o (D.lst (ks.map fun x => wordsD (rowW coldW x)))), a, b, none] ∧ hs.length ≤ 12 ∧ ks.length ≤ 12 ∧ (∀ x ∈ hs, GoodS true x) ∧ (∀ x ∈ ks, GoodS false x))
    ⟨none, none, [], [], rfl, by decide, by decide, fun x hx => (by cases hx), fun x hx => (by cases hx)⟩ ?_ ?_
  · rintro i d ρ hx ⟨a, b, hs, ks, rfl, nh, nk, oh, ok⟩
    rw [List.getElem?_map] at hx
    obtain ⟨c, hc, rfl⟩ := Option.map_eq_some_iff.mp hx
    repeat (first | dsimp only [r_law_stream, r_law_stir] | walk_at "rs1" | set_option simprocs false in simp only [ixk0, ixk1, ixk2, ixk3, ixk4, ex_at])
    refine ⟨by decide, c, _, rfl, by omega, by omega, fun hot x gx => ?_⟩
    repeat (first | walk_at "rs1" | set_option simprocs false in simp only [ixk0, ixk1, ixk2, ixk3, ixk4, ex_at])
    refine ⟨trivial, by decide, _, _, _, rfl, rfl, rfl, by rw [List.length_map]; omega, by rw [List.length_map]; omega, D.str (kindW hot), atI_nat (j := 0) rfl, ?_⟩
    rw [List.length_map, List.length_map]
    cases hot with
    | true =>
      repeat (first | walk_at "rs1" | set_option simprocs false in simp only [ixk0, ixk1, ixk2, ixk3, ixk4, ex_at])
      rw [show decide (kindW true = Str.ofString "hot") = true from decide_eq_true rfl]
      refine ⟨fun h => ⟨_, _, hs ++ [x], ks, by rw [List.map_append]; rfl, by rw [List.length_append, List.length_singleton]; omega, nk, fun y hy => ?_, ok⟩, fun _ => ⟨_, _, hs, ks, rfl, nh, nk, oh, ok⟩⟩
      rcases List.mem_append.mp hy with h | h
      · exact oh y h
      · rw [List.mem_singleton] at h
        rw [h]
        exact gx
    | false =>
      repeat (first | walk_at "rs1" | set_option simprocs false in simp only [ixk0, ixk1, ixk2, ixk3, ixk4, ex_at])
      rw [show decide (kindW false = Str.ofString "hot") = false from decide_eq_false chne]
      refine ⟨fun h => ⟨_, _, hs, ks ++ [x], by rw [List.map_append]; rfl, nh, by rw [List.length_append, List.length_singleton]; omega, oh, fun y hy => ?_⟩, fun _ => ⟨_, _, hs, ks, rfl, nh, nk, oh, ok⟩⟩
      rcases List.mem_append.mp hy with h | h
      · exact ok y h
      · rw [List.mem_singleton] at h
        rw [h]
        exact gx
  · rintro ρ ⟨a, b, hs, ks, rfl, nh, nk, oh, ok⟩
    repeat (first | dsimp only [r_law_stir] | walk_at "rs1" | set_option simprocs false in simp only [ixk0, ixk1, ixk2, ixk3, ixk4, ex_at])
    have g0 : 0 ≤ stirX first 0 % 51 := by omega
    have g1 : stirX first 0 % 51 ≤ 50 := by omega
    refine ⟨by decide, num_log g0 (by omega), ?_, ?_, ?_⟩
    · rw [List.length_map]
      omega
    · rw [List.length_append, List.length_map, List.length_map]
      show 1 + _ + _ ≤ _
      omega
    · have h := q _ hs ks ⟨g0, g1, nh, nk, oh, ok⟩
      have e : rowsD (rowsW (stirX first 0 % 51) hs ks) = .lst ([D.lst [D.str (Str.ofString "gap"), D.str (Str.ofString (toString (stirX first 0 % 51)))]] ++ hs.map (fun x => wordsD (rowW hotW x)) ++ ks.map fun x => wordsD (rowW coldW x)) := by
        unfold rowsD rowsW
        rw [List.map_cons, List.map_append, List.map_map, List.map_map]
        rfl
      rw [e] at h
      exact h
theorem nums_le (kd : Option Bool) : 1 ≤ numsOf kd ∧ numsOf kd ≤ 3 := by
  cases kd with
  | none => exact ⟨Nat.le_of_ble_eq_true rfl, Nat.le_of_ble_eq_true rfl⟩
  | some b => exact ⟨Nat.le_of_ble_eq_true rfl, Nat.le_of_ble_eq_true rfl⟩
def RowW (ws : List Str) : Prop := ws.length ≤ 8 ∧ (∀ w ∈ ws, w.length ≤ 20 ∧ RowC w) ∧ (rowT ws).length ≤ 99
theorem RowW.row {ws : List Str} (h : RowW ws) : RowG (rowT ws) := ⟨h.2.2, rowC_join fun w hw => (h.2.1 w hw).2⟩
theorem roww_of {ws : List Str} (hl : ws.length ≤ 8) (h : ∀ w ∈ ws, w.length ≤ 11 ∧ RowC w) : RowW ws := ⟨hl, fun w hw => ⟨by have := (h w hw).1; omega, (h w hw).2⟩, (rowG_of hl h).1⟩
theorem roww4 {ws : List Str} (hl : ws.length ≤ 4) (h : ∀ w ∈ ws, w.length ≤ 20 ∧ RowC w) : RowW ws := by
  refine ⟨by omega, h, ?_⟩
  have := rowT_len (n := 20) fun w hw => (h w hw).1
  have : ws.length * (20 + 1) ≤ 4 * 21 := Nat.mul_le_mul_right 21 hl
  omega
theorem shape_W {kd : Option Bool} {ns : List Int} {ws : List Str} (h : Shape kd ns ws) : RowW ws := roww_of (by have := (shape_G h).1; omega) (shape_G h).2
def Spo (kd : Option Bool) (ws : List Str) (due : Nat) : Prop := (due = 0 ∧ (∀ cs, Bad cs kd ws 0) ∧ RowW ws) ∨ ((due = 1 ∨ due = 2) ∧ ∃ ns, Shape kd ns ws ∧ measO kd ns = some due)
theorem Spo.bad {kd : Option Bool} {ws : List Str} {due : Nat} (h : Spo kd ws due) (cs : Cls) : Bad cs kd ws due := by
  rcases h with ⟨rfl, h, _⟩ | ⟨_, ns, h1, h2⟩
  · exact h cs
  · exact bad_meas h1 h2
theorem Spo.row {kd : Option Bool} {ws : List Str} {due : Nat} (h : Spo kd ws due) : RowW ws := by
  rcases h with ⟨_, _, h⟩ | ⟨_, ns, h1, h2⟩
  · exact h
  · exact shape_W h1
theorem Spo.le {kd : Option Bool} {ws : List Str} {due : Nat} (h : Spo kd ws due) : due < 3 := by rcases h with ⟨rfl, _⟩ | ⟨h, _⟩ <;> omega
theorem shape_free {kd : Option Bool} {ns : List Int} {ws : List Str} (h : Shape kd ns ws) : ∀ w ∈ ws, 32 ∉ codes w := by
  obtain ⟨hn, h⟩ := h
  intro w hw
  cases kd with
  | none =>
    obtain ⟨hl, rfl⟩ := h
    rcases List.mem_cons.mp hw with rfl | hw
    · exact free_gap
    · obtain ⟨n, hm, rfl⟩ := List.mem_map.mp hw
      exact free_num (hn n hm).1
  | some hot =>
    obtain ⟨hl, rfl⟩ := h
    rcases List.mem_cons.mp hw with rfl | hw
    · exact free_kind
    · obtain ⟨n, hm, rfl⟩ := List.mem_map.mp hw
      exact free_num (hn n hm).1
theorem shape_len {kd : Option Bool} {ns : List Int} {ws : List Str} (h : Shape kd ns ws) : ws.length = numsOf kd + 1 := by
  obtain ⟨hn, h⟩ := h
  cases kd with
  | none => obtain ⟨hl, rfl⟩ := h; rw [List.length_cons, List.length_map, hl]; rfl
  | some hot => obtain ⟨hl, rfl⟩ := h; rw [List.length_cons, List.length_map, hl]; rfl
theorem nf_drop {kd : Option Bool} {ns : List Int} {ws : List Str} (h : Shape kd ns ws) : Spo kd ws.dropLast 0 := by
  have hl := shape_len h
  have hn := (nums_le kd).1
  have ld : ws.dropLast.length = numsOf kd := by rw [List.length_dropLast, hl]; omega
  refine .inl ⟨rfl, fun cs => bad_form (fw := ws.dropLast) (words_back (fun z => by rw [z] at ld; simp at ld; omega) fun w hw => shape_free h w ((List.dropLast_sublist _).subset hw)) (.inl fun z => ?_), ?_⟩
  · have := z.1
    rw [List.length_tail] at this
    omega
  · have hW := shape_W h
    exact roww_of (by have := hW.1; omega) fun w hw => (shape_G h).2 w ((List.dropLast_sublist _).subset hw)
theorem mem_set {ws : List Str} {i : Nat} {x w : Str} (h : w ∈ ws.set i x) : w = x ∨ w ∈ ws := (List.mem_or_eq_of_mem_set h).symm
theorem tail_num {kd : Option Bool} {ns : List Int} {ws : List Str} (h : Shape kd ns ws) {i : Nat} {w : Str} (hi : 1 ≤ i) (e : ws[i]? = some w) : ∃ n, Sm n ∧ w = num n := by
  have h2 := (shape_words h).2.1
  have e' : ws.tail[i - 1]? = some w := by
    rw [List.getElem?_tail, show i - 1 + 1 = i by omega]
    exact e
  rw [h2] at e'
  obtain ⟨n, hn, rfl⟩ := List.mem_map.mp (List.mem_of_getElem? e')
  exact ⟨n, h.1 n hn, rfl⟩
theorem head_set {ws : List Str} {i : Nat} {x : Str} (hi : 1 ≤ i) : (ws.set i x).tail = ws.tail.set (i - 1) x := by
  cases ws with
  | nil => rfl
  | cons a r =>
    obtain ⟨j, rfl⟩ : ∃ j, i = j + 1 := ⟨i - 1, by omega⟩
    rfl
theorem nf_set {kd : Option Bool} {ns : List Int} {ws : List Str} (h : Shape kd ns ws) {i : Nat} {x : Str} (hi : 1 ≤ i) (hl : i < ws.length) (f : 32 ∉ codes x) (hx : isNum x = false) (h1 : x.length ≤ 20) (h2 : RowC x) : Spo kd (ws.set i x) 0 := by
  have hw := shape_len h
  have ln := (nums_le kd).2
  refine .inl ⟨rfl, fun cs => bad_form (fw := ws.set i x) (words_back (fun z => ?_) fun w hm => ?_) (.inl fun z => ?_), roww4 (by rw [List.length_set]; omega) fun w hm => ?_⟩
  · have := congrArg List.length z
    rw [List.length_set, List.length_nil] at this
    omega
  · rcases mem_set hm with rfl | hm
    · exact f
    · exact shape_free h w hm
  · have hz := List.all_eq_true.mp z.2 x (by rw [head_set hi]; exact List.mem_set (l := ws.tail) (i := i - 1) (by rw [List.length_tail]; omega) x)
    rw [hx] at hz
    cases hz
  · rcases mem_set hm with rfl | hm
    · exact ⟨h1, h2⟩
    · exact (shape_W h).2.1 w hm
theorem nought_num {n : Int} (h : Sm n) : isNum (Str.ofString "0" ++ num n) = false := by
  have e : codes (Str.ofString "0" ++ num n) = 48 :: codes (num n) := by rw [codes_app]; rfl
  have h1 : 1 ≤ (codes (num n)).length := by
    have := num_ne h.1
    cases hc : codes (num n) with
    | nil => exact absurd hc this
    | cons a r => rw [List.length_cons]; omega
  have h2 : Str.ofString "0" ++ num n ≠ num 0 := fun z => by
    have := congrArg (fun s => (codes s).length) z
    rw [e, List.length_cons, show (codes (num 0)).length = 1 by decide +kernel] at this
    omega
  unfold isNum
  rw [e, List.head?_cons, decide_eq_true rfl, decide_eq_false h2]
  simp
theorem set_is {ws : List Str} {i : Nat} {x : Str} (h : i < ws.length) : ws.set i x = ws.take i ++ x :: ws.drop (i + 1) := by rw [List.set_eq_take_append_cons_drop, if_pos h]
theorem cut_setE {α : Type} {e : α → D} {ws : List α} {i : Nat} {x : α} (h : i < ws.length) : cutL (ws.map e) none (some (i : Int)) ++ [e x] ++ cutL (ws.map e) (some ((i : Int) + 1)) none = (ws.set i x).map e := by
  rw [cut_to, show (i : Int) + 1 = ((i + 1 : Nat) : Int) by omega, cut_from, List.set_eq_take_append_cons_drop, if_pos h, List.map_append, List.map_cons, List.map_take, List.map_drop, List.append_assoc]
  rfl
theorem cut_set {ws : List Str} {i : Nat} {x : Str} (h : i < ws.length) : cutL (ws.map D.str) none (some (i : Int)) ++ [D.str x] ++ cutL (ws.map D.str) (some ((i : Int) + 1)) none = (ws.set i x).map D.str := cut_setE h
theorem cut_len {α : Type} (l : List α) (a b : Option Int) : (cutL l a b).length ≤ l.length := by
  unfold cutL
  rw [List.length_take, List.length_drop]
  omega
theorem cut_last {α : Type} (l : List α) (h : l ≠ []) : cutL l none (some (-1)) = l.dropLast := by
  have h1 : 1 ≤ l.length := by
    cases l with
    | nil => exact absurd rfl h
    | cons a r => rw [List.length_cons]; omega
  have e : (-1 : Int) < 0 := by decide
  unfold cutL
  rw [HT.sIx_none, List.drop_zero, Nat.sub_zero, List.dropLast_eq_take]
  congr 1
  show (if (-1 : Int) < 0 then (-1 + (l.length : Int)).toNat else min (-1 : Int).toNat l.length) = _
  rw [if_pos e]
  omega
theorem shape3 {hot : Bool} {a b c : Int} (ha : Sm a) (hb : Sm b) (hc : Sm c) : Shape (some hot) [a, b, c] [kindW hot, num a, num b, num c] := by
  refine ⟨fun n hn => ?_, rfl, rfl⟩
  simp only [List.mem_cons, List.not_mem_nil, or_false] at hn
  rcases hn with rfl | rfl | rfl <;> assumption
theorem shape1 {a : Int} (ha : Sm a) : Shape none [a] [gapW, num a] := by
  refine ⟨fun n hn => ?_, rfl, rfl⟩
  rw [List.mem_singleton] at hn
  rw [hn]
  exact ha
def r_law_wrong : DR := fun ds Q => ∃ (hot : Bool) (x : S3) (c : Int), ds = [wordsD (rowW (kindW hot) x), .int c] ∧ GoodS hot x ∧ 0 ≤ c ∧ ∀ ns' ws', Shape (some hot) ns' ws' → measO (some hot) ns' = some 2 → Q (.o (wordsD ws'))
theorem GoodS.sm {hot : Bool} {x : S3} (h : GoodS hot x) : Sm x.1 ∧ Sm x.2.1 ∧ Sm x.2.2 := by
  have := h.a0; have := h.a1; have := h.b0; have := h.b1; have := h.c0; have := h.c1
  exact ⟨⟨by omega, by omega⟩, ⟨by omega, by omega⟩, ⟨by omega, by omega⟩⟩
theorem meas2 {hot : Bool} {a b c : Int} (h1 : a ≤ 200) (h2 : b ≤ 200) (h3 : 1 ≤ c) (h4 : c ≤ 1000000000) (h : if hot = true then a ≤ b else b ≤ a) : measO (some hot) [a, b, c] = some 2 := by
  rw [measO_str, if_neg (by omega), if_pos h]
theorem ok_law_wrong (T : Blt mg) (F : Fun K "_law_wrong" "_law_wrong" s_law_wrong f fd) : FnOk P w K mg base CX0 1 f fd ["words", "cell"] (spD K r_law_wrong) := by
  refine okD F sc_law_wrong (fun ds Q h => by obtain ⟨hot, x, c, rfl, gx, c0, q⟩ := h; rfl) fun cdv A outer s H E hr => ⟨_, (dss_cons (ds_if (dt_cmp od_eq (de_op od_mod (dv 1) de_int) de_int (nomark _)) (dss_one (ds_ret (de_lst (da_cons (de_ix (dv 0) de_int) (da_cons (de_ix (dv 0) de_int) (da_cons (de_ix (dv 0) de_int) (da_cons (de_ix (dv 0) de_int) da_nil))))))) dss_nil)
      (dss_one (ds_ret (de_op od_plus (de_op od_plus (de_slice (dv 0) do_none (do_some de_int)) (de_op od_times (de_lst (da_cons (de_ix (dv 0) (de_op od_plus de_int (de_op od_mod (dv 1) de_int))) da_nil)) de_int)) (de_slice (dv 0) (do_some de_int) do_none))))), fun ds Q h => ?_⟩
  obtain ⟨hot, x, c, rfl, gx, c0, q⟩ := h
  repeat (first | dsimp only [wordsD, rowW] | walk_at "rs1" | set_option simprocs false in simp only [ixk0, ixk1, ixk2, ixk3, ixk4, ex_at])
  obtain ⟨s1, s2, s3⟩ := gx.sm
  have w0 : if hot = true then x.2.1 ≤ x.1 else x.1 ≤ x.2.1 := by
    have := gx.way
    split
    · rename_i h; rw [if_pos h] at this; omega
    · rename_i h; rw [if_neg h] at this; omega
  have same : ∀ a : Int, if hot = true then a ≤ a else a ≤ a := fun a => by split <;> exact Int.le_refl _
  refine ⟨by decide, fun _ => q _ _ (shape3 s2 s1 s3) (meas2 gx.b1 gx.a1 gx.c0 gx.c1 w0), fun _ => ⟨by decide, ?_⟩⟩
  have h2 : c % 2 = 0 ∨ c % 2 = 1 := by omega
  rcases h2 with e | e
  · rw [e]
    exact ⟨_, atI_nat (j := 1) rfl, ⟨by decide, by decide⟩, small_len (Nat.le_of_ble_eq_true rfl), small_len (Nat.le_of_ble_eq_true rfl), small_len (Nat.le_of_ble_eq_true rfl), q _ _ (shape3 s1 s1 s3) (meas2 gx.a1 gx.a1 gx.c0 gx.c1 (same _))⟩
  · rw [e]
    exact ⟨_, atI_nat (j := 2) rfl, ⟨by decide, by decide⟩, small_len (Nat.le_of_ble_eq_true rfl), small_len (Nat.le_of_ble_eq_true rfl), small_len (Nat.le_of_ble_eq_true rfl), q _ _ (shape3 s2 s2 s3) (meas2 gx.b1 gx.b1 gx.c0 gx.c1 (same _))⟩
def IsRow (kd : Option Bool) (ws : List Str) : Prop := match kd with
  | none => ∃ g : Int, 0 ≤ g ∧ g ≤ 50 ∧ ws = [gapW, num g]
  | some hot => ∃ x, GoodS hot x ∧ ws = rowW (kindW hot) x
theorem IsRow.shape {kd : Option Bool} {ws : List Str} (h : IsRow kd ws) : ∃ ns, Shape kd ns ws := by
  cases kd with
  | none => obtain ⟨g, g0, g1, rfl⟩ := h; exact ⟨_, gap_shape g0 g1⟩
  | some hot => obtain ⟨x, gx, rfl⟩ := h; exact ⟨_, good_shape gx⟩
theorem fm_some {α β : Type} {f : α → Option β} {g : α → β} : ∀ {xs : List α}, (∀ x ∈ xs, f x = some (g x)) → xs.filterMap f = xs.map g
  | [], _ => rfl
  | x :: xs, h => by rw [List.filterMap_cons, h x (by simp), List.map_cons, fm_some fun y hy => h y (List.mem_cons_of_mem _ hy)]
theorem fm_none {α β : Type} {f : α → Option β} : ∀ {xs : List α}, (∀ x ∈ xs, f x = none) → xs.filterMap f = []
  | [], _ => rfl
  | x :: xs, h => by rw [List.filterMap_cons, h x (by simp), fm_none fun y hy => h y (List.mem_cons_of_mem _ hy)]
def pickW (k : Str) (ws : List Str) : Option D := if ws.headD Str.empty = k then some (wordsD ws) else none
theorem pick_hot (g : Int) (hs ks : List S3) : (rowsW g hs ks).filterMap (pickW hotW) = (hs.map (rowW hotW)).map wordsD := by
  unfold rowsW
  rw [List.filterMap_cons, show pickW hotW [gapW, num g] = none from if_neg (show ¬ gapW = hotW by decide +kernel), List.filterMap_append, fm_some (g := wordsD) (fun x hx => by obtain ⟨y, _, rfl⟩ := List.mem_map.mp hx; exact if_pos rfl), fm_none (fun x hx => by obtain ⟨y, _, rfl⟩ := List.mem_map.mp hx; exact if_neg chne), List.append_nil]
theorem pick_cold (g : Int) (hs ks : List S3) : (rowsW g hs ks).filterMap (pickW coldW) = (ks.map (rowW coldW)).map wordsD := by
  unfold rowsW
  rw [List.filterMap_cons, show pickW coldW [gapW, num g] = none from if_neg (show ¬ gapW = coldW by decide +kernel), List.filterMap_append, fm_none (fun x hx => by obtain ⟨y, _, rfl⟩ := List.mem_map.mp hx; exact if_neg (fun z => chne z.symm)), fm_some (g := wordsD) (fun x hx => by obtain ⟨y, _, rfl⟩ := List.mem_map.mp hx; exact if_pos rfl), List.nil_append]
theorem rows_ne {g : Int} {hs ks : List S3} {ws : List Str} (h : ws ∈ rowsW g hs ks) : ∃ k r, ws = k :: r := by
  unfold rowsW at h
  rcases List.mem_cons.mp h with rfl | h
  · exact ⟨_, _, rfl⟩
  · rcases List.mem_append.mp h with h | h <;> (obtain ⟨y, _, rfl⟩ := List.mem_map.mp h; exact ⟨_, _, rfl⟩)
theorem lc_pick {g : Int} {hs ks : List S3} {k : Str} {Q : B → Prop} (hl : (rowsW g hs ks).length ≤ 1000000) (q : Q (.o (.lst ((rowsW g hs ks).filterMap (pickW k))))) :
    lcI (List.map wordsD (rowsW g hs ks)) (Tg.n 0) (dTst (dOp dEqS (dOp dIx (dVar 0) (dC (D.int 0))) (dC (D.str k)))) (dVar 0) [none] Q := by
  refine lc_funE (fun d => match d with | .lst (.str w :: _) => if w = k then some d else none | _ => none) (pickW k) (fun ws hw => ?_) hl (fun ws hw => ?_) q
  · obtain ⟨w, r, rfl⟩ := rows_ne hw
    rfl
  · obtain ⟨w, r, rfl⟩ := rows_ne hw
    refine ⟨.str w, atI_of (k := 0) rfl, ?_⟩
    show (decide (w = k) = true → some (wordsD (w :: r)) = _) ∧ (decide (w = k) = false → none = _)
    refine ⟨fun z => ?_, fun z => ?_⟩
    · unfold pickW
      rw [if_pos (show (w :: r).headD Str.empty = k from of_decide_eq_true z)]
    · unfold pickW
      rw [if_neg (show ¬ (w :: r).headD Str.empty = k from of_decide_eq_false z)]
theorem nos_words (ws : List Str) : nos (wordsD ws) = true := by
  unfold wordsD
  rw [nos_lst]
  induction ws with
  | nil => exact noss_nil
  | cons w r ih => rw [List.map_cons, noss_cons, ih, nos_str]; rfl
theorem nos_rows (R : List (List Str)) : nos (rowsD R) = true := by
  unfold rowsD
  rw [nos_lst]
  induction R with
  | nil => exact noss_nil
  | cons w r ih => rw [List.map_cons, noss_cons, ih, nos_words]; rfl
theorem dep_words (ws : List Str) : dep (wordsD ws) ≤ 1 := by
  unfold wordsD
  rw [dep_lst]
  induction ws with
  | nil => rw [List.map_nil, deps_nil]; exact Nat.le_refl _
  | cons w r ih => rw [List.map_cons, deps_cons, dep_str]; omega
theorem dep_rows (R : List (List Str)) : dep (rowsD R) ≤ 2 := by
  unfold rowsD
  rw [dep_lst]
  induction R with
  | nil => rw [List.map_nil, deps_nil]; omega
  | cons w r ih => have := dep_words w; rw [List.map_cons, deps_cons]; omega
theorem t90 : Str.ofString "90" = num 90 := by decide +kernel
theorem t30 : Str.ofString "30" = num 30 := by decide +kernel
theorem t4 : Str.ofString "4" = num 4 := by decide +kernel
theorem good90 : GoodS true (90, 30, 4) := ⟨by decide, by decide, by decide, by decide, by decide, by decide, by decide⟩
theorem good30 : GoodS false (30, 90, 4) := ⟨by decide, by decide, by decide, by decide, by decide, by decide, by decide⟩
theorem wks_hot {g : Int} {hs ks : List S3} (W : WksG g hs ks) : WksG g (hs ++ List.replicate (12 - hs.length) (90, 30, 4)) [] ∧ (hs ++ List.replicate (12 - hs.length) ((90, 30, 4) : S3)).length = 12 := by
  have nh := W.nh
  have e : (hs ++ List.replicate (12 - hs.length) ((90, 30, 4) : S3)).length = 12 := by rw [List.length_append, List.length_replicate]; omega
  refine ⟨⟨W.g0, W.g1, by omega, Nat.zero_le _, fun x hx => ?_, fun x hx => (by cases hx)⟩, e⟩
  rcases List.mem_append.mp hx with h | h
  · exact W.oh x h
  · rw [(List.mem_replicate.mp h).2]; exact good90
theorem wks_cold {g : Int} {hs ks : List S3} (W : WksG g hs ks) : WksG g hs (ks ++ List.replicate (12 - ks.length) (30, 90, 4)) ∧ (ks ++ List.replicate (12 - ks.length) ((30, 90, 4) : S3)).length = 12 := by
  have nk := W.nk
  have e : (ks ++ List.replicate (12 - ks.length) ((30, 90, 4) : S3)).length = 12 := by rw [List.length_append, List.length_replicate]; omega
  refine ⟨⟨W.g0, W.g1, W.nh, by omega, W.oh, fun x hx => ?_⟩, e⟩
  rcases List.mem_append.mp hx with h | h
  · exact W.ok x h
  · rw [(List.mem_replicate.mp h).2]; exact good30
def textW (R : List (List Str)) : Str := Str.join lf (R.map rowT)
def Told (R : List (List Str)) (due : Nat) : Prop := due < 3 ∧ ∀ cs Q Z, Z (clsOf cs due) → rx_read cs [.str (textW R)] Q Z
def RowsW (R : List (List Str)) : Prop := (∀ r ∈ R, RowW r) ∧ R.length ≤ 200
theorem rows_W {g : Int} {hs ks : List S3} (W : WksG g hs ks) : ∀ ws ∈ rowsW g hs ks, RowW ws := fun ws hw => by
  unfold rowsW at hw
  rcases List.mem_cons.mp hw with rfl | hw
  · exact shape_W (gap_shape W.g0 W.g1)
  · rcases List.mem_append.mp hw with hw | hw
    · obtain ⟨x, hx, rfl⟩ := List.mem_map.mp hw
      exact shape_W (good_shape (W.oh x hx))
    · obtain ⟨x, hx, rfl⟩ := List.mem_map.mp hw
      exact shape_W (good_shape (W.ok x hx))
theorem row_at {g : Int} {hs ks : List S3} (W : WksG g hs ks) {i : Nat} (hi : i < 1 + hs.length + ks.length) : ∃ ws, (rowsW g hs ks)[i]? = some ws ∧ IsRow (kdAt hs i) ws := by
  cases i with
  | zero => exact ⟨_, rfl, g, W.g0, W.g1, rfl⟩
  | succ j =>
    unfold kdAt
    rw [if_neg (by omega)]
    by_cases hj : j < hs.length
    · rw [if_pos (by omega)]
      refine ⟨_, ?_, hs[j], W.oh _ (List.getElem_mem hj), rfl⟩
      show (hs.map (rowW hotW) ++ ks.map (rowW coldW))[j]? = _
      rw [List.getElem?_append_left (by rw [List.length_map]; exact hj), List.getElem?_map, List.getElem?_eq_getElem hj]
      rfl
    · rw [if_neg (by omega)]
      have hk : j - hs.length < ks.length := by omega
      refine ⟨_, ?_, ks[j - hs.length], W.ok _ (List.getElem_mem hk), rfl⟩
      show (hs.map (rowW hotW) ++ ks.map (rowW coldW))[j]? = _
      rw [List.getElem?_append_right (by rw [List.length_map]; omega), List.length_map, List.getElem?_map, List.getElem?_eq_getElem hk]
      rfl
theorem told_at {g : Int} {hs ks : List S3} (W : WksG g hs ks) {i : Nat} (hi : i < 1 + hs.length + ks.length) {ws : List Str} {due : Nat} (sp : Spo (kdAt hs i) ws due) {tl : List (List Str)} (ht : ∀ r ∈ tl, RowW r) (hl : tl.length ≤ 200) : Told ((rowsW g hs ks).take i ++ ws :: tl) due := by
  refine ⟨sp.le, fun cs Q Z z => ?_⟩
  have h := bad_at (cs := cs) W hi (sp.bad cs) (tl := tl.map rowT) (fun r hr => ?_) (by rw [List.length_map]; omega) (Q := Q) (Z := Z) z
  · unfold textW
    rw [List.map_append, List.map_cons]
    exact h
  · rcases List.mem_cons.mp hr with rfl | hr
    · exact sp.row.row
    · obtain ⟨x, hx, rfl⟩ := List.mem_map.mp hr
      exact (ht x hx).row
theorem told_out {g : Int} {hs ks : List S3} (W : WksG g hs ks) {hot : Bool} {ns : List Int} {ws : List Str} (hS : Shape (some hot) ns ws) (hp : if hot = true then 0 < ks.length ∨ hs.length = 12 else ks.length = 12) {tl : List (List Str)} (ht : ∀ r ∈ tl, RowW r) (hl : tl.length ≤ 200) : Told (rowsW g hs ks ++ ws :: tl) 0 := by
  refine ⟨by decide, fun cs Q Z z => ?_⟩
  have h := out_at (cs := cs) W hS hp (tl := tl.map rowT) (fun r hr => ?_) (by rw [List.length_map]; omega) (Q := Q) (Z := Z) z
  · unfold textW
    rw [List.map_append, List.map_cons]
    exact h
  · obtain ⟨x, hx, rfl⟩ := List.mem_map.mp hr
    exact (ht x hx).row
def signsL : Str := Str.ofString " !\"#$&'()*+,-./0123456789:;<=>?@ABCDEFGHIJKLMNOPQRSTUVWXYZ[\\]^_`" ++ Str.ofString "abcdefghijklmnopqrstuvwxyz{|}~\n"
def r_law_signs : DR := fun ds Q => ds = [] ∧ Q (.p (.str signsL))
theorem ok_law_signs (T : Blt mg) (F : Fun K "_law_signs" "_law_signs" s_law_signs f fd) : FnOk P w K mg base CX0 1 f fd [] (spD K r_law_signs) := by
  refine okD F sc_law_signs (fun ds Q h => by obtain ⟨rfl, q⟩ := h; rfl) fun cdv A outer s H E hr => ⟨_, (dss_cons (ds_setP (i := 0) sc_law_signs.nd rfl (Or.inl rfl) de_str)
      (dss_one (ds_ret (de_op od_plus (dv 0) de_str)))), fun ds Q h => ?_⟩
  obtain ⟨rfl, q⟩ := h
  repeat (first | walk_at "rs1" | set_option simprocs false in simp only [ixk0, ixk1, ixk2, ixk3, ixk4, ex_at])
  exact ⟨by decide +kernel, q⟩
theorem pick_code {z : Str} {v : Int} {P : Nat → Prop} (h0 : 0 ≤ v) (h1 : v < z.length) (h : ∀ c ∈ codes z, P c) : ∃ c, atI z.cps.toList v = some c ∧ P c := by
  obtain ⟨n, rfl⟩ := Int.eq_ofNat_of_zero_le h0
  have hn : n < (codes z).length := by rw [len_codes] at h1; omega
  exact ⟨(codes z)[n], atI_nat (List.getElem?_eq_getElem hn), h _ (List.getElem_mem hn)⟩
theorem no_sign {x : Str} {c : Nat} (hc : c ∈ codes x) (h : c < 48 ∨ 57 < c) : isNum x = false := by
  cases e : isNum x with
  | false => rfl
  | true => exact absurd hc (isNum_free h e)
theorem no_len {x : Str} (h : x.length = 0 ∨ 10 < x.length) : isNum x = false := by
  cases e : isNum x with
  | false => rfl
  | true =>
    unfold isNum at e
    simp only [Bool.and_eq_true, decide_eq_true_eq] at e
    omega
theorem free_app {a b : Str} (ha : 32 ∉ codes a) (hb : 32 ∉ codes b) : 32 ∉ codes (a ++ b) := fun z => by rw [codes_app] at z; exact (List.mem_append.mp z).elim ha hb
theorem two_words (a b : Str) : 2 ≤ (Txt.split (a ++ ⟨#[32]⟩ ++ b) sp).length := by
  rw [show Txt.split (a ++ ⟨#[32]⟩ ++ b) sp = _ from split_app 32 a b, List.length_append]
  have h1 := split_ne a ⟨#[32]⟩
  have h2 := split_ne b ⟨#[32]⟩
  cases e1 : Txt.split a ⟨#[32]⟩ with
  | nil => exact absurd e1 h1
  | cons x r =>
    cases e2 : Txt.split b ⟨#[32]⟩ with
    | nil => exact absurd e2 h2
    | cons y r2 => rw [List.length_cons, List.length_cons]; omega
def wordOf : Option Bool → Str
  | none => gapW
  | some hot => kindW hot
def otherOk (kd : Option Bool) (x : Str) : Prop := match kd with
  | none => x ≠ gapW
  | some _ => x ≠ hotW ∧ x ≠ coldW
def badW : Str := Str.ofString " !#&'()*+,-./:;<=>?@ABYZ[]^_abyz{|}~"
theorem badW_c : ∀ c ∈ codes badW, (c < 128 ∧ c ≠ 10) ∧ (c < 48 ∨ 57 < c) := by decide +kernel
def r_law_bad_number : DR := fun ds Q => ∃ (n c : Int), ds = [.str (num n), .int c] ∧ Sm n ∧ 0 ≤ c ∧ ∀ x : Str, x.length ≤ 20 → RowC x → (isNum x = false ∧ 32 ∉ codes x ∨ 2 ≤ (Txt.split x sp).length) → Q (.p (.str x))
theorem ok_law_bad_number (T : Blt mg) (F : Fun K "_law_bad_number" "_law_bad_number" s_law_bad_number f fd) : FnOk P w K mg base CX0 1 f fd ["word", "cell"] (spD K r_law_bad_number) := by
  refine okD F sc_law_bad_number (fun ds Q h => by obtain ⟨n, c, rfl, sn, c0, q⟩ := h; rfl) fun cdv A outer s H E hr => ⟨_, (dss_cons (ds_setP (i := 2) sc_law_bad_number.nd rfl (Or.inl rfl) de_str)
      (dss_cons (ds_setP (i := 3) sc_law_bad_number.nd rfl (Or.inl rfl) (de_op od_fdiv (dv 1) de_int))
      (dss_cons (ds_if (dt_cmp od_eq (de_op od_mod (dv 1) de_int) de_int (nomark _)) (dss_one (ds_ret (de_op od_plus de_str (dv 0)))) dss_nil)
      (dss_cons (ds_if (dt_cmp od_eq (de_op od_mod (dv 1) de_int) de_int (nomark _)) (dss_one (ds_ret (de_ix (de_lst (da_cons de_str (da_cons (de_op od_plus de_str (dv 0)) (da_cons (de_op od_plus de_str (dv 0)) (da_cons (de_op od_plus (dv 0) de_str) (da_cons de_str (da_cons de_str (da_cons (de_op od_plus (dv 0) de_str) da_nil)))))))) (de_op od_mod (dv 3) de_int)))) dss_nil)
      (dss_cons (ds_if (dt_cmp od_eq (de_op od_mod (dv 1) de_int) de_int (nomark _)) (dss_one (ds_ret (de_op od_plus (dv 0) de_str))) dss_nil)
      (dss_cons (ds_setP (i := 4) sc_law_bad_number.nd rfl (Or.inl rfl) (de_op od_mod (dv 3) (de_op od_plus (de_callB cd_len (by rfl) T.b_len PySem.boot_len (da_cons (dv 0) da_nil)) de_int)))
      (dss_one (ds_ret (de_op od_plus (de_op od_plus (de_sliceT (dv 0) do_none (do_some (dv 4))) (de_ix (dv 2) (de_op od_mod (de_op od_fdiv (dv 3) de_int) de_int))) (de_sliceT (dv 0) (do_some (dv 4)) do_none)))))))))), fun ds Q h => ?_⟩
  obtain ⟨n, c, rfl, sn, c0, q⟩ := h
  repeat (first | walk_at "rs1" | set_option simprocs false in simp only [ixk0, ixk1, ixk2, ixk3, ixk4, ex_at])
  have sz : sizeLine = 16777216 := sizeLine_eq
  have nl := num_len sn.1 sn.2
  have n1 : 1 ≤ (num n).length := by
    rw [len_codes]
    have := num_ne sn.1
    cases hc : codes (num n) with
    | nil => exact absurd hc this
    | cons a r => rw [List.length_cons]; omega
  have cn := ok_num sn.1
  have fn := free_num sn.1
  have o1 : (Str.ofString "0").length = 1 := by decide +kernel
  have o2 : (Str.ofString "-").length = 1 := by decide +kernel
  have o3 : (Str.ofString "+").length = 1 := by decide +kernel
  have o4 : (Str.ofString "e0").length = 2 := by decide +kernel
  have o5 : (Str.ofString ".").length = 1 := by decide +kernel
  have o6 : (Str.ofString "1234567890").length = 10 := by decide +kernel
  have o7 : badW.length = 36 := by decide +kernel
  refine ⟨⟨by decide, by decide⟩, by decide, fun _ => ⟨by omega, q _ (by rw [len_app]; omega) (WOk.app (by decide +kernel) cn) (.inl ⟨nought_num sn, free_app (by decide +kernel) fn⟩)⟩, fun _ => ⟨by decide, fun _ => ⟨by omega, by omega, by omega, by omega, by decide, pick_some (by omega) (show c / 4 % 7 < 7 by omega) fun d hd => ?_⟩, fun _ => ⟨by decide, fun _ => ⟨by omega, ?_⟩, fun _ => ⟨by omega, by omega, by omega, ⟨by decide, by decide⟩, by decide, ?_⟩⟩⟩⟩
  · simp only [List.mem_cons, List.not_mem_nil, or_false] at hd
    rcases hd with rfl | rfl | rfl | rfl | rfl | rfl | rfl
    · exact q _ (by decide +kernel) (by decide +kernel) (.inl ⟨by decide +kernel, by decide +kernel⟩)
    · exact q _ (by rw [len_app]; omega) (WOk.app (by decide +kernel) cn) (.inl ⟨no_sign (c := 45) (by rw [codes_app]; exact List.mem_append_left _ (by decide +kernel)) (by decide), free_app (by decide +kernel) fn⟩)
    · exact q _ (by rw [len_app]; omega) (WOk.app (by decide +kernel) cn) (.inl ⟨no_sign (c := 43) (by rw [codes_app]; exact List.mem_append_left _ (by decide +kernel)) (by decide), free_app (by decide +kernel) fn⟩)
    · exact q _ (by rw [len_app]; omega) (WOk.app cn (by decide +kernel)) (.inl ⟨no_sign (c := 101) (by rw [codes_app]; exact List.mem_append_right _ (by decide +kernel)) (by decide), free_app fn (by decide +kernel)⟩)
    · exact q _ (by decide +kernel) (by decide +kernel) (.inl ⟨by decide +kernel, by decide +kernel⟩)
    · exact q _ (by decide +kernel) (by decide +kernel) (.inl ⟨by decide +kernel, by decide +kernel⟩)
    · exact q _ (by rw [len_app]; omega) (WOk.app cn (by decide +kernel)) (.inl ⟨no_sign (c := 46) (by rw [codes_app]; exact List.mem_append_right _ (by decide +kernel)) (by decide), free_app fn (by decide +kernel)⟩)
  · exact q _ (by rw [len_app]; omega) (WOk.app cn (by decide +kernel)) (.inl ⟨no_len (by rw [len_app]; omega), free_app fn (by decide +kernel)⟩)
  · obtain ⟨k, k1, k2, k3⟩ := pick_code (z := badW) (v := c / 4 / 11 % 36) (by omega) (by rw [o7]; omega) badW_c
    have m0 : 0 ≤ c / 4 % (((num n).length : Int) + 1) := Int.emod_nonneg _ (by omega)
    have m1 : c / 4 % (((num n).length : Int) + 1) < ((num n).length : Int) + 1 := Int.emod_lt_of_pos _ (by omega)
    generalize c / 4 % (((num n).length : Int) + 1) = at_ at m0 m1
    have l1 := Txt.slice_le (num n) none (some at_)
    have l2 := Txt.slice_le (num n) (some at_) none
    have e1 := slice_to (x := num n) m0 (by omega)
    have e2 := slice_from (x := num n) m0 (by omega)
    have ls : (Txt.slice (num n) none (some at_)).length + (Txt.slice (num n) (some at_) none).length = (num n).length := by
      rw [len_codes, len_codes (Txt.slice (num n) (some at_) none), e1, e2, List.length_take, List.length_drop, len_codes]
      rw [len_codes] at m1
      omega
    have lk : (⟨#[k]⟩ : Str).length = 1 := rfl
    have la := len_app (Txt.slice (num n) none (some at_)) ⟨#[k]⟩
    have c1 : RowC (Txt.slice (num n) none (some at_)) := fun d hd => by rw [e1] at hd; exact cn d (List.mem_of_mem_take hd)
    have c2 : RowC (Txt.slice (num n) (some at_) none) := fun d hd => by rw [e2] at hd; exact cn d (List.mem_of_mem_drop hd)
    have ck : RowC ⟨#[k]⟩ := fun d hd => by
      have : d ∈ [k] := hd
      rw [List.mem_singleton] at this
      rw [this]
      exact k2
    refine ⟨k, by show badW.length ≤ _; omega, k1, by omega, by omega, by omega, q _ (by rw [len_app, len_app]; omega) (WOk.app (WOk.app c1 ck) c2) ?_⟩
    by_cases h : k = 32
    · subst h
      exact .inr (two_words _ _)
    · refine .inl ⟨no_sign (c := k) (by rw [codes_app, codes_app]; exact List.mem_append_left _ (List.mem_append_right _ (List.mem_singleton.mpr rfl))) k3, free_app (free_app (fun z => ?_) fun z => ?_) fun z => ?_⟩
      · rw [e1] at z; exact fn (List.mem_of_mem_take z)
      · have : 32 ∈ [k] := z
        rw [List.mem_singleton] at this
        exact h this.symm
      · rw [e2] at z; exact fn (List.mem_of_mem_drop z)
def okB (kd : Option Bool) (x : Str) : Bool := decide (x.length ≤ 11) && (codes x).all (fun c => decide (c < 128) && decide (c ≠ 10)) && ((!(codes x).contains 32 && (match kd with | none => decide (x ≠ gapW) | some _ => decide (x ≠ hotW) && decide (x ≠ coldW))) || decide (2 ≤ (Txt.split x sp).length))
theorem okB_ok {kd : Option Bool} {x : Str} (h : okB kd x = true) : x.length ≤ 11 ∧ RowC x ∧ ((32 ∉ codes x ∧ otherOk kd x) ∨ 2 ≤ (Txt.split x sp).length) := by
  unfold okB at h
  simp only [Bool.and_eq_true, Bool.or_eq_true, decide_eq_true_eq, List.all_eq_true, Bool.not_eq_true', List.contains_eq_mem, decide_eq_false_iff_not] at h
  obtain ⟨⟨h1, h2⟩, h3⟩ := h
  refine ⟨h1, h2, h3.imp (fun z => ⟨z.1, ?_⟩) id⟩
  cases kd with
  | none => exact (show x ≠ gapW from of_decide_eq_true z.2)
  | some b =>
    have := z.2
    simp only [Bool.and_eq_true, decide_eq_true_eq] at this
    exact this
def wordX (k : Str) (i j m : Nat) : Str := Txt.slice k none (some (i : Int)) ++ ⟨#[(codes signsL).getD (if (codes signsL).getD j 0 = (codes k).getD i 0 then j + 1 else j) 0]⟩ ++ Txt.slice k (some ((i : Int) + (m : Int) - 1)) none
def allX (kd : Option Bool) (k : Str) : Bool := (List.range k.length).all fun i => (List.range 94).all fun j => okB kd (wordX k i j 1) && okB kd (wordX k i j 2)
theorem all_gap : allX none gapW = true := by decide +kernel
theorem all_hot : allX (some true) hotW = true := by decide +kernel
theorem all_cold : allX (some false) coldW = true := by decide +kernel
def r_law_other_word : DR := fun ds Q => ∃ (kd : Option Bool) (k : Str) (c : Int), ds = [.str k, .int c] ∧ k = wordOf kd ∧ 0 ≤ c ∧ ∀ x : Str, x.length ≤ 11 → RowC x → ((32 ∉ codes x ∧ otherOk kd x) ∨ 2 ≤ (Txt.split x sp).length) → Q (.p (.str x))
theorem get_getD {l : List Nat} {j : Nat} (h : j < l.length) : l[j]? = some (l.getD j 0) := by rw [List.getD_eq_getElem?_getD, List.getElem?_eq_getElem h]; rfl
theorem signsL_len : signsL.length = 95 := by decide +kernel
theorem allX_at {kd : Option Bool} {k : Str} (h : allX kd k = true) {i j m : Nat} (hi : i < k.length) (hj : j < 94) (hm : m = 1 ∨ m = 2) : okB kd (wordX k i j m) = true := by
  have h1 := List.all_eq_true.mp (List.all_eq_true.mp h i (List.mem_range.mpr hi)) j (List.mem_range.mpr hj)
  rw [Bool.and_eq_true] at h1
  rcases hm with rfl | rfl
  · exact h1.1
  · exact h1.2
theorem other_sign {kd : Option Bool} {k : Str} {c : Int} {Q : B → Prop} (c0 : 0 ≤ c) (hk : 1 ≤ k.length ∧ k.length ≤ 4) (h : allX kd k = true) (hc : decide (c % 3 = 0) = false) (P : ∀ x, okB kd x = true → Q (.p (.str x))) :
    k.length ≤ sizeLine ∧ 0 < (k.length : Int) ∧ CDiv (c / 3) 7 ∧ (0 : Int) < 94 ∧ True ∧ ∃ c_1, signsL.length ≤ sizeLine ∧ atI signsL.cps.toList (c / 3 / 7 % 94) = some c_1 ∧ ∃ c_2, k.length ≤ sizeLine ∧ atI k.cps.toList (c / 3 % (k.length : Int)) = some c_2 ∧
      (decide ((⟨#[c_1]⟩ : Str) = ⟨#[c_2]⟩) = true → k.length ≤ sizeLine ∧ True ∧ ∃ c_3, signsL.length ≤ sizeLine ∧ atI signsL.cps.toList (c / 3 / 7 % 94 + 1) = some c_3 ∧ (Txt.slice k none (some (c / 3 % (k.length : Int)))).length + (⟨#[c_3]⟩ : Str).length ≤ sizeLine ∧ (0 : Int) < 3 ∧ k.length ≤ sizeLine ∧
        (Txt.slice k none (some (c / 3 % (k.length : Int))) ++ ⟨#[c_3]⟩).length + (Txt.slice k (some (c / 3 % (k.length : Int) + c % 3 - 1)) none).length ≤ sizeLine ∧ Q (.p (.str (Txt.slice k none (some (c / 3 % (k.length : Int))) ++ ⟨#[c_3]⟩ ++ Txt.slice k (some (c / 3 % (k.length : Int) + c % 3 - 1)) none)))) ∧
      (decide ((⟨#[c_1]⟩ : Str) = ⟨#[c_2]⟩) = false → k.length ≤ sizeLine ∧ True ∧ ∃ c_3, signsL.length ≤ sizeLine ∧ atI signsL.cps.toList (c / 3 / 7 % 94) = some c_3 ∧ (Txt.slice k none (some (c / 3 % (k.length : Int)))).length + (⟨#[c_3]⟩ : Str).length ≤ sizeLine ∧ (0 : Int) < 3 ∧ k.length ≤ sizeLine ∧
        (Txt.slice k none (some (c / 3 % (k.length : Int))) ++ ⟨#[c_3]⟩).length + (Txt.slice k (some (c / 3 % (k.length : Int) + c % 3 - 1)) none).length ≤ sizeLine ∧ Q (.p (.str (Txt.slice k none (some (c / 3 % (k.length : Int))) ++ ⟨#[c_3]⟩ ++ Txt.slice k (some (c / 3 % (k.length : Int) + c % 3 - 1)) none)))) := by
  have sz : sizeLine = 16777216 := sizeLine_eq
  have hc' := of_decide_eq_false hc
  have m0 := Int.emod_nonneg (c / 3) (show (k.length : Int) ≠ 0 by omega)
  have m1 := Int.emod_lt_of_pos (c / 3) (show 0 < (k.length : Int) by omega)
  obtain ⟨i, ei⟩ : ∃ i : Nat, c / 3 % (k.length : Int) = i := Int.eq_ofNat_of_zero_le m0
  obtain ⟨j, ej⟩ : ∃ j : Nat, c / 3 / 7 % 94 = j := Int.eq_ofNat_of_zero_le (by omega)
  obtain ⟨m, em⟩ : ∃ m : Nat, c % 3 = m := Int.eq_ofNat_of_zero_le (by omega)
  rw [ei] at m1
  rw [ei, ej, em]
  have hi : i < k.length := by omega
  have hj : j < 94 := by omega
  have hm : m = 1 ∨ m = 2 := by omega
  have sl := signsL_len
  have ok := allX_at h hi hj hm
  have ls : signsL.length ≤ sizeLine := by omega
  have lk : k.length ≤ sizeLine := by omega
  have g1 : (codes signsL)[j]? = some ((codes signsL).getD j 0) := get_getD (by rw [← len_codes]; omega)
  have g2 : (codes k)[i]? = some ((codes k).getD i 0) := get_getD (by rw [← len_codes]; omega)
  have g3 : (codes signsL)[j + 1]? = some ((codes signsL).getD (j + 1) 0) := get_getD (by rw [← len_codes]; omega)
  have l1 := Txt.slice_le k none (some (i : Int))
  have l2 := Txt.slice_le k (some ((i : Int) + (m : Int) - 1)) none
  have lc : ∀ d, (⟨#[d]⟩ : Str).length = 1 := fun _ => rfl
  refine ⟨lk, by omega, ⟨by decide, by decide⟩, by decide, trivial, _, ls, atI_nat g1, _, lk, atI_nat g2, fun z => ⟨lk, trivial, _, ls, by rw [show (j : Int) + 1 = ((j + 1 : Nat) : Int) by omega]; exact atI_nat g3, by rw [lc]; omega, by decide, lk, by rw [len_app, lc]; omega, ?_⟩, fun z => ⟨lk, trivial, _, ls, atI_nat g1, by rw [lc]; omega, by decide, lk, by rw [len_app, lc]; omega, ?_⟩⟩
  · have e : (codes signsL).getD j 0 = (codes k).getD i 0 := by
      have := congrArg codes (of_decide_eq_true z)
      exact (List.cons.inj (show [(codes signsL).getD j 0] = [(codes k).getD i 0] from this)).1
    unfold wordX at ok
    rw [if_pos e] at ok
    exact P _ ok
  · have e : ¬ (codes signsL).getD j 0 = (codes k).getD i 0 := fun e => of_decide_eq_false z (by rw [e])
    unfold wordX at ok
    rw [if_neg e] at ok
    exact P _ ok
theorem ok_law_other_word (T : Blt mg) (F_law_signs : Fn P w K mg base "_law_signs" 1 [] (spD K r_law_signs)) (F : Fun K "_law_other_word" "_law_other_word" s_law_other_word f fd) : FnOk P w K mg base CX0 2 f fd ["word", "cell"] (spD K r_law_other_word) := by
  refine okD F sc_law_other_word (fun ds Q h => by obtain ⟨kd, k, c, rfl, hk, c0, q⟩ := h; rfl) fun cdv A outer s H E hr => ⟨_, (dss_cons (ds_setP (i := 2) sc_law_other_word.nd rfl (Or.inl rfl) (de_op od_fdiv (dv 1) de_int))
      (dss_cons (ds_if (dt_cmp od_eq (de_op od_mod (dv 1) de_int) de_int (nomark _)) (dss_cons (ds_setP (i := 3) sc_law_other_word.nd rfl (Or.inl rfl) (de_lst (da_cons de_str (da_cons (de_op od_plus (dv 0) de_str) (da_cons (de_upper (dv 0)) (da_cons (de_sliceT (dv 0) (do_some de_int) do_none) (da_cons (de_sliceT (dv 0) do_none (do_some (de_neg de_int))) (da_cons de_str (da_cons (de_op od_plus (de_upper (de_sliceT (dv 0) do_none (do_some de_int))) (de_sliceT (dv 0) (do_some de_int) do_none)) da_nil)))))))))
      (dss_one (ds_ret (de_ix (de_op od_plus (dv 3) (de_lst (da_cons (de_ix (de_lst (da_cons de_str (da_cons de_str da_nil))) (de_callTy cd_int (by rfl) T.b_int PyProof.Rows.boot_int (da_cons (de_cmp od_ne (dv 0) de_str (nomark _)) da_nil))) da_nil))) (de_op od_mod (dv 2) de_int))))) dss_nil)
      (dss_cons (ds_setP (i := 4) sc_law_other_word.nd rfl (Or.inl rfl) (de_op od_mod (dv 2) (de_callB cd_len (by rfl) T.b_len PySem.boot_len (da_cons (dv 0) da_nil))))
      (dss_cons (ds_setP (i := 5) sc_law_other_word.nd rfl (Or.inl rfl) (de_op od_mod (de_op od_fdiv (dv 2) de_int) de_int))
      (dss_cons (ds_if (dt_cmp od_eq (de_ix (de_fn0 F_law_signs (hr.mono (by decide)) (by rfl)) (dv 5)) (de_ix (dv 0) (dv 4)) (nomark _)) (dss_one (ds_setP (i := 5) sc_law_other_word.nd rfl (Or.inl rfl) (de_op od_plus (dv 5) de_int))) dss_nil)
      (dss_one (ds_ret (de_op od_plus (de_op od_plus (de_sliceT (dv 0) do_none (do_some (dv 4))) (de_ix (de_fn0 F_law_signs (hr.mono (by decide)) (by rfl)) (dv 5))) (de_sliceT (dv 0) (do_some (de_op od_sub (de_op od_plus (dv 4) (de_op od_mod (dv 1) de_int)) de_int)) do_none))))))))), fun ds Q h => ?_⟩
  obtain ⟨kd, k, c, rfl, hk, c0, q⟩ := h
  repeat (first | dsimp only [r_law_signs] | walk_at "rs1" | set_option simprocs false in simp only [ixk0, ixk1, ixk2, ixk3, ixk4, ex_at])
  have P : ∀ x, okB kd x = true → Q (.p (.str x)) := fun x h => q x (okB_ok h).1 (okB_ok h).2.1 (okB_ok h).2.2
  cases kd with
  | none =>
    subst hk
    refine ⟨⟨by decide, by decide⟩, by decide, fun _ => ⟨by decide +kernel, by decide +kernel, by decide +kernel, by decide +kernel, by decide +kernel, by decide +kernel, by decide +kernel, by decide +kernel, .str (Str.ofString "hot"), ?_, by decide +kernel, by decide, pick_some (by omega) (show c / 3 % 8 < 8 by omega) fun d hd => ?_⟩, fun h => other_sign c0 ⟨by decide +kernel, by decide +kernel⟩ all_gap h P⟩
    · rw [show (if (!decide (wordOf none = Str.ofString "gap")) = true then (1 : Int) else 0) = ((0 : Nat) : Int) by decide +kernel]
      exact atI_nat rfl
    · simp only [List.mem_append, List.mem_cons, List.not_mem_nil, or_false] at hd
      rcases hd with (rfl | rfl | rfl | rfl | rfl | rfl | rfl) | rfl
      all_goals exact P _ (by decide +kernel)
  | some hot =>
    subst hk
    cases hot with
    | true =>
      refine ⟨⟨by decide, by decide⟩, by decide, fun _ => ⟨by decide +kernel, by decide +kernel, by decide +kernel, by decide +kernel, by decide +kernel, by decide +kernel, by decide +kernel, by decide +kernel, .str (Str.ofString "gap"), ?_, by decide +kernel, by decide, pick_some (by omega) (show c / 3 % 8 < 8 by omega) fun d hd => ?_⟩, fun h => other_sign c0 ⟨by decide +kernel, by decide +kernel⟩ all_hot h P⟩
      · rw [show (if (!decide (wordOf (some true) = Str.ofString "gap")) = true then (1 : Int) else 0) = ((1 : Nat) : Int) by decide +kernel]
        exact atI_nat rfl
      · simp only [List.mem_append, List.mem_cons, List.not_mem_nil, or_false] at hd
        rcases hd with (rfl | rfl | rfl | rfl | rfl | rfl | rfl) | rfl
        all_goals exact P _ (by decide +kernel)
    | false =>
      refine ⟨⟨by decide, by decide⟩, by decide, fun _ => ⟨by decide +kernel, by decide +kernel, by decide +kernel, by decide +kernel, by decide +kernel, by decide +kernel, by decide +kernel, by decide +kernel, .str (Str.ofString "gap"), ?_, by decide +kernel, by decide, pick_some (by omega) (show c / 3 % 8 < 8 by omega) fun d hd => ?_⟩, fun h => other_sign c0 ⟨by decide +kernel, by decide +kernel⟩ all_cold h P⟩
      · rw [show (if (!decide (wordOf (some false) = Str.ofString "gap")) = true then (1 : Int) else 0) = ((1 : Nat) : Int) by decide +kernel]
        exact atI_nat rfl
      · simp only [List.mem_append, List.mem_cons, List.not_mem_nil, or_false] at hd
        rcases hd with (rfl | rfl | rfl | rfl | rfl | rfl | rfl) | rfl
        all_goals exact P _ (by decide +kernel)
def ownB : Bool → D → B
  | true, d => .o d
  | false, d => .p d
theorem nf_free {kd : Option Bool} {ws : List Str} (hne : ws ≠ []) (f : ∀ w ∈ ws, 32 ∉ codes w) (hl : ws.length ≠ numsOf kd + 1) (hW : RowW ws) : Spo kd ws 0 := by
  refine .inl ⟨rfl, fun cs => bad_form (fw := ws) (words_back hne f) (.inl fun z => ?_), hW⟩
  have := z.1
  have h1 : 1 ≤ ws.length := by
    cases ws with
    | nil => exact absurd rfl hne
    | cons a r => rw [List.length_cons]; omega
  rw [List.length_tail] at this
  omega
theorem split_row {x : Str} {A C : List Str} (hA : ∀ w ∈ A, 32 ∉ codes w) (hC : ∀ w ∈ C, 32 ∉ codes w) : Txt.split (rowT (A ++ x :: C)) sp = A ++ Txt.split x sp ++ C := by
  have h2 : Txt.split (rowT (x :: C)) sp = Txt.split x sp ++ C := by
    cases C with
    | nil => rw [List.append_nil]; rfl
    | cons b r =>
      show Txt.split (x ++ sp ++ rowT (b :: r)) sp = _
      rw [show Txt.split (x ++ sp ++ rowT (b :: r)) sp = _ from split_app 32 _ _, show Txt.split (rowT (b :: r)) ⟨#[32]⟩ = _ from words_back (by simp) hC]
      rfl
  cases A with
  | nil => rw [List.nil_append, List.nil_append]; exact h2
  | cons a r =>
    have e : rowT ((a :: r) ++ x :: C) = rowT (a :: r) ++ sp ++ rowT (x :: C) := join_app _ _ (by simp) (by simp)
    rw [e, show Txt.split (rowT (a :: r) ++ sp ++ rowT (x :: C)) sp = _ from split_app 32 _ _, show Txt.split (rowT (a :: r)) ⟨#[32]⟩ = _ from words_back (by simp) hA, show Txt.split (rowT (x :: C)) ⟨#[32]⟩ = _ from h2, List.append_assoc]
theorem nf_two {kd : Option Bool} {x : Str} {A C : List Str} (hA : ∀ w ∈ A, 32 ∉ codes w) (hC : ∀ w ∈ C, 32 ∉ codes w) (h : 2 ≤ (Txt.split x sp).length) (hl : A.length + C.length = numsOf kd) (hW : RowW (A ++ x :: C)) : Spo kd (A ++ x :: C) 0 := by
  refine .inl ⟨rfl, fun cs => bad_form (split_row hA hC) (.inl fun z => ?_), hW⟩
  have := z.1
  rw [List.length_tail, List.length_append, List.length_append] at this
  omega
theorem nf_first {kd : Option Bool} {ns : List Int} {k x : Str} {r : List Str} (h : Shape kd ns (k :: r)) (hl : x.length ≤ 11) (hc : RowC x) (hx : (32 ∉ codes x ∧ otherOk kd x) ∨ 2 ≤ (Txt.split x sp).length) : Spo kd (x :: r) 0 := by
  have sl := shape_len h
  have ln := (nums_le kd).2
  rw [List.length_cons] at sl
  have hW : RowW (x :: r) := roww_of (by rw [List.length_cons]; omega) fun w hw => by
    rcases List.mem_cons.mp hw with rfl | hw
    · exact ⟨hl, hc⟩
    · exact (shape_G h).2 w (List.mem_cons_of_mem _ hw)
  have fr : ∀ w ∈ r, 32 ∉ codes w := fun w hw => shape_free h w (List.mem_cons_of_mem _ hw)
  rcases hx with ⟨f, ho⟩ | h2
  · refine .inl ⟨rfl, fun cs => bad_form (fw := x :: r) (words_back (by simp) fun w hw => ?_) (.inr ?_), hW⟩
    · rcases List.mem_cons.mp hw with rfl | hw
      · exact f
      · exact fr w hw
    · cases kd with
      | none => exact ho
      | some hot => exact ho
  · exact nf_two (A := []) (fun w hw => (by cases hw)) fr h2 (by rw [List.length_nil]; omega) hW
theorem nf_num {kd : Option Bool} {ns : List Int} {ws : List Str} (h : Shape kd ns ws) {i : Nat} {x : Str} (hi : 1 ≤ i) (hl : i < ws.length) (h1 : x.length ≤ 20) (h2 : RowC x) (hx : isNum x = false ∧ 32 ∉ codes x ∨ 2 ≤ (Txt.split x sp).length) : Spo kd (ws.set i x) 0 := by
  rcases hx with ⟨a, b⟩ | h3
  · exact nf_set h hi hl b a h1 h2
  · have sl := shape_len h
    have ln := (nums_le kd).2
    have hW : RowW (ws.set i x) := roww4 (by rw [List.length_set]; omega) fun w hm => by
      rcases mem_set hm with rfl | hm
      · exact ⟨h1, h2⟩
      · exact (shape_W h).2.1 w hm
    rw [set_is hl] at hW ⊢
    refine nf_two (fun w hw => shape_free h w (List.mem_of_mem_take hw)) (fun w hw => shape_free h w (List.mem_of_mem_drop hw)) h3 ?_ hW
    rw [List.length_take, List.length_drop]
    omega
def r_law_no_form : DR := fun ds Q => ∃ (kd : Option Bool) (ns : List Int) (ws : List Str) (c : Int), ds = [wordsD ws, .int c] ∧ Shape kd ns ws ∧ 0 ≤ c ∧ ∀ ws' o, Spo kd ws' 0 → Q (ownB o (wordsD ws'))
theorem shape_head {kd : Option Bool} {ns : List Int} {k : Str} {r : List Str} (h : Shape kd ns (k :: r)) : k = wordOf kd := by
  obtain ⟨_, h⟩ := h
  cases kd with
  | none => exact (List.cons.inj h.2).1
  | some hot => exact (List.cons.inj h.2).1
theorem ok_law_no_form (T : Blt mg) (F_law_other_word : Fn P w K mg base "_law_other_word" 2 ["word", "cell"] (spD K r_law_other_word)) (F_law_bad_number : Fn P w K mg base "_law_bad_number" 1 ["word", "cell"] (spD K r_law_bad_number)) (F : Fun K "_law_no_form" "_law_no_form" s_law_no_form f fd) : FnOk P w K mg base CX0 3 f fd ["words", "cell"] (spD K r_law_no_form) := by
  refine okD F sc_law_no_form (fun ds Q h => by obtain ⟨kd, ns, ws, c, rfl, sh, c0, q⟩ := h; rfl) fun cdv A outer s H E hr => ⟨_, (dss_cons (ds_setP (i := 2) sc_law_no_form.nd rfl (Or.inl rfl) (de_op od_fdiv (dv 1) de_int))
      (dss_cons (ds_if (dt_cmp od_eq (de_op od_mod (dv 1) de_int) de_int (nomark _)) (dss_one (ds_ret (de_slice (dv 0) do_none (do_some (de_neg de_int))))) dss_nil)
      (dss_cons (ds_if (dt_cmp od_eq (de_op od_mod (dv 1) de_int) de_int (nomark _)) (dss_one (ds_ret (de_op od_plus (dv 0) (de_lst (da_cons (de_ix (de_lst (da_cons de_str (da_cons de_str (da_cons de_str da_nil)))) (de_op od_mod (dv 2) de_int)) da_nil))))) dss_nil)
      (dss_cons (ds_if (dt_cmp od_eq (de_op od_mod (dv 1) de_int) de_int (nomark _)) (dss_one (ds_ret (de_op od_plus (de_lst (da_cons (de_fn F_law_other_word (hr.mono (by decide)) (by rfl) (da_cons (de_ix (dv 0) de_int) (da_cons (dv 2) da_nil))) da_nil)) (de_slice (dv 0) (do_some de_int) do_none)))) dss_nil)
      (dss_cons (ds_if (dt_cmp od_eq (de_op od_mod (dv 1) de_int) de_int (nomark _)) (dss_one (ds_ret (de_ix (de_lst (da_cons (de_lst (da_cons de_str da_nil)) (da_cons (de_op od_plus (de_lst (da_cons de_str da_nil)) (dv 0)) (da_cons (de_slice (dv 0) do_none (do_some de_int)) (da_cons (de_op od_plus (dv 0) (dv 0)) da_nil))))) (de_op od_mod (dv 2) de_int)))) dss_nil)
      (dss_cons (ds_setP (i := 3) sc_law_no_form.nd rfl (Or.inl rfl) (de_op od_plus de_int (de_op od_mod (dv 2) (de_op od_sub (de_callB cd_len (by rfl) T.b_len PySem.boot_len (da_cons (dv 0) da_nil)) de_int))))
      (dss_one (ds_ret (de_op od_plus (de_op od_plus (de_slice (dv 0) do_none (do_some (dv 3))) (de_lst (da_cons (de_fn F_law_bad_number (hr.mono (by decide)) (by rfl) (da_cons (de_ix (dv 0) (dv 3)) (da_cons (de_op od_fdiv (dv 2) de_int) da_nil))) da_nil))) (de_slice (dv 0) (do_some (de_op od_plus (dv 3) de_int)) do_none)))))))))), fun ds Q h => ?_⟩
  obtain ⟨kd, ns, ws, c, rfl, sh, c0, q⟩ := h
  repeat (first | dsimp only [wordsD] | walk_at "rs1" | set_option simprocs false in simp only [ixk0, ixk1, ixk2, ixk3, ixk4, ex_at])
  have sz : sizeLine = 16777216 := sizeLine_eq
  have hl := shape_len sh
  have ln := nums_le kd
  have hG := (shape_G sh).2
  have fr := shape_free sh
  obtain ⟨i, ei, i1, i2⟩ : ∃ i : Nat, 1 + c / 6 % ((ws.length : Int) - 1) = (i : Int) ∧ 1 ≤ i ∧ i < ws.length := by
    have m0 := Int.emod_nonneg (c / 6) (show (ws.length : Int) - 1 ≠ 0 by omega)
    have m1 := Int.emod_lt_of_pos (c / 6) (show 0 < (ws.length : Int) - 1 by omega)
    exact ⟨(1 + c / 6 % ((ws.length : Int) - 1)).toNat, by omega, by omega, by omega⟩
  simp only [List.length_map, ei]
  obtain ⟨w, ew⟩ : ∃ w, ws[i]? = some w := ⟨_, List.getElem?_eq_getElem i2⟩
  obtain ⟨n, sn, rfl⟩ := tail_num sh i1 ew
  have l1 := cut_len (ws.map D.str) none (some (i : Int))
  have l2 := cut_len (ws.map D.str) (some ((i : Int) + 1)) none
  have l3 := cut_len (ws.map D.str) (some 1) none
  rw [List.length_map] at l1 l2 l3
  have wne : ws.map D.str ≠ [] := fun z => by have := congrArg List.length z; rw [List.length_map, List.length_nil] at this; omega
  have wn : ws ≠ [] := fun z => wne (by rw [z]; rfl)
  have e0 : ∀ w ∈ [Str.ofString ""], 32 ∉ codes w := by decide +kernel
  have e1 : ∀ w ∈ [Str.ofString ""], w.length ≤ 11 ∧ RowC w := by decide +kernel
  refine ⟨⟨by decide, by decide⟩, by decide, fun _ => ?_, fun _ => ⟨by decide, fun _ => ⟨by decide, pick_some (by omega) (show c / 6 % 3 < 3 by omega) fun d hd => ⟨by omega, ?_⟩⟩, fun _ => ⟨by decide, fun _ => ?_, fun _ => ⟨by decide, fun _ => ⟨by omega, by omega, by decide, pick_some (by omega) (show c / 6 % 4 < 4 by omega) fun d hd => ?_⟩, fun _ => ⟨by omega, .str (num n), atI_of ew, ⟨by decide, by decide⟩, n, _, rfl, sn, by omega, fun x h1 h2 h3 => ⟨by omega, ?_, ?_⟩⟩⟩⟩⟩⟩
  · rw [cut_last _ wne, ← List.map_dropLast]
    exact q _ true (nf_drop sh)
  · obtain ⟨x, rfl, fx, gx⟩ : ∃ x : Str, d = .str x ∧ 32 ∉ codes x ∧ (x.length ≤ 11 ∧ RowC x) := by
      simp only [List.mem_cons, List.not_mem_nil, or_false] at hd
      rcases hd with rfl | rfl | rfl <;> exact ⟨_, rfl, by decide +kernel, by decide +kernel, by decide +kernel⟩
    have h := q (ws ++ [x]) true (nf_free (by simp) (fun w hw => ?_) (by rw [List.length_append, List.length_singleton]; omega) (roww_of (by rw [List.length_append, List.length_singleton]; omega) fun w hw => ?_))
    · unfold wordsD at h
      rw [List.map_append] at h
      exact h
    · rcases List.mem_append.mp hw with h | h
      · exact fr w h
      · rw [List.mem_singleton] at h; rw [h]; exact fx
    · rcases List.mem_append.mp hw with h | h
      · exact hG w h
      · rw [List.mem_singleton] at h; rw [h]; exact gx
  · obtain ⟨k, r, rfl⟩ : ∃ k r, ws = k :: r := by
      cases ws with
      | nil => exact absurd rfl wn
      | cons k r => exact ⟨k, r, rfl⟩
    refine ⟨.str k, atI_of (k := 0) rfl, kd, k, _, rfl, shape_head sh, by omega, fun x h1 h2 h3 => ⟨by omega, ?_⟩⟩
    rw [show cutL (List.map D.str (k :: r)) (some 1) none = r.map D.str from cutL1 _ _]
    exact q (x :: r) true (nf_first sh h1 h2 h3)
  · obtain ⟨ws', rfl, f', g', hl', ne'⟩ : ∃ ws' : List Str, d = wordsD ws' ∧ (∀ w ∈ ws', 32 ∉ codes w) ∧ (∀ w ∈ ws', w.length ≤ 11 ∧ RowC w) ∧ (ws'.length ≤ 8 ∧ ws'.length ≠ numsOf kd + 1) ∧ ws' ≠ [] := by
      simp only [List.mem_cons, List.not_mem_nil, or_false] at hd
      rcases hd with rfl | rfl | rfl | rfl
      · exact ⟨[Str.ofString ""], rfl, e0, e1, ⟨by decide, by show 1 ≠ _; omega⟩, by simp⟩
      · refine ⟨Str.ofString "" :: ws, rfl, fun w hw => ?_, fun w hw => ?_, ⟨by rw [List.length_cons]; omega, by rw [List.length_cons]; omega⟩, by simp⟩
        · rcases List.mem_cons.mp hw with rfl | h
          · decide +kernel
          · exact fr w h
        · rcases List.mem_cons.mp hw with rfl | h
          · exact ⟨by decide +kernel, by decide +kernel⟩
          · exact hG w h
      · refine ⟨ws.take 1, ?_, fun w hw => fr w (List.mem_of_mem_take hw), fun w hw => hG w (List.mem_of_mem_take hw), ?_, ?_⟩
        · rw [show cutL (List.map D.str ws) none (some 1) = _ from cut_to _ 1]
          unfold wordsD
          rw [List.map_take]
        · rw [List.length_take]; omega
        · intro z
          have := congrArg List.length z
          rw [List.length_take, List.length_nil] at this
          omega
      · refine ⟨ws ++ ws, ?_, fun w hw => (List.mem_append.mp hw).elim (fr w) (fr w), fun w hw => (List.mem_append.mp hw).elim (hG w) (hG w), ⟨by rw [List.length_append]; omega, by rw [List.length_append]; omega⟩, fun z => wn (List.append_eq_nil_iff.mp z).1⟩
        unfold wordsD
        rw [List.map_append]
    exact q ws' false (nf_free ne' f' hl'.2 (roww_of hl'.1 g'))
  · rw [List.length_append]
    show _ + 1 + _ ≤ _
    omega
  · rw [cut_set i2]
    exact q _ true (nf_num sh i1 i2 h1 h2 h3)
def r_law_beyond : DR := fun ds Q => ∃ (kd : Option Bool) (ns : List Int) (ws : List Str) (c : Int), ds = [wordsD ws, .int c] ∧ Shape kd ns ws ∧ 0 ≤ c ∧ ∀ ns' ws', Shape kd ns' ws' → measO kd ns' = some 1 → Q (.o (wordsD ws'))
theorem ok_law_beyond (T : Blt mg) (F : Fun K "_law_beyond" "_law_beyond" s_law_beyond f fd) : FnOk P w K mg base CX0 1 f fd ["words", "cell"] (spD K r_law_beyond) := by
  refine okD F sc_law_beyond (fun ds Q h => by obtain ⟨kd, ns, ws, c, rfl, sh, c0, q⟩ := h; rfl) fun cdv A outer s H E hr => ⟨_, (dss_cons (ds_setP (i := 2) sc_law_beyond.nd rfl (Or.inl rfl) (de_op od_fdiv (dv 1) de_int))
      (dss_cons (ds_if (dt_cmp od_eq (de_ix (dv 0) de_int) de_str (nomark _)) (dss_one (ds_ret (de_lst (da_cons de_str (da_cons (de_callTy cd_str (by rfl) T.b_str PyProof.Rows.boot_str (da_cons (de_ix (de_lst (da_cons de_int (da_cons (de_op od_plus de_int (de_op od_mod (dv 2) (de_op od_sub (de_op od_pow de_int de_int) de_int))) da_nil))) (de_op od_mod (dv 1) de_int)) da_nil)) da_nil))))) dss_nil)
      (dss_cons (ds_if (dt_cmp od_lt (de_op od_mod (dv 1) de_int) de_int (nomark _)) (dss_cons (ds_setP (i := 3) sc_law_beyond.nd rfl (Or.inl rfl) (de_op od_plus de_int (de_op od_mod (dv 1) de_int)))
      (dss_one (ds_ret (de_op od_plus (de_op od_plus (de_slice (dv 0) do_none (do_some (dv 3))) (de_lst (da_cons (de_callTy cd_str (by rfl) T.b_str PyProof.Rows.boot_str (da_cons (de_ix (de_lst (da_cons de_int (da_cons (de_op od_plus de_int (de_op od_mod (dv 2) (de_op od_sub (de_op od_pow de_int de_int) de_int))) da_nil))) (de_op od_mod (de_op od_fdiv (dv 1) de_int) de_int)) da_nil)) da_nil))) (de_slice (dv 0) (do_some (de_op od_plus (dv 3) de_int)) do_none))))) dss_nil)
      (dss_one (ds_ret (de_op od_plus (de_slice (dv 0) do_none (do_some de_int)) (de_lst (da_cons (de_callTy cd_str (by rfl) T.b_str PyProof.Rows.boot_str (da_cons (de_ix (de_lst (da_cons de_int (da_cons (de_op od_plus (de_op od_pow de_int de_int) de_int) (da_cons (de_op od_plus (de_op od_plus (de_op od_pow de_int de_int) de_int) (de_op od_mod (dv 2) (de_op od_sub (de_op od_times de_int (de_op od_pow de_int de_int)) de_int))) da_nil)))) (de_op od_mod (de_op od_fdiv (dv 1) de_int) de_int)) da_nil)) da_nil)))))))), fun ds Q h => ?_⟩
  obtain ⟨kd, ns, ws, c, rfl, sh, c0, q⟩ := h
  obtain ⟨hn, sh⟩ := sh
  have e9 : (10 : Int) ^ Int.toNat 9 = 1000000000 := by decide
  have e10 : (10 : Int) ^ Int.toNat 10 = 10000000000 := by decide
  have cp9 : CPow 10 9 := ⟨by decide, by decide, by decide⟩
  have cp10 : CPow 10 10 := ⟨by decide, by decide, by decide⟩
  cases kd with
  | none =>
    obtain ⟨hl, rfl⟩ := sh
    obtain ⟨n, rfl⟩ := List.length_eq_one_iff.mp hl
    repeat (first | dsimp only [wordsD] | walk_at "rs1" | set_option simprocs false in simp only [ixk0, ixk1, ixk2, ixk3, ixk4, ex_at])
    simp only [e9, e10]
    refine ⟨⟨by decide, by decide⟩, fun _ => ⟨cp10, by decide, by decide, pick_some (by omega) (show c % 2 < 2 by omega) fun d hd => ?_⟩, fun z => absurd rfl (of_decide_eq_false z)⟩
    obtain ⟨v, rfl, v1, v2⟩ : ∃ v : Int, d = .int v ∧ 50 < v ∧ v < 10 ^ 10 := by
      simp only [List.mem_cons, List.not_mem_nil, or_false] at hd
      rcases hd with rfl | rfl
      · exact ⟨_, rfl, by decide, by decide⟩
      · exact ⟨_, rfl, by omega, by omega⟩
    have sm : Sm v := ⟨by omega, v2⟩
    refine ⟨num_log sm.1 sm.2, q _ _ (shape1 sm) ?_⟩
    rw [measO_gap, if_pos v1]
  | some hot =>
    obtain ⟨hl, rfl⟩ := sh
    obtain ⟨x, y, z, rfl⟩ := three hl
    repeat (first | dsimp only [wordsD] | walk_at "rs1" | set_option simprocs false in simp only [ixk0, ixk1, ixk2, ixk3, ixk4, ex_at])
    simp only [e9, e10]
    have sx := hn x (by simp)
    have sy := hn y (by simp)
    have sz := hn z (by simp)
    refine ⟨⟨by decide, by decide⟩, fun w => absurd (of_decide_eq_true w) gapne, fun _ => ⟨by decide, fun _ => ⟨by decide, cp10, by decide, ⟨by decide, by decide⟩, by decide, pick_some (by omega) (show c / 4 % 2 < 2 by omega) fun d hd => ?_⟩, fun _ => ⟨cp9, cp9, cp9, mulL (by decide), by decide, ⟨by decide, by decide⟩, by decide, pick_some (by omega) (show c / 4 % 3 < 3 by omega) fun d hd => ?_⟩⟩⟩
    · obtain ⟨v, rfl, v1, v2⟩ : ∃ v : Int, d = .int v ∧ 200 < v ∧ v < 10 ^ 10 := by
        simp only [List.mem_cons, List.not_mem_nil, or_false] at hd
        rcases hd with rfl | rfl
        · exact ⟨_, rfl, by decide, by decide⟩
        · exact ⟨_, rfl, by omega, by omega⟩
      have sm : Sm v := ⟨by omega, v2⟩
      have h2 : c % 2 = 0 ∨ c % 2 = 1 := by omega
      rcases h2 with e | e
      · rw [e]
        refine ⟨num_log sm.1 sm.2, small_len (Nat.le_of_ble_eq_true rfl), small_len (Nat.le_of_ble_eq_true rfl), q _ _ (shape3 sm sy sz) ?_⟩
        rw [measO_str, if_pos (by omega)]
      · rw [e]
        refine ⟨num_log sm.1 sm.2, small_len (Nat.le_of_ble_eq_true rfl), small_len (Nat.le_of_ble_eq_true rfl), q _ _ (shape3 sx sm sz) ?_⟩
        rw [measO_str, if_pos (by omega)]
    · obtain ⟨v, rfl, v1, v2⟩ : ∃ v : Int, d = .int v ∧ (v < 1 ∨ 1000000000 < v) ∧ Sm v := by
        simp only [List.mem_cons, List.not_mem_nil, or_false] at hd
        rcases hd with rfl | rfl | rfl
        · exact ⟨_, rfl, by decide, sm_lit 0 (by decide)⟩
        · exact ⟨_, rfl, by decide, sm_lit 1000000001 (by decide)⟩
        · exact ⟨_, rfl, by omega, by omega, by omega⟩
      refine ⟨num_log v2.1 v2.2, small_len (Nat.le_of_ble_eq_true rfl), q _ _ (shape3 sx sy v2) ?_⟩
      rw [measO_str, if_pos (by omega)]
theorem form_at {g : Int} {hs ks : List S3} (W : WksG g hs ks) {i : Nat} (h1 : 1 ≤ i) (hi : i ≤ 1 + hs.length + ks.length) {ws : List Str} (hb : ∀ cs hs ks next Z, Z (clsOf cs 0) → wordsO cs ((Txt.split (rowT ws) sp).headD Str.empty) (Txt.split (rowT ws) sp).tail hs ks next Z) (hW : RowW ws) {tl : List (List Str)} (ht : ∀ r ∈ tl, RowW r) (hl : tl.length ≤ 200) : Told ((rowsW g hs ks).take i ++ ws :: tl) 0 := by
  by_cases hlt : i < 1 + hs.length + ks.length
  · have sp : Spo (kdAt hs i) ws 0 := .inl ⟨rfl, fun cs => by
      unfold kdAt
      rw [if_neg (by omega)]
      split <;> exact fun hs ks next Z _ z => hb cs hs ks next Z z, hW⟩
    exact told_at W hlt sp ht hl
  · refine ⟨by decide, fun cs Q Z z => ?_⟩
    have rl := rows_len g hs ks
    have nh := W.nh
    have nk := W.nk
    rw [List.take_of_length_le (by omega)]
    unfold textW
    rw [List.map_append, List.map_cons]
    have hP : ∀ r ∈ (rowsW g hs ks).map rowT, RowG r := fun r hr => by
      obtain ⟨w, hw, rfl⟩ := List.mem_map.mp hr
      exact rows_G W w hw
    have lP : ((rowsW g hs ks).map rowT).length ≤ 25 := by rw [List.length_map, rows_len]; omega
    unfold rowsW at hP lP ⊢
    rw [List.map_cons] at hP lP ⊢
    rw [List.length_cons] at lP
    rw [List.cons_append]
    refine read_rows (fun r hr => ?_) ?_ (good_gap W.g0 W.g1 ?_)
    · rw [← List.cons_append] at hr
      rcases List.mem_append.mp hr with h | h
      · exact hP r h
      · rcases List.mem_cons.mp h with rfl | h
        · exact hW.row
        · obtain ⟨x, hx, rfl⟩ := List.mem_map.mp h
          exact (ht x hx).row
    · rw [List.length_append, List.length_cons, List.length_map (as := tl)]
      omega
    rw [List.map_append, List.map_map, List.map_map, List.append_assoc]
    refine rows_hot (xs := hs) (hs := []) W.oh (by rw [List.length_nil]; omega) ?_
    rw [List.nil_append]
    refine rows_cold (xs := ks) (ks := []) W.ok (by rw [List.length_nil]; omega) ?_
    rw [List.nil_append]
    exact hb cs _ _ _ Z z
theorem hb_of {ws fw : List Str} (e : Txt.split (rowT ws) sp = fw) (h : fw.tail.length ≠ 3) : ∀ cs hs ks next Z, Z (clsOf cs 0) → wordsO cs ((Txt.split (rowT ws) sp).headD Str.empty) (Txt.split (rowT ws) sp).tail hs ks next Z := fun cs hs ks next Z z => by
  rw [e]
  unfold wordsO
  rw [if_neg (fun y => h (by have := y.1; omega))]
  exact z
theorem first_bad {ws : List Str} {fw : List Str} (e : Txt.split (rowT ws) sp = fw) (h : fw.tail.length ≠ 1) (hW : RowW ws) {tl : List (List Str)} (ht : ∀ r ∈ tl, RowW r) (hl : tl.length ≤ 200) : Told (ws :: tl) 0 := by
  refine ⟨by decide, fun cs Q Z z => ?_⟩
  unfold textW
  rw [List.map_cons]
  refine read_rows (fun r hr => ?_) (by rw [List.length_map]; omega) ?_
  · rcases List.mem_cons.mp hr with rfl | hr
    · exact hW.row
    · obtain ⟨x, hx, rfl⟩ := List.mem_map.mp hr
      exact (ht x hx).row
  · rw [e]
    unfold gapO
    rw [if_neg (fun y => h (by have := y.1; omega))]
    exact z
def r_law_out_of_place : DR := fun ds Q => ∃ (g : Int) (hs ks : List S3) (c : Int), ds = [rowsD (rowsW g hs ks), .int c] ∧ WksG g hs ks ∧ 0 ≤ c ∧ ∀ R, Told R 0 → RowsW R → Q (.o (rowsD R))
theorem cutT {t1 u : DTS} {E : DEnds} {ρ : DEnv} (C : DEnv → Prop) (tail : ∀ ρ, C ρ → u E ρ) (head : ∀ N : DEnv → Prop, (∀ ρ, C ρ → N ρ) → t1 { E with nx := N } ρ) : dSeq t1 u E ρ := head _ tail
theorem ins_eq {R : List (List Str)} {i : Nat} {ws : List Str} : cutL (R.map wordsD) none (some (i : Int)) ++ [wordsD ws] ++ cutL (R.map wordsD) (some (i : Int)) none = (R.take i ++ ws :: R.drop i).map wordsD := by
  rw [cut_to, cut_from, List.map_append, List.map_cons, List.map_take, List.map_drop, List.append_assoc]
  rfl
theorem take_rows {g : Int} {hs ks : List S3} {n : Nat} : (rowsW g hs ks).take (1 + hs.length + n) = rowsW g hs (ks.take n) := by
  unfold rowsW
  rw [show 1 + hs.length + n = (hs.length + n) + 1 by omega, List.take_succ_cons, List.take_append, List.take_of_length_le (by rw [List.length_map]; omega), List.length_map, show hs.length + n - hs.length = n by omega, List.map_take]
theorem rows_ins {g : Int} {hs ks : List S3} (W : WksG g hs ks) {i : Nat} {ws : List Str} (hW : RowW ws) : RowsW ((rowsW g hs ks).take i ++ ws :: (rowsW g hs ks).drop i) := by
  have nh := W.nh
  have nk := W.nk
  refine ⟨fun r hr => ?_, ?_⟩
  · rcases List.mem_append.mp hr with h | h
    · exact rows_W W r (List.mem_of_mem_take h)
    · rcases List.mem_cons.mp h with rfl | h
      · exact hW
      · exact rows_W W r (List.mem_of_mem_drop h)
  · rw [List.length_append, List.length_cons, List.length_take, List.length_drop, rows_len]
    omega
theorem row90 : RowW (rowW hotW (90, 30, 4)) := shape_W (good_shape (hot := true) good90)
theorem row30 : RowW (rowW coldW (30, 90, 4)) := shape_W (good_shape (hot := false) good30)
theorem ok_law_out_of_place (T : Blt mg) (F : Fun K "_law_out_of_place" "_law_out_of_place" s_law_out_of_place f fd) : FnOk P w K mg base CX0 1 f fd ["rows", "cell"] (spD K r_law_out_of_place) := by
  refine okD F sc_law_out_of_place (fun ds Q h => by obtain ⟨g, hs, ks, c, rfl, W, c0, q⟩ := h; rfl) fun cdv A outer s H E hr => ⟨_, (dss_cons (ds_setP (i := 2) sc_law_out_of_place.nd rfl (Or.inl rfl) (de_op od_fdiv (dv 1) de_int))
      (dss_cons (ds_setLCP (i := 3) sc_law_out_of_place.nd rfl (Or.inl rfl) (g := (.n 0)) (tc := (dTst (dOp _ (dOp dIx (dVar 0) (dC _)) (dC _)))) (te := (dVar 0)) (sc0 := defScope s_law_out_of_place) (N0 := ["rows", "cell", "far", "hots", "colds", "at"]) ["row"] [none] rfl (di_list (dv 0)) (fun _ _ _ _ _ => (pg_name (i := 0) (show (["row"] : List Str).Nodup by decide +kernel) rfl (Or.inl rfl))) (fun _ _ _ _ _ => (difs_one (dt_cmp od_eq (de_ix (dv 0) de_int) de_str (nomark _)))) (fun _ _ _ _ _ => (dv 0)))
      (dss_cons (ds_setLCP (i := 4) sc_law_out_of_place.nd rfl (Or.inl rfl) (g := (.n 0)) (tc := (dTst (dOp _ (dOp dIx (dVar 0) (dC _)) (dC _)))) (te := (dVar 0)) (sc0 := defScope s_law_out_of_place) (N0 := ["rows", "cell", "far", "hots", "colds", "at"]) ["row"] [none] rfl (di_list (dv 0)) (fun _ _ _ _ _ => (pg_name (i := 0) (show (["row"] : List Str).Nodup by decide +kernel) rfl (Or.inl rfl))) (fun _ _ _ _ _ => (difs_one (dt_cmp od_eq (de_ix (dv 0) de_int) de_str (nomark _)))) (fun _ _ _ _ _ => (dv 0)))
      (dss_cons (ds_if (dw_and (dt_cmp od_eq (de_op od_mod (dv 1) de_int) de_int (nomark _)) (dw_and1 (dt_cmp (od_neD hr) (dv 4) (de_lst da_nil) (nomark _)))).dt (dss_cons (ds_setP (i := 5) sc_law_out_of_place.nd rfl (Or.inl rfl) (de_op od_plus (de_op od_plus de_int (de_callB cd_len (by rfl) T.b_len PySem.boot_len (da_cons (dv 3) da_nil))) (de_op od_mod (dv 2) (de_callB cd_len (by rfl) T.b_len PySem.boot_len (da_cons (dv 4) da_nil)))))
      (dss_one (ds_ret (de_op od_plus (de_op od_plus (de_slice (dv 0) do_none (do_some (dv 5))) (de_lst (da_cons (de_lst (da_cons de_str (da_cons de_str (da_cons de_str (da_cons de_str da_nil))))) da_nil))) (de_slice (dv 0) (do_some (dv 5)) do_none))))) dss_nil)
      (dss_cons (ds_if (dt_cmp od_eq (de_op od_mod (dv 1) de_int) de_int (nomark _)) (dss_one (ds_ret (de_op od_plus (de_op od_plus (de_op od_plus (de_slice (dv 0) do_none (do_some de_int)) (dv 3)) (de_op od_times (de_lst (da_cons (de_lst (da_cons de_str (da_cons de_str (da_cons de_str (da_cons de_str da_nil))))) da_nil)) (de_op od_plus (de_op od_sub de_int (de_callB cd_len (by rfl) T.b_len PySem.boot_len (da_cons (dv 3) da_nil))) (de_op od_mod (dv 2) de_int)))) (dv 4)))) dss_nil)
      (dss_cons (ds_if (dt_cmp od_eq (de_op od_mod (dv 1) de_int) de_int (nomark _)) (dss_one (ds_ret (de_op od_plus (dv 0) (de_op od_times (de_lst (da_cons (de_lst (da_cons de_str (da_cons de_str (da_cons de_str (da_cons de_str da_nil))))) da_nil)) (de_op od_plus (de_op od_sub de_int (de_callB cd_len (by rfl) T.b_len PySem.boot_len (da_cons (dv 4) da_nil))) (de_op od_mod (dv 2) de_int)))))) dss_nil)
      (dss_cons (ds_if (dt_cmp od_eq (de_op od_mod (dv 1) de_int) de_int (nomark _)) (dss_cons (ds_setP (i := 5) sc_law_out_of_place.nd rfl (Or.inl rfl) (de_op od_plus de_int (de_op od_mod (dv 2) (de_callB cd_len (by rfl) T.b_len PySem.boot_len (da_cons (dv 0) da_nil)))))
      (dss_one (ds_ret (de_op od_plus (de_op od_plus (de_slice (dv 0) do_none (do_some (dv 5))) (de_lst (da_cons (de_lst (da_cons de_str (da_cons de_str da_nil))) da_nil))) (de_slice (dv 0) (do_some (dv 5)) do_none))))) dss_nil)
      (dss_cons (ds_if (dw_and (dt_cmp od_eq (de_op od_mod (dv 1) de_int) de_int (nomark _)) (dw_and1 (dt_cmp od_gt (de_callB cd_len (by rfl) T.b_len PySem.boot_len (da_cons (dv 0) da_nil)) de_int (nomark _)))).dt (dss_one (ds_ret (de_slice (dv 0) (do_some de_int) do_none))) dss_nil)
      (dss_cons (ds_setP (i := 5) sc_law_out_of_place.nd rfl (Or.inl rfl) (de_op od_mod (dv 2) (de_op od_plus (de_callB cd_len (by rfl) T.b_len PySem.boot_len (da_cons (dv 0) da_nil)) de_int)))
      (dss_one (ds_ret (de_op od_plus (de_op od_plus (de_slice (dv 0) do_none (do_some (dv 5))) (de_lst (da_cons (de_lst (da_cons de_str da_nil)) da_nil))) (de_slice (dv 0) (do_some (dv 5)) do_none))))))))))))), fun ds Q h => ?_⟩
  obtain ⟨g, hs, ks, c, rfl, W, c0, q⟩ := h
  have sz : sizeLine = 16777216 := sizeLine_eq
  have nh := W.nh
  have nk := W.nk
  have rl := rows_len g hs ks
  have rW := rows_W W
  refine cutT (fun ρ => ρ = [some (B.p (rowsD (rowsW g hs ks))), some (B.p (D.int c)), some (B.p (D.int (c / 6))), none, none, none]) ?_ fun N hN => ?_
  rotate_left
  · repeat (first | walk_at "rs1" | set_option simprocs false in simp only [ixk0, ixk1, ixk2, ixk3, ixk4, ex_at])
    exact ⟨⟨by decide, by decide⟩, hN _ rfl⟩
  rintro ρ rfl
  refine cutT (fun ρ => ρ = [some (B.p (rowsD (rowsW g hs ks))), some (B.p (D.int c)), some (B.p (D.int (c / 6))), some (B.p (D.lst ((hs.map (rowW hotW)).map wordsD))), none, none]) ?_ fun N hN => ?_
  rotate_left
  · repeat (first | dsimp only [rowsD] | walk_at "rs1" | set_option simprocs false in simp only [ixk0, ixk1, ixk2, ixk3, ixk4, ex_at])
    refine lc_pick (by omega) ?_
    rw [show (rowsW g hs ks).filterMap (pickW (Str.ofString "hot")) = _ from pick_hot g hs ks]
    exact hN _ rfl
  rintro ρ rfl
  refine cutT (fun ρ => ρ = [some (B.p (rowsD (rowsW g hs ks))), some (B.p (D.int c)), some (B.p (D.int (c / 6))), some (B.p (D.lst ((hs.map (rowW hotW)).map wordsD))), some (B.p (D.lst ((ks.map (rowW coldW)).map wordsD))), none]) ?_ fun N hN => ?_
  rotate_left
  · repeat (first | dsimp only [rowsD] | walk_at "rs1" | set_option simprocs false in simp only [ixk0, ixk1, ixk2, ixk3, ixk4, ex_at])
    refine lc_pick (by omega) ?_
    rw [show (rowsW g hs ks).filterMap (pickW (Str.ofString "cold")) = _ from pick_cold g hs ks]
    exact hN _ rfl
  rintro ρ rfl
  refine cutT (fun ρ => ρ = [some (B.p (rowsD (rowsW g hs ks))), some (B.p (D.int c)), some (B.p (D.int (c / 6))), some (B.p (D.lst ((hs.map (rowW hotW)).map wordsD))), some (B.p (D.lst ((ks.map (rowW coldW)).map wordsD))), none]) ?_ fun N hN => ?_
  rotate_left
  · repeat (first | dsimp only [rowsD] | walk_at "rs1" | set_option simprocs false in simp only [ixk0, ixk1, ixk2, ixk3, ixk4, ex_at])
    simp only [t90, t30, t4, List.length_map]
    refine ⟨by decide, fun _ => ⟨⟨nos_rows (ks.map (rowW coldW)), by decide +kernel, ?_⟩, ?_⟩, fun _ => ⟨fun z => (by cases z), fun _ => hN _ rfl⟩⟩
    · have := dep_rows (ks.map (rowW coldW))
      unfold rowsD at this
      omega
    · by_cases hk : ks = []
      · subst hk
        rw [show peq (D.lst (List.map wordsD (List.map (rowW coldW) []))) (D.lst []) = true from peq_refl _ (by decide +kernel)]
        exact ⟨fun z => (nomatch (show false = true from z)), fun _ => hN _ rfl⟩
      · have hp : peq (D.lst (List.map wordsD (List.map (rowW coldW) ks))) (D.lst []) = false := by
          cases ks with
          | nil => exact absurd rfl hk
          | cons x r => rfl
        have kl : 0 < ks.length := List.length_pos_iff.mpr hk
        rw [hp]
        refine ⟨fun _ => ?_, fun z => (nomatch (show true = false from z))⟩
        have m0 := Int.emod_nonneg (c / 6) (show (ks.length : Int) ≠ 0 by omega)
        have m1 := Int.emod_lt_of_pos (c / 6) (show 0 < (ks.length : Int) by omega)
        obtain ⟨m, em⟩ : ∃ m : Nat, c / 6 % (ks.length : Int) = m := Int.eq_ofNat_of_zero_le m0
        rw [em] at m1 ⊢
        rw [show (2 : Int) + (hs.length : Int) + (m : Int) = ((1 + hs.length + (m + 1) : Nat) : Int) by omega]
        have l1 := cut_len (List.map wordsD (rowsW g hs ks)) none (some ((1 + hs.length + (m + 1) : Nat) : Int))
        have l2 := cut_len (List.map wordsD (rowsW g hs ks)) (some ((1 + hs.length + (m + 1) : Nat) : Int)) none
        rw [List.length_map] at l1 l2
        refine ⟨by omega, by omega, by rw [List.length_append]; show _ + 1 + _ ≤ _; omega, ?_⟩
        have W' : WksG g hs (ks.take (m + 1)) := ⟨W.g0, W.g1, nh, by rw [List.length_take]; omega, W.oh, fun x hx => W.ok x (List.mem_of_mem_take hx)⟩
        have h := q ((rowsW g hs ks).take (1 + hs.length + (m + 1)) ++ rowW hotW (90, 30, 4) :: (rowsW g hs ks).drop (1 + hs.length + (m + 1))) (by rw [take_rows]; exact told_out W' (good_shape (hot := true) good90) (.inl (by rw [List.length_take]; omega)) (fun r hr => rW r (List.mem_of_mem_drop hr)) (by rw [List.length_drop]; omega)) (rows_ins W row90)
        unfold rowsD at h
        rw [← ins_eq] at h
        exact h
  rintro ρ rfl
  refine cutT (fun ρ => ρ = [some (B.p (rowsD (rowsW g hs ks))), some (B.p (D.int c)), some (B.p (D.int (c / 6))), some (B.p (D.lst ((hs.map (rowW hotW)).map wordsD))), some (B.p (D.lst ((ks.map (rowW coldW)).map wordsD))), none]) ?_ fun N hN => ?_
  rotate_left
  · repeat (first | dsimp only [rowsD, dMul] | walk_at "rs1" | set_option simprocs false in simp only [ixk0, ixk1, ixk2, ixk3, ixk4, ex_at])
    simp only [t90, t30, t4, List.length_map, List.flatten_replicate_singleton, List.length_replicate]
    refine ⟨by decide, fun _ => ?_, fun _ => hN _ rfl⟩
    obtain ⟨f, ef⟩ : ∃ f : Nat, c / 6 % 100 = f := Int.eq_ofNat_of_zero_le (by omega)
    have hf : f < 100 := by omega
    have th : (13 - (hs.length : Int) + c / 6 % 100).toNat = 13 - hs.length + f := by omega
    rw [th]
    have l1 := cut_len (List.map wordsD (rowsW g hs ks)) none (some 1)
    rw [List.length_map] at l1
    refine ⟨by omega, by decide, ⟨by omega, by omega⟩, by omega, by rw [List.length_append, List.length_map, List.length_map]; omega, by rw [List.length_append, List.length_append, List.length_map, List.length_map, List.length_replicate]; omega, ?_⟩
    have h := q (rowsW g (hs ++ List.replicate (12 - hs.length) (90, 30, 4)) [] ++ rowW hotW (90, 30, 4) :: (List.replicate f (rowW hotW (90, 30, 4)) ++ ks.map (rowW coldW)))
      (told_out (wks_hot W).1 (good_shape (hot := true) good90) (.inr (wks_hot W).2) (fun r hr => ?_) (by rw [List.length_append, List.length_replicate, List.length_map]; omega)) ⟨fun r hr => ?_, ?_⟩
    · have er : rowsD (rowsW g (hs ++ List.replicate (12 - hs.length) (90, 30, 4)) [] ++ rowW hotW (90, 30, 4) :: (List.replicate f (rowW hotW (90, 30, 4)) ++ ks.map (rowW coldW))) = .lst (cutL (List.map wordsD (rowsW g hs ks)) none (some 1) ++ List.map wordsD (List.map (rowW hotW) hs) ++ List.replicate (13 - hs.length + f) (D.lst [D.str (Str.ofString "hot"), D.str (num 90), D.str (num 30), D.str (num 4)]) ++ List.map wordsD (List.map (rowW coldW) ks)) := by
        rw [show cutL (List.map wordsD (rowsW g hs ks)) none (some 1) = _ from cut_to _ 1, show 13 - hs.length + f = (12 - hs.length) + (1 + f) by omega, ← List.replicate_append_replicate, ← List.replicate_append_replicate]
        unfold rowsD rowsW
        simp only [List.map_nil, List.append_nil, List.map_cons, List.take_succ_cons, List.take_zero, List.map_append, List.map_replicate, List.append_assoc, List.cons_append, List.nil_append]
        rfl
      rw [er] at h
      exact h
    · rcases List.mem_append.mp hr with h | h
      · rw [(List.mem_replicate.mp h).2]; exact row90
      · obtain ⟨x, hx, rfl⟩ := List.mem_map.mp h; exact shape_W (good_shape (W.ok x hx))
    · rcases List.mem_append.mp hr with h | h
      · exact rows_W (wks_hot W).1 r h
      · rcases List.mem_cons.mp h with rfl | h
        · exact row90
        · rcases List.mem_append.mp h with h | h
          · rw [(List.mem_replicate.mp h).2]; exact row90
          · obtain ⟨x, hx, rfl⟩ := List.mem_map.mp h; exact shape_W (good_shape (W.ok x hx))
    · have e := (wks_hot W).2
      rw [List.length_append, List.length_cons, List.length_append, List.length_replicate, List.length_map, rows_len, e, List.length_nil]
      omega
  rintro ρ rfl
  refine cutT (fun ρ => ρ = [some (B.p (rowsD (rowsW g hs ks))), some (B.p (D.int c)), some (B.p (D.int (c / 6))), some (B.p (D.lst ((hs.map (rowW hotW)).map wordsD))), some (B.p (D.lst ((ks.map (rowW coldW)).map wordsD))), none]) ?_ fun N hN => ?_
  rotate_left
  · repeat (first | dsimp only [rowsD, dMul] | walk_at "rs1" | set_option simprocs false in simp only [ixk0, ixk1, ixk2, ixk3, ixk4, ex_at])
    simp only [t90, t30, t4, List.length_map, List.flatten_replicate_singleton, List.length_replicate]
    refine ⟨by decide, fun _ => ?_, fun _ => hN _ rfl⟩
    obtain ⟨f, ef⟩ : ∃ f : Nat, c / 6 % 100 = f := Int.eq_ofNat_of_zero_le (by omega)
    have hf : f < 100 := by omega
    have th : (13 - (ks.length : Int) + c / 6 % 100).toNat = 13 - ks.length + f := by omega
    rw [th]
    refine ⟨by decide, ⟨by omega, by omega⟩, by omega, by omega, ?_⟩
    have h := q (rowsW g hs (ks ++ List.replicate (12 - ks.length) (30, 90, 4)) ++ rowW coldW (30, 90, 4) :: List.replicate f (rowW coldW (30, 90, 4)))
      (told_out (wks_cold W).1 (good_shape (hot := false) good30) (by rw [if_neg (by decide)]; exact (wks_cold W).2) (fun r hr => by rw [(List.mem_replicate.mp hr).2]; exact row30) (by rw [List.length_replicate]; omega)) ⟨fun r hr => ?_, ?_⟩
    · have er : rowsD (rowsW g hs (ks ++ List.replicate (12 - ks.length) (30, 90, 4)) ++ rowW coldW (30, 90, 4) :: List.replicate f (rowW coldW (30, 90, 4))) = .lst (List.map wordsD (rowsW g hs ks) ++ List.replicate (13 - ks.length + f) (D.lst [D.str (Str.ofString "cold"), D.str (num 30), D.str (num 90), D.str (num 4)])) := by
        rw [show 13 - ks.length + f = (12 - ks.length) + (1 + f) by omega, ← List.replicate_append_replicate, ← List.replicate_append_replicate]
        unfold rowsD rowsW
        simp only [List.map_cons, List.map_append, List.map_replicate, List.append_assoc, List.cons_append, List.nil_append]
        rfl
      rw [er] at h
      exact h
    · rcases List.mem_append.mp hr with h | h
      · exact rows_W (wks_cold W).1 r h
      · rcases List.mem_cons.mp h with rfl | h
        · exact row30
        · rw [(List.mem_replicate.mp h).2]; exact row30
    · have e := (wks_cold W).2
      rw [List.length_append, List.length_cons, List.length_replicate, rows_len, e]
      omega
  rintro ρ rfl
  refine cutT (fun ρ => ρ = [some (B.p (rowsD (rowsW g hs ks))), some (B.p (D.int c)), some (B.p (D.int (c / 6))), some (B.p (D.lst ((hs.map (rowW hotW)).map wordsD))), some (B.p (D.lst ((ks.map (rowW coldW)).map wordsD))), none]) ?_ fun N hN => ?_
  rotate_left
  · repeat (first | dsimp only [rowsD] | walk_at "rs1" | set_option simprocs false in simp only [ixk0, ixk1, ixk2, ixk3, ixk4, ex_at])
    simp only [List.length_map]
    refine ⟨by decide, fun _ => ?_, fun _ => hN _ rfl⟩
    have m0 := Int.emod_nonneg (c / 6) (show ((rowsW g hs ks).length : Int) ≠ 0 by omega)
    have m1 := Int.emod_lt_of_pos (c / 6) (show 0 < ((rowsW g hs ks).length : Int) by omega)
    obtain ⟨m, em⟩ : ∃ m : Nat, c / 6 % ((rowsW g hs ks).length : Int) = m := Int.eq_ofNat_of_zero_le m0
    rw [em] at m1 ⊢
    rw [show (1 : Int) + (m : Int) = ((1 + m : Nat) : Int) by omega]
    have l1 := cut_len (List.map wordsD (rowsW g hs ks)) none (some ((1 + m : Nat) : Int))
    have l2 := cut_len (List.map wordsD (rowsW g hs ks)) (some ((1 + m : Nat) : Int)) none
    rw [List.length_map] at l1 l2
    refine ⟨by omega, by omega, by rw [List.length_append]; show _ + 1 + _ ≤ _; omega, ?_⟩
    have g7 : RowW [gapW, Str.ofString "7"] := roww_of (by decide) (by decide +kernel)
    have e7 : Txt.split (rowT [gapW, Str.ofString "7"]) sp = [gapW, Str.ofString "7"] := words_back (by simp) (by decide +kernel)
    have h := q ((rowsW g hs ks).take (1 + m) ++ [gapW, Str.ofString "7"] :: (rowsW g hs ks).drop (1 + m)) (form_at W (by omega) (by omega) (hb_of e7 (by decide)) g7 (fun r hr => rW r (List.mem_of_mem_drop hr)) (by rw [List.length_drop]; omega)) (rows_ins W g7)
    unfold rowsD at h
    rw [← ins_eq] at h
    exact h
  rintro ρ rfl
  refine cutT (fun ρ => ρ = [some (B.p (rowsD (rowsW g hs ks))), some (B.p (D.int c)), some (B.p (D.int (c / 6))), some (B.p (D.lst ((hs.map (rowW hotW)).map wordsD))), some (B.p (D.lst ((ks.map (rowW coldW)).map wordsD))), none]) ?_ fun N hN => ?_
  rotate_left
  · repeat (first | dsimp only [rowsD] | walk_at "rs1" | set_option simprocs false in simp only [ixk0, ixk1, ixk2, ixk3, ixk4, ex_at])
    simp only [List.length_map]
    refine ⟨by decide, fun _ => ⟨fun h1 => ?_, fun _ => hN _ rfl⟩, fun _ => ⟨fun z => (by cases z), fun _ => hN _ rfl⟩⟩
    have h1' := of_decide_eq_true h1
    obtain ⟨w0, e0, ir⟩ := row_at W (i := 1) (by omega)
    have dr : (rowsW g hs ks).drop 1 = w0 :: (rowsW g hs ks).drop 2 := by
      obtain ⟨hl, he⟩ := List.getElem?_eq_some_iff.mp e0
      rw [List.drop_eq_getElem_cons hl, he]
    have ek : ∃ hot, kdAt hs 1 = some hot := by unfold kdAt; rw [if_neg (by decide)]; split <;> exact ⟨_, rfl⟩
    obtain ⟨hot, ek⟩ := ek
    rw [ek] at ir
    obtain ⟨x, gx, rfl⟩ := ir
    have sh := good_shape gx
    have h := q ((rowsW g hs ks).drop 1) (by rw [dr]; exact first_bad (shape_words sh).1 (show (3 : Nat) ≠ 1 by decide) (shape_W sh) (fun r hr => rW r (List.mem_of_mem_drop hr)) (by rw [List.length_drop]; omega)) ⟨fun r hr => rW r (List.mem_of_mem_drop hr), by rw [List.length_drop]; omega⟩
    rw [show cutL (List.map wordsD (rowsW g hs ks)) (some 1) none = _ from cut_from _ 1, ← List.map_drop]
    exact h
  rintro ρ rfl
  repeat (first | dsimp only [rowsD] | walk_at "rs1" | set_option simprocs false in simp only [ixk0, ixk1, ixk2, ixk3, ixk4, ex_at])
  simp only [List.length_map]
  have m0 := Int.emod_nonneg (c / 6) (show ((rowsW g hs ks).length : Int) + 1 ≠ 0 by omega)
  have m1 := Int.emod_lt_of_pos (c / 6) (show 0 < ((rowsW g hs ks).length : Int) + 1 by omega)
  obtain ⟨m, em⟩ : ∃ m : Nat, c / 6 % (((rowsW g hs ks).length : Int) + 1) = m := Int.eq_ofNat_of_zero_le m0
  rw [em] at m1 ⊢
  have l1 := cut_len (List.map wordsD (rowsW g hs ks)) none (some (m : Int))
  have l2 := cut_len (List.map wordsD (rowsW g hs ks)) (some (m : Int)) none
  rw [List.length_map] at l1 l2
  refine ⟨by omega, by omega, by rw [List.length_append]; show _ + 1 + _ ≤ _; omega, ?_⟩
  have ge : RowW [Str.ofString ""] := roww_of (by decide) (by decide +kernel)
  have ee : Txt.split (rowT [Str.ofString ""]) sp = [Str.ofString ""] := words_back (by simp) (by decide +kernel)
  have h := q ((rowsW g hs ks).take m ++ [Str.ofString ""] :: (rowsW g hs ks).drop m) ?_ (rows_ins W ge)
  · unfold rowsD at h
    rw [← ins_eq] at h
    exact h
  · by_cases hm : m = 0
    · subst hm
      rw [List.take_zero, List.nil_append, List.drop_zero]
      exact first_bad ee (by decide) ge rW (by omega)
    · exact form_at W (by omega) (by omega) (hb_of ee (by decide)) ge (fun r hr => rW r (List.mem_of_mem_drop hr)) (by rw [List.length_drop]; omega)
theorem join_sp {ws : List Str} (h : RowW ws) : JoinOk (Str.ofString " ") ws = true := by
  have sz : sizeLine = 16777216 := sizeLine_eq
  have lsp : (Str.ofString " ").length = 1 := by decide +kernel
  unfold JoinOk
  rw [Bool.not_eq_true']
  refine StrLaws.joinFits (B := 20) (fun y hy => (h.2.1 y hy).1) ?_
  have := h.1
  rw [lsp]
  omega
theorem join_lf {R : List (List Str)} (h : RowsW R) : JoinOk (Str.ofString "\n") (R.map rowT) = true := by
  have sz : sizeLine = 16777216 := sizeLine_eq
  have lsp : (Str.ofString "\n").length = 1 := by decide +kernel
  unfold JoinOk
  rw [Bool.not_eq_true']
  refine StrLaws.joinFits (B := 99) (fun y hy => ?_) ?_
  · obtain ⟨ws, hw, rfl⟩ := List.mem_map.mp hy
    exact (h.1 ws hw).row.1
  · have := h.2
    rw [lsp, List.length_map]
    omega
def r_law_text : DR := fun ds Q => ∃ R : List (List Str), ds = [rowsD R] ∧ RowsW R ∧ Q (.p (.str (textW R)))
theorem ok_law_text (T : Blt mg) (F : Fun K "_law_text" "_law_text" s_law_text f fd) : FnOk P w K mg base CX0 1 f fd ["rows"] (spD K r_law_text) := by
  refine okD F sc_law_text (fun ds Q h => by obtain ⟨R, rfl, rW, q⟩ := h; rfl) fun cdv A outer s H E hr => ⟨_, (dss_one (ds_ret (de_strM PySem.F.plainAttrs_str PySem.F.slot_str_join PySem.F.type_str_join md_join de_str (da_cons (de_lc (g := (.n 0)) (tc := dTrue) (te := (dMeth _ (dC _) (dCons (dVar 0) dNil))) (sc0 := defScope s_law_text) (N0 := ["rows"]) ["words"] [none] rfl (di_list (dv 0)) (fun _ _ _ _ _ => (pg_name (i := 0) (show (["words"] : List Str).Nodup by decide +kernel) rfl (Or.inl rfl))) (fun _ _ _ _ _ => difs_nil) (fun _ _ _ _ _ => (de_strM PySem.F.plainAttrs_str PySem.F.slot_str_join PySem.F.type_str_join md_join de_str (da_cons (dv 0) da_nil)))) da_nil)))), fun ds Q h => ?_⟩
  obtain ⟨R, rfl, rW, q⟩ := h
  repeat (first | dsimp only [rowsD] | walk_at "rs1" | set_option simprocs false in simp only [ixk0, ixk1, ixk2, ixk3, ixk4, ex_at])
  refine lc_mapE (xs := R) (e := wordsD) (fun d => match d with | .lst l => .str (rowT (l.filterMap fun x => match x with | .str w => some w | _ => none)) | d => d) (fun ws => .str (rowT ws)) (fun ws _ => ?_) (by have := rW.2; omega) (fun ws hw => ?_) ?_
  · show D.str (rowT ((ws.map D.str).filterMap _)) = _
    rw [List.filterMap_map]
    congr 2
    exact List.filterMap_some
  · repeat (first | dsimp only [wordsD] | walk_at "rs1" | set_option simprocs false in simp only [ixk0, ixk1, ixk2, ixk3, ixk4, ex_at])
    refine ⟨ws, rfl, join_sp (rW.1 ws hw), ?_⟩
    show some (D.str (Str.join (Str.ofString " ") ws)) = some (D.str (Str.join sp ws))
    rw [sp_is]
  · refine ⟨R.map rowT, by rw [List.map_map]; rfl, join_lf rW, ?_⟩
    unfold textW at q
    rw [lf_is]
    exact q
theorem upFrom_mem {n : Nat} {x : D} (h : x ∈ upFrom 0 n) : ∃ k : Nat, k < n ∧ x = .int (k : Int) := by
  obtain ⟨k, hk, rfl⟩ := List.mem_map.mp h
  exact ⟨k, List.mem_range.mp hk, by rw [Int.zero_add]⟩
theorem codes_mk (l : List Nat) : codes ⟨l.toArray⟩ = l := rfl
theorem join_mid {d : Nat} (x : Str) (s : Nat) (y : Str) (S : List Str) : ∀ P : List Str, codes (Str.join ⟨#[d]⟩ (P ++ [x])) ++ s :: codes (Str.join ⟨#[d]⟩ (y :: S)) = codes (Str.join ⟨#[d]⟩ (P ++ ⟨(codes x ++ s :: codes y).toArray⟩ :: S))
  | [] => by
    cases S with
    | nil => rfl
    | cons z S' =>
      show codes x ++ s :: codes (Str.join ⟨#[d]⟩ (y :: z :: S')) = codes (Str.join ⟨#[d]⟩ (⟨(codes x ++ s :: codes y).toArray⟩ :: z :: S'))
      rw [codes_join, codes_join, codes_mk, List.append_assoc]
      rfl
  | p :: P => by
    have ih := join_mid (d := d) x s y S P
    have e1 : Str.join ⟨#[d]⟩ (p :: P ++ [x]) = p ++ ⟨#[d]⟩ ++ Str.join ⟨#[d]⟩ (P ++ [x]) := join_app [p] (P ++ [x]) (by simp) (by simp)
    have e2 : Str.join ⟨#[d]⟩ (p :: P ++ ⟨(codes x ++ s :: codes y).toArray⟩ :: S) = p ++ ⟨#[d]⟩ ++ Str.join ⟨#[d]⟩ (P ++ ⟨(codes x ++ s :: codes y).toArray⟩ :: S) := join_app [p] (P ++ _ :: S) (by simp) (by simp)
    rw [e1, e2, codes_app (p ++ ⟨#[d]⟩), codes_app (p ++ ⟨#[d]⟩), List.append_assoc, ih]
theorem join_sep {d : Nat} (x y : Str) (S P : List Str) : codes (Str.join ⟨#[d]⟩ (P ++ [x])) ++ d :: codes (Str.join ⟨#[d]⟩ (y :: S)) = codes (Str.join ⟨#[d]⟩ (P ++ x :: y :: S)) := by
  have e : P ++ x :: y :: S = (P ++ [x]) ++ (y :: S) := by simp
  rw [e, join_app (P ++ [x]) (y :: S) (by simp) (by simp), codes_app, codes_app, List.append_assoc]
  rfl
theorem split_merge {s : Nat} (hs : s ≠ 32) (a b : Str) : (Txt.split ⟨(codes a ++ s :: codes b).toArray⟩ sp).length + 1 = (Txt.split a sp).length + (Txt.split b sp).length := by
  have na := split_ne a sp
  have nb := split_ne b sp
  have ja := StrLaws.join_split a sp
  have jb := StrLaws.join_split b sp
  have fa := StrLaws.split_free a 32
  have fb := StrLaws.split_free b 32
  obtain ⟨A, u, ea⟩ : ∃ A u, Txt.split a sp = A ++ [u] := ⟨_, _, (List.dropLast_concat_getLast na).symm⟩
  obtain ⟨v, B, eb⟩ : ∃ v B, Txt.split b sp = v :: B := by
    cases e : Txt.split b sp with
    | nil => exact absurd e nb
    | cons v B => exact ⟨v, B, rfl⟩
  have fa' : ∀ p ∈ A ++ [u], 32 ∉ codes p := fun p hp => fa p (by rw [show Txt.split a ⟨#[32]⟩ = _ from ea]; exact hp)
  have fb' : ∀ p ∈ v :: B, 32 ∉ codes p := fun p hp => fb p (by rw [show Txt.split b ⟨#[32]⟩ = _ from eb]; exact hp)
  rw [ea] at ja
  rw [eb] at jb
  have m := join_mid (d := 32) u s v B A
  have hj : (⟨(codes a ++ s :: codes b).toArray⟩ : Str) = Str.join sp (A ++ ⟨(codes u ++ s :: codes v).toArray⟩ :: B) := by
    refine ext_codes ?_
    rw [codes_mk, ← ja, ← jb]
    exact m
  rw [hj, show Txt.split (Str.join sp (A ++ ⟨(codes u ++ s :: codes v).toArray⟩ :: B)) sp = _ from split_join (c := 32) (by simp) (fun p hp => ?_), ea, eb]
  · simp only [List.length_append, List.length_cons, List.length_nil]
    omega
  · rcases List.mem_append.mp hp with h | h
    · exact fa' p (List.mem_append_left _ h)
    · rcases List.mem_cons.mp h with rfl | h
      · intro z
        rw [codes_mk] at z
        rcases List.mem_append.mp z with z | z
        · exact fa' u (by simp) z
        · rcases List.mem_cons.mp z with z | z
          · exact hs z.symm
          · exact fb' v (by simp) z
      · exact fb' p (List.mem_cons_of_mem _ h)
theorem sep_at {x : Nat} (hx : x = 32 ∨ x = 10) {A C : List Nat} : ∀ {R : List Str}, (∀ r ∈ R, 10 ∉ codes r) → R ≠ [] → codes (Str.join lf R) = A ++ x :: C →
    (x = 10 ∧ ∃ P r r2 S, R = P ++ r :: r2 :: S ∧ A = codes (Str.join lf (P ++ [r])) ∧ C = codes (Str.join lf (r2 :: S))) ∨ (x = 32 ∧ ∃ P r S a b, R = P ++ r :: S ∧ codes r = codes a ++ 32 :: codes b ∧ A = codes (Str.join lf (P ++ [a])) ∧ C = codes (Str.join lf (b :: S)))
  | [], _, h, _ => absurd rfl h
  | [r], hr, _, e => by
    have e' : codes r = A ++ x :: C := e
    have h10 : x ≠ 10 := fun z => hr r (by simp) (by rw [e', z]; simp)
    have hx' : x = 32 := hx.resolve_right h10
    subst hx'
    exact .inr ⟨rfl, [], r, [], ⟨A.toArray⟩, ⟨C.toArray⟩, rfl, e', rfl, rfl⟩
  | r :: q :: S, hr, _, e => by
    have e' : codes r ++ 10 :: codes (Str.join lf (q :: S)) = A ++ x :: C := by rw [← e]; exact (codes_join 10 r q S).symm
    rcases List.append_eq_append_iff.mp e' with ⟨A', h1, h2⟩ | ⟨c', h1, h2⟩
    · cases A' with
      | nil =>
        rw [List.append_nil] at h1
        have h3 : 10 = x ∧ codes (Str.join lf (q :: S)) = C := by
          rw [List.nil_append] at h2
          exact ⟨(List.cons.inj h2).1, (List.cons.inj h2).2⟩
        refine .inl ⟨h3.1.symm, [], r, q, S, rfl, ?_, h3.2.symm⟩
        rw [h1]
        rfl
      | cons y A'' =>
        rw [List.cons_append] at h2
        have h3 := List.cons.inj h2
        have ih := sep_at (A := A'') hx (R := q :: S) (fun p hp => hr p (List.mem_cons_of_mem _ hp)) (by simp) h3.2
        have hy : y = 10 := h3.1.symm
        subst hy
        have pre : ∀ (P : List Str) (z : Str), codes r ++ 10 :: codes (Str.join lf (P ++ [z])) = codes (Str.join lf (r :: P ++ [z])) := fun P z => by
          have e1 : Str.join lf (r :: P ++ [z]) = r ++ lf ++ Str.join lf (P ++ [z]) := join_app [r] (P ++ [z]) (by simp) (by simp)
          rw [e1, codes_app, codes_app, List.append_assoc]
          rfl
        rcases ih with ⟨hx10, P, r1, r2, S', e1, e2, e3⟩ | ⟨hx32, P, r1, S', a, b, e1, e2, e3, e4⟩
        · exact .inl ⟨hx10, r :: P, r1, r2, S', by rw [e1]; rfl, by rw [h1, e2, pre], e3⟩
        · exact .inr ⟨hx32, r :: P, r1, S', a, b, by rw [e1]; rfl, e2, by rw [h1, e3, pre], e4⟩
    · cases c' with
      | nil =>
        rw [List.append_nil] at h1
        have h3 : x = 10 ∧ C = codes (Str.join lf (q :: S)) := by
          rw [List.nil_append] at h2
          exact ⟨(List.cons.inj h2).1, (List.cons.inj h2).2⟩
        refine .inl ⟨h3.1, [], r, q, S, rfl, ?_, h3.2⟩
        rw [← h1]
        rfl
      | cons y c'' =>
        rw [List.cons_append] at h2
        have h3 := List.cons.inj h2
        have hy : x = y := h3.1
        subst hy
        have h10 : x ≠ 10 := fun z => hr r (by simp) (by rw [h1, z]; simp)
        have hx' : x = 32 := hx.resolve_right h10
        subst hx'
        refine .inr ⟨rfl, [], r, q :: S, ⟨A.toArray⟩, ⟨c''.toArray⟩, rfl, h1, rfl, ?_⟩
        rw [h3.2]
        exact (codes_join 10 ⟨c''.toArray⟩ q S).symm
theorem kd_next {g : Int} {hs ks : List S3} (W : WksG g hs ks) {i : Nat} {r : Str} (e : ((rowsW g hs ks).map rowT)[i]? = some r) : i < 1 + hs.length + ks.length ∧ (Txt.split r sp).length = numsOf (kdAt hs i) + 1 ∧ r.length ≤ 48 ∧ RowC r := by
  rw [List.getElem?_map] at e
  obtain ⟨ws, e1, rfl⟩ := Option.map_eq_some_iff.mp e
  obtain ⟨hl, _⟩ := List.getElem?_eq_some_iff.mp e1
  rw [rows_len] at hl
  obtain ⟨w0, e2, ir⟩ := row_at W hl
  rw [e1] at e2
  cases e2
  obtain ⟨ns, sh⟩ := ir.shape
  have hG := shape_G sh
  refine ⟨hl, by rw [(shape_words sh).1, shape_len sh], ?_, (shape_W sh).row.2⟩
  have := rowT_len (n := 11) fun w hw => (hG.2 w hw).1
  have : ws.length * (11 + 1) ≤ 4 * 12 := Nat.mul_le_mul_right 12 hG.1
  omega
theorem bad_text {cs : Cls} {kd : Option Bool} {x : Str} (h : (Txt.split x sp).length ≠ numsOf kd + 1) : Bad cs kd [x] 0 := by
  refine bad_form (fw := Txt.split x sp) rfl (.inl fun z => ?_)
  have h1 := split_ne x sp
  have h2 : 1 ≤ (Txt.split x sp).length := by
    cases e : Txt.split x sp with
    | nil => exact absurd e h1
    | cons a r => rw [List.length_cons]; omega
  have := z.1
  rw [List.length_tail] at this
  omega
theorem rowC_mk {a b : Str} {s : Nat} (ha : RowC a) (hb : RowC b) (hs : s < 128 ∧ s ≠ 10) : RowC ⟨(codes a ++ s :: codes b).toArray⟩ := fun c hc => by
  rw [codes_mk] at hc
  rcases List.mem_append.mp hc with h | h
  · exact ha c h
  · rcases List.mem_cons.mp h with rfl | h
    · exact hs
    · exact hb c h
theorem len_mk (a b : Str) (s : Nat) : (⟨(codes a ++ s :: codes b).toArray⟩ : Str).length = a.length + 1 + b.length := by
  rw [len_codes, codes_mk, List.length_append, List.length_cons, ← len_codes, ← len_codes]
  omega
theorem exch {g : Int} {hs ks : List S3} (W : WksG g hs ks) {A C : List Nat} {x s : Nat} (e : codes (textW (rowsW g hs ks)) = A ++ x :: C) (hx : x = 32 ∨ x = 10) (h1 : s ≠ x) (h2 : s < 128) {cs : Cls} {Q : B → Prop} {Z : Value → Prop} (z : Z (clsOf cs 0)) : rx_read cs [.str ⟨(A ++ s :: C).toArray⟩] Q Z := by
  have rl := rows_len g hs ks
  have nh := W.nh
  have nk := W.nk
  have hG : ∀ r ∈ (rowsW g hs ks).map rowT, RowG r := fun r hr => by
    obtain ⟨w, hw, rfl⟩ := List.mem_map.mp hr
    exact rows_G W w hw
  have hlen : ((rowsW g hs ks).map rowT).length ≤ 25 := by rw [List.length_map]; omega
  have fin : ∀ (P : List Str) (r y : Str) (S tl : List Str), (rowsW g hs ks).map rowT = P ++ r :: S → (Txt.split y sp).length ≠ numsOf (kdAt hs P.length) + 1 → RowG y → (∀ t ∈ tl, RowG t) → tl.length ≤ 800 → rx_read cs [.str (Str.join lf (P ++ y :: tl))] Q Z := fun P r y S tl eR hy gy gt lt => by
    have er : ((rowsW g hs ks).map rowT)[P.length]? = some r := by rw [eR, List.getElem?_append_right (Nat.le_refl _), Nat.sub_self]; rfl
    have kn := kd_next W er
    have h := bad_at (cs := cs) W kn.1 (ws := [y]) (c := 0) (bad_text hy) (tl := tl) (fun t ht => ?_) lt (Q := Q) (Z := Z) z
    · have eP : ((rowsW g hs ks).take P.length).map rowT = P := by rw [List.map_take, eR, List.take_left]
      rw [eP] at h
      exact h
    · rcases List.mem_cons.mp ht with rfl | ht
      · exact gy
      · exact gt t ht
  have mem : ∀ {P : List Str} {r : Str} {S : List Str}, (rowsW g hs ks).map rowT = P ++ r :: S → ∀ t ∈ S, RowG t := fun eR t ht => hG t (by rw [eR]; exact List.mem_append_right _ (List.mem_cons_of_mem _ ht))
  have at_ : ∀ {P : List Str} {r : Str} {S : List Str}, (rowsW g hs ks).map rowT = P ++ r :: S → ((rowsW g hs ks).map rowT)[P.length]? = some r := fun eR => by rw [eR, List.getElem?_append_right (Nat.le_refl _), Nat.sub_self]; rfl
  have lS : ∀ {P : List Str} {r : Str} {S : List Str}, (rowsW g hs ks).map rowT = P ++ r :: S → S.length ≤ 25 := fun {P r S} eR => by
    have := congrArg List.length eR
    rw [List.length_append, List.length_cons] at this
    omega
  have sa := sep_at (x := x) hx (A := A) (C := C) (R := (rowsW g hs ks).map rowT) (fun r hr zz => ((hG r hr).2 10 zz).2 rfl) (fun zz => by have := congrArg List.length zz; rw [List.length_map, List.length_nil] at this; omega) e
  rcases sa with ⟨rfl, P, r, r2, S, eR, rfl, rfl⟩ | ⟨rfl, P, r, S, a, b, eR, er, rfl, rfl⟩
  · have kn := kd_next W (at_ eR)
    have eR2 : (rowsW g hs ks).map rowT = (P ++ [r]) ++ r2 :: S := by rw [eR]; simp
    have kn2 := kd_next W (at_ eR2)
    have n2 := (nums_le (kdAt hs (P ++ [r]).length)).1
    have gy : RowG ⟨(codes r ++ s :: codes r2).toArray⟩ := ⟨by rw [len_mk]; omega, rowC_mk kn.2.2.2 kn2.2.2.2 ⟨h2, h1⟩⟩
    rw [show (⟨(codes (Str.join lf (P ++ [r])) ++ s :: codes (Str.join lf (r2 :: S))).toArray⟩ : Str) = Str.join lf (P ++ ⟨(codes r ++ s :: codes r2).toArray⟩ :: S) from ext_codes (join_mid (d := 10) r s r2 S P)]
    refine fin P r _ (r2 :: S) S eR ?_ gy (mem eR2) (by have := lS eR2; omega)
    by_cases h32 : s = 32
    · subst h32
      have : (⟨(codes r ++ 32 :: codes r2).toArray⟩ : Str) = r ++ ⟨#[32]⟩ ++ r2 := ext_codes (by rw [codes_mk, codes_app, codes_app, List.append_assoc]; rfl)
      rw [this, show Txt.split (r ++ ⟨#[32]⟩ ++ r2) sp = _ from split_app 32 r r2, List.length_append]
      have k1 := kn.2.1
      have k2 := kn2.2.1
      show (Txt.split r sp).length + (Txt.split r2 sp).length ≠ _
      omega
    · have := split_merge h32 r r2
      have k1 := kn.2.1
      have k2 := kn2.2.1
      omega
  · have kn := kd_next W (at_ eR)
    have rab : r = a ++ ⟨#[32]⟩ ++ b := ext_codes (by rw [er, codes_app, codes_app, List.append_assoc]; rfl)
    have sr : (Txt.split a sp).length + (Txt.split b sp).length = numsOf (kdAt hs P.length) + 1 := by
      rw [← kn.2.1, rab, show Txt.split (a ++ ⟨#[32]⟩ ++ b) sp = _ from split_app 32 a b, List.length_append]
      rfl
    have lr : a.length + 1 + b.length = r.length := by rw [rab, len_app, len_app]; rfl
    have ca : RowC a := fun c hc => kn.2.2.2 c (by rw [er]; exact List.mem_append_left _ hc)
    have cb : RowC b := fun c hc => kn.2.2.2 c (by rw [er]; exact List.mem_append_right _ (List.mem_cons_of_mem _ hc))
    have hb1 : 1 ≤ (Txt.split b sp).length := by
      have := split_ne b sp
      cases eb : Txt.split b sp with
      | nil => exact absurd eb this
      | cons u v => rw [List.length_cons]; omega
    by_cases h10 : s = 10
    · subst h10
      rw [show (⟨(codes (Str.join lf (P ++ [a])) ++ 10 :: codes (Str.join lf (b :: S))).toArray⟩ : Str) = Str.join lf (P ++ a :: b :: S) from ext_codes (join_sep (d := 10) a b S P)]
      refine fin P r a S (b :: S) eR (by omega) ⟨by omega, ca⟩ (fun t ht => ?_) (by have := lS eR; rw [List.length_cons]; omega)
      rcases List.mem_cons.mp ht with rfl | ht
      · exact ⟨by omega, cb⟩
      · exact mem eR t ht
    · rw [show (⟨(codes (Str.join lf (P ++ [a])) ++ s :: codes (Str.join lf (b :: S))).toArray⟩ : Str) = Str.join lf (P ++ ⟨(codes a ++ s :: codes b).toArray⟩ :: S) from ext_codes (join_mid (d := 10) a s b S P)]
      refine fin P r _ S S eR ?_ ⟨by rw [len_mk]; omega, rowC_mk ca cb ⟨h2, h10⟩⟩ (mem eR) (by have := lS eR; omega)
      have := split_merge h1 a b
      omega
def r_law_exchanged : DR := fun ds Q => ∃ (g : Int) (hs ks : List S3) (c : Int), ds = [.str (textW (rowsW g hs ks)), .int c] ∧ WksG g hs ks ∧ 0 ≤ c ∧ ∀ t : Str, (∀ cs Q Z, Z (clsOf cs 0) → rx_read cs [.str t] Q Z) → Q (.p (.str t))
theorem ok_law_exchanged (T : Blt mg) (F_law_signs : Fn P w K mg base "_law_signs" 1 [] (spD K r_law_signs)) (F : Fun K "_law_exchanged" "_law_exchanged" s_law_exchanged f fd) : FnOk P w K mg base CX0 2 f fd ["text", "cell"] (spD K r_law_exchanged) := by
  refine okD F sc_law_exchanged (fun ds Q h => by obtain ⟨g, hs, ks, c, rfl, W, c0, q⟩ := h; rfl) fun cdv A outer s H E hr => ⟨_, (dss_cons (ds_setLCP (i := 2) sc_law_exchanged.nd rfl (Or.inl rfl) (g := (.n 0)) (tc := (dTst (dOp _ (dOp dIx (dVar 1) (dVar 0)) (dC _)))) (te := (dVar 0)) (sc0 := defScope s_law_exchanged) (N0 := ["text", "cell", "places", "at", "sign"]) ["k", "text"] [none, some 0] rfl (dis_rng1 (by rfl) T.b_range (da_cons (de_callB cd_len (by rfl) T.b_len PySem.boot_len (da_cons (dv 0) da_nil)) da_nil)).di (fun _ _ _ _ _ => (pg_name (i := 0) (show (["k", "text"] : List Str).Nodup by decide +kernel) rfl (Or.inl rfl))) (fun _ _ _ _ _ => (difs_one (dt_cmp od_inS (de_ix (dv 1) (dv 0)) de_str (by with_unfolding_all rfl)))) (fun _ _ _ _ _ => (dv 0)))
      (dss_cons (ds_setP (i := 3) sc_law_exchanged.nd rfl (Or.inl rfl) (de_ix (dv 2) (de_op od_mod (dv 1) (de_callB cd_len (by rfl) T.b_len PySem.boot_len (da_cons (dv 2) da_nil)))))
      (dss_cons (ds_setP (i := 4) sc_law_exchanged.nd rfl (Or.inl rfl) (de_ix (de_fn0 F_law_signs (hr.mono (by decide)) (by rfl)) (de_op od_mod (de_op od_fdiv (dv 1) de_int) de_int)))
      (dss_cons (ds_if (dt_cmp od_eq (dv 4) (de_ix (dv 0) (dv 3)) (nomark _)) (dss_one (ds_setP (i := 4) sc_law_exchanged.nd rfl (Or.inl rfl) (de_ix (de_lst (da_cons de_str (da_cons de_str (da_cons de_str (da_cons de_str da_nil))))) (de_op od_mod (de_op od_fdiv (dv 1) de_int) de_int)))) dss_nil)
      (dss_one (ds_ret (de_op od_plus (de_op od_plus (de_sliceT (dv 0) do_none (do_some (dv 3))) (dv 4)) (de_sliceT (dv 0) (do_some (de_op od_plus (dv 3) de_int)) do_none)))))))), fun ds Q h => ?_⟩
  obtain ⟨g, hs, ks, c, rfl, W, c0, q⟩ := h
  repeat (first | dsimp only [r_law_signs] | walk_at "rs1" | set_option simprocs false in simp only [ixk0, ixk1, ixk2, ixk3, ixk4, ex_at])
  have sz : sizeLine = 16777216 := sizeLine_eq
  have nh := W.nh
  have nk := W.nk
  have rl := rows_len g hs ks
  have lt : (textW (rowsW g hs ks)).length ≤ 2500 := by
    have := join_len ((rowsW g hs ks).map rowT) fun r hr => by
      obtain ⟨w, hw, rfl⟩ := List.mem_map.mp hr
      exact (rows_G W w hw).1
    rw [List.length_map] at this
    unfold textW
    omega
  have h3 : (codes (textW (rowsW g hs ks)))[3]? = some 32 := by
    have e : ∃ X, codes (textW (rowsW g hs ks)) = codes gapW ++ 32 :: X := by
      unfold textW rowsW
      rw [List.map_cons]
      cases hr : List.map rowT (List.map (rowW hotW) hs ++ List.map (rowW coldW) ks) with
      | nil => exact ⟨codes (num g), by show codes (gapW ++ sp ++ num g) = _; rw [codes_app, codes_app, List.append_assoc]; rfl⟩
      | cons r2 S =>
        refine ⟨codes (num g) ++ 10 :: codes (Str.join lf (r2 :: S)), ?_⟩
        rw [show Str.join lf (rowT [gapW, num g] :: r2 :: S) = Str.join ⟨#[10]⟩ (rowT [gapW, num g] :: r2 :: S) from rfl, codes_join]
        show codes (gapW ++ sp ++ num g) ++ _ = _
        rw [codes_app, codes_app, List.append_assoc, List.append_assoc]
        rfl
    obtain ⟨X, e⟩ := e
    rw [e, show codes gapW = [103, 97, 112] by decide +kernel]
    rfl
  have out : ∀ (k c' s : Nat), (codes (textW (rowsW g hs ks)))[k]? = some c' → (c' = 32 ∨ c' = 10) → s ≠ c' → s < 128 → Q (.p (.str (Txt.slice (textW (rowsW g hs ks)) none (some (k : Int)) ++ ⟨#[s]⟩ ++ Txt.slice (textW (rowsW g hs ks)) (some ((k : Int) + 1)) none))) := fun k c' s ek hc hs' h2 => by
    obtain ⟨hk, he⟩ := List.getElem?_eq_some_iff.mp ek
    have hk' : k < (textW (rowsW g hs ks)).length := by rw [len_codes]; exact hk
    have e : codes (textW (rowsW g hs ks)) = (codes (textW (rowsW g hs ks))).take k ++ c' :: (codes (textW (rowsW g hs ks))).drop (k + 1) := by
      rw [← he, ← List.drop_eq_getElem_cons hk, List.take_append_drop]
    refine q _ fun cs Q Z z => ?_
    have hx := exch W e hc hs' h2 (cs := cs) (Q := Q) (Z := Z) z
    rw [show (Txt.slice (textW (rowsW g hs ks)) none (some (k : Int)) ++ ⟨#[s]⟩ ++ Txt.slice (textW (rowsW g hs ks)) (some ((k : Int) + 1)) none) = (⟨((codes (textW (rowsW g hs ks))).take k ++ s :: (codes (textW (rowsW g hs ks))).drop (k + 1)).toArray⟩ : Str) from ext_codes (by
      rw [codes_app, codes_app, slice_to (by omega) (by omega), slice_from (by omega) (by omega), Int.toNat_natCast, show ((k : Int) + 1).toNat = k + 1 by omega, List.append_assoc]
      rfl)]
    exact hx
  generalize textW (rowsW g hs ks) = T at lt h3 out
  have two : codes (Str.ofString " \n") = [32, 10] := by decide +kernel
  refine ⟨by omega, ⟨by omega, by omega⟩, lc_fun (fun d => match d with | .int k => (match (codes T)[k.toNat]? with | some c => if decide (c ∈ codes (Str.ofString " \n")) = true then some (.int k) else none | none => none) | _ => none) (by rw [upFrom_len]; omega) (fun x hx => ?_) ?_⟩
  · obtain ⟨k, hk, rfl⟩ := upFrom_mem hx
    have hk' : k < (codes T).length := by rw [← len_codes]; omega
    have ek := List.getElem?_eq_getElem (l := codes T) (i := k) hk'
    repeat (first | walk_at "rs1" | set_option simprocs false in simp only [ixk0, ixk1, ixk2, ixk3, ixk4, ex_at])
    refine ⟨_, by omega, atI_nat ek, ?_⟩
    rw [StrLaws.found_one, Int.toNat_natCast, ek]
    exact ⟨fun z => (if_pos z).symm, fun z => (if_neg (by rw [z]; decide)).symm⟩
  generalize hL : List.filterMap _ _ = LL
  have hm : ∀ d ∈ LL, ∃ (k c' : Nat), d = .int (k : Int) ∧ (codes T)[k]? = some c' ∧ (c' = 32 ∨ c' = 10) := fun d hd => by
    rw [← hL] at hd
    obtain ⟨a, ha, hf⟩ := List.mem_filterMap.mp hd
    obtain ⟨k, hk, rfl⟩ := upFrom_mem ha
    dsimp only at hf
    rw [Int.toNat_natCast] at hf
    cases ek : (codes T)[k]? with
    | none => rw [ek] at hf; cases hf
    | some c' =>
      rw [ek] at hf
      dsimp only at hf
      by_cases hc : decide (c' ∈ codes (Str.ofString " \n")) = true
      · rw [if_pos hc] at hf
        have hc' := of_decide_eq_true hc
        rw [two] at hc'
        simp only [List.mem_cons, List.not_mem_nil, or_false] at hc'
        exact ⟨k, c', (Option.some.inj hf).symm, ek, hc'⟩
      · rw [if_neg hc] at hf
        cases hf
  have hpos : 0 < LL.length := by
    have h4 : 3 < T.length := by
      rw [len_codes]
      exact (List.getElem?_eq_some_iff.mp h3).1
    have : D.int ((0 : Int) + ((3 : Nat) : Int)) ∈ LL := by
      rw [← hL]
      refine List.mem_filterMap.mpr ⟨D.int ((0 : Int) + ((3 : Nat) : Int)), List.mem_map.mpr ⟨3, List.mem_range.mpr (by omega), rfl⟩, ?_⟩
      show (match (codes T)[3]? with | some c => if decide (c ∈ codes (Str.ofString " \n")) = true then some (D.int 3) else none | none => none) = _
      rw [h3]
      show (if decide (32 ∈ codes (Str.ofString " \n")) = true then some (D.int 3) else none) = _
      rw [if_pos (by rw [two]; decide)]
      rfl
    exact List.length_pos_of_mem this
  repeat (first | walk_at "rs1" | set_option simprocs false in simp only [ixk0, ixk1, ixk2, ixk3, ixk4, ex_at])
  have m0 := Int.emod_nonneg c (show (LL.length : Int) ≠ 0 by omega)
  have m1 := Int.emod_lt_of_pos c (show 0 < (LL.length : Int) by omega)
  refine ⟨by omega, pick_some m0 m1 fun d hd => ?_⟩
  obtain ⟨k, c', rfl, ek, hc⟩ := hm d hd
  have hk : k < T.length := by rw [len_codes]; exact (List.getElem?_eq_some_iff.mp ek).1
  have sl := signsL_len
  obtain ⟨u, u1, u2⟩ := pick_code (z := signsL) (v := c / 997 % 95) (P := fun d => d < 128) (by omega) (by rw [sl]; omega) (by decide +kernel)
  have l1 := Txt.slice_le T none (some (k : Int))
  have l2 := Txt.slice_le T (some ((k : Int) + 1)) none
  have lc : ∀ d, (⟨#[d]⟩ : Str).length = 1 := fun _ => rfl
  refine ⟨trivial, ⟨by decide, by decide⟩, by decide, u, by omega, u1, ?_⟩
  repeat (first | walk_at "rs1" | set_option simprocs false in simp only [ixk0, ixk1, ixk2, ixk3, ixk4, ex_at])
  refine ⟨c', by omega, atI_nat ek, fun z => ⟨⟨by decide, by decide⟩, by decide, pick_some (by omega) (show c / 31 % 4 < 4 by omega) fun d hd2 => ?_⟩, fun z => ?_⟩
  · obtain ⟨s', rfl, s1, s2⟩ : ∃ s' : Nat, d = .str ⟨#[s']⟩ ∧ (s' ≠ 32 ∧ s' ≠ 10) ∧ s' < 128 := by
      simp only [List.mem_cons, List.not_mem_nil, or_false] at hd2
      rcases hd2 with rfl | rfl | rfl | rfl
      · exact ⟨44, rfl, by decide, by decide⟩
      · exact ⟨59, rfl, by decide, by decide⟩
      · exact ⟨45, rfl, by decide, by decide⟩
      · exact ⟨48, rfl, by decide, by decide⟩
    refine ⟨by omega, by rw [lc]; omega, by omega, by rw [len_app, lc]; omega, out k c' s' ek hc (by omega) s2⟩
  · refine ⟨by omega, by rw [lc]; omega, by omega, by rw [len_app, lc]; omega, out k c' u ek hc (fun e => of_decide_eq_false z (by rw [e])) u2⟩
def sixD (due : Nat) : D := .lst [.bl (due == 0), .bl (due == 1), .bl (due == 2), .bl false, .bl false, .bl false]
def r_law_refusal (cs : Cls) : DR := fun ds Q => ∃ (t : Str) (due : Nat), ds = [.str t] ∧ (due < 3 ∧ ∀ cs Q Z, Z (clsOf cs due) → rx_read cs [.str t] Q Z) ∧ Q (.o (sixD due))
theorem isE_ok {K : PySem.W.Frag} {ea C D : Addr} {b : Bool} {H : Hp} {Q : VK} (G : ExcGet K C) (e : PySem.W.kitOne K (.ref C) (.ref D) = some b) (q : Q (.bl b) H) : rIsE K ea (.ref C) [.ref ea, .ref D] H Q := ⟨C, .ref D, .ref D, b, rfl, G, .inl ⟨D, rfl, rfl⟩, e, rfl, q⟩
theorem isE_ty {K : PySem.W.Frag} {ea C : Addr} {T : String} {b : Bool} {H : Hp} {Q : VK} (G : ExcGet K C) (e : PySem.W.kitOne K (.ref C) (.type T) = some b) (q : Q (.bl b) H) : rIsE K ea (.ref C) [.ref ea, .ty T] H Q := ⟨C, .ty T, .type T, b, rfl, G, .inr ⟨T, rfl, rfl⟩, e, rfl, q⟩
theorem ok_law_refusal (T : Blt mg) (TX : Errs K mg cs) (FX_read : FnX P w K mg base "read" 4 ["text"] (spX K (rx_read cs))) (F : Fun K "_law_refusal" "_law_refusal" s_law_refusal f fd) : FnOk P w K mg base CX0 5 f fd ["text"] (spD K (r_law_refusal cs)) := by
  refine FnOk.drop (F.okX sc_law_refusal (fun vs H Q E h => ?_) fun cdv A outer s H vs Q E hr h => ?_) fun _ _ _ _ h => h
  · obtain ⟨ds, G, P, sg, r, ⟨t, due, rfl, _⟩, k⟩ := h
    have := Paired.length r
    exact this
  · obtain ⟨ds, G, P, sg, r, ⟨t, due, rfl, told, q⟩, k⟩ := h
    obtain ⟨v, rfl, rv⟩ := reps1 r
    cases rv
    refine ⟨_, (pss_cons (ps_set (i := 1) sc_law_refusal.nd rfl (Or.inl rfl) (pe_lst pa_nil))
      (pss_cons (ps_tryFn body_cx FX_read (hr.mono (by decide)) (by rfl) (pa_cons (pv 0) pa_nil)
        (ph_as (i := 2) sc_law_refusal.nd rfl rfl (by rfl) TX.x_HeatError.at_ (fun ea oe cls hcl => pss_cons
          (ps_set (i := 1) sc_law_refusal.nd rfl (Or.inl rfl) (pe_lst
            (pa_cons (pe_callB (call_isE (K := K) rfl (List.Mem.head _) hcl) (by rfl) T.b_isinstance PyProof.Rows.boot_isinstance (pa_cons (pv 2) (pa_cons (pe_glob (v := .ref cs.NoRow) (by rfl) TX.x_NoRow.at_ rfl) pa_nil)))
            (pa_cons (pe_callB (call_isE (K := K) rfl (List.Mem.head _) hcl) (by rfl) T.b_isinstance PyProof.Rows.boot_isinstance (pa_cons (pv 2) (pa_cons (pe_glob (v := .ref cs.NoMeasure) (by rfl) TX.x_NoMeasure.at_ rfl) pa_nil)))
            (pa_cons (pe_callB (call_isE (K := K) rfl (List.Mem.head _) hcl) (by rfl) T.b_isinstance PyProof.Rows.boot_isinstance (pa_cons (pv 2) (pa_cons (pe_glob (v := .ref cs.WrongWay) (by rfl) TX.x_WrongWay.at_ rfl) pa_nil)))
            (pa_cons (pe_callB (call_isE (K := K) rfl (List.Mem.head _) hcl) (by rfl) T.b_isinstance PyProof.Rows.boot_isinstance (pa_cons (pv 2) (pa_cons (pe_glob (v := .ref cs.Full) (by rfl) TX.x_Full.at_ rfl) pa_nil))) pa_nil))))))
          (pss_one (ps_set (i := 1) sc_law_refusal.nd rfl (Or.inl rfl) (pe_op op_cat (pv 1) (pe_lst
            (pa_cons (pe_callB (call_isE (K := K) rfl (List.Mem.head _) hcl) (by rfl) T.b_isinstance PyProof.Rows.boot_isinstance (pa_cons (pv 2) (pa_cons (pe_glob (v := .ref cs.NoStream) (by rfl) TX.x_NoStream.at_ rfl) pa_nil)))
            (pa_cons (pe_not (pe_callB (call_isE (K := K) rfl (List.Mem.head _) hcl) (by rfl) T.b_isinstance PyProof.Rows.boot_isinstance (pa_cons (pv 2) (pa_cons (pe_bltn (v := .ty "ValueError") (by rfl) T.b_ValueError PyProof.Rows.Boot.«ValueError» rfl) pa_nil)))) pa_nil))))))) ph_nil))
      (pss_one (ps_ret (pv 1))))), ?_⟩
    refine ⟨small_len (Nat.le_of_ble_eq_true rfl), fun p1 hp1 => ?_⟩
    have s1 := same_new (o := .lst []) hp1
    have w1 : Wd H G (upd H p1 (.lst [])) G := ⟨s1, Same.refl _, sg.trans s1, fun _ _ => rfl⟩
    generalize upd H p1 (.lst []) = H1 at s1 w1
    have w12 := w1
    refine ⟨_, rfl, [.str t], G, (fun _ => False), (fun cls => cls = clsOf cs due), w12.gh, .cons (.str _) .nil, told.2 cs _ _ rfl, fun _ _ _ _ z => z.elim, fun cls H3 z s3 => ?_⟩
    have w13 : Wd H G H3 G := w12.trans ⟨s3, Same.refl _, w12.gh.trans s3, fun _ _ => rfl⟩
    obtain ⟨C, gC, eC, i1, i2, i3, i4, i5, i6, hC⟩ : ∃ C : Addr, ExcGet K C ∧ PySem.W.exmOne K (.ref C) (.ref cs.HeatError) = some true ∧ PySem.W.kitOne K (.ref C) (.ref cs.NoRow) = some (due == 0) ∧ PySem.W.kitOne K (.ref C) (.ref cs.NoMeasure) = some (due == 1) ∧ PySem.W.kitOne K (.ref C) (.ref cs.WrongWay) = some (due == 2) ∧
        PySem.W.kitOne K (.ref C) (.ref cs.Full) = some false ∧ PySem.W.kitOne K (.ref C) (.ref cs.NoStream) = some false ∧ PySem.W.kitOne K (.ref C) (.type "ValueError") = some true ∧ cls = .ref C := by
      have hd : due = 0 ∨ due = 1 ∨ due = 2 := by have := told.1; omega
      rcases hd with rfl | rfl | rfl
      · exact ⟨_, TX.x_NoRow.get, TX.ex_NoRow_HeatError, TX.is_NoRow_NoRow, TX.is_NoRow_NoMeasure, TX.is_NoRow_WrongWay, TX.is_NoRow_Full, TX.is_NoRow_NoStream, TX.iv_NoRow, z⟩
      · exact ⟨_, TX.x_NoMeasure.get, TX.ex_NoMeasure_HeatError, TX.is_NoMeasure_NoRow, TX.is_NoMeasure_NoMeasure, TX.is_NoMeasure_WrongWay, TX.is_NoMeasure_Full, TX.is_NoMeasure_NoStream, TX.iv_NoMeasure, z⟩
      · exact ⟨_, TX.x_WrongWay.get, TX.ex_WrongWay_HeatError, TX.is_WrongWay_NoRow, TX.is_WrongWay_NoMeasure, TX.is_WrongWay_WrongWay, TX.is_WrongWay_Full, TX.is_WrongWay_NoStream, TX.iv_WrongWay, z⟩
    subst hC
    refine ⟨true, eC, iteT fun ea => ?_⟩
    dsimp only [tSeq, tAsg, tLst, tCons, tC, tNil, tCB, tVar, gName, tOp, tNotV, tRet, Ends.gone]
    refine ⟨_, rfl, isE_ok gC i1 ⟨_, rfl, isE_ok gC i2 ⟨_, rfl, isE_ok gC i3 ⟨_, rfl, isE_ok gC i4 ⟨small_len (Nat.le_of_ble_eq_true rfl), fun p2 hp2 => ?_⟩⟩⟩⟩⟩
    have s4 := same_new (o := .lst [.bl (due == 0), .bl (due == 1), .bl (due == 2), .bl false]) hp2
    have e2 : (upd H3 p2 (.lst [.bl (due == 0), .bl (due == 1), .bl (due == 2), .bl false])) p2 = _ := upd_same
    generalize upd H3 p2 (.lst [.bl (due == 0), .bl (due == 1), .bl (due == 2), .bl false]) = H4 at s4 e2
    refine ⟨_, rfl, _, rfl, isE_ok gC i5 ⟨_, rfl, isE_ty gC i6 ⟨true, rfl, small_len (Nat.le_of_ble_eq_true rfl), fun p3 hp3 => ?_⟩⟩⟩
    have s5 := same_new (o := .lst [.bl false, .bl (!true)]) hp3
    have e3 : (upd H4 p3 (.lst [.bl false, .bl (!true)])) p3 = _ := upd_same
    have e2' := s5 _ _ e2
    generalize upd H4 p3 (.lst [.bl false, .bl (!true)]) = H5 at s5 e3 e2'
    refine ⟨p2, p3, _, _, rfl, rfl, e2', e3, small_len (Nat.le_of_ble_eq_true rfl), fun p4 hp4 => ?_⟩
    have s6 := same_new (o := .lst [.bl (due == 0), .bl (due == 1), .bl (due == 2), .bl false, .bl false, .bl (!true)]) hp4
    have w15 : Wd H G H5 G := w13.trans ⟨s4.trans s5, Same.refl _, w13.gh.trans (s4.trans s5), fun _ _ => rfl⟩
    have w16 : Wd H G (upd H5 p4 (.lst [.bl (due == 0), .bl (due == 1), .bl (due == 2), .bl false, .bl false, .bl (!true)])) G := w15.trans ⟨s6, Same.refl _, w15.gh.trans s6, fun _ _ => rfl⟩
    refine ⟨_, rfl, k _ _ _ G q w16 ⟨p4, rfl, w15.hh.free hp4, w15.gh.free hp4, _, upd_same, ?_⟩⟩
    exact .cons (.bl _) (.cons (.bl _) (.cons (.bl _) (.cons (.bl _) (.cons (.bl _) (.cons (.bl _) .nil)))))
def r_law : DR := fun ds Q => ∃ ns : List Int, ds = [.scr ns] ∧ ns.length ≤ 63 ∧ Q (.p (.bl true))
theorem if_abs {tc : DTT} {t u : DTS} {E : DEnds} {ρ : DEnv} (hu : u E ρ) (h : ∀ U : Prop, U → tc (frz ρ) fun c => (c = true → t E ρ) ∧ (c = false → U)) : dIfS tc t u E ρ := h _ hu
theorem rows_100 {g : Int} {hs ks : List S3} (W : WksG g hs ks) : (rowsW g hs ks).length ≤ 25 := by have := W.nh; have := W.nk; rw [rows_len]; omega
theorem told_set {g : Int} {hs ks : List S3} (W : WksG g hs ks) {i : Nat} (hi : i < 1 + hs.length + ks.length) {ws : List Str} {due : Nat} (sp : Spo (kdAt hs i) ws due) : Told ((rowsW g hs ks).set i ws) due ∧ RowsW ((rowsW g hs ks).set i ws) := by
  have rl := rows_len g hs ks
  have r1 := rows_100 W
  refine ⟨?_, fun r hr => ?_, by rw [List.length_set]; omega⟩
  · rw [List.set_eq_take_append_cons_drop, if_pos (by omega)]
    exact told_at W hi sp (fun r hr => rows_W W r (List.mem_of_mem_drop hr)) (by rw [List.length_drop]; omega)
  · rcases List.mem_or_eq_of_mem_set hr with h | rfl
    · exact rows_W W r h
    · exact sp.row
theorem ixN_lt {n i : Nat} (h : i < n) : ixN n (i : Int) = some i := by
  unfold ixN
  rw [if_pos (by omega), if_pos (by omega)]
  simp
theorem setE_eq {R : List (List Str)} {i : Nat} {w : List Str} : (R.map wordsD).set i (wordsD w) = (R.set i w).map wordsD := List.map_set.symm
theorem ok_law (T : Blt mg) (F_law_rows : Fn P w K mg base "_law_rows" 3 ["script"] (spD K r_law_rows)) (F_law_text : Fn P w K mg base "_law_text" 1 ["rows"] (spD K r_law_text)) (F_law_cell_at : Fn P w K mg base "_law_cell_at" 1 ["script", "k"] (spD K r_law_cell_at)) (F_law_beyond : Fn P w K mg base "_law_beyond" 1 ["words", "cell"] (spD K r_law_beyond)) (F_law_exchanged : Fn P w K mg base "_law_exchanged" 2 ["text", "cell"] (spD K r_law_exchanged)) (F_law_refusal : Fn P w K mg base "_law_refusal" 5 ["text"] (spD K (r_law_refusal cs))) (F_law_wrong : Fn P w K mg base "_law_wrong" 1 ["words", "cell"] (spD K r_law_wrong)) (F_law_out_of_place : Fn P w K mg base "_law_out_of_place" 1 ["rows", "cell"] (spD K r_law_out_of_place)) (F_law_no_form : Fn P w K mg base "_law_no_form" 3 ["words", "cell"] (spD K r_law_no_form)) (F : Fun K "law" "law" s_law f fd) : FnOk P w K mg base CX0 6 f fd ["script"] (spD K r_law) := by
  refine okD F sc_law (fun ds Q h => by obtain ⟨ns, rfl, hl, q⟩ := h; rfl) fun cdv A outer s H E hr => ⟨_, (dss_cons (ds_set (i := 1) sc_law.nd rfl (Or.inl rfl) (de_fn F_law_rows (hr.mono (by decide)) (by rfl) (da_cons (dv 0) da_nil)))
      (dss_cons (ds_setF (i := 2) sc_law.nd rfl (Or.inl rfl) (de_op od_mod (de_fn F_law_cell_at (hr.mono (by decide)) (by rfl) (da_cons (dv 0) (da_cons de_int da_nil))) (de_callB cd_len (by rfl) T.b_len PySem.boot_len (da_cons (dv 1) da_nil))))
      (dss_cons (ds_setP (i := 3) sc_law.nd rfl (Or.inl rfl) (de_op od_mod (de_fn F_law_cell_at (hr.mono (by decide)) (by rfl) (da_cons (dv 0) (da_cons de_int da_nil))) (de_op od_pow de_int de_int)))
      (dss_cons (ds_setP (i := 4) sc_law.nd rfl (Or.inl rfl) (de_op od_mod (de_fn F_law_cell_at (hr.mono (by decide)) (by rfl) (da_cons (dv 0) (da_cons de_int da_nil))) de_int))
      (dss_cons (ds_setP (i := 5) sc_law.nd rfl (Or.inr rfl) de_int)
      (dss_cons (ds_if (dt_cmp od_eq (dv 4) de_int (nomark _)) (dss_cons (ds_setIxEO (i := 1) rfl (by first | exact Or.inl rfl | exact Or.inr (Or.inl rfl) | exact Or.inr (Or.inr rfl)) (dv 2) (deo_fn F_law_beyond (hr.mono (by decide)) (by rfl) (deo_ix (i := 1) (dv 2)) (da_cons (dv 3) da_nil)))
      (dss_one (ds_setP (i := 5) sc_law.nd rfl (Or.inr rfl) de_int))) (dss_one (ds_if (dw_and (dt_cmp od_eq (dv 4) de_int (nomark _)) (dw_and1 (dt_cmp od_ne (de_ix (de_ix (dv 1) (dv 2)) de_int) de_str (nomark _)))).dt (dss_cons (ds_setIxEO (i := 1) rfl (by first | exact Or.inl rfl | exact Or.inr (Or.inl rfl) | exact Or.inr (Or.inr rfl)) (dv 2) (deo_fn F_law_wrong (hr.mono (by decide)) (by rfl) (deo_ix (i := 1) (dv 2)) (da_cons (dv 3) da_nil)))
      (dss_one (ds_setP (i := 5) sc_law.nd rfl (Or.inr rfl) de_int))) (dss_one (ds_if (dt_cmp od_eq (dv 4) de_int (nomark _)) (dss_one (ds_setD (i := 1) sc_law.nd rfl (Or.inl rfl) (de_fn F_law_out_of_place (hr.mono (by decide)) (by rfl) (da_cons (dv 1) (da_cons (dv 3) da_nil))))) (dss_one (ds_if (dt_cmp od_lt (dv 4) de_int (nomark _)) (dss_one (ds_setIxEO (i := 1) rfl (by first | exact Or.inl rfl | exact Or.inr (Or.inl rfl) | exact Or.inr (Or.inr rfl)) (dv 2) (deo_fn F_law_no_form (hr.mono (by decide)) (by rfl) (deo_ix (i := 1) (dv 2)) (da_cons (dv 3) da_nil)))) dss_nil)))))))
      (dss_cons (ds_setF (i := 6) sc_law.nd rfl (Or.inl rfl) (de_fn F_law_text (hr.mono (by decide)) (by rfl) (da_cons (dv 1) da_nil)))
      (dss_cons (ds_if (dt_cmp od_eq (dv 4) de_int (nomark _)) (dss_one (ds_setP (i := 6) sc_law.nd rfl (Or.inl rfl) (de_fn F_law_exchanged (hr.mono (by decide)) (by rfl) (da_cons (dv 6) (da_cons (dv 3) da_nil))))) dss_nil)
      (dss_one (ds_ret (de_cmp (od_eqD hr) (de_fn F_law_refusal (hr.mono (by decide)) (by rfl) (da_cons (dv 6) da_nil)) (de_lc (g := (.n 0)) (tc := dTrue) (te := (dOp _ (dVar 0) (dVar 1))) (sc0 := defScope s_law) (N0 := ["script", "rows", "at", "cell", "kind", "due", "text"]) ["k", "due"] [none, some 5] rfl (dis_rng1 (by rfl) T.b_range (da_cons de_int da_nil)).di (fun _ _ _ _ _ => (pg_name (i := 0) (show (["k", "due"] : List Str).Nodup by decide +kernel) rfl (Or.inl rfl))) (fun _ _ _ _ _ => difs_nil) (fun _ _ _ _ _ => (de_cmp od_eq (dv 0) (dv 1) (nomark _)))) (nomark _)))))))))))), fun ds Q h => ?_⟩
  obtain ⟨ns, rfl, hl, q⟩ := h
  refine cutT (fun ρ => ∃ (g : Int) (hs ks : List S3), WksG g hs ks ∧ ρ = [some (B.p (D.scr ns)), some (B.o (rowsD (rowsW g hs ks))), none, none, none, none, none]) ?_ fun N hN => ?_
  rotate_left
  · repeat (first | dsimp only [r_law_rows] | walk_at "rs1" | set_option simprocs false in simp only [ixk0, ixk1, ixk2, ixk3, ixk4, ex_at])
    exact ⟨ns, rfl, hl, fun g hs ks W => hN _ ⟨g, hs, ks, W, rfl⟩⟩
  rintro ρ ⟨g, hs, ks, W, rfl⟩
  have sz : sizeLine = 16777216 := sizeLine_eq
  have rl := rows_len g hs ks
  have rn := rows_100 W
  refine cutT (fun ρ => ∃ i : Nat, i < 1 + hs.length + ks.length ∧ ρ = [some (B.p (D.scr ns)), some (B.o (rowsD (rowsW g hs ks))), some (B.p (D.int i)), none, none, none, none]) ?_ fun N hN => ?_
  rotate_left
  · repeat (first | dsimp only [r_law_cell_at, rowsD] | walk_at "rs1" | set_option simprocs false in simp only [ixk0, ixk1, ixk2, ixk3, ixk4, ex_at])
    simp only [List.length_map]
    refine ⟨ns, 0, rfl, by decide, fun n => ⟨by omega, rfl, ?_⟩⟩
    have m0 := Int.emod_nonneg n (show ((rowsW g hs ks).length : Int) ≠ 0 by omega)
    have m1 := Int.emod_lt_of_pos n (show 0 < ((rowsW g hs ks).length : Int) by omega)
    obtain ⟨i, ei⟩ : ∃ i : Nat, n % ((rowsW g hs ks).length : Int) = i := Int.eq_ofNat_of_zero_le m0
    rw [ei] at m1 ⊢
    exact hN _ ⟨i, by omega, rfl⟩
  rintro ρ ⟨i, hi, rfl⟩
  have lx : i < (rowsW g hs ks).length := by omega
  refine cutT (fun ρ => ∃ c : Int, 0 ≤ c ∧ ρ = [some (B.p (D.scr ns)), some (B.o (rowsD (rowsW g hs ks))), some (B.p (D.int i)), some (B.p (D.int c)), none, none, none]) ?_ fun N hN => ?_
  rotate_left
  · repeat (first | dsimp only [r_law_cell_at] | walk_at "rs1" | set_option simprocs false in simp only [ixk0, ixk1, ixk2, ixk3, ixk4, ex_at])
    have p30 : (0 : Int) < 10 ^ Int.toNat 30 := by decide
    exact ⟨ns, 1, rfl, by decide, fun n => ⟨⟨by decide, by decide, by decide⟩, p30, hN _ ⟨_, Int.emod_nonneg _ (by omega), rfl⟩⟩⟩
  rintro ρ ⟨c, c0, rfl⟩
  refine cutT (fun ρ => ∃ k : Int, 0 ≤ k ∧ k < 5 ∧ ρ = [some (B.p (D.scr ns)), some (B.o (rowsD (rowsW g hs ks))), some (B.p (D.int i)), some (B.p (D.int c)), some (B.p (D.int k)), none, none]) ?_ fun N hN => ?_
  rotate_left
  · repeat (first | dsimp only [r_law_cell_at] | walk_at "rs1" | set_option simprocs false in simp only [ixk0, ixk1, ixk2, ixk3, ixk4, ex_at])
    exact ⟨ns, 2, rfl, by decide, fun n => ⟨by decide, hN _ ⟨_, by omega, by omega, rfl⟩⟩⟩
  rintro ρ ⟨k, k0, k5, rfl⟩
  refine cutT (fun ρ => ρ = [some (B.p (D.scr ns)), some (B.o (rowsD (rowsW g hs ks))), some (B.p (D.int i)), some (B.p (D.int c)), some (B.p (D.int k)), some (B.p (D.int 0)), none]) ?_ fun N hN => ?_
  rotate_left
  · repeat (first | walk_at "rs1" | set_option simprocs false in simp only [ixk0, ixk1, ixk2, ixk3, ixk4, ex_at])
    exact hN _ rfl
  rintro ρ rfl
  obtain ⟨w0, e0, ir⟩ := row_at W hi
  obtain ⟨ns0, sh0⟩ := ir.shape
  refine cutT (fun ρ => ∃ (R : List (List Str)) (due : Nat), ((k = 4 ∧ R = rowsW g hs ks ∧ due = 0) ∨ (k ≠ 4 ∧ Told R due)) ∧ RowsW R ∧ ρ = [some (B.p (D.scr ns)), some (B.o (rowsD R)), some (B.p (D.int i)), some (B.p (D.int c)), some (B.p (D.int k)), some (B.p (D.int due)), none]) ?_ fun N hN => ?_
  rotate_left
  · have hO : ∀ (L : List D) (R : List (List Str)) (due : Nat), L = R.map wordsD → k ≠ 4 → Told R due ∧ RowsW R → N [some (B.p (D.scr ns)), some (B.o (D.lst L)), some (B.p (D.int i)), some (B.p (D.int c)), some (B.p (D.int k)), some (B.p (D.int due)), none] := by
      rintro L R due rfl hk h
      exact hN _ ⟨R, due, .inr ⟨hk, h.1⟩, h.2, rfl⟩
    refine if_abs (if_abs (if_abs ?_ ?_) ?_) ?_
    · repeat (first | dsimp only [rowsD] | walk_at "rs1" | set_option simprocs false in simp only [ixk0, ixk1, ixk2, ixk3, ixk4, ex_at])
      simp only [List.length_map]
      refine ⟨fun h => ⟨wordsD w0, atI_of e0, kdAt hs i, ns0, w0, c, rfl, sh0, c0, fun w1 o sp => ⟨i, ixN_lt lx, ?_⟩⟩, fun h => hN _ ⟨rowsW g hs ks, 0, .inl ⟨by have := of_decide_eq_false h; omega, rfl, rfl⟩, ⟨rows_W W, by omega⟩, rfl⟩⟩
      have hk : k ≠ 4 := by have := of_decide_eq_true h; omega
      cases o <;> exact hO _ _ 0 setE_eq hk (told_set W hi sp)
    · intro U hU
      repeat (first | dsimp only [rowsD] | walk_at "rs1" | set_option simprocs false in simp only [ixk0, ixk1, ixk2, ixk3, ixk4, ex_at])
      exact ⟨fun h => ⟨g, hs, ks, c, rfl, W, c0, fun R hT hR => hO _ R 0 rfl (by have := of_decide_eq_true h; omega) ⟨hT, hR⟩⟩, fun _ => hU⟩
    · intro U hU
      repeat (first | dsimp only [rowsD] | walk_at "rs1" | set_option simprocs false in simp only [ixk0, ixk1, ixk2, ixk3, ixk4, ex_at])
      refine ⟨fun h => ⟨wordsD w0, atI_of e0, ?_⟩, fun _ => ⟨fun z => (by cases z), fun _ => hU⟩⟩
      have hk : k ≠ 4 := by have := of_decide_eq_true h; omega
      generalize hkd : kdAt hs i = kd at ir
      cases kd with
      | none =>
        obtain ⟨g', _, _, rfl⟩ := ir
        refine ⟨.str gapW, atI_nat (j := 0) rfl, ?_⟩
        repeat (first | walk_at "rs1" | set_option simprocs false in simp only [ixk0, ixk1, ixk2, ixk3, ixk4, ex_at])
        exact ⟨fun z => (nomatch (show false = true from z)), fun _ => hU⟩
      | some hot =>
        obtain ⟨x, gx, rfl⟩ := ir
        refine ⟨.str (kindW hot), atI_nat (j := 0) rfl, ?_⟩
        repeat (first | walk_at "rs1" | set_option simprocs false in simp only [ixk0, ixk1, ixk2, ixk3, ixk4, ex_at])
        refine ⟨fun _ => ⟨_, atI_of e0, hot, x, c, rfl, gx, c0, fun ns' ws' sh' hm => ?_⟩, fun _ => hU⟩
        simp only [List.length_map]
        exact ⟨i, ixN_lt lx, hO _ _ 2 setE_eq hk (told_set W hi (by rw [hkd]; exact .inr ⟨.inr rfl, ns', sh', hm⟩))⟩
    · intro U hU
      repeat (first | dsimp only [rowsD] | walk_at "rs1" | set_option simprocs false in simp only [ixk0, ixk1, ixk2, ixk3, ixk4, ex_at])
      simp only [List.length_map]
      refine ⟨fun h => ⟨wordsD w0, atI_of e0, kdAt hs i, ns0, w0, c, rfl, sh0, c0, fun ns' ws' sh' hm => ⟨i, ixN_lt lx, ?_⟩⟩, fun _ => hU⟩
      have hk : k ≠ 4 := by have := of_decide_eq_true h; omega
      exact hO _ _ 1 setE_eq hk (told_set W hi (.inr ⟨.inl rfl, ns', sh', hm⟩))
  rintro ρ ⟨R, due, hT, hR, rfl⟩
  refine cutT (fun ρ => ∃ t : Str, ((k = 4 ∧ t = textW (rowsW g hs ks) ∧ due = 0) ∨ (k ≠ 4 ∧ due < 3 ∧ ∀ cs Q Z, Z (clsOf cs due) → rx_read cs [.str t] Q Z)) ∧ ρ = [some (B.p (D.scr ns)), some (B.o (rowsD R)), some (B.p (D.int i)), some (B.p (D.int c)), some (B.p (D.int k)), some (B.p (D.int due)), some (B.p (D.str t))]) ?_ fun N hN => ?_
  rotate_left
  · repeat (first | dsimp only [r_law_text] | walk_at "rs1" | set_option simprocs false in simp only [ixk0, ixk1, ixk2, ixk3, ixk4, ex_at])
    refine ⟨R, rfl, hR, rfl, hN _ ⟨_, ?_, rfl⟩⟩
    rcases hT with ⟨h1, rfl, h3⟩ | ⟨h1, h2⟩
    · exact .inl ⟨h1, rfl, h3⟩
    · exact .inr ⟨h1, h2⟩
  rintro ρ ⟨t, ht, rfl⟩
  refine cutT (fun ρ => ∃ t : Str, (due < 3 ∧ ∀ cs Q Z, Z (clsOf cs due) → rx_read cs [.str t] Q Z) ∧ ρ = [some (B.p (D.scr ns)), some (B.o (rowsD R)), some (B.p (D.int i)), some (B.p (D.int c)), some (B.p (D.int k)), some (B.p (D.int due)), some (B.p (D.str t))]) ?_ fun N hN => ?_
  rotate_left
  · repeat (first | dsimp only [r_law_exchanged] | walk_at "rs1" | set_option simprocs false in simp only [ixk0, ixk1, ixk2, ixk3, ixk4, ex_at])
    rcases ht with ⟨h1, rfl, rfl⟩ | ⟨h1, h2⟩
    · exact ⟨fun _ => ⟨g, hs, ks, c, rfl, W, c0, fun t h => hN _ ⟨t, ⟨by decide, h⟩, rfl⟩⟩, fun z => absurd h1 (of_decide_eq_false z)⟩
    · exact ⟨fun z => absurd (of_decide_eq_true z) h1, fun _ => hN _ ⟨t, h2, rfl⟩⟩
  rintro ρ ⟨t, hT2, rfl⟩
  have key : ∀ P : B → Prop, P (.p (.bl true)) → r_law_refusal cs [D.str t] fun x => (-2 ^ 62 ≤ (6 : Int) ∧ (6 : Int) < 2 ^ 62) ∧ lcI (upFrom 0 (Int.toNat 6)) (Tg.n 0) dTrue (dOp dEqS (dVar 0) (dVar 1)) [none, some (B.p (D.int due))] fun y => dEq x.val y.val P := fun P h => by
    refine ⟨t, due, rfl, hT2, ⟨by decide, by decide⟩, lc_mapE (xs := List.range 6) (e := fun i => D.int ((0 : Int) + (i : Nat))) (fun d => match d with | .int i => .bl (decide (i = due)) | d => d) (fun i => .bl (decide ((0 : Int) + (i : Nat) = due))) (fun _ _ => rfl) (by decide) (fun _ _ => rfl) ?_⟩
    have hd : due = 0 ∨ due = 1 ∨ due = 2 := by have := hT2.1; omega
    have pe : peq (sixD due) (D.lst ((List.range 6).map fun i => D.bl (decide ((0 : Int) + (i : Nat) = due)))) = true := by rcases hd with rfl | rfl | rfl <;> decide +kernel
    have pn : nos (sixD due) = true ∧ nos (D.lst ((List.range 6).map fun i => D.bl (decide ((0 : Int) + (i : Nat) = due)))) = true ∧ dep (sixD due) ≤ 60 := by rcases hd with rfl | rfl | rfl <;> exact ⟨by decide +kernel, by decide +kernel, by decide +kernel⟩
    refine ⟨pn, ?_⟩
    show P (.p (.bl (peq (sixD due) (D.lst ((List.range 6).map fun i => D.bl (decide ((0 : Int) + (i : Nat) = due)))))))
    rw [pe]
    exact h
  repeat (first | walk_at "rs1" | set_option simprocs false in simp only [ixk0, ixk1, ixk2, ixk3, ixk4, ex_at])
  exact key Q q
end
end WS
namespace WS
open PySem L2 DL
theorem of_len0 {α : Type} {P : List α → Prop} (h : P []) : ∀ us : List α, us.length = 0 → P us := fun us hl => match us, hl with | [], _ => h
theorem of_len1 {α : Type} {P : List α → Prop} (h : ∀ x0, P [x0]) : ∀ us : List α, us.length = 1 → P us := fun us hl => match us, hl with | [x0], _ => h x0
theorem of_len2 {α : Type} {P : List α → Prop} (h : ∀ x0 x1, P [x0, x1]) : ∀ us : List α, us.length = 2 → P us := fun us hl => match us, hl with | [x0, x1], _ => h x0 x1
theorem of_len3 {α : Type} {P : List α → Prop} (h : ∀ x0 x1 x2, P [x0, x1, x2]) : ∀ us : List α, us.length = 3 → P us := fun us hl => match us, hl with | [x0, x1, x2], _ => h x0 x1 x2
theorem all_mk {l : PySem.W.OpenLaw} {w : World} {K : PySem.W.Frag} {h : Heap} {mg : Str → Option Value} {fa : Addr} (X : K.In h) (G : h.Ns mainGlobals mg) (hfa : mg "law" = some (.ref fa))
    {f1 : Addr} {od1 an1 : Option Addr} {sl1 : Array (Option Value)} {oc1 kV1 dc1 pm1 cd1 ct1 : Value}
    {f2 : Addr} {od2 an2 : Option Addr} {sl2 : Array (Option Value)} {oc2 kV2 dc2 pm2 cd2 ct2 : Value}
    {f3 : Addr} {od3 an3 : Option Addr} {sl3 : Array (Option Value)} {oc3 kV3 dc3 pm3 cd3 ct3 : Value}
    {f4 : Addr} {od4 an4 : Option Addr} {sl4 : Array (Option Value)} {oc4 kV4 dc4 pm4 cd4 ct4 : Value}
    {f5 : Addr} {od5 an5 : Option Addr} {sl5 : Array (Option Value)} {oc5 kV5 dc5 pm5 cd5 ct5 : Value}
    {f6 : Addr} {od6 an6 : Option Addr} {sl6 : Array (Option Value)} {oc6 kV6 dc6 pm6 cd6 ct6 : Value}
    {f7 : Addr} {od7 an7 : Option Addr} {sl7 : Array (Option Value)} {oc7 kV7 dc7 pm7 cd7 ct7 : Value}
    {f8 : Addr} {od8 an8 : Option Addr} {sl8 : Array (Option Value)} {oc8 kV8 dc8 pm8 cd8 ct8 : Value}
    {f9 : Addr} {od9 an9 : Option Addr} {sl9 : Array (Option Value)} {oc9 kV9 dc9 pm9 cd9 ct9 : Value}
    {f10 : Addr} {od10 an10 : Option Addr} {sl10 : Array (Option Value)} {oc10 kV10 dc10 pm10 cd10 ct10 : Value}
    {f11 : Addr} {od11 an11 : Option Addr} {sl11 : Array (Option Value)} {oc11 kV11 dc11 pm11 cd11 ct11 : Value}
    {f12 : Addr} {od12 an12 : Option Addr} {sl12 : Array (Option Value)} {oc12 kV12 dc12 pm12 cd12 ct12 : Value}
    {f13 : Addr} {od13 an13 : Option Addr} {sl13 : Array (Option Value)} {oc13 kV13 dc13 pm13 cd13 ct13 : Value}
    {f14 : Addr} {od14 an14 : Option Addr} {sl14 : Array (Option Value)} {oc14 kV14 dc14 pm14 cd14 ct14 : Value}
    {f15 : Addr} {od15 an15 : Option Addr} {sl15 : Array (Option Value)} {oc15 kV15 dc15 pm15 cd15 ct15 : Value}
    {f16 : Addr} {od16 an16 : Option Addr} {sl16 : Array (Option Value)} {oc16 kV16 dc16 pm16 cd16 ct16 : Value}
    {f17 : Addr} {od17 an17 : Option Addr} {sl17 : Array (Option Value)} {oc17 kV17 dc17 pm17 cd17 ct17 : Value}
    {f18 : Addr} {od18 an18 : Option Addr} {sl18 : Array (Option Value)} {oc18 kV18 dc18 pm18 cd18 ct18 : Value}
    {f19 : Addr} {od19 an19 : Option Addr} {sl19 : Array (Option Value)} {oc19 kV19 dc19 pm19 cd19 ct19 : Value}
    {f20 : Addr} {od20 an20 : Option Addr} {sl20 : Array (Option Value)} {oc20 kV20 dc20 pm20 cd20 ct20 : Value}
    {f21 : Addr} {od21 an21 : Option Addr} {sl21 : Array (Option Value)} {oc21 kV21 dc21 pm21 cd21 ct21 : Value}
    {f22 : Addr} {od22 an22 : Option Addr} {sl22 : Array (Option Value)} {oc22 kV22 dc22 pm22 cd22 ct22 : Value}
    {f23 : Addr} {od23 an23 : Option Addr} {sl23 : Array (Option Value)} {oc23 kV23 dc23 pm23 cd23 ct23 : Value}
    {tk1 : Tok}
    {tk2 : Tok}
    {tk3 : Tok}
    {tk4 : Tok}
    {tk5 : Tok}
    {tk6 : Tok}
    {tk7 : Tok}
    {ec1 : Addr} {ed1 : ClassData}
    {ec2 : Addr} {ed2 : ClassData}
    {ec3 : Addr} {ed3 : ClassData}
    {ec4 : Addr} {ed4 : ClassData}
    {ec5 : Addr} {ed5 : ClassData}
    {ec6 : Addr} {ed6 : ClassData}
    (a1 : PySem.W.nsIn K mainGlobals "_law_cell_at" = some (some (.ref f1))) (l1 : K.lookup f1 = some ⟨oc1, od1, .func (PySem.W.fnOf "_law_cell_at" "_law_cell_at" (defArgs s_law_cell_at) (defBody s_law_cell_at) (defScope s_law_cell_at) .none kV1 dc1 pm1 an1 cd1 ct1), sl1⟩) (c1 : PySem.W.codeIn K cd1 "_law_cell_at" = true) (k1 : PySem.W.keepIn K (.ref f1) = true)
    (a2 : PySem.W.nsIn K mainGlobals "_law_stir" = some (some (.ref f2))) (l2 : K.lookup f2 = some ⟨oc2, od2, .func (PySem.W.fnOf "_law_stir" "_law_stir" (defArgs s_law_stir) (defBody s_law_stir) (defScope s_law_stir) .none kV2 dc2 pm2 an2 cd2 ct2), sl2⟩) (c2 : PySem.W.codeIn K cd2 "_law_stir" = true) (k2 : PySem.W.keepIn K (.ref f2) = true)
    (a3 : PySem.W.nsIn K mainGlobals "_law_stream" = some (some (.ref f3))) (l3 : K.lookup f3 = some ⟨oc3, od3, .func (PySem.W.fnOf "_law_stream" "_law_stream" (defArgs s_law_stream) (defBody s_law_stream) (defScope s_law_stream) .none kV3 dc3 pm3 an3 cd3 ct3), sl3⟩) (c3 : PySem.W.codeIn K cd3 "_law_stream" = true) (k3 : PySem.W.keepIn K (.ref f3) = true)
    (a4 : PySem.W.nsIn K mainGlobals "_law_rows" = some (some (.ref f4))) (l4 : K.lookup f4 = some ⟨oc4, od4, .func (PySem.W.fnOf "_law_rows" "_law_rows" (defArgs s_law_rows) (defBody s_law_rows) (defScope s_law_rows) .none kV4 dc4 pm4 an4 cd4 ct4), sl4⟩) (c4 : PySem.W.codeIn K cd4 "_law_rows" = true) (k4 : PySem.W.keepIn K (.ref f4) = true)
    (a5 : PySem.W.nsIn K mainGlobals "_law_text" = some (some (.ref f5))) (l5 : K.lookup f5 = some ⟨oc5, od5, .func (PySem.W.fnOf "_law_text" "_law_text" (defArgs s_law_text) (defBody s_law_text) (defScope s_law_text) .none kV5 dc5 pm5 an5 cd5 ct5), sl5⟩) (c5 : PySem.W.codeIn K cd5 "_law_text" = true) (k5 : PySem.W.keepIn K (.ref f5) = true)
    (a6 : PySem.W.nsIn K mainGlobals "_law_beyond" = some (some (.ref f6))) (l6 : K.lookup f6 = some ⟨oc6, od6, .func (PySem.W.fnOf "_law_beyond" "_law_beyond" (defArgs s_law_beyond) (defBody s_law_beyond) (defScope s_law_beyond) .none kV6 dc6 pm6 an6 cd6 ct6), sl6⟩) (c6 : PySem.W.codeIn K cd6 "_law_beyond" = true) (k6 : PySem.W.keepIn K (.ref f6) = true)
    (a7 : PySem.W.nsIn K mainGlobals "_law_signs" = some (some (.ref f7))) (l7 : K.lookup f7 = some ⟨oc7, od7, .func (PySem.W.fnOf "_law_signs" "_law_signs" (defArgs s_law_signs) (defBody s_law_signs) (defScope s_law_signs) .none kV7 dc7 pm7 an7 cd7 ct7), sl7⟩) (c7 : PySem.W.codeIn K cd7 "_law_signs" = true) (k7 : PySem.W.keepIn K (.ref f7) = true)
    (a8 : PySem.W.nsIn K mainGlobals "_law_exchanged" = some (some (.ref f8))) (l8 : K.lookup f8 = some ⟨oc8, od8, .func (PySem.W.fnOf "_law_exchanged" "_law_exchanged" (defArgs s_law_exchanged) (defBody s_law_exchanged) (defScope s_law_exchanged) .none kV8 dc8 pm8 an8 cd8 ct8), sl8⟩) (c8 : PySem.W.codeIn K cd8 "_law_exchanged" = true) (k8 : PySem.W.keepIn K (.ref f8) = true)
    (a9 : PySem.W.nsIn K mainGlobals "is_numeral" = some (some (.ref f9))) (l9 : K.lookup f9 = some ⟨oc9, od9, .func (PySem.W.fnOf "is_numeral" "is_numeral" (defArgs s_is_numeral) (defBody s_is_numeral) (defScope s_is_numeral) .none kV9 dc9 pm9 an9 cd9 ct9), sl9⟩) (c9 : PySem.W.codeIn K cd9 "is_numeral" = true) (k9 : PySem.W.keepIn K (.ref f9) = true)
    (a10 : PySem.W.nsIn K mainGlobals "numbers_of" = some (some (.ref f10))) (l10 : K.lookup f10 = some ⟨oc10, od10, .func (PySem.W.fnOf "numbers_of" "numbers_of" (defArgs s_numbers_of) (defBody s_numbers_of) (defScope s_numbers_of) .none kV10 dc10 pm10 an10 cd10 ct10), sl10⟩) (c10 : PySem.W.codeIn K cd10 "numbers_of" = true) (k10 : PySem.W.keepIn K (.ref f10) = true)
    (a11 : PySem.W.nsIn K mainGlobals "check_within" = some (some (.ref f11))) (l11 : K.lookup f11 = some ⟨oc11, od11, .func (PySem.W.fnOf "check_within" "check_within" (defArgs s_check_within) (defBody s_check_within) (defScope s_check_within) .none kV11 dc11 pm11 an11 cd11 ct11), sl11⟩) (c11 : PySem.W.codeIn K cd11 "check_within" = true) (k11 : PySem.W.keepIn K (.ref f11) = true)
    (a12 : PySem.W.nsIn K mainGlobals "read_gap" = some (some (.ref f12))) (l12 : K.lookup f12 = some ⟨oc12, od12, .func (PySem.W.fnOf "read_gap" "read_gap" (defArgs s_read_gap) (defBody s_read_gap) (defScope s_read_gap) .none kV12 dc12 pm12 an12 cd12 ct12), sl12⟩) (c12 : PySem.W.codeIn K cd12 "read_gap" = true) (k12 : PySem.W.keepIn K (.ref f12) = true)
    (a13 : PySem.W.nsIn K mainGlobals "check_room" = some (some (.ref f13))) (l13 : K.lookup f13 = some ⟨oc13, od13, .func (PySem.W.fnOf "check_room" "check_room" (defArgs s_check_room) (defBody s_check_room) (defScope s_check_room) .none kV13 dc13 pm13 an13 cd13 ct13), sl13⟩) (c13 : PySem.W.codeIn K cd13 "check_room" = true) (k13 : PySem.W.keepIn K (.ref f13) = true)
    (a14 : PySem.W.nsIn K mainGlobals "check_place" = some (some (.ref f14))) (l14 : K.lookup f14 = some ⟨oc14, od14, .func (PySem.W.fnOf "check_place" "check_place" (defArgs s_check_place) (defBody s_check_place) (defScope s_check_place) .none kV14 dc14 pm14 an14 cd14 ct14), sl14⟩) (c14 : PySem.W.codeIn K cd14 "check_place" = true) (k14 : PySem.W.keepIn K (.ref f14) = true)
    (a15 : PySem.W.nsIn K mainGlobals "check_stream" = some (some (.ref f15))) (l15 : K.lookup f15 = some ⟨oc15, od15, .func (PySem.W.fnOf "check_stream" "check_stream" (defArgs s_check_stream) (defBody s_check_stream) (defScope s_check_stream) .none kV15 dc15 pm15 an15 cd15 ct15), sl15⟩) (c15 : PySem.W.codeIn K cd15 "check_stream" = true) (k15 : PySem.W.keepIn K (.ref f15) = true)
    (a16 : PySem.W.nsIn K mainGlobals "read" = some (some (.ref f16))) (l16 : K.lookup f16 = some ⟨oc16, od16, .func (PySem.W.fnOf "read" "read" (defArgs s_read) (defBody s_read) (defScope s_read) .none kV16 dc16 pm16 an16 cd16 ct16), sl16⟩) (c16 : PySem.W.codeIn K cd16 "read" = true) (k16 : PySem.W.keepIn K (.ref f16) = true)
    (a17 : PySem.W.nsIn K mainGlobals "_law_refusal" = some (some (.ref f17))) (l17 : K.lookup f17 = some ⟨oc17, od17, .func (PySem.W.fnOf "_law_refusal" "_law_refusal" (defArgs s_law_refusal) (defBody s_law_refusal) (defScope s_law_refusal) .none kV17 dc17 pm17 an17 cd17 ct17), sl17⟩) (c17 : PySem.W.codeIn K cd17 "_law_refusal" = true) (k17 : PySem.W.keepIn K (.ref f17) = true)
    (a18 : PySem.W.nsIn K mainGlobals "_law_wrong" = some (some (.ref f18))) (l18 : K.lookup f18 = some ⟨oc18, od18, .func (PySem.W.fnOf "_law_wrong" "_law_wrong" (defArgs s_law_wrong) (defBody s_law_wrong) (defScope s_law_wrong) .none kV18 dc18 pm18 an18 cd18 ct18), sl18⟩) (c18 : PySem.W.codeIn K cd18 "_law_wrong" = true) (k18 : PySem.W.keepIn K (.ref f18) = true)
    (a19 : PySem.W.nsIn K mainGlobals "_law_out_of_place" = some (some (.ref f19))) (l19 : K.lookup f19 = some ⟨oc19, od19, .func (PySem.W.fnOf "_law_out_of_place" "_law_out_of_place" (defArgs s_law_out_of_place) (defBody s_law_out_of_place) (defScope s_law_out_of_place) .none kV19 dc19 pm19 an19 cd19 ct19), sl19⟩) (c19 : PySem.W.codeIn K cd19 "_law_out_of_place" = true) (k19 : PySem.W.keepIn K (.ref f19) = true)
    (a20 : PySem.W.nsIn K mainGlobals "_law_other_word" = some (some (.ref f20))) (l20 : K.lookup f20 = some ⟨oc20, od20, .func (PySem.W.fnOf "_law_other_word" "_law_other_word" (defArgs s_law_other_word) (defBody s_law_other_word) (defScope s_law_other_word) .none kV20 dc20 pm20 an20 cd20 ct20), sl20⟩) (c20 : PySem.W.codeIn K cd20 "_law_other_word" = true) (k20 : PySem.W.keepIn K (.ref f20) = true)
    (a21 : PySem.W.nsIn K mainGlobals "_law_bad_number" = some (some (.ref f21))) (l21 : K.lookup f21 = some ⟨oc21, od21, .func (PySem.W.fnOf "_law_bad_number" "_law_bad_number" (defArgs s_law_bad_number) (defBody s_law_bad_number) (defScope s_law_bad_number) .none kV21 dc21 pm21 an21 cd21 ct21), sl21⟩) (c21 : PySem.W.codeIn K cd21 "_law_bad_number" = true) (k21 : PySem.W.keepIn K (.ref f21) = true)
    (a22 : PySem.W.nsIn K mainGlobals "_law_no_form" = some (some (.ref f22))) (l22 : K.lookup f22 = some ⟨oc22, od22, .func (PySem.W.fnOf "_law_no_form" "_law_no_form" (defArgs s_law_no_form) (defBody s_law_no_form) (defScope s_law_no_form) .none kV22 dc22 pm22 an22 cd22 ct22), sl22⟩) (c22 : PySem.W.codeIn K cd22 "_law_no_form" = true) (k22 : PySem.W.keepIn K (.ref f22) = true)
    (a23 : PySem.W.nsIn K mainGlobals "law" = some (some (.ref f23))) (l23 : K.lookup f23 = some ⟨oc23, od23, .func (PySem.W.fnOf "law" "law" (defArgs s_law) (defBody s_law) (defScope s_law) .none kV23 dc23 pm23 an23 cd23 ct23), sl23⟩) (c23 : PySem.W.codeIn K cd23 "law" = true) (k23 : PySem.W.keepIn K (.ref f23) = true)
    (z1 : PySem.W.nsIn K mainGlobals "len" = some none)
    (z2 : PySem.W.nsIn K mainGlobals "min" = some none)
    (z3 : PySem.W.nsIn K mainGlobals "str" = some none)
    (z4 : PySem.W.nsIn K mainGlobals "int" = some none)
    (z5 : PySem.W.nsIn K mainGlobals "range" = some none)
    (z6 : PySem.W.nsIn K mainGlobals "all" = some none)
    (z7 : PySem.W.nsIn K mainGlobals "isinstance" = some none)
    (z8 : PySem.W.nsIn K mainGlobals "ValueError" = some none)
    (y1 : PySem.W.nsIn K mainGlobals "FIGURES" = some (some (.str "0123456789" tk1)))
    (y2 : PySem.W.nsIn K mainGlobals "MOST_FIGURES" = some (some (.int 10 tk2)))
    (y3 : PySem.W.nsIn K mainGlobals "MOST_GAP" = some (some (.int 50 tk3)))
    (y4 : PySem.W.nsIn K mainGlobals "MOST_DEGREE" = some (some (.int 200 tk4)))
    (y5 : PySem.W.nsIn K mainGlobals "LEAST_RATE" = some (some (.int 1 tk5)))
    (y6 : PySem.W.nsIn K mainGlobals "MOST_RATE" = some (some (.int 1000000000 tk6)))
    (y7 : PySem.W.nsIn K mainGlobals "MOST_OF_A_KIND" = some (some (.int 12 tk7)))
    (ea1 : PySem.W.nsIn K mainGlobals "HeatError" = some (some (.ref ec1))) (eb1 : PySem.W.excIn K ec1 veM "ValueError.__new__" = true)
    (eg1 : PySem.W.findIn K (.ref ec1) "__getattribute__" = some (some (.builtin "BaseException.__getattribute__")))
    (eh1 : PySem.W.findIn K (.ref ec1) "__getattr__" = some none)
    (ei1 : PySem.W.findIn K (.ref ec1) "__class__" = some (some (.builtin "object.__class__")))
    (ej1 : PySem.W.mroIn K ec1 (.type "object") = some true)
    (ek1 : PySem.W.mroIn K ec1 (.type "BaseException") = some true)
    (el1 : PySem.W.clsIn K ec1 = some ed1)
    (ea2 : PySem.W.nsIn K mainGlobals "NoRow" = some (some (.ref ec2))) (eb2 : PySem.W.excIn K ec2 veM "ValueError.__new__" = true)
    (eg2 : PySem.W.findIn K (.ref ec2) "__getattribute__" = some (some (.builtin "BaseException.__getattribute__")))
    (eh2 : PySem.W.findIn K (.ref ec2) "__getattr__" = some none)
    (ei2 : PySem.W.findIn K (.ref ec2) "__class__" = some (some (.builtin "object.__class__")))
    (ej2 : PySem.W.mroIn K ec2 (.type "object") = some true)
    (ek2 : PySem.W.mroIn K ec2 (.type "BaseException") = some true)
    (el2 : PySem.W.clsIn K ec2 = some ed2)
    (ea3 : PySem.W.nsIn K mainGlobals "NoMeasure" = some (some (.ref ec3))) (eb3 : PySem.W.excIn K ec3 veM "ValueError.__new__" = true)
    (eg3 : PySem.W.findIn K (.ref ec3) "__getattribute__" = some (some (.builtin "BaseException.__getattribute__")))
    (eh3 : PySem.W.findIn K (.ref ec3) "__getattr__" = some none)
    (ei3 : PySem.W.findIn K (.ref ec3) "__class__" = some (some (.builtin "object.__class__")))
    (ej3 : PySem.W.mroIn K ec3 (.type "object") = some true)
    (ek3 : PySem.W.mroIn K ec3 (.type "BaseException") = some true)
    (el3 : PySem.W.clsIn K ec3 = some ed3)
    (ea4 : PySem.W.nsIn K mainGlobals "WrongWay" = some (some (.ref ec4))) (eb4 : PySem.W.excIn K ec4 veM "ValueError.__new__" = true)
    (eg4 : PySem.W.findIn K (.ref ec4) "__getattribute__" = some (some (.builtin "BaseException.__getattribute__")))
    (eh4 : PySem.W.findIn K (.ref ec4) "__getattr__" = some none)
    (ei4 : PySem.W.findIn K (.ref ec4) "__class__" = some (some (.builtin "object.__class__")))
    (ej4 : PySem.W.mroIn K ec4 (.type "object") = some true)
    (ek4 : PySem.W.mroIn K ec4 (.type "BaseException") = some true)
    (el4 : PySem.W.clsIn K ec4 = some ed4)
    (ea5 : PySem.W.nsIn K mainGlobals "Full" = some (some (.ref ec5))) (eb5 : PySem.W.excIn K ec5 veM "ValueError.__new__" = true)
    (eg5 : PySem.W.findIn K (.ref ec5) "__getattribute__" = some (some (.builtin "BaseException.__getattribute__")))
    (eh5 : PySem.W.findIn K (.ref ec5) "__getattr__" = some none)
    (ei5 : PySem.W.findIn K (.ref ec5) "__class__" = some (some (.builtin "object.__class__")))
    (ej5 : PySem.W.mroIn K ec5 (.type "object") = some true)
    (ek5 : PySem.W.mroIn K ec5 (.type "BaseException") = some true)
    (el5 : PySem.W.clsIn K ec5 = some ed5)
    (ea6 : PySem.W.nsIn K mainGlobals "NoStream" = some (some (.ref ec6))) (eb6 : PySem.W.excIn K ec6 veM "ValueError.__new__" = true)
    (eg6 : PySem.W.findIn K (.ref ec6) "__getattribute__" = some (some (.builtin "BaseException.__getattribute__")))
    (eh6 : PySem.W.findIn K (.ref ec6) "__getattr__" = some none)
    (ei6 : PySem.W.findIn K (.ref ec6) "__class__" = some (some (.builtin "object.__class__")))
    (ej6 : PySem.W.mroIn K ec6 (.type "object") = some true)
    (ek6 : PySem.W.mroIn K ec6 (.type "BaseException") = some true)
    (el6 : PySem.W.clsIn K ec6 = some ed6)
    (em1 : PySem.W.specialIn K (.builtin "object.__class__") "__get__" = some (some (.builtin "getset_descriptor.__get__"))) (em2 : PySem.W.takesIn K (.builtin "object.__class__") = some true)
    (ef1 : PySem.W.kitOne K (.ref ec2) (.ref ec1) = some true)
    (ef2 : PySem.W.exmOne K (.ref ec2) (.ref ec1) = some true)
    (ef3 : PySem.W.kitOne K (.ref ec2) (.ref ec2) = some true)
    (ef4 : PySem.W.exmOne K (.ref ec2) (.ref ec2) = some true)
    (ef5 : PySem.W.kitOne K (.ref ec2) (.ref ec3) = some false)
    (ef6 : PySem.W.exmOne K (.ref ec2) (.ref ec3) = some false)
    (ef7 : PySem.W.kitOne K (.ref ec2) (.ref ec4) = some false)
    (ef8 : PySem.W.exmOne K (.ref ec2) (.ref ec4) = some false)
    (ef9 : PySem.W.kitOne K (.ref ec2) (.ref ec5) = some false)
    (ef10 : PySem.W.exmOne K (.ref ec2) (.ref ec5) = some false)
    (ef11 : PySem.W.kitOne K (.ref ec2) (.ref ec6) = some false)
    (ef12 : PySem.W.exmOne K (.ref ec2) (.ref ec6) = some false)
    (ef13 : PySem.W.kitOne K (.ref ec2) (.type "ValueError") = some true)
    (ef14 : PySem.W.kitOne K (.ref ec3) (.ref ec1) = some true)
    (ef15 : PySem.W.exmOne K (.ref ec3) (.ref ec1) = some true)
    (ef16 : PySem.W.kitOne K (.ref ec3) (.ref ec2) = some false)
    (ef17 : PySem.W.exmOne K (.ref ec3) (.ref ec2) = some false)
    (ef18 : PySem.W.kitOne K (.ref ec3) (.ref ec3) = some true)
    (ef19 : PySem.W.exmOne K (.ref ec3) (.ref ec3) = some true)
    (ef20 : PySem.W.kitOne K (.ref ec3) (.ref ec4) = some false)
    (ef21 : PySem.W.exmOne K (.ref ec3) (.ref ec4) = some false)
    (ef22 : PySem.W.kitOne K (.ref ec3) (.ref ec5) = some false)
    (ef23 : PySem.W.exmOne K (.ref ec3) (.ref ec5) = some false)
    (ef24 : PySem.W.kitOne K (.ref ec3) (.ref ec6) = some false)
    (ef25 : PySem.W.exmOne K (.ref ec3) (.ref ec6) = some false)
    (ef26 : PySem.W.kitOne K (.ref ec3) (.type "ValueError") = some true)
    (ef27 : PySem.W.kitOne K (.ref ec4) (.ref ec1) = some true)
    (ef28 : PySem.W.exmOne K (.ref ec4) (.ref ec1) = some true)
    (ef29 : PySem.W.kitOne K (.ref ec4) (.ref ec2) = some false)
    (ef30 : PySem.W.exmOne K (.ref ec4) (.ref ec2) = some false)
    (ef31 : PySem.W.kitOne K (.ref ec4) (.ref ec3) = some false)
    (ef32 : PySem.W.exmOne K (.ref ec4) (.ref ec3) = some false)
    (ef33 : PySem.W.kitOne K (.ref ec4) (.ref ec4) = some true)
    (ef34 : PySem.W.exmOne K (.ref ec4) (.ref ec4) = some true)
    (ef35 : PySem.W.kitOne K (.ref ec4) (.ref ec5) = some false)
    (ef36 : PySem.W.exmOne K (.ref ec4) (.ref ec5) = some false)
    (ef37 : PySem.W.kitOne K (.ref ec4) (.ref ec6) = some false)
    (ef38 : PySem.W.exmOne K (.ref ec4) (.ref ec6) = some false)
    (ef39 : PySem.W.kitOne K (.ref ec4) (.type "ValueError") = some true)
    : ∃ fd : FuncData, (∀ (s : Shared) (v : Value), BindsTo s fd ⟨[v], []⟩ [("script", v)]) ∧ ∀ base : Heap, K.In base → base.Ns mainGlobals mg → FnOk l.prog w K mg base CX0 6 fa fd ["script"] (spLaw K) := by
  have e := hfa.symm.trans (PySem.W.mg_of X G a23)
  cases e
  have F1 := fun_mk (st := s_law_cell_at) l1 c1 k1
  have b1 := F1.binds (ps := ["script", "k"]) fun _ _ _ _ _ _ => of_len2 fun _ _ => rfl
  have F2 := fun_mk (st := s_law_stir) l2 c2 k2
  have b2 := F2.binds (ps := ["cell", "k"]) fun _ _ _ _ _ _ => of_len2 fun _ _ => rfl
  have F3 := fun_mk (st := s_law_stream) l3 c3 k3
  have b3 := F3.binds (ps := ["cell", "base"]) fun _ _ _ _ _ _ => of_len2 fun _ _ => rfl
  have F4 := fun_mk (st := s_law_rows) l4 c4 k4
  have b4 := F4.binds (ps := ["script"]) fun _ _ _ _ _ _ => of_len1 fun _ => rfl
  have F5 := fun_mk (st := s_law_text) l5 c5 k5
  have b5 := F5.binds (ps := ["rows"]) fun _ _ _ _ _ _ => of_len1 fun _ => rfl
  have F6 := fun_mk (st := s_law_beyond) l6 c6 k6
  have b6 := F6.binds (ps := ["words", "cell"]) fun _ _ _ _ _ _ => of_len2 fun _ _ => rfl
  have F7 := fun_mk (st := s_law_signs) l7 c7 k7
  have b7 := F7.binds (ps := []) fun _ _ _ _ _ _ => of_len0 rfl
  have F8 := fun_mk (st := s_law_exchanged) l8 c8 k8
  have b8 := F8.binds (ps := ["text", "cell"]) fun _ _ _ _ _ _ => of_len2 fun _ _ => rfl
  have F9 := fun_mk (st := s_is_numeral) l9 c9 k9
  have b9 := F9.binds (ps := ["word"]) fun _ _ _ _ _ _ => of_len1 fun _ => rfl
  have F10 := fun_mk (st := s_numbers_of) l10 c10 k10
  have b10 := F10.binds (ps := ["words", "count"]) fun _ _ _ _ _ _ => of_len2 fun _ _ => rfl
  have F11 := fun_mk (st := s_check_within) l11 c11 k11
  have b11 := F11.binds (ps := ["number", "least", "most"]) fun _ _ _ _ _ _ => of_len3 fun _ _ _ => rfl
  have F12 := fun_mk (st := s_read_gap) l12 c12 k12
  have b12 := F12.binds (ps := ["row"]) fun _ _ _ _ _ _ => of_len1 fun _ => rfl
  have F13 := fun_mk (st := s_check_room) l13 c13 k13
  have b13 := F13.binds (ps := ["streams"]) fun _ _ _ _ _ _ => of_len1 fun _ => rfl
  have F14 := fun_mk (st := s_check_place) l14 c14 k14
  have b14 := F14.binds (ps := ["kind", "hots", "colds"]) fun _ _ _ _ _ _ => of_len3 fun _ _ _ => rfl
  have F15 := fun_mk (st := s_check_stream) l15 c15 k15
  have b15 := F15.binds (ps := ["kind", "stream"]) fun _ _ _ _ _ _ => of_len2 fun _ _ => rfl
  have F16 := fun_mk (st := s_read) l16 c16 k16
  have b16 := F16.binds (ps := ["text"]) fun _ _ _ _ _ _ => of_len1 fun _ => rfl
  have F17 := fun_mk (st := s_law_refusal) l17 c17 k17
  have b17 := F17.binds (ps := ["text"]) fun _ _ _ _ _ _ => of_len1 fun _ => rfl
  have F18 := fun_mk (st := s_law_wrong) l18 c18 k18
  have b18 := F18.binds (ps := ["words", "cell"]) fun _ _ _ _ _ _ => of_len2 fun _ _ => rfl
  have F19 := fun_mk (st := s_law_out_of_place) l19 c19 k19
  have b19 := F19.binds (ps := ["rows", "cell"]) fun _ _ _ _ _ _ => of_len2 fun _ _ => rfl
  have F20 := fun_mk (st := s_law_other_word) l20 c20 k20
  have b20 := F20.binds (ps := ["word", "cell"]) fun _ _ _ _ _ _ => of_len2 fun _ _ => rfl
  have F21 := fun_mk (st := s_law_bad_number) l21 c21 k21
  have b21 := F21.binds (ps := ["word", "cell"]) fun _ _ _ _ _ _ => of_len2 fun _ _ => rfl
  have F22 := fun_mk (st := s_law_no_form) l22 c22 k22
  have b22 := F22.binds (ps := ["words", "cell"]) fun _ _ _ _ _ _ => of_len2 fun _ _ => rfl
  have F23 := fun_mk (st := s_law) l23 c23 k23
  have b23 := F23.binds (ps := ["script"]) fun _ _ _ _ _ _ => of_len1 fun _ => rfl
  have T : Blt mg := ⟨PySem.W.mg_none_of X G z1, PySem.W.mg_none_of X G z2, PySem.W.mg_none_of X G z3, PySem.W.mg_none_of X G z4, PySem.W.mg_none_of X G z5, PySem.W.mg_none_of X G z6, PySem.W.mg_none_of X G z7, PySem.W.mg_none_of X G z8, ⟨_, PySem.W.mg_of X G y1⟩, ⟨_, PySem.W.mg_of X G y2⟩, ⟨_, PySem.W.mg_of X G y3⟩, ⟨_, PySem.W.mg_of X G y4⟩, ⟨_, PySem.W.mg_of X G y5⟩, ⟨_, PySem.W.mg_of X G y6⟩, ⟨_, PySem.W.mg_of X G y7⟩⟩
  have TX : Errs K mg ⟨ec1, ec2, ec3, ec4, ec5, ec6⟩ := ⟨⟨eb1, PySem.W.mg_of X G ea1, ⟨eg1, eh1, ei1, em1, em2, ej1, ek1, by rw [el1]; rfl⟩⟩, ⟨eb2, PySem.W.mg_of X G ea2, ⟨eg2, eh2, ei2, em1, em2, ej2, ek2, by rw [el2]; rfl⟩⟩, ⟨eb3, PySem.W.mg_of X G ea3, ⟨eg3, eh3, ei3, em1, em2, ej3, ek3, by rw [el3]; rfl⟩⟩, ⟨eb4, PySem.W.mg_of X G ea4, ⟨eg4, eh4, ei4, em1, em2, ej4, ek4, by rw [el4]; rfl⟩⟩, ⟨eb5, PySem.W.mg_of X G ea5, ⟨eg5, eh5, ei5, em1, em2, ej5, ek5, by rw [el5]; rfl⟩⟩, ⟨eb6, PySem.W.mg_of X G ea6, ⟨eg6, eh6, ei6, em1, em2, ej6, ek6, by rw [el6]; rfl⟩⟩, ef1, ef2, ef3, ef4, ef5, ef6, ef7, ef8, ef9, ef10, ef11, ef12, ef13, ef14, ef15, ef16, ef17, ef18, ef19, ef20, ef21, ef22, ef23, ef24, ef25, ef26, ef27, ef28, ef29, ef30, ef31, ef32, ef33, ef34, ef35, ef36, ef37, ef38, ef39⟩
  have G1 : ∀ base : Heap, Fn l.prog w K mg base "_law_cell_at" 1 ["script", "k"] (spD K r_law_cell_at) := fun base => fn_mk F1 (PySem.W.mg_of X G a1) b1 (ok_law_cell_at T F1)
  have G2 : ∀ base : Heap, Fn l.prog w K mg base "_law_stir" 1 ["cell", "k"] (spD K r_law_stir) := fun base => fn_mk F2 (PySem.W.mg_of X G a2) b2 (ok_law_stir T F2)
  have G3 : ∀ base : Heap, Fn l.prog w K mg base "_law_stream" 2 ["cell", "base"] (spD K r_law_stream) := fun base => fn_mk F3 (PySem.W.mg_of X G a3) b3 (ok_law_stream T (G2 base) F3)
  have G4 : ∀ base : Heap, Fn l.prog w K mg base "_law_rows" 3 ["script"] (spD K r_law_rows) := fun base => fn_mk F4 (PySem.W.mg_of X G a4) b4 (ok_law_rows T (G1 base) (G3 base) (G2 base) F4)
  have G5 : ∀ base : Heap, Fn l.prog w K mg base "_law_text" 1 ["rows"] (spD K r_law_text) := fun base => fn_mk F5 (PySem.W.mg_of X G a5) b5 (ok_law_text T F5)
  have G6 : ∀ base : Heap, Fn l.prog w K mg base "_law_beyond" 1 ["words", "cell"] (spD K r_law_beyond) := fun base => fn_mk F6 (PySem.W.mg_of X G a6) b6 (ok_law_beyond T F6)
  have G7 : ∀ base : Heap, Fn l.prog w K mg base "_law_signs" 1 [] (spD K r_law_signs) := fun base => fn_mk F7 (PySem.W.mg_of X G a7) b7 (ok_law_signs T F7)
  have G8 : ∀ base : Heap, Fn l.prog w K mg base "_law_exchanged" 2 ["text", "cell"] (spD K r_law_exchanged) := fun base => fn_mk F8 (PySem.W.mg_of X G a8) b8 (ok_law_exchanged T (G7 base) F8)
  have G9 : ∀ base : Heap, Fn l.prog w K mg base "is_numeral" 1 ["word"] (spD K r_is_numeral) := fun base => fn_mk F9 (PySem.W.mg_of X G a9) b9 (ok_is_numeral T F9)
  have GX10 : ∀ base : Heap, FnX l.prog w K mg base "numbers_of" 2 ["words", "count"] (spX K (rx_numbers_of ⟨ec1, ec2, ec3, ec4, ec5, ec6⟩)) := fun base => fnx_mk F10 (PySem.W.mg_of X G a10) b10 (ok_numbers_of T TX (G9 base) F10)
  have G10 : ∀ base : Heap, Fn l.prog w K mg base "numbers_of" 2 ["words", "count"] (spD K fun ds Q => rx_numbers_of ⟨ec1, ec2, ec3, ec4, ec5, ec6⟩ ds Q fun _ => False) := fun base => fnx_drop (GX10 base)
  have GX11 : ∀ base : Heap, FnX l.prog w K mg base "check_within" 1 ["number", "least", "most"] (spX K (rx_check_within ⟨ec1, ec2, ec3, ec4, ec5, ec6⟩)) := fun base => fnx_mk F11 (PySem.W.mg_of X G a11) b11 (ok_check_within T TX F11)
  have G11 : ∀ base : Heap, Fn l.prog w K mg base "check_within" 1 ["number", "least", "most"] (spD K fun ds Q => rx_check_within ⟨ec1, ec2, ec3, ec4, ec5, ec6⟩ ds Q fun _ => False) := fun base => fnx_drop (GX11 base)
  have GX12 : ∀ base : Heap, FnX l.prog w K mg base "read_gap" 3 ["row"] (spX K (rx_read_gap ⟨ec1, ec2, ec3, ec4, ec5, ec6⟩)) := fun base => fnx_mk F12 (PySem.W.mg_of X G a12) b12 (ok_read_gap T TX (GX10 base) (GX11 base) F12)
  have G12 : ∀ base : Heap, Fn l.prog w K mg base "read_gap" 3 ["row"] (spD K fun ds Q => rx_read_gap ⟨ec1, ec2, ec3, ec4, ec5, ec6⟩ ds Q fun _ => False) := fun base => fnx_drop (GX12 base)
  have GX13 : ∀ base : Heap, FnX l.prog w K mg base "check_room" 1 ["streams"] (spX K (rx_check_room ⟨ec1, ec2, ec3, ec4, ec5, ec6⟩)) := fun base => fnx_mk F13 (PySem.W.mg_of X G a13) b13 (ok_check_room T TX F13)
  have G13 : ∀ base : Heap, Fn l.prog w K mg base "check_room" 1 ["streams"] (spD K fun ds Q => rx_check_room ⟨ec1, ec2, ec3, ec4, ec5, ec6⟩ ds Q fun _ => False) := fun base => fnx_drop (GX13 base)
  have GX14 : ∀ base : Heap, FnX l.prog w K mg base "check_place" 2 ["kind", "hots", "colds"] (spX K (rx_check_place ⟨ec1, ec2, ec3, ec4, ec5, ec6⟩)) := fun base => fnx_mk F14 (PySem.W.mg_of X G a14) b14 (ok_check_place T TX (GX13 base) F14)
  have G14 : ∀ base : Heap, Fn l.prog w K mg base "check_place" 2 ["kind", "hots", "colds"] (spD K fun ds Q => rx_check_place ⟨ec1, ec2, ec3, ec4, ec5, ec6⟩ ds Q fun _ => False) := fun base => fnx_drop (GX14 base)
  have GX15 : ∀ base : Heap, FnX l.prog w K mg base "check_stream" 2 ["kind", "stream"] (spX K (rx_check_stream ⟨ec1, ec2, ec3, ec4, ec5, ec6⟩)) := fun base => fnx_mk F15 (PySem.W.mg_of X G a15) b15 (ok_check_stream T TX (GX11 base) F15)
  have G15 : ∀ base : Heap, Fn l.prog w K mg base "check_stream" 2 ["kind", "stream"] (spD K fun ds Q => rx_check_stream ⟨ec1, ec2, ec3, ec4, ec5, ec6⟩ ds Q fun _ => False) := fun base => fnx_drop (GX15 base)
  have GX16 : ∀ base : Heap, FnX l.prog w K mg base "read" 4 ["text"] (spX K (rx_read ⟨ec1, ec2, ec3, ec4, ec5, ec6⟩)) := fun base => fnx_mk F16 (PySem.W.mg_of X G a16) b16 (ok_read T TX (GX12 base) (GX10 base) (GX14 base) (GX15 base) F16)
  have G16 : ∀ base : Heap, Fn l.prog w K mg base "read" 4 ["text"] (spD K fun ds Q => rx_read ⟨ec1, ec2, ec3, ec4, ec5, ec6⟩ ds Q fun _ => False) := fun base => fnx_drop (GX16 base)
  have G17 : ∀ base : Heap, Fn l.prog w K mg base "_law_refusal" 5 ["text"] (spD K (r_law_refusal ⟨ec1, ec2, ec3, ec4, ec5, ec6⟩)) := fun base => fn_mk F17 (PySem.W.mg_of X G a17) b17 (ok_law_refusal T TX (GX16 base) F17)
  have G18 : ∀ base : Heap, Fn l.prog w K mg base "_law_wrong" 1 ["words", "cell"] (spD K r_law_wrong) := fun base => fn_mk F18 (PySem.W.mg_of X G a18) b18 (ok_law_wrong T F18)
  have G19 : ∀ base : Heap, Fn l.prog w K mg base "_law_out_of_place" 1 ["rows", "cell"] (spD K r_law_out_of_place) := fun base => fn_mk F19 (PySem.W.mg_of X G a19) b19 (ok_law_out_of_place T F19)
  have G20 : ∀ base : Heap, Fn l.prog w K mg base "_law_other_word" 2 ["word", "cell"] (spD K r_law_other_word) := fun base => fn_mk F20 (PySem.W.mg_of X G a20) b20 (ok_law_other_word T (G7 base) F20)
  have G21 : ∀ base : Heap, Fn l.prog w K mg base "_law_bad_number" 1 ["word", "cell"] (spD K r_law_bad_number) := fun base => fn_mk F21 (PySem.W.mg_of X G a21) b21 (ok_law_bad_number T F21)
  have G22 : ∀ base : Heap, Fn l.prog w K mg base "_law_no_form" 3 ["words", "cell"] (spD K r_law_no_form) := fun base => fn_mk F22 (PySem.W.mg_of X G a22) b22 (ok_law_no_form T (G20 base) (G21 base) F22)
  exact ⟨PySem.W.fnOf "law" "law" (defArgs s_law) (defBody s_law) (defScope s_law) .none kV23 dc23 pm23 an23 cd23 ct23, fun s v => .of_eq rfl, fun base _ _ => law_of (ok_law T (G4 base) (G5 base) (G1 base) (G6 base) (G8 base) (G17 base) (G18 base) (G19 base) (G22 base) F23)⟩
end WS
open PySem PySem.W PyProof.Rows
set_option maxRecDepth 100000 in
set_option maxHeartbeats 0 in
theorem PySem.Challenge.cw_warmshare_k03_one_fault_holds : PySem.Challenge.rw_warmshare_k03_one_fault.Holds := by
  w_on; o_law; k_head; (case hw => w_witness2)
  k_fill
  refine L2.walk_ofK (l := PySem.Challenge.rw_warmshare_k03_one_fault) (n := 63) (k := 6) (x := "script") (CX := L2.CX0) (sp := DL.spLaw) rfl (by decide) rfl ⟨rfl, by decide, by decide, rfl⟩ (fun w h Y => PySem.W.kIn_of Y) ?F (fun _ _ a ns hl _ hS => ⟨a, ns, rfl, hS, hl, fun _ => rfl⟩) fun _ _ _ _ z => z
  case F =>
    intro w mg fa h KX G hmg
    refine' WS.all_mk KX G hmg ?a1 ?l1 ?c1 ?k1 ?a2 ?l2 ?c2 ?k2 ?a3 ?l3 ?c3 ?k3 ?a4 ?l4 ?c4 ?k4 ?a5 ?l5 ?c5 ?k5 ?a6 ?l6 ?c6 ?k6 ?a7 ?l7 ?c7 ?k7 ?a8 ?l8 ?c8 ?k8 ?a9 ?l9 ?c9 ?k9 ?a10 ?l10 ?c10 ?k10 ?a11 ?l11 ?c11 ?k11 ?a12 ?l12 ?c12 ?k12 ?a13 ?l13 ?c13 ?k13 ?a14 ?l14 ?c14 ?k14 ?a15 ?l15 ?c15 ?k15 ?a16 ?l16 ?c16 ?k16 ?a17 ?l17 ?c17 ?k17 ?a18 ?l18 ?c18 ?k18 ?a19 ?l19 ?c19 ?k19 ?a20 ?l20 ?c20 ?k20 ?a21 ?l21 ?c21 ?k21 ?a22 ?l22 ?c22 ?k22 ?a23 ?l23 ?c23 ?k23 ?z1 ?z2 ?z3 ?z4 ?z5 ?z6 ?z7 ?z8 ?y1 ?y2 ?y3 ?y4 ?y5 ?y6 ?y7 ?ea1 ?eb1 ?eg1 ?eh1 ?ei1 ?ej1 ?ek1 ?el1 ?ea2 ?eb2 ?eg2 ?eh2 ?ei2 ?ej2 ?ek2 ?el2 ?ea3 ?eb3 ?eg3 ?eh3 ?ei3 ?ej3 ?ek3 ?el3 ?ea4 ?eb4 ?eg4 ?eh4 ?ei4 ?ej4 ?ek4 ?el4 ?ea5 ?eb5 ?eg5 ?eh5 ?ei5 ?ej5 ?ek5 ?el5 ?ea6 ?eb6 ?eg6 ?eh6 ?ei6 ?ej6 ?ek6 ?el6 ?em1 ?em2 ?ef1 ?ef2 ?ef3 ?ef4 ?ef5 ?ef6 ?ef7 ?ef8 ?ef9 ?ef10 ?ef11 ?ef12 ?ef13 ?ef14 ?ef15 ?ef16 ?ef17 ?ef18 ?ef19 ?ef20 ?ef21 ?ef22 ?ef23 ?ef24 ?ef25 ?ef26 ?ef27 ?ef28 ?ef29 ?ef30 ?ef31 ?ef32 ?ef33 ?ef34 ?ef35 ?ef36 ?ef37 ?ef38 ?ef39
    (case a1 => k_is)
    (case l1 => k_is)
    (case c1 => k_is)
    (case k1 => k_is)
    (case a2 => k_is)
    (case l2 => k_is)
    (case c2 => k_is)
    (case k2 => k_is)
    (case a3 => k_is)
    (case l3 => k_is)
    (case c3 => k_is)
    (case k3 => k_is)
    (case a4 => k_is)
    (case l4 => k_is)
    (case c4 => k_is)
    (case k4 => k_is)
    (case a5 => k_is)
    (case l5 => k_is)
    (case c5 => k_is)
    (case k5 => k_is)
    (case a6 => k_is)
    (case l6 => k_is)
    (case c6 => k_is)
    (case k6 => k_is)
    (case a7 => k_is)
    (case l7 => k_is)
    (case c7 => k_is)
    (case k7 => k_is)
    (case a8 => k_is)
    (case l8 => k_is)
    (case c8 => k_is)
    (case k8 => k_is)
    (case a9 => k_is)
    (case l9 => k_is)
    (case c9 => k_is)
    (case k9 => k_is)
    (case a10 => k_is)
    (case l10 => k_is)
    (case c10 => k_is)
    (case k10 => k_is)
    (case a11 => k_is)
    (case l11 => k_is)
    (case c11 => k_is)
    (case k11 => k_is)
    (case a12 => k_is)
    (case l12 => k_is)
    (case c12 => k_is)
    (case k12 => k_is)
    (case a13 => k_is)
    (case l13 => k_is)
    (case c13 => k_is)
    (case k13 => k_is)
    (case a14 => k_is)
    (case l14 => k_is)
    (case c14 => k_is)
    (case k14 => k_is)
    (case a15 => k_is)
    (case l15 => k_is)
    (case c15 => k_is)
    (case k15 => k_is)
    (case a16 => k_is)
    (case l16 => k_is)
    (case c16 => k_is)
    (case k16 => k_is)
    (case a17 => k_is)
    (case l17 => k_is)
    (case c17 => k_is)
    (case k17 => k_is)
    (case a18 => k_is)
    (case l18 => k_is)
    (case c18 => k_is)
    (case k18 => k_is)
    (case a19 => k_is)
    (case l19 => k_is)
    (case c19 => k_is)
    (case k19 => k_is)
    (case a20 => k_is)
    (case l20 => k_is)
    (case c20 => k_is)
    (case k20 => k_is)
    (case a21 => k_is)
    (case l21 => k_is)
    (case c21 => k_is)
    (case k21 => k_is)
    (case a22 => k_is)
    (case l22 => k_is)
    (case c22 => k_is)
    (case k22 => k_is)
    (case a23 => k_is)
    (case l23 => k_is)
    (case c23 => k_is)
    (case k23 => k_is)
    (case z1 => k_is)
    (case z2 => k_is)
    (case z3 => k_is)
    (case z4 => k_is)
    (case z5 => k_is)
    (case z6 => k_is)
    (case z7 => k_is)
    (case z8 => k_is)
    (case y1 => k_is)
    (case y2 => k_is)
    (case y3 => k_is)
    (case y4 => k_is)
    (case y5 => k_is)
    (case y6 => k_is)
    (case y7 => k_is)
    (case ea1 => k_is)
    (case eb1 => k_exc)
    (case eg1 => k_is)
    (case eh1 => k_is)
    (case ei1 => k_is)
    (case ej1 => k_is)
    (case ek1 => k_is)
    (case el1 => k_is)
    (case ea2 => k_is)
    (case eb2 => k_exc)
    (case eg2 => k_is)
    (case eh2 => k_is)
    (case ei2 => k_is)
    (case ej2 => k_is)
    (case ek2 => k_is)
    (case el2 => k_is)
    (case ea3 => k_is)
    (case eb3 => k_exc)
    (case eg3 => k_is)
    (case eh3 => k_is)
    (case ei3 => k_is)
    (case ej3 => k_is)
    (case ek3 => k_is)
    (case el3 => k_is)
    (case ea4 => k_is)
    (case eb4 => k_exc)
    (case eg4 => k_is)
    (case eh4 => k_is)
    (case ei4 => k_is)
    (case ej4 => k_is)
    (case ek4 => k_is)
    (case el4 => k_is)
    (case ea5 => k_is)
    (case eb5 => k_exc)
    (case eg5 => k_is)
    (case eh5 => k_is)
    (case ei5 => k_is)
    (case ej5 => k_is)
    (case ek5 => k_is)
    (case el5 => k_is)
    (case ea6 => k_is)
    (case eb6 => k_exc)
    (case eg6 => k_is)
    (case eh6 => k_is)
    (case ei6 => k_is)
    (case ej6 => k_is)
    (case ek6 => k_is)
    (case el6 => k_is)
    (case em1 => k_is)
    (case em2 => k_is)
    (case ef1 => kit_is)
    (case ef2 => kts_exm)
    (case ef3 => kit_is)
    (case ef4 => kts_exm)
    (case ef5 => kit_is)
    (case ef6 => kts_exm)
    (case ef7 => kit_is)
    (case ef8 => kts_exm)
    (case ef9 => kit_is)
    (case ef10 => kts_exm)
    (case ef11 => kit_is)
    (case ef12 => kts_exm)
    (case ef13 => kit_is)
    (case ef14 => kit_is)
    (case ef15 => kts_exm)
    (case ef16 => kit_is)
    (case ef17 => kts_exm)
    (case ef18 => kit_is)
    (case ef19 => kts_exm)
    (case ef20 => kit_is)
    (case ef21 => kts_exm)
    (case ef22 => kit_is)
    (case ef23 => kts_exm)
    (case ef24 => kit_is)
    (case ef25 => kts_exm)
    (case ef26 => kit_is)
    (case ef27 => kit_is)
    (case ef28 => kts_exm)
    (case ef29 => kit_is)
    (case ef30 => kts_exm)
    (case ef31 => kit_is)
    (case ef32 => kts_exm)
    (case ef33 => kit_is)
    (case ef34 => kts_exm)
    (case ef35 => kit_is)
    (case ef36 => kts_exm)
    (case ef37 => kit_is)
    (case ef38 => kts_exm)
    (case ef39 => kit_is)
#print axioms PySem.Challenge.cw_warmshare_k03_one_fault_holds