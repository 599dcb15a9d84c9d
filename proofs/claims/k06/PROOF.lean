import PyProof.Rows.All
import Wide.All
import OpenK.AllK
import Wide.FinOn
import Lean
import PyProof.EqAt
import PyProof.EqKinds
import PyProof.TupleCall
import KE.KTryMore
import PySem.Challenge.RW_warmshare_k06_ends_of_a_stream
set_option Elab.async false
set_option linter.all false
set_option maxRecDepth 100000
namespace L2
open PySem PySem.Spec PyProof.Rows
abbrev Key := Sum Int Str
def keyIs : Key → Value → Bool
  | .inl k, v => Value.isInt k v
  | .inr x, v => Value.isStrOf x v
def keyH (w : World) : Key → Int
  | .inl k => hashInt k
  | .inr x => hashStr w x
theorem keyIs_shape : ∀ {k : Key} {v : Value}, keyIs k v = true → (∃ i t, k = Sum.inl i ∧ v = Value.int i t) ∨ (∃ x t, k = Sum.inr x ∧ v = Value.str x t)
  | .inl i, v, h => by
    obtain ⟨t, e⟩ := Value.isInt_shape (k := i) (v := v) h
    exact .inl ⟨i, t, rfl, e⟩
  | .inr x, v, h => by
    obtain ⟨t, e⟩ := Value.isStrOf_shape (x := x) (v := v) h
    exact .inr ⟨x, t, rfl, e⟩
theorem key_ll (a b : Int) : decide ((Sum.inl a : Key) = Sum.inl b) = (a == b) := by
  by_cases e : a = b
  · subst e; simp
  · have h : ¬ (Sum.inl a : Key) = Sum.inl b := fun q => e (Sum.inl.inj q)
    rw [decide_eq_false h]
    exact (beq_eq_false_iff_ne.mpr e).symm
theorem key_rr (a b : Str) : decide ((Sum.inr a : Key) = Sum.inr b) = decide (a = b) := by
  by_cases e : a = b
  · subst e; simp
  · have h : ¬ (Sum.inr a : Key) = Sum.inr b := fun q => e (Sum.inr.inj q)
    rw [decide_eq_false h, decide_eq_false e]
theorem key_lr (a : Int) (b : Str) : decide ((Sum.inl a : Key) = Sum.inr b) = false := decide_eq_false (fun q => nomatch q)
theorem key_rl (a : Str) (b : Int) : decide ((Sum.inr a : Key) = Sum.inl b) = false := decide_eq_false (fun q => nomatch q)
def mixKind (prog : Program) (w : World) : PySem.KeyKind prog w Key where
  is := keyIs
  hash := keyH w
  inj := fun v a b ha hb => by
    rcases keyIs_shape ha with ⟨i, t, rfl, rfl⟩ | ⟨x, t, rfl, rfl⟩
    · rcases keyIs_shape hb with ⟨j, u, rfl, e⟩ | ⟨y, u, rfl, e⟩
      · injection e with e1 _; rw [e1]
      · exact nomatch e
    · rcases keyIs_shape hb with ⟨j, u, rfl, e⟩ | ⟨y, u, rfl, e⟩
      · exact nomatch e
      · injection e with e1 _; rw [e1]
  byValue := fun k v h => by
    rcases keyIs_shape h with ⟨i, t, rfl, rfl⟩ | ⟨x, t, rfl, rfl⟩ <;> rfl
  pyHash := fun hv h => by
    rcases keyIs_shape hv with ⟨i, t, rfl, rfl⟩ | ⟨x, t, rfl, rfl⟩
    · exact wpAny_pyHash_int h
    · exact wpAny_pyHash_str h
  eqBool := fun hu hv h => by
    rcases keyIs_shape hu with ⟨i, t, rfl, rfl⟩ | ⟨x, t, rfl, rfl⟩
    · rcases keyIs_shape hv with ⟨j, u, rfl, rfl⟩ | ⟨y, u, rfl, rfl⟩
      · rw [key_ll] at h; exact wpAny_eqBool_int h
      · rw [key_lr] at h; exact SeqAt.EqAt.int_str i t y u _ _ _ _ h
    · rcases keyIs_shape hv with ⟨j, u, rfl, rfl⟩ | ⟨y, u, rfl, rfl⟩
      · rw [key_rl] at h; exact SeqAt.EqAt.str_int x t j u _ _ _ _ h
      · rw [key_rr] at h; exact wpAny_eqBool_str h
  «strs» := fun k x t v h => by
    rcases keyIs_shape h with ⟨i, u, rfl, e⟩ | ⟨y, u, rfl, e⟩
    · exact nomatch e
    · injection e with e1 _
      subst e1
      cases v <;> rfl
end L2
namespace L2
open PySem PySem.Spec PyProof.Rows
inductive V where
  | non | bl (b : Bool) | int (i : Int) | str (x : Str) | byt (b : Array UInt8) | flt (b : UInt64) | ref (a : Addr) | ty (n : String)
  deriving DecidableEq
def RelV : V → Value → Prop
  | .non, u => u = Value.none
  | .bl b, u => u = Value.bool b
  | .int i, u => ∃ t, u = Value.int i t
  | .str x, u => ∃ t, u = Value.str x t
  | .byt b, u => ∃ t, u = Value.bytes b t
  | .flt b, u => ∃ t, u = Value.float b t
  | .ref a, u => u = Value.ref a
  | .ty n, u => u = Value.type n
abbrev Vals : List V → List Value → Prop := Paired RelV
def RelO : Option V → Option Value → Prop
  | some v, some u => RelV v u
  | none, none => True
  | _, _ => False
def KV {κ : Type} : List (κ × V) → List (κ × Value) → Prop := Paired fun (p : κ × V) (q : κ × Value) => p.1 = q.1 ∧ RelV p.2 q.2
def kV : Key → V
  | .inl i => .int i
  | .inr x => .str x
inductive HO where
  | lst (xs : List V)
  | tup (xs : List V)
  | dK (kvs : List (Key × V)) | dT (kvs : List (List Key × V))
  | set (S : Int → Bool) (n : Nat)
  | ins (C dx : Addr) (fs : List (Str × V))
  | own (x : Addr)
  | xd (fs : List (Str × V))
  | met (f x : Addr)
  | rng (lo hi : Int)
  | frz (o : Obj) (u : HO)
  | tbl (ps : Array Value)
  | ext (φ : Heap → Prop)
abbrev Hp := Addr → Option HO
section
variable (P : Program) (w : World)
def ObjOk (H : Hp) (h : Heap) (a : Addr) : HO → Prop
  | .lst xs => xs.length ≤ sizeLine ∧ ∃ (its : List Value) (n : Nat), Vals xs its ∧ h.get? a = some { cls := .type "list", data := .seq its.toArray n }
  | .tup xs => xs.length ≤ sizeLine ∧ ∃ its : List Value, Vals xs its ∧ IsTup h a its.toArray
  | .dK kvs => kvs.length ≤ sizeLine ∧ (a == sysModules) = false ∧ ∃ vs, KV kvs vs ∧ h.DictOf (mixKind P w) a vs
  | .dT kvs => kvs.length ≤ sizeLine ∧ (a == sysModules) = false ∧ ∃ xs : List (List Key × Addr × Value),
      Paired (fun (p : List Key × V) (q : List Key × Addr × Value) => p.1 = q.1 ∧ H q.2.1 = some (.tup (p.1.map kV)) ∧ RelV p.2 q.2.2) kvs xs ∧
      ∃ o es ep, h.get? a = some o ∧ o.ExactDict ∧ o.data = .dict es ep ∧ es.toList = xs.map (entryOfKey (tupleKind (mixKind P w))) ∧ (xs.map (·.1)).Nodup
  | .set S n => h.SetOf (intKind P w) a S n
  | .ins C dx fs => H dx = some (.own a) ∧ fs.length ≤ 1000 ∧ dx ≠ a ∧ h.get? a = some (PySem.W.instObj C dx) ∧
      ∃ mA, h.Ns1 dx mA ∧ (∀ f, RelO (fs.lookup f) (mA f)) ∧ PySem.Within mA (fs.map (·.1))
  | .own _ => ∃ o, h.get? a = some o
  | .xd fs => ∃ mA, h.Ns1 a mA ∧ ∀ f, RelO (fs.lookup f) (mA f)
  | .rng lo hi => ∃ t u v, h.get? a = some { cls := .type "range", data := .fields #[.int lo t, .int hi u, .int 1 v] }
  | .frz o u => h.get? a = some o ∧ ObjOk H h a u
  | .tbl ps => h.get? a = some { cls := .none, data := .fields ps }
  | .met f x => h.get? a = some (PySem.W.methodObj (.ref f) (.ref x))
  | .ext φ => φ h ∧ (∃ o, h.get? a = some o) ∧ ∀ h1 h2 : Heap, φ h1 → (∀ o, h1.get? a = some o → h2.get? a = some o) → φ h2
def HOk (H : Hp) (h : Heap) : Prop := ∀ a o, H a = some o → ObjOk P w H h a o
end
section
variable {P : Program} {w : World} {H H' : Hp} {h h' : Heap} {a : Addr} {o : HO}
end
def Rd (H : Hp) (a : Addr) (u : HO) : Prop := H a = some u ∨ ∃ o, H a = some (.frz o u)
section
variable {P : Program} {w : World} {H : Hp} {h h' : Heap} {x e : Addr} {o' : HO}
end
structure Un (fs ex : List Addr) (H H' : Hp) (h h' : Heap) : Prop where
  keep : ∀ b o, h.get? b = some o → H b = none → b ∉ fs → b ∉ ex → h'.get? b = some o
  slot : ∀ b o, h.get? b = some o → H b = none → b ∈ fs → b ∉ ex → ∃ sl, h'.get? b = some { o with slots := sl }
  free : ∀ b o, h.get? b = some o → H b = none → b ∉ ex → H' b = none
  there : ∀ b o, h.get? b = some o → b ∉ ex → ∃ o', h'.get? b = some o'
  tups : ∀ b xs, H b = some (.tup xs) → H' b = some (.tup xs)
  frzs : ∀ b o u, H b = some (.frz o u) → H' b = some (.frz o u)
  tbls : ∀ b ps, H b = some (.tbl ps) → ∃ more, H' b = some (.tbl (ps ++ more))
section
variable {fs fs' ex ex' : List Addr} {H H1 H2 : Hp} {h h1 h2 h' : Heap} {a x e : Addr} {o : HO}
end
def trk (h : Heap) (H : Hp) : List Addr := (List.range h.objs.size).filter fun a => (H a).isSome
def allNews (g h : Heap) (L : Addr) : List (Addr × Obj) := (List.range h.objs.size).filterMap fun a => if a = L ∨ (g.get? a).isSome = true then none else (h.get? a).map fun o => (a, o)
def rest (g h : Heap) (L d : Addr) : List (Addr × Obj) := (allNews g h L).filter fun p => decide (p.1 ≠ d)
end L2
namespace L2
open PySem PySem.Spec PyProof.Rows
structure Mod (K : PySem.W.Frag) (mg : Str → Option Value) (base : Heap) : Prop where
  kin : K.In base
  glob : base.Ns mainGlobals mg
  blt : ∃ mb, base.Ns builtinsNs mb ∧ ∀ x : Str, x ≠ "__name__" → mb x = bootBuiltins x
  nolimit : base.NoLimit
structure Cx where
  prog : Program
  w : World
  K : PySem.W.Frag
  mg : Str → Option Value
  base : Heap
  A : Around
  N : List Str
  s₀ : Shared
  H₀ : Hp
  env : Env
  outer : List Env
  stack : List Env
  ex : List Addr
  fn : Str → Bool
  calm : Bool
  pn : List (Addr × Obj)
  xe : Value → Shared → Prop
def frs (l : List Env) : List Addr := l.filterMap (·.frame)
def Vis (sc : Scope) (x : Str) : Prop := sc.names.lookup x = some .local ∨ sc.names.lookup x = some .cell ∨ sc.names.lookup x = some .free
def Look (env : Env) (h : Heap) (m : Str → Option Value) (x : Str) (u : Value) : Prop :=
  (env.kindOf x = some .local ∧ m x = some u) ∨ ((env.kindOf x = some .cell ∨ env.kindOf x = some .free) ∧ ∃ c, env.cells.lookup x = some c ∧ h.IsCell c (some u))
structure Cx.Ok (X : Cx) : Prop where
  mod : Mod X.K X.mg X.base
  kind : X.env.scope.kind = .function
  glob : X.env.globals = mainGlobals
  blt : X.env.builtins = builtinsNs
  above : X.s₀.heap.objs.size ≤ X.env.locals
  inj : ∀ x y c, X.env.cells.lookup x = some c → X.env.cells.lookup y = some c → x = y
  has : ∀ x, (X.env.kindOf x = some .cell ∨ X.env.kindOf x = some .free) → ∃ c, X.env.cells.lookup x = some c
  cab : ∀ x c, X.fn x = true → X.env.cells.lookup x = some c → X.s₀.heap.objs.size ≤ c
  hd : X.calm = true → X.A.handled = none
  frames : X.A.frames = some X.stack
  stk : X.stack = X.outer ∨ (X.stack = X.env :: X.outer ∧ X.env.frame = some X.env.locals)
  exf : ∀ b ∈ X.ex, b ≠ X.env.locals ∧ ∀ x c, X.env.cells.lookup x = some c → c ≠ b
  bs : ∀ b o, X.base.get? b = some o → X.s₀.heap.get? b = some o ∧ X.H₀ b = none
  bsz : X.base.objs.size ≤ X.s₀.heap.objs.size
  noex : ∀ b o, X.base.get? b = some o → b ∉ X.ex
  exfs : ∀ b ∈ X.ex, b ∉ X.fs
  funs : X.s₀.heap.FunFrames X.base X.outer
  frf : ∀ b ∈ X.fs, X.H₀ b = none
structure Inv (X : Cx) (pins : List (Addr × Obj)) (σ : List (Option V)) (H : Hp) (s : Shared) : Prop where
  ok : X.Ok
  os : s.os = X.s₀.os
  bare : AllBare s.gens
  base : Un X.fs X.ex X.H₀ H X.s₀.heap s.heap
  loc : ∃ m, s.heap.Ns X.env.locals m ∧ ∀ (i : Nat) (x : Str) (v : V), X.N[i]? = some x → σ[i]? = some (some v) → Vis X.env.scope x → ∃ u, RelV v u ∧ Look X.env s.heap m x u
  cell : ∀ x c, X.env.cells.lookup x = some c → ∃ v, s.heap.IsCell c v
  free : H X.env.locals = none
  freeC : ∀ x c, X.env.cells.lookup x = some c → H c = none
  pin : ∀ p ∈ X.pn ++ pins, s.heap.get? p.1 = some p.2 ∧ H p.1 = none ∧ p.1 ≠ X.env.locals ∧ p.1 ∉ X.fs ∧ ∀ v, p.2.data ≠ .cell v
  hok : HOk X.prog X.w H s.heap
  len : σ.length = X.N.length
section
variable {X : Cx} {pins : List (Addr × Obj)} {σ : List (Option V)} {H H' : Hp} {s : Shared} {h' : Heap}
end
abbrev XK := Value → Option Addr → Hp → Prop
abbrev St := List (Option V)
abbrev VK := V → Hp → Prop
abbrev TE := St → Hp → VK → Prop
abbrev TT := St → Hp → (Bool → Hp → Prop) → Prop
abbrev TA := St → Hp → (List V → Hp → Prop) → Prop
structure Ends where
  nx : St → Hp → Prop
  rt : VK
  bk : St → Hp → Prop := fun _ _ => False
  ct : St → Hp → Prop := fun _ _ => False
abbrev TS := Ends → St → Hp → Prop
def EP (X : Cx) (pins : List (Addr × Obj)) (σ : St) (Q : VK) (u : Value) (s' : Shared) : Prop := ∃ v H', Inv X pins σ H' s' ∧ RelV v u ∧ Q v H'
def TP (X : Cx) (pins : List (Addr × Obj)) (σ : St) (Q : Bool → Hp → Prop) (b : Bool) (s' : Shared) : Prop := ∃ H', Inv X pins σ H' s' ∧ Q b H'
def AP (X : Cx) (pins : List (Addr × Obj)) (σ : St) (Q : List V → Hp → Prop) (us : List Value) (s' : Shared) : Prop := ∃ vs H', Inv X pins σ H' s' ∧ Vals vs us ∧ Q vs H'
def SP (X : Cx) (pins : List (Addr × Obj)) (D : Ends) (f : Flow) (s' : Shared) : Prop :=
  match f with
  | .next => ∃ σ' H', Inv X pins σ' H' s' ∧ D.nx σ' H'
  | .brk => ∃ σ' H', Inv X pins σ' H' s' ∧ D.bk σ' H'
  | .cont => ∃ σ' H', Inv X pins σ' H' s' ∧ D.ct σ' H'
  | .ret u => ∃ v σ' H', Inv X pins σ' H' s' ∧ RelV v u ∧ D.rt v H'
def PE (X : Cx) (e : Expr) (t : TE) : Prop :=
  ∀ (pins : List (Addr × Obj)) (s : Shared) (σ : St) (H : Hp) (Q : VK), Inv X pins σ H s → t σ H Q → wpAny (model X.prog X.w) X.A (eval e X.env) (EP X pins σ Q) X.xe s
def PT (X : Cx) (e : Expr) (t : TT) : Prop :=
  ∀ (pins : List (Addr × Obj)) (s : Shared) (σ : St) (H : Hp) (Q : Bool → Hp → Prop), Inv X pins σ H s → t σ H Q → wpAny (model X.prog X.w) X.A (isTrue e X.env (eval e X.env)) (TP X pins σ Q) X.xe s
def PW (X : Cx) (e : Expr) (t : TT) : Prop :=
  ∀ (whole : Sem Value) (pins : List (Addr × Obj)) (s : Shared) (σ : St) (H : Hp) (Q : Bool → Hp → Prop), Inv X pins σ H s → t σ H Q → wpAny (model X.prog X.w) X.A (isTrue e X.env whole) (TP X pins σ Q) X.xe s
def PA (X : Cx) (es : List Expr) (t : TA) : Prop :=
  ∀ (pos : Pos) (pins : List (Addr × Obj)) (s : Shared) (σ : St) (H : Hp) (Q : List V → Hp → Prop), Inv X pins σ H s → t σ H Q → wpAny (model X.prog X.w) X.A (spliced (backTo pos (starEach es X.env))) (AP X pins σ Q) X.xe s
def PS (X : Cx) (st : Stmt) (t : TS) : Prop :=
  ∀ (pins : List (Addr × Obj)) (s : Shared) (σ : St) (H : Hp) (D : Ends), Inv X pins σ H s → t D σ H → wpAny (model X.prog X.w) X.A (exec st X.env) (SP X pins D) X.xe s
def PSs (X : Cx) (st : List Stmt) (t : TS) : Prop :=
  ∀ (pins : List (Addr × Obj)) (s : Shared) (σ : St) (H : Hp) (D : Ends), Inv X pins σ H s → t D σ H → wpAny (model X.prog X.w) X.A (execs st X.env) (SP X pins D) X.xe s
end L2
namespace L2
open PySem PySem.Spec PyProof.Rows
section
variable {X : Cx}
def Gl (X : Cx) (x : Str) : Prop := X.env.kindOf x = some .globalImplicit
variable {a b : Expr} {ta tb : TE} {pos : Pos}
variable {tA tB' : TT} {rest : List Expr}
end
end L2
namespace L2
open PySem PySem.Spec PyProof.Rows
def SqL (K : PySem.W.Frag) (H : Hp) (a : Addr) (xs : List V) : Prop :=
  Rd H a (.lst xs) ∨
    ∃ (o : Obj) (its : Array Value) (n : Nat), K.lookup a = some o ∧ o.cls = .type "list" ∧ o.dict = none ∧ o.data = .seq its n ∧ its.size ≤ sizeLine ∧ Vals xs its.toList
def SqT (K : PySem.W.Frag) (H : Hp) (a : Addr) (xs : List V) : Prop :=
  Rd H a (.tup xs) ∨
    ∃ (o : Obj) (its : Array Value) (n : Nat), K.lookup a = some o ∧ o.cls = .type "tuple" ∧ o.data = .seq its n ∧ its.size ≤ sizeLine ∧ Vals xs its.toList
section
variable {X : Cx} {pins : List (Addr × Obj)} {σ : St} {H : Hp} {s : Shared} {a : Addr} {xs ys : List V}
end
section
variable {X : Cx} {pins : List (Addr × Obj)} {σ : St} {H : Hp} {s : Shared} {E : Value → Shared → Prop}
end
section
variable {X : Cx} {st : Stmt} {rest : List Stmt} {t u : TS} {e : Expr} {te : TE} {pos : Pos}
end
abbrev TG := V → St → Hp → (St → Hp → Prop) → Prop
section
variable {X : Cx} {pos : Pos}
end
section
variable {X : Cx} {pos : Pos}
end
structure It where
  go : Nat → Hp → Prop
  yld : Nat → Hp → V → Hp → Prop
  stop : Nat → Hp → Prop
def FpOk (X : Cx) (pins : List (Addr × Obj)) (H : Hp) (b : Addr) : Prop :=
  H b = none ∧ b ≠ X.env.locals ∧ b ∉ X.fs ∧ (b ∈ X.ex ∨ X.s₀.heap.objs.size ≤ b) ∧ (∀ x c, X.env.cells.lookup x = some c → c ≠ b) ∧ ∀ p ∈ X.pn ++ pins, p.1 ≠ b
structure Turn (P : Program) (w : World) (K : PySem.W.Frag) (tg : Expr) (J : It) (fp : List Addr) (it : Addr) (tn : Nat → Heap → Prop) : Prop where
  mem : it ∈ fp
  obj : ∀ i h, tn i h → ∀ b ∈ fp, ∃ o, h.get? b = some o ∧ ∀ v, o.data ≠ .cell v
  keep : ∀ i h h', tn i h → (∀ b ∈ fp, ∀ o, h.get? b = some o → h'.get? b = some o) → tn i h'
  item : ∀ (X : Cx), X.prog = P → X.w = w → X.K = K → X.calm = true → ∀ (i : Nat) (pins : List (Addr × Obj)) (s : Shared) (σ : St) (H : Hp) (E : Value → Shared → Prop), Inv X pins σ H s → (∀ b ∈ fp, FpOk X pins H b) → tn i s.heap → J.go i H →
    wpAny (model P w) X.A (pyNext (.ref it)) (fun r s1 => ∃ u, r = some u ∧
      wpAny (model P w) X.A (letOwnedTupleGo tg (.ref it) u) (fun _ s2 => ∃ x H', Inv X pins σ H' s2 ∧ RelV x u ∧ J.yld i H x H' ∧ tn (i + 1) s2.heap ∧ ∀ b ∈ fp, H' b = none) E s1) E s
  done : ∀ (X : Cx), X.prog = P → X.w = w → X.K = K → X.calm = true → ∀ (i : Nat) (pins : List (Addr × Obj)) (s : Shared) (σ : St) (H : Hp) (E : Value → Shared → Prop), Inv X pins σ H s → (∀ b ∈ fp, FpOk X pins H b) → tn i s.heap → J.stop i H →
    wpAny (model P w) X.A (pyNext (.ref it)) (fun r s1 => r = none ∧ Inv X pins σ H s1) E s
  self : ∀ (A : Around) (i : Nat) (s : Shared) (Q : Value → Shared → Prop) (E : Value → Shared → Prop), tn i s.heap → Q (.ref it) s → wpAny (model P w) A (pyIter (.ref it)) Q E s
abbrev TI := St → Hp → (It → Hp → Prop) → Prop
def PIE (X : Cx) (pins : List (Addr × Obj)) (σ : St) (tg : Expr) (R : It → Hp → Prop) (itv : Value) (s2 : Shared) : Prop :=
  ∃ (it : Addr) (fp : List Addr) (tn : Nat → Heap → Prop) (J : It) (H' : Hp), itv = .ref it ∧ Inv X pins σ H' s2 ∧ Turn X.prog X.w X.K tg J fp it tn ∧ tn 0 s2.heap ∧ (∀ b ∈ fp, FpOk X pins H' b) ∧ R J H'
def PI (X : Cx) (tg iter : Expr) (wi : TI) : Prop :=
  ∀ (pins : List (Addr × Obj)) (s : Shared) (σ : St) (H : Hp) (R : It → Hp → Prop), Inv X pins σ H s → wi σ H R →
    wpAny (model X.prog X.w) X.A (eval iter X.env) (fun v s1 => wpAny (model X.prog X.w) X.A (pyIter v) (PIE X pins σ tg R) X.xe s1) X.xe s
end L2
namespace L2
open PySem PySem.Spec PyProof.Rows
section
variable {X : Cx} {tg : Expr}
end
end L2
namespace L2
open PySem PySem.Spec PyProof.Rows
section
variable {X : Cx} {a b c : Expr} {ta tb tc : TE} {pos : Pos}
def CMul (i j : Int) : Prop := (-(2 ^ 64) < i ∧ i < 2 ^ 64) ∨ (-(2 ^ 64) < j ∧ j < 2 ^ 64)
end
section
variable {X : Cx} {a b c : Expr} {ta tb tc : TE} {pos : Pos}
end
end L2
namespace L2
open PySem PySem.Spec PyProof.Rows
structure ObjM (h : Heap) (x dx C : Addr) (mA : Str → Option Value) : Prop where
  obj : h.get? x = some (PySem.W.instObj C dx)
  ns : h.Ns1 dx mA
  ne : dx ≠ x
section
variable {prog : Program} {w : World} {A : Around} {E : Value → Shared → Prop} {s : Shared} {K : PySem.W.Frag} {x dx C f : Addr} {mA : Str → Option Value} {name : Str} {v : Value}
end
section
variable {P : Program} {w : World} {H H' : Hp} {h h' : Heap} {a C dx : Addr} {fs fs' : List (Str × V)}
end
structure Cls (K : PySem.W.Frag) (C : Addr) : Prop where
  pg : PySem.W.plainGet K C Str.empty = true
  hd : PySem.W.hasDictIn K C = true
  po : PySem.W.plainOver K C = true
  sa : PySem.W.findIn K (.ref C) "__setattr__" = some (some (.builtin "object.__setattr__"))
structure Con (K : PySem.W.Frag) (C : Addr) (f : Str) (v : V) (u : Value) : Prop where
  at_ : PySem.W.findIn K (.ref C) f = some (some u)
  rel : RelV v u
  get : PySem.W.specialIn K u "__get__" = some none
  cp : PySem.W.copiedNames.contains f = false
structure Meth (K : PySem.W.Frag) (C : Addr) (m : Str) (f : Addr) : Prop where
  at_ : PySem.W.findIn K (.ref C) m = some (some (.ref f))
  fn : PySem.W.isFn K (.ref f) = true
  kp : PySem.W.keepIn K (.ref f) = true
section
variable {X : Cx} {pins : List (Addr × Obj)} {σ : St} {H : Hp} {s : Shared} {a C dx : Addr} {fs : List (Str × V)} {f : Str} {v : V} {A : Around} {E : Value → Shared → Prop}
end
section
variable {X : Cx} {o e value : Expr} {f : Str} {pos pos' tpos : Pos} {ta tv : TE}
end
section
variable {X : Cx} {pins : List (Addr × Obj)} {σ : St} {H : Hp} {s : Shared} {A : Around} {E : Value → Shared → Prop} {Q : Value → Shared → Prop} {c : Value} {b : Bool}
inductive TyOf (K : PySem.W.Frag) (H : Hp) : V → Value → Prop where
  | non : TyOf K H .non (.type "NoneType")
  | bl (x : Bool) : TyOf K H (.bl x) (.type "bool")
  | int (i : Int) : TyOf K H (.int i) (.type "int")
  | str (x : Str) : TyOf K H (.str x) (.type "str")
  | flt (x : UInt64) : TyOf K H (.flt x) (.type "float")
  | lst {a : Addr} {xs : List V} (e : H a = some (.lst xs)) : TyOf K H (.ref a) (.type "list")
  | frz {a : Addr} {o : Obj} {xs : List V} (e : H a = some (.frz o (.lst xs))) : TyOf K H (.ref a) (.type "list")
  | tup {a : Addr} {xs : List V} (e : H a = some (.tup xs)) : TyOf K H (.ref a) (.type "tuple")
  | dK {a : Addr} {kvs : List (Key × V)} (e : H a = some (.dK kvs)) : TyOf K H (.ref a) (.type "dict")
  | dT {a : Addr} {kvs : List (List Key × V)} (e : H a = some (.dT kvs)) : TyOf K H (.ref a) (.type "dict")
  | ins {a C dx : Addr} {fs : List (Str × V)} (e : H a = some (.ins C dx fs)) (cl : Cls K C) (ha : PySem.W.findIn K (.ref C) "__class__" = some (some (.builtin "object.__class__")))
      (hn : PySem.W.specialIn K (.builtin "object.__class__") "__get__" = some (some (.builtin "getset_descriptor.__get__"))) (htk : PySem.W.takesIn K (.builtin "object.__class__") = some true)
      (hm : PySem.W.mroIn K C (.type "object") = some true) : TyOf K H (.ref a) (.ref C)
end
end L2
namespace L2
open PySem PySem.Spec PyProof.Rows
structure Room (k : Nat) (A : Around) : Prop where
  hd : A.handled = none
  dp : A.depth + 3 * k + 5 < recursionLimit
  un : A.units + 16 * k + 200 < cLine
section
variable {X : Cx} {e : Expr} {es : List Expr} {te : TE} {t : TA} {pos : Pos}
end
abbrev Sp := List V → Hp → VK → XK → Prop
abbrev CXT := List Env → Hp → Shared → XK → Value → Shared → Prop
structure Env0 (P : Program) (w : World) (K : PySem.W.Frag) (mg : Str → Option Value) (base : Heap) (A : Around) (outer : List Env) (s : Shared) (H : Hp) : Prop where
  frames : A.frames = some outer
  mod : Mod K mg base
  bs : ∀ b o, base.get? b = some o → s.heap.get? b = some o ∧ H b = none
  bsz : base.objs.size ≤ s.heap.objs.size
  funs : s.heap.FunFrames base outer
  frf : ∀ b ∈ frs outer, H b = none
  hok : HOk P w H s.heap
  bare : AllBare s.gens
def CE (outer : List Env) (P : Program) (w : World) (H : Hp) (s : Shared) (Q : VK) (u : Value) (s' : Shared) : Prop :=
  ∃ v H', s'.os = s.os ∧ AllBare s'.gens ∧ Un (frs outer) [] H H' s.heap s'.heap ∧ HOk P w H' s'.heap ∧ RelV v u ∧ Q v H'
def CR (CX : CXT) (outer : List Env) (P : Program) (w : World) (H : Hp) (s : Shared) (Q : VK) (E : XK) (r : Result) (s' : Shared) : Prop :=
  match r with
  | .ok (.ret u) => CE outer P w H s Q u s'
  | .ok _ => False
  | .error e => CX outer H s E e s'
structure FnOk (P : Program) (w : World) (K : PySem.W.Frag) (mg : Str → Option Value) (base : Heap) (CX : CXT) (k : Nat) (f : Addr) (fd : FuncData) (ps : List Str) (sp : Sp) : Prop where
  len : ∀ vs H Q E, sp vs H Q E → vs.length = ps.length
  run : ∀ (A : Around) (outer : List Env) (s : Shared) (H : Hp) (args : Args) (us : List Value) (vs : List V) (Q : VK) (E : XK), Room k A → Env0 P w K mg base A outer s H → BindsTo s fd args (ps.zip us) → Vals vs us → sp vs H Q E →
    codeAny (model P w) A (.call (.ref f) args) (CR CX outer P w H s Q E) s
section
variable {X : Cx} {pins : List (Addr × Obj)} {σ : St} {H : Hp} {s s' : Shared}
end
def Binds (K : PySem.W.Frag) (fd : FuncData) (ps : List Str) (ds : List Value) : Prop :=
  ∀ (s : Shared) (us : List Value), K.In s.heap → (us ++ ds).length = ps.length → BindsTo s fd ⟨us, []⟩ (ps.zip (us ++ ds))
section
variable {X : Cx} {CX : CXT} {k : Nat} {f C : Addr} {fd : FuncData} {ps : List Str} {sp : Sp} {dvs : List V} {ds : List Value} {E : XK} {x m : Str} {p pos apos : Pos} {e o : Expr} {es : List Expr} {ta : TE} {t : TA}
structure Mk (K : PySem.W.Frag) (C f : Addr) : Prop where
  makes : PySem.W.makesIn K C = true
  init : PySem.W.findIn K (.ref C) "__init__" = some (some (.ref f))
  fn : PySem.W.isFn K (.ref f) = true
  kp : PySem.W.keepIn K (.ref C) = true
end
section
variable {X : Cx} {CX : CXT} {k : Nat} {f C : Addr} {fd : FuncData} {ps ks : List Str} {sp : Sp} {E : XK} {x m : Str} {p pos apos kpos : Pos} {e o : Expr} {es : List Expr} {kws : List Keyword} {te ta : TE} {t tk : TA} {nm : Option Str}
structure KBinds (K : PySem.W.Frag) (fd : FuncData) (ps ks : List Str) (g : List Value → List Value → List Value) (gV : List V → List V → List V) : Prop where
  to : ∀ (s : Shared) (us ws : List Value), K.In s.heap → (g us ws).length = ps.length → BindsTo s fd ⟨us, ks.zip ws⟩ (ps.zip (g us ws))
  rel : ∀ {vs : List V} {us : List Value} {zs : List V} {ws : List Value}, Vals vs us → Vals zs ws → Vals (gV vs zs) (g us ws)
variable {g : List Value → List Value → List Value} {gV : List V → List V → List V}
end
structure FnScope (N P : List Str) (sc : Scope) : Prop where
  kind : sc.kind = .function
  co : sc.isCoroutine = false
  gen : sc.isGenerator = false
  nd : N.Nodup
  pre : N.take P.length = P
  par : ∀ x ∈ P, sc.names.lookup x = some .local ∨ sc.names.lookup x = some .cell
  nofree : ∀ y ∈ sc.names, y.2 ≠ .free
end L2
namespace L2
open PySem PySem.Spec PyProof.Rows
section
variable {X : Cx} {x : Str} {p pos : Pos} {e : Expr} {es : List Expr} {t : TA} {id T : String} {r : List V → Hp → VK → Prop}
end
end L2
namespace HT
open PySem PyProof.Rows
section
open PySem.SeqAt
open PySem.AutoSeq1 (wpAny_loadPart')
open PySem.MeetsSeq PySem.MeetsSeq2 PySem.MeetsSeq3
end
section
variable {prog : Program} {w : World} {A : Around} {E : Value → Shared → Prop} {s : Shared}
end
end HT
namespace L2
open PySem PySem.Spec PyProof.Rows
abbrev TO := St → Hp → (Option Int → Hp → Prop) → Prop
def PO (X : Cx) (e : Option Expr) (t : TO) : Prop :=
  ∀ (pins : List (Addr × Obj)) (s : Shared) (σ : St) (H : Hp) (Q : Option Int → Hp → Prop), Inv X pins σ H s → t σ H Q →
    wpAny (model X.prog X.w) X.A (evalPart e X.env) (fun u s' => ∃ o H', Inv X pins σ H' s' ∧ IsPart u o ∧ Q o H') X.xe s
section
variable {X : Cx} {e : Expr} {te : TE} {lo hi : Option Expr} {tl th : TO} {pos p2 : Pos}
end
end L2
namespace L2
open PySem PySem.Spec PyProof.Rows
def ixN (n : Nat) (i : Int) : Option Nat := if 0 ≤ i then (if i < n then some i.toNat else none) else if -(n : Int) ≤ i then some (i + n).toNat else none
def atI {α : Type} (xs : List α) (i : Int) : Option α := (ixN xs.length i).bind fun j => xs[j]?
section
variable {X : Cx} {a b : Expr} {ta tb : TE} {pos : Pos}
def flatV : V → Bool
  | .non => true
  | .bl _ => true
  | .int _ => true
  | .str _ => true
  | _ => false
variable {o e : Expr} {es : List Expr} {to : TE} {t : TA} {name : Str} {apos cpos : Pos} {T id : String} {r : V → List V → Hp → VK → Prop}
end
end L2
namespace L2
open PySem PySem.Spec PyProof.Rows
section
variable {X : Cx} {pins : List (Addr × Obj)} {σ : St} {H : Hp} {s : Shared} {l b : Addr} {xs ys zs : List V}
end
section
variable {X : Cx}
end
section
variable {prog : Program} {w : World} {A : Around} {E : Value → Shared → Prop} {s : Shared}
end
section
variable {X : Cx}
end
end L2
namespace Att
open PySem PySem.W PySem.Calls PyProof.Rows
section
variable {prog : Program} {w : World} {A : Around} {E : Value → Shared → Prop} {s : Shared} {K : Frag}
end
end Att
namespace L2
open PySem PySem.Spec PyProof.Rows
end L2
namespace L2
open PySem PySem.Spec PyProof.Rows
end L2
namespace L2
open PySem PySem.Spec PyProof.Rows
def defArgs (s : Stmt) : Arguments := match s with
  | .FunctionDef _ a _ _ _ _ _ _ _ _ => a
  | _ => { posonlyargs := [], args := [], vararg := none, kwonlyargs := [], kw_defaults := [], kwarg := none, defaults := [] }
def defBody (s : Stmt) : List Stmt := match s with
  | .FunctionDef _ _ b _ _ _ _ _ _ _ => b
  | _ => []
def defScope (s : Stmt) : Scope := match s with
  | .FunctionDef _ _ _ _ _ _ sc _ _ _ => sc
  | _ => { kind := .function, names := [], isGenerator := false, isCoroutine := false }
abbrev CX0 : CXT := fun _ _ _ _ _ _ => False
structure Fun (K : PySem.W.Frag) (x qual : Str) (st : Stmt) (f : Addr) (fd : FuncData) : Prop where
  ex : ∃ (oc : Value) (od : Option Addr) (kV doc pm : Value) (an : Option Addr) (cdv ct : Value) (osl : Array (Option Value)),
    fd = PySem.W.fnOf x qual (defArgs st) (defBody st) (defScope st) .none kV doc pm an cdv ct ∧ K.lookup f = some ⟨oc, od, .func fd, osl⟩ ∧ PySem.W.codeIn K cdv qual = true
  kp : PySem.W.keepIn K (.ref f) = true
section
variable {P : Program} {w : World} {K : PySem.W.Frag} {mg : Str → Option Value} {base : Heap}
end
section
variable {X : Cx}
end
def Same (H H' : Hp) : Prop := ∀ b o, H b = some o → H' b = some o
end L2
namespace L2
open PySem PySem.Spec PyProof.Rows
structure CompSc (sc0 : Scope) (N0 : List Str) (scope : Scope) (N' : List Str) (fr : List (Option Nat)) : Prop where
  kind : scope.kind = .function
  nocell : ∀ y ∈ scope.names, y.2 ≠ .cell
  names : ∀ y ∈ scope.names, y.2 = .local → scope.names.lookup y.1 = some .local
  frees : ∀ y ∈ scope.names, y.2 = .free → (sc0.names.lookup y.1 = some .cell ∨ sc0.names.lookup y.1 = some .free)
  len : fr.length = N'.length
  fix : ∀ (i j : Nat) (x : Str), fr[i]? = some (some j) → N'[i]? = some x → N0[j]? = some x ∧ scope.names.lookup x = some .free ∧ (sc0.names.lookup x = some .cell ∨ sc0.names.lookup x = some .free)
section
variable {X : Cx} {pins : List (Addr × Obj)} {σ : St} {H : Hp} {s : Shared}
end
def PIfs (X : Cx) (ifs : List Expr) (t : TT) : Prop :=
  ∀ (pins : List (Addr × Obj)) (s : Shared) (σ : St) (H : Hp) (Q : Bool → Hp → Prop), Inv X pins σ H s → t σ H Q →
    wpAny (model X.prog X.w) X.A (forIn ifs true fun c r => if r = true then do let ok ← isTrue c X.env (eval c X.env); pure (ForInStep.yield ok) else pure (ForInStep.yield r)) (TP X pins σ Q) X.xe s
section
variable {prog : Program} {w : World} {A : Around} {R : Result → Shared → Prop} {s : Shared}
end
section
variable {X : Cx} {tg iter elt : Expr} {ifs : List Expr} {scope : Scope} {pos : Pos} {wi : TI} {g : TG} {tc : TT} {te : TE}
end
end L2
namespace L2
open PySem PySem.Spec PyProof.Rows
section
variable {X : Cx}
def stepV {α : Type} (xs : List α) (lo hi st : Option Int) : List α := (sliceRange (sliceBounds lo hi st xs.length).1 (sliceBounds lo hi st xs.length).2.1 (sliceBounds lo hi st xs.length).2.2).filterMap (fun j => xs[j]?)
inductive EqT (K : PySem.W.Frag) (H : Hp) : Nat → V → V → Prop where
  | sc {n : Nat} {x : V} (f : flatV x = true) : EqT K H n x x
  | rf {n : Nat} {a : Addr} : EqT K H n (.ref a) (.ref a)
  | tup {n : Nat} {a b : Addr} {xs ys : List V} (h1 : SqT K H a xs) (h2 : SqT K H b ys) (hl : xs.length = ys.length) (h : ∀ (i : Nat) (x y : V), xs[i]? = some x → ys[i]? = some y → EqT K H n x y) : EqT K H (n + 1) (.ref a) (.ref b)
  | lst {n : Nat} {a b : Addr} {xs ys : List V} (h1 : SqL K H a xs) (h2 : SqL K H b ys) (hl : xs.length = ys.length) (h : ∀ (i : Nat) (x y : V), xs[i]? = some x → ys[i]? = some y → EqT K H n x y) : EqT K H (n + 1) (.ref a) (.ref b)
end
end L2
namespace WS
abbrev S3 := Int × Int × Int
def mx (i j : Int) : Int := if j > i then j else i
def above1 (b : S3) (L : Int) : Int := b.2.2 * mx 0 (b.2.1 - mx b.1 L)
def above (bs : List S3) (L : Int) : Int := (bs.map fun b => above1 b L).sum
def hotB (hs : List S3) : List S3 := hs.map fun x => (x.2.1, x.1, x.2.2)
def coldB (g : Int) (cs : List S3) : List S3 := cs.map fun x => (x.1 + g, x.2.1 + g, x.2.2)
def lackF (g : Int) (hs cs : List S3) (L : Int) : Int := above (coldB g cs) L - above (hotB hs) L
structure HotOk (x : S3) : Prop where
  lo : 0 ≤ x.2.1
  lt : x.2.1 < x.1
  hi : x.1 ≤ 200
  r0 : 1 ≤ x.2.2
  r1 : x.2.2 ≤ 1000000000
structure ColdOk (x : S3) : Prop where
  lo : 0 ≤ x.1
  lt : x.1 < x.2.1
  hi : x.2.1 ≤ 200
  r0 : 1 ≤ x.2.2
  r1 : x.2.2 ≤ 1000000000
end WS
namespace L2
open PySem PySem.Spec PyProof.Rows
structure Fn (P : Program) (w : World) (K : PySem.W.Frag) (mg : Str → Option Value) (base : Heap) (x : Str) (k : Nat) (ps : List Str) (sp : Sp) : Prop where
  ex : ∃ f fd, FnOk P w K mg base CX0 k f fd ps sp ∧ mg x = some (.ref f) ∧ PySem.W.keepIn K (.ref f) = true ∧ Binds K fd ps []
end L2
namespace WS
open PySem L2
end WS
namespace L2
open PySem PySem.Spec PyProof.Rows
section
variable {X : Cx}
abbrev TJ := St → Hp → Str → (Str → Hp → Prop) → Prop
def PJ (X : Cx) (es : List Expr) (t : TJ) : Prop :=
  ∀ (pins : List (Addr × Obj)) (s : Shared) (σ : St) (H : Hp) (acc : Str) (R : Str → Hp → Prop), Inv X pins σ H s → t σ H acc R →
    Joins (model X.prog X.w) X.A X.xe (evalEach es X.env) acc (fun out s1 => ∃ H', Inv X pins σ H' s1 ∧ R out H') s
end
end L2
namespace L2
open PySem PySem.Spec PyProof.Rows
section
variable {X : Cx} {pins : List (Addr × Obj)} {σ : St} {H : Hp} {s : Shared} {h' : Heap}
end
section
variable {X : Cx}
section
variable {prog : Program} {w : World} {A : Around} {E : Value → Shared → Prop} {s : Shared}
end
end
end L2
namespace DL
open PySem L2
inductive D where
  | non | bl (b : Bool) | int (i : Int) | str (x : Str) | tup (xs : List D) | lst (xs : List D) | scr (ns : List Int)
  | dct (kvs : List ((Int × Int) × Int))
def encD (kvs : List ((Int × Int) × Int)) : List (List Key × V) := kvs.map fun p => ([Sum.inl p.1.1, Sum.inl p.1.2], V.int p.2)
inductive Rep (K : PySem.W.Frag) (G : Hp) : V → D → Prop where
  | non : Rep K G .non .non
  | bl (b : Bool) : Rep K G (.bl b) (.bl b)
  | int (i : Int) : Rep K G (.int i) (.int i)
  | str (x : Str) : Rep K G (.str x) (.str x)
  | tup {a : Addr} {vs : List V} {ds : List D} (h : SqT K G a vs) (l : vs.length = ds.length) (r : ∀ (i : Nat) (v : V) (d : D), vs[i]? = some v → ds[i]? = some d → Rep K G v d) : Rep K G (.ref a) (.tup ds)
  | scr {a : Addr} {ns : List Int} (h : SqL K G a (ns.map V.int)) : Rep K G (.ref a) (.scr ns)
  | dct {a : Addr} {kvs : List ((Int × Int) × Int)} (h : G a = some (.dT (encD kvs))) : Rep K G (.ref a) (.dct kvs)
  | lst {a : Addr} {vs : List V} {ds : List D} (h : G a = some (.lst vs)) (l : vs.length = ds.length) (r : ∀ (i : Nat) (v : V) (d : D), vs[i]? = some v → ds[i]? = some d → Rep K G v d) : Rep K G (.ref a) (.lst ds)
abbrev Reps (K : PySem.W.Frag) (G : Hp) : List V → List D → Prop := Paired (Rep K G)
section
variable {K : PySem.W.Frag} {G G' H H' : Hp} {v : V} {d : D} {ds : List D} {vs : List V}
end
inductive B where
  | p (d : D) | o (d : D) | n (t : Bool) (ds : List D)
def B.val : B → D
  | .p d => d
  | .o d => d
  | .n true ds => .tup ds
  | .n false ds => .lst ds
abbrev DEnv := List (Option B)
def dget : DEnv → Nat → Option B
  | [], _ => none
  | b :: _, 0 => b
  | _ :: r, n + 1 => dget r n
def dput : DEnv → Nat → B → DEnv
  | [], _, _ => []
  | _ :: r, 0, b => some b :: r
  | c :: r, n + 1, b => c :: dput r n b
def frz1 : Option B → Option B
  | none => none
  | some b => some (.p b.val)
def frz : DEnv → DEnv
  | [] => []
  | c :: r => frz1 c :: frz r
def OwnAt (K : PySem.W.Frag) (G H : Hp) (a : Addr) (d : D) : Prop := G a = none ∧ match d with
  | .lst ds => ∃ vs, H a = some (.lst vs) ∧ Reps K G vs ds
  | .dct kvs => H a = some (.dT (encD kvs))
  | _ => False
def Chg (H : Hp) (a : Addr) : Prop := ∃ o, H a = some o ∧ ∀ xs, o ≠ .tup xs
structure Wd (H0 G0 H G : Hp) : Prop where
  hh : Same H0 H
  gg : Same G0 G
  gh : Same G H
  old : ∀ a, Chg H0 a → G a = G0 a
def BRes (K : PySem.W.Frag) (H G' H' : Hp) (v : V) : B → Prop
  | .p d => Rep K G' v d
  | .o d => ∃ a, v = .ref a ∧ H a = none ∧ OwnAt K G' H' a d
  | .n true ds => ∃ a as, v = .ref a ∧ SqT K G' a (as.map V.ref) ∧ as.Nodup ∧ Paired (fun x d => H x = none ∧ OwnAt K G' H' x d) as ds
  | .n false _ => False
abbrev DT := DEnv → (B → Prop) → Prop
abbrev DTT := DEnv → (Bool → Prop) → Prop
abbrev DTA := DEnv → (List D → Prop) → Prop
def RepE (K : PySem.W.Frag) (G : Hp) (σ : St) (ρ : DEnv) : Prop := ∀ i d, dget ρ i = some (.p d) → ∃ v, σ[i]? = some (some v) ∧ Rep K G v d
def cE (K : PySem.W.Frag) (t : DT) : TE := fun σ H Q => ∃ (G : Hp) (ρ : DEnv) (P : B → Prop), Same G H ∧ RepE K G σ ρ ∧ t ρ P ∧ ∀ b v H' G', P b → Wd H G H' G' → BRes K H G' H' v b → Q v H'
def cT (K : PySem.W.Frag) (t : DTT) : TT := fun σ H Q => ∃ (G : Hp) (ρ : DEnv) (P : Bool → Prop), Same G H ∧ RepE K G σ ρ ∧ t ρ P ∧ ∀ b H' G', P b → Wd H G H' G' → Q b H'
def cA (K : PySem.W.Frag) (n : Nat) (t : DTA) : TA := fun σ H Q => ∃ (G : Hp) (ρ : DEnv) (P : List D → Prop), Same G H ∧ RepE K G σ ρ ∧ t ρ P ∧ ∀ ds vs H' G', P ds → ds.length = n → Wd H G H' G' → Reps K G' vs ds → Q vs H'
structure DE (X : Cx) (e : Expr) (t : DT) : Prop where
  pe : PE X e (cE X.K t)
structure DTe (X : Cx) (e : Expr) (t : DTT) : Prop where
  pt : PT X e (cT X.K t)
structure DW (X : Cx) (e : Expr) (t : DTT) : Prop where
  pw : PW X e (cT X.K t)
structure DA (X : Cx) (es : List Expr) (t : DTA) : Prop where
  pa : PA X es (cA X.K es.length t)
section
variable {X : Cx} {a b e : Expr} {ta tb te : DT} {pos : Pos}
def dVar (i : Nat) : DT := fun ρ Q => match dget ρ i with
  | some (.p d) => Q (.p d)
  | _ => False
def dC (d : D) : DT := fun _ Q => Q (.p d)
abbrev D2 := D → D → (B → Prop) → Prop
def dOp (r : D2) (ta tb : DT) : DT := fun ρ Q => ta ρ fun x => tb ρ fun y => r x.val y.val Q
def dI (g : Int → Int → D) : D2 := fun x y Q => match x, y with
  | .int i, .int j => Q (.p (g i j))
  | _, _ => False
def dIC (C : Int → Int → Prop) (g : Int → Int → D) : D2 := fun x y Q => match x, y with
  | .int i, .int j => C i j ∧ Q (.p (g i j))
  | _, _ => False
def dEqS : D2 := fun x y Q => match x, y with
  | .int i, .int j => Q (.p (.bl (decide (i = j))))
  | .str i, .str j => Q (.p (.bl (decide (i = j))))
  | .bl i, .bl j => Q (.p (.bl (decide (i = j))))
  | _, _ => False
def dNeS : D2 := fun x y Q => match x, y with
  | .int i, .int j => Q (.p (.bl (!decide (i = j))))
  | .str i, .str j => Q (.p (.bl (!decide (i = j))))
  | .bl i, .bl j => Q (.p (.bl (!decide (i = j))))
  | _, _ => False
def dIsN : D2 := fun x y Q => match y with
  | .non => Q (.p (.bl (match x with | .non => true | _ => false)))
  | _ => False
def dNotN : D2 := fun x y Q => match y with
  | .non => Q (.p (.bl (match x with | .non => false | _ => true)))
  | _ => False
def dUn (r : D → (B → Prop) → Prop) (ta : DT) : DT := fun ρ Q => ta ρ fun x => r x.val Q
def dNeg : D → (B → Prop) → Prop := fun x Q => match x with
  | .int i => Q (.p (.int (-i)))
  | _ => False
def dNotV (ta : DT) : DT := fun ρ Q => ta ρ fun x => match x.val with
  | .bl c => Q (.p (.bl (!c)))
  | _ => False
def dAndV (ta tb : DT) : DT := fun ρ Q => ta ρ fun x => match x.val with
  | .bl c => (c = true → tb ρ Q) ∧ (c = false → Q (.p (.bl false)))
  | _ => False
def dOrV (ta tb : DT) : DT := fun ρ Q => ta ρ fun x => match x.val with
  | .bl c => (c = true → Q (.p (.bl true))) ∧ (c = false → tb ρ Q)
  | _ => False
def dTst (t : DT) : DTT := fun ρ P => t ρ fun x => match x.val with
  | .bl c => P c
  | _ => False
def dNot (t : DTT) : DTT := fun ρ P => t ρ fun c => P (!c)
def dAnd (t u : DTT) : DTT := fun ρ P => t ρ fun c => (c = true → u ρ P) ∧ (c = false → P false)
def dOr (t u : DTT) : DTT := fun ρ P => t ρ fun c => (c = true → P true) ∧ (c = false → u ρ P)
end
end DL
namespace DL
open PySem L2
section
variable {X : Cx} {a b c e : Expr} {ta tb tc te : DT} {pos : Pos} {es : List Expr}
def dIfE (t : DTT) (ta tb : DT) : DT := fun ρ Q => t ρ fun c => (c = true → ta ρ Q) ∧ (c = false → tb ρ Q)
def dChain (r r' : D2) (ta tb tc : DT) : DT := fun ρ Q => ta ρ fun x => tb ρ fun y => r x.val y.val fun z => match z.val with
  | .bl c => (c = true → tc ρ fun w => r' y.val w.val Q) ∧ (c = false → Q (.p (.bl false)))
  | _ => False
def dNil : DTA := fun _ P => P []
def dCons (te : DT) (t : DTA) : DTA := fun ρ P => te ρ fun b => t ρ fun ds => P (b.val :: ds)
def dTup (t : DTA) : DT := fun ρ Q => t ρ fun ds => Q (.p (.tup ds))
def dLst (t : DTA) : DT := fun ρ Q => t ρ fun ds => Q (.o (.lst ds))
abbrev DR := List D → (B → Prop) → Prop
def dCall (R : DR) (t : DTA) : DT := fun ρ Q => t ρ fun ds => R ds Q
def dCB (r : DR) (t : DTA) : DT := fun ρ Q => t ρ fun ds => r ds Q
def dLen : DR := fun ds P => match ds with
  | [.lst xs] => P (.p (.int xs.length))
  | [.tup xs] => P (.p (.int xs.length))
  | [.scr ns] => P (.p (.int ns.length))
  | [.str x] => x.length ≤ sizeLine ∧ P (.p (.int x.length))
  | _ => False
def dII (g : Int → Int → Int) : DR := fun ds P => match ds with
  | [.int i, .int j] => P (.p (.int (g i j)))
  | _ => False
def dAbs : DR := fun ds P => match ds with
  | [.int i] => P (.p (.int (if i < 0 then -i else i)))
  | _ => False
def dInt : DR := fun ds P => match ds with
  | [.int i] => P (.p (.int i))
  | [.bl c] => P (.p (.int (if c then 1 else 0)))
  | _ => False
def dCopy : DR := fun ds P => match ds with
  | [.lst xs] => P (.o (.lst xs))
  | [.tup xs] => P (.o (.lst xs))
  | [.scr ns] => P (.o (.lst (ns.map D.int)))
  | _ => False
def isD (T : String) (d : D) : Bool := match T with
  | "int" => (match d with | .int _ => true | .bl _ => true | _ => false)
  | "bool" => (match d with | .bl _ => true | _ => false)
  | "str" => (match d with | .str _ => true | _ => false)
  | "tuple" => (match d with | .tup _ => true | _ => false)
  | "list" => (match d with | .lst _ => true | .scr _ => true | _ => false)
  | _ => false
def dIx : D2 := fun x y Q => match x, y with
  | .lst xs, .int i => ∃ d, atI xs i = some d ∧ Q (.p d)
  | .tup xs, .int i => ∃ d, atI xs i = some d ∧ Q (.p d)
  | .scr ns, .int i => ∃ n, atI ns i = some n ∧ Q (.p (.int n))
  | .str z, .int i => ∃ c, z.length ≤ sizeLine ∧ atI z.cps.toList i = some c ∧ Q (.p (.str ⟨#[c]⟩))
  | _, _ => False
abbrev DTO := DEnv → (Option Int → Prop) → Prop
def cO (K : PySem.W.Frag) (t : DTO) : TO := fun σ H Q => ∃ (G : Hp) (ρ : DEnv) (P : Option Int → Prop), Same G H ∧ RepE K G σ ρ ∧ t ρ P ∧ ∀ o H' G', P o → Wd H G H' G' → Q o H'
structure DO (X : Cx) (e : Option Expr) (t : DTO) : Prop where
  po : PO X e (cO X.K t)
def dNoPart : DTO := fun _ P => P none
def dPart (t : DT) : DTO := fun ρ P => t ρ fun b => match b.val with
  | .int i => P (some i)
  | _ => False
def cutL {α : Type} (xs : List α) (lo hi : Option Int) : List α := (xs.drop (HT.sIx xs.length 0 lo)).take (HT.sIx xs.length xs.length hi - HT.sIx xs.length 0 lo)
def dSl (te : DT) (tl th : DTO) : DT := fun ρ Q => te ρ fun b => tl ρ fun lo => th ρ fun hi => match b.val with
  | .lst xs => Q (.o (.lst (cutL xs lo hi)))
  | .scr ns => Q (.o (.lst ((cutL ns lo hi).map D.int)))
  | .tup xs => ¬ (HT.sIx xs.length 0 lo = 0 ∧ HT.sIx xs.length xs.length hi = xs.length) ∧ Q (.p (.tup (cutL xs lo hi)))
  | _ => False
def dSlS (te : DT) (tl th ts : DTO) : DT := fun ρ Q => te ρ fun b => tl ρ fun lo => th ρ fun hi => ts ρ fun st => st ≠ some 0 ∧ match b.val with
  | .lst xs => Q (.o (.lst (stepV xs lo hi st)))
  | .scr ns => Q (.o (.lst ((stepV ns lo hi st).map D.int)))
  | _ => False
def dAdd : D2 := fun x y Q => match x, y with
  | .int i, .int j => Q (.p (.int (i + j)))
  | .lst xs, .lst ys => xs.length + ys.length ≤ sizeLine ∧ Q (.o (.lst (xs ++ ys)))
  | .str x, .str y => x.length + y.length ≤ sizeLine ∧ Q (.p (.str (x ++ y)))
  | .tup xs, .tup ys => xs ≠ [] ∧ ys ≠ [] ∧ xs.length + ys.length ≤ sizeLine ∧ Q (.p (.tup (xs ++ ys)))
  | _, _ => False
def dMul : D2 := fun x y Q => match x, y with
  | .int i, .int j => CMul i j ∧ Q (.p (.int (i * j)))
  | .lst xs, .int k => (-(2 ^ 63) ≤ k ∧ k < 2 ^ 63) ∧ xs.length * k.toNat ≤ sizeLine ∧ Q (.o (.lst (List.replicate k.toNat xs).flatten))
  | _, _ => False
end
end DL
namespace DL
open PySem L2
section
variable {X : Cx} {pins : List (Addr × Obj)} {σ : St} {H G : Hp} {s : Shared}
end
end DL
namespace DL
open PySem L2
section
variable {X : Cx} {a b c e : Expr} {ta tb tc te : DT} {pos : Pos} {es : List Expr}
def dIsi (T : String) (te : DT) : DT := fun ρ Q => te ρ fun b => Q (.p (.bl (isD T b.val)))
end
inductive Tg where
  | n (i : Nat) | t (is : List Nat)
def putN : List Nat → List D → DEnv → (DEnv → Prop) → Prop
  | [], [], ρ, P => P ρ
  | i :: is, d :: ds, ρ, P => putN is ds (dput ρ i (.p d)) P
  | _, _, _, _ => False
def Tg.d : Tg → D → DEnv → (DEnv → Prop) → Prop
  | .n i, d, ρ, P => P (dput ρ i (.p d))
  | .t is, .tup ds, ρ, P => putN is ds ρ P
  | .t is, .lst ds, ρ, P => putN is ds ρ P
  | .t _, _, _, _ => False
def NestAt (K : PySem.W.Frag) (H0 G H : Hp) (w : Addr → Nat) (i : Nat) (a : Addr) (t : Bool) (dss : List D) : Prop := ∃ as : List Addr, as.Nodup ∧ Paired (fun x ds => H0 x = none ∧ w x = i ∧ OwnAt K G H x ds) as dss ∧ match t with
  | true => SqT K G a (as.map V.ref)
  | false => H0 a = none ∧ w a = i ∧ G a = none ∧ a ∉ as ∧ H a = some (.lst (as.map V.ref))
structure EnvW (K : PySem.W.Frag) (H0 G H : Hp) (w : Addr → Nat) (σ : St) (ρ : DEnv) : Prop where
  len : σ.length = ρ.length
  p : ∀ i d, dget ρ i = some (.p d) → ∃ v, σ[i]? = some (some v) ∧ Rep K G v d
  o : ∀ i d, dget ρ i = some (.o d) → ∃ a, σ[i]? = some (some (.ref a)) ∧ H0 a = none ∧ w a = i ∧ OwnAt K G H a d
  n : ∀ i t dss, dget ρ i = some (.n t dss) → ∃ a, σ[i]? = some (some (.ref a)) ∧ NestAt K H0 G H w i a t dss
def EnvO (K : PySem.W.Frag) (H0 G H : Hp) (σ : St) (ρ : DEnv) : Prop := ∃ w, EnvW K H0 G H w σ ρ
section
variable {K : PySem.W.Frag} {H0 G H : Hp} {σ : St} {ρ : DEnv}
end
structure ItD (K : PySem.W.Frag) (G0 : Hp) (J : It) (xs : List D) : Prop where
  go : ∀ i d H G, xs[i]? = some d → Same G0 G → Same G H → J.go i H
  yld : ∀ i d H G x H', xs[i]? = some d → Same G0 G → Same G H → J.yld i H x H' → ∃ G', Wd H G H' G' ∧ Rep K G' x d
  stop : ∀ i H G, i = xs.length → Same G0 G → Same G H → J.stop i H
def cI (K : PySem.W.Frag) (t : DTA) : TI := fun σ H R => ∃ (G : Hp) (ρ : DEnv) (P : List D → Prop), Same G H ∧ RepE K G σ ρ ∧ t ρ P ∧ ∀ xs J H' G', P xs → Wd H G H' G' → ItD K G' J xs → R J H'
structure DI (X : Cx) (tg e : Expr) (t : DTA) : Prop where
  pi : PI X tg e (cI X.K t)
section
variable {X : Cx} {tg e : Expr} {te : DT} {pos : Pos}
def diList (te : DT) : DTA := fun ρ P => te ρ fun b => match b.val with
  | .lst xs => P xs
  | .scr ns => P (ns.map D.int)
  | _ => False
def diTup (te : DT) : DTA := fun ρ P => te ρ fun b => match b.val with
  | .tup xs => P xs
  | _ => False
def upFrom (lo : Int) (n : Nat) : List D := (List.range n).map fun i => D.int (lo + (i : Nat))
def diRng1 (t : DTA) : DTA := fun ρ P => t ρ fun ds => match ds with
  | [.int j] => (-(2 ^ 62) ≤ j ∧ j < 2 ^ 62) ∧ P (upFrom 0 j.toNat)
  | _ => False
def diRng2 (t : DTA) : DTA := fun ρ P => t ρ fun ds => match ds with
  | [.int i, .int j] => (-(2 ^ 62) ≤ i ∧ i < 2 ^ 62 ∧ -(2 ^ 62) ≤ j ∧ j < 2 ^ 62) ∧ P (upFrom i (j - i).toNat)
  | _ => False
def signsOf (x : Str) : List D := x.cps.toList.map fun c => D.str ⟨#[c]⟩
def diStr (te : DT) : DTA := fun ρ P => te ρ fun b => match b.val with
  | .str x => P (signsOf x)
  | _ => False
end
def frD (fr : List (Option Nat)) (ρ : DEnv) : DEnv := fr.map fun o => match o with
  | none => none
  | some j => dget ρ j
def onlyP (ρ : DEnv) : DEnv := ρ.map fun o => match o with
  | some (.p d) => some (.p d)
  | _ => none
def lcI (xs : List D) (g : Tg) (tc : DTT) (te : DT) (ρ : DEnv) (Q : B → Prop) : Prop := xs.length ≤ sizeLine ∧ ∃ F : D → Option D → Prop,
  (∀ x ∈ xs, g.d x ρ fun ρ' => tc ρ' fun c => (c = true → te ρ' fun b => F x (some b.val)) ∧ (c = false → F x none)) ∧ ∀ os, Paired F xs os → Q (.o (.lst (os.filterMap id)))
def dLC (ti : DTA) (fr : List (Option Nat)) (g : Tg) (tc : DTT) (te : DT) : DT := fun ρ Q => ti ρ fun xs => lcI xs g tc te (onlyP (frD fr ρ)) Q
def dTrue : DTT := fun _ P => P true
structure DIfs (X : Cx) (ifs : List Expr) (t : DTT) : Prop where
  pf : PIfs X ifs (cT X.K t)
section
variable {X : Cx} {tg iter elt : Expr} {ifs : List Expr} {scope : Scope} {pos : Pos} {ti : DTA} {g : Tg} {tc : DTT} {te : DT}
end
end DL
namespace DL
open PySem L2
structure DEnds where
  nx : DEnv → Prop
  rt : B → Prop
  bk : DEnv → Prop := fun _ => False
  ct : DEnv → Prop := fun _ => False
abbrev DTS := DEnds → DEnv → Prop
structure EndsOk (K : PySem.W.Frag) (H0 G0 : Hp) (E : DEnds) (Dn : Ends) : Prop where
  nx : ∀ σ H G ρ, Wd H0 G0 H G → EnvO K H0 G H σ ρ → E.nx ρ → Dn.nx σ H
  bk : ∀ σ H G ρ, Wd H0 G0 H G → EnvO K H0 G H σ ρ → E.bk ρ → Dn.bk σ H
  ct : ∀ σ H G ρ, Wd H0 G0 H G → EnvO K H0 G H σ ρ → E.ct ρ → Dn.ct σ H
  rt : ∀ b v H G, Wd H0 G0 H G → BRes K H0 G H v b → E.rt b → Dn.rt v H
def cS (K : PySem.W.Frag) (H0 G0 : Hp) (t : DTS) : TS := fun Dn σ H => ∃ (E : DEnds) (G : Hp) (ρ : DEnv), EndsOk K H0 G0 E Dn ∧ Wd H0 G0 H G ∧ EnvO K H0 G H σ ρ ∧ t E ρ
structure DS (X : Cx) (st : Stmt) (t : DTS) : Prop where
  ps : ∀ H0 G0, PS X st (cS X.K H0 G0 t)
structure DSs (X : Cx) (st : List Stmt) (t : DTS) : Prop where
  pss : ∀ H0 G0, PSs X st (cS X.K H0 G0 t)
section
variable {K : PySem.W.Frag} {H0 G0 G H H' : Hp} {σ : St} {ρ : DEnv}
end
section
variable {X : Cx} {st : Stmt} {rest : List Stmt} {t u : DTS} {a b c e : Expr} {ta tb te : DT} {pos : Pos}
def dNext : DTS := fun E ρ => E.nx ρ
def dSeq (t u : DTS) : DTS := fun E ρ => t { E with nx := u E } ρ
def dDrop (te : DT) : DTS := fun E ρ => te (frz ρ) fun _ => E.nx ρ
def dRet (te : DT) : DTS := fun E ρ => te (frz ρ) E.rt
def dRetN : DTS := fun E _ => E.rt (.p .non)
def dRetO (i : Nat) : DTS := fun E ρ => match dget ρ i with
  | some (.o d) => E.rt (.o d)
  | _ => False
def dIfS (tc : DTT) (t u : DTS) : DTS := fun E ρ => tc (frz ρ) fun c => (c = true → t E ρ) ∧ (c = false → u E ρ)
def dSet (i : Nat) (te : DT) : DTS := fun E ρ => te ρ fun b => E.nx (dput ρ i b)
def dSetF (i : Nat) (te : DT) : DTS := fun E ρ => te (frz ρ) fun b => b.val.sc = true ∧ E.nx (dput ρ i (.p b.val))
def dSetD (i : Nat) (te : DT) : DTS := fun E ρ => te (frz ρ) fun b => E.nx (dput (frz ρ) i b)
def dSetP (i : Nat) (te : DT) : DTS := fun E ρ => te ρ fun b => E.nx (dput ρ i (.p b.val))
def dSetDP (i : Nat) (te : DT) : DTS := fun E ρ => te (frz ρ) fun b => E.nx (dput (frz ρ) i (.p b.val))
section
variable {i : Nat} {x : Str} {px : Pos}
variable {tg iter elt : Expr} {ifs : List Expr} {scope : Scope} {spos : Pos} {ti : DTA} {g : Tg} {tc : DTT}
def dAug (i : Nat) (te : DT) (f : Int → Int → Int) : DTS := fun E ρ => match dget ρ i with
  | some (.p (.int m)) => te (frz ρ) fun b => match b.val with
    | .int n => E.nx (dput ρ i (.p (.int (f m n))))
    | _ => False
  | _ => False
end
def dAsg (te : DT) (g : Tg) : DTS := fun E ρ => te ρ fun b => g.d b.val ρ E.nx
def dApp (i : Nat) (te : DT) : DTS := fun E ρ => match dget ρ i with
  | some (.o (.lst ds)) => te ρ fun b => ds.length < sizeLine ∧ E.nx (dput ρ i (.o (.lst (ds ++ [b.val]))))
  | _ => False
def dAppF (i : Nat) (te : DT) : DTS := fun E ρ => match dget ρ i with
  | some (.o (.lst ds)) => te (frz ρ) fun b => b.val.sc = true ∧ ds.length < sizeLine ∧ E.nx (dput ρ i (.o (.lst (ds ++ [b.val]))))
  | _ => False
section
variable {i : Nat} {x : Str} {px apos cpos spos : Pos}
def dSetIx (i : Nat) (tk te : DT) : DTS := fun E ρ => te ρ fun b => match dget ρ i with
  | some (.o (.lst ds)) => tk (frz ρ) fun k => match k.val with
    | .int z => ∃ j, ixN ds.length z = some j ∧ E.nx (dput ρ i (.o (.lst (ds.set j b.val))))
    | _ => False
  | _ => False
def dSetIxF (i : Nat) (tk te : DT) : DTS := fun E ρ => te (frz ρ) fun b => b.val.sc = true ∧ match dget ρ i with
  | some (.o (.lst ds)) => tk (frz ρ) fun k => match k.val with
    | .int z => ∃ j, ixN ds.length z = some j ∧ E.nx (dput ρ i (.o (.lst (ds.set j b.val))))
    | _ => False
  | _ => False
def dAugIx (i : Nat) (tk te : DT) (f : Int → Int → Int) : DTS := fun E ρ => match dget ρ i with
  | some (.o (.lst ds)) => tk (frz ρ) fun k => match k.val with
    | .int z => ∃ j m, ixN ds.length z = some j ∧ ds[j]? = some (.int m) ∧ te (frz ρ) fun b => match b.val with
      | .int n => E.nx (dput ρ i (.o (.lst (ds.set j (.int (f m n))))))
      | _ => False
    | _ => False
  | _ => False
end
def forI (g : Tg) (tb : DTS) (E : DEnds) (xs : List D) (ρ : DEnv) : Prop := ∃ I : Nat → DEnv → Prop, I 0 ρ ∧
  (∀ i d ρ, xs[i]? = some d → I i ρ → g.d d ρ fun ρ' => tb { E with nx := I (i + 1), ct := I (i + 1), bk := E.nx } ρ') ∧ ∀ ρ, I xs.length ρ → E.nx ρ
def dFor (ti : DTA) (g : Tg) (tb : DTS) : DTS := fun E ρ => ti ρ fun xs => forI g tb E xs ρ
def dForD (ti : DTA) (g : Tg) (tb : DTS) : DTS := fun E ρ => ti (frz ρ) fun xs => forI g tb E xs (frz ρ)
section
variable {tg iter : Expr} {body : List Stmt} {ti : DTA} {g : Tg} {tb : DTS}
def cIs (K : PySem.W.Frag) (t : DTA) : TI := fun σ H R => ∃ (G : Hp) (ρ : DEnv) (P : List D → Prop), Same G H ∧ RepE K G σ ρ ∧ t ρ P ∧ ∀ xs J H' G', P xs → Wd H G H' G' → (∀ G, ItD K G J xs) → R J H'
structure DIs (X : Cx) (tg e : Expr) (t : DTA) : Prop where
  pi : PI X tg e (cIs X.K t)
def dForS (ti : DTA) (g : Tg) (tb : DTS) : DTS := fun E ρ => ti (frz ρ) fun xs => forI g tb E xs ρ
end
end
def startD : Nat → List D → DEnv
  | 0, ds => ds.map fun d => some (.p d)
  | n + 1, [] => none :: startD n []
  | n + 1, d :: ds => some (.p d) :: startD n ds
section
variable {P : Program} {w : World} {K : PySem.W.Frag} {mg : Str → Option Value} {base : Heap}
end
end DL
namespace DL
open PySem L2
section
variable {X : Cx} {tg e : Expr} {te : DT} {pos : Pos} {es : List Expr}
def enumFrom : Nat → List D → List D
  | _, [] => []
  | k, x :: xs => .tup [.int (k : Nat), x] :: enumFrom (k + 1) xs
def di_enumerateT (t : DTA) : DTA := fun ρ P => t ρ fun ds => match ds with
  | [.lst xs] => P (enumFrom 0 xs)
  | _ => False
def zipD (xs ys : List D) : List D := (xs.zip ys).map fun p => .tup [p.1, p.2]
def di_zipT (t : DTA) : DTA := fun ρ P => t ρ fun ds => match ds with
  | [.lst xs, .lst ys] => P (zipD xs ys)
  | _ => False
def di_reversedT (t : DTA) : DTA := fun ρ P => t ρ fun ds => match ds with
  | [.lst xs] => P xs.reverse
  | _ => False
def downTo (a : Int) (n : Nat) : List D := (List.range n).map fun i => D.int (a + (i : Nat) * (-1))
def diRevr1 (t : DTA) : DTA := fun ρ P => t ρ fun ds => match ds with
  | [.int j] => (0 ≤ j ∧ j < 2 ^ 62) ∧ P (downTo (j - 1) j.toNat)
  | _ => False
end
end DL
namespace DL
open PySem L2
end DL
namespace WS
open PySem L2
def sp : Str := ⟨#[32]⟩
structure NumOk (x : S3) : Prop where
  a0 : 0 ≤ x.1
  a1 : x.1 < 10 ^ 10
  b0 : 0 ≤ x.2.1
  b1 : x.2.1 < 10 ^ 10
  c0 : 0 ≤ x.2.2
  c1 : x.2.2 < 10 ^ 10
end WS
namespace WS
end WS
namespace WS
def sfx (xs : List Int) (L : Nat) : Int := (xs.drop L).sum
structure Drawn (g : Int) (hs cs : List S3) (gv wt : List Int) : Prop where
  lg : gv.length = 251
  lw : wt.length = 251
  ng : ∀ x ∈ gv, 0 ≤ x
  nw : ∀ x ∈ wt, 0 ≤ x
  lack : ∀ L : Nat, L ≤ 251 → lackF g hs cs (L : Nat) ≤ sfx wt L - sfx gv L
  all : sfx wt 0 - sfx gv 0 = lackF g hs cs 0
end WS
namespace WS
end WS
namespace DL
open PySem L2
theorem dIx_lst (xs : List D) (i : Int) (Q : B → Prop) : dIx (.lst xs) (.int i) Q = ∃ d, atI xs i = some d ∧ Q (.p d) := rfl
theorem dIx_tup (xs : List D) (i : Int) (Q : B → Prop) : dIx (.tup xs) (.int i) Q = ∃ d, atI xs i = some d ∧ Q (.p d) := rfl
theorem dIx_scr (ns : List Int) (i : Int) (Q : B → Prop) : dIx (.scr ns) (.int i) Q = ∃ n, atI ns i = some n ∧ Q (.p (.int n)) := rfl
theorem dAdd_int (i j : Int) (Q : B → Prop) : dAdd (.int i) (.int j) Q = Q (.p (.int (i + j))) := rfl
theorem dAdd_lst (xs ys : List D) (Q : B → Prop) : dAdd (.lst xs) (.lst ys) Q = (xs.length + ys.length ≤ sizeLine ∧ Q (.o (.lst (xs ++ ys)))) := rfl
theorem dAdd_str (x y : Str) (Q : B → Prop) : dAdd (.str x) (.str y) Q = (x.length + y.length ≤ sizeLine ∧ Q (.p (.str (x ++ y)))) := rfl
theorem dAdd_tup (xs ys : List D) (Q : B → Prop) : dAdd (.tup xs) (.tup ys) Q = (xs ≠ [] ∧ ys ≠ [] ∧ xs.length + ys.length ≤ sizeLine ∧ Q (.p (.tup (xs ++ ys)))) := rfl
theorem dMul_int (i j : Int) (Q : B → Prop) : dMul (.int i) (.int j) Q = (CMul i j ∧ Q (.p (.int (i * j)))) := rfl
theorem dEqS_int (i j : Int) (Q : B → Prop) : dEqS (.int i) (.int j) Q = Q (.p (.bl (decide (i = j)))) := rfl
theorem dEqS_str (i j : Str) (Q : B → Prop) : dEqS (.str i) (.str j) Q = Q (.p (.bl (decide (i = j)))) := rfl
theorem dEqS_bl (i j : Bool) (Q : B → Prop) : dEqS (.bl i) (.bl j) Q = Q (.p (.bl (decide (i = j)))) := rfl
theorem dNeS_int (i j : Int) (Q : B → Prop) : dNeS (.int i) (.int j) Q = Q (.p (.bl (!decide (i = j)))) := rfl
theorem dNeS_str (i j : Str) (Q : B → Prop) : dNeS (.str i) (.str j) Q = Q (.p (.bl (!decide (i = j)))) := rfl
theorem dNeS_bl (i j : Bool) (Q : B → Prop) : dNeS (.bl i) (.bl j) Q = Q (.p (.bl (!decide (i = j)))) := rfl
theorem dLen_lst (xs : List D) (P : B → Prop) : dLen [.lst xs] P = P (.p (.int xs.length)) := rfl
theorem dLen_tup (xs : List D) (P : B → Prop) : dLen [.tup xs] P = P (.p (.int xs.length)) := rfl
theorem dLen_scr (xs : List Int) (P : B → Prop) : dLen [.scr xs] P = P (.p (.int xs.length)) := rfl
def itL (d : D) (P : List D → Prop) : Prop := match d with
  | .lst xs => P xs
  | .scr ns => P (ns.map D.int)
  | _ => False
theorem diList_is (te : DT) (ρ : DEnv) (P : List D → Prop) : diList te ρ P = te ρ fun b => itL b.val P := rfl
theorem itL_lst (xs : List D) (P : List D → Prop) : itL (.lst xs) P = P xs := rfl
theorem itL_scr (xs : List Int) (P : List D → Prop) : itL (.scr xs) P = P (xs.map D.int) := rfl
def slD (d : D) (lo hi : Option Int) (Q : B → Prop) : Prop := match d with
  | .lst xs => Q (.o (.lst (cutL xs lo hi)))
  | .scr ns => Q (.o (.lst ((cutL ns lo hi).map D.int)))
  | .tup xs => ¬ (HT.sIx xs.length 0 lo = 0 ∧ HT.sIx xs.length xs.length hi = xs.length) ∧ Q (.p (.tup (cutL xs lo hi)))
  | _ => False
theorem dSl_is (te : DT) (tl th : DTO) (ρ : DEnv) (Q : B → Prop) : dSl te tl th ρ Q = te ρ fun b => tl ρ fun lo => th ρ fun hi => slD b.val lo hi Q := rfl
theorem slD_lst (xs : List D) (lo hi : Option Int) (Q : B → Prop) : slD (.lst xs) lo hi Q = Q (.o (.lst (cutL xs lo hi))) := rfl
theorem slD_scr (xs : List Int) (lo hi : Option Int) (Q : B → Prop) : slD (.scr xs) lo hi Q = Q (.o (.lst ((cutL xs lo hi).map D.int))) := rfl
theorem slD_tup (xs : List D) (lo hi : Option Int) (Q : B → Prop) : slD (.tup xs) lo hi Q = (¬ (HT.sIx xs.length 0 lo = 0 ∧ HT.sIx xs.length xs.length hi = xs.length) ∧ Q (.p (.tup (cutL xs lo hi)))) := rfl
def slSD (d : D) (lo hi st : Option Int) (Q : B → Prop) : Prop := match d with
  | .lst xs => Q (.o (.lst (stepV xs lo hi st)))
  | .scr ns => Q (.o (.lst ((stepV ns lo hi st).map D.int)))
  | _ => False
theorem dSlS_is (te : DT) (tl th ts : DTO) (ρ : DEnv) (Q : B → Prop) : dSlS te tl th ts ρ Q = te ρ fun b => tl ρ fun lo => th ρ fun hi => ts ρ fun st => st ≠ some 0 ∧ slSD b.val lo hi st Q := rfl
theorem slSD_lst (xs : List D) (lo hi st : Option Int) (Q : B → Prop) : slSD (.lst xs) lo hi st Q = Q (.o (.lst (stepV xs lo hi st))) := rfl
theorem slSD_scr (xs : List Int) (lo hi st : Option Int) (Q : B → Prop) : slSD (.scr xs) lo hi st Q = Q (.o (.lst ((stepV xs lo hi st).map D.int))) := rfl
theorem dCopy_lst (xs : List D) (P : B → Prop) : dCopy [.lst xs] P = P (.o (.lst xs)) := rfl
theorem dCopy_tup (xs : List D) (P : B → Prop) : dCopy [.tup xs] P = P (.o (.lst xs)) := rfl
theorem dCopy_scr (xs : List Int) (P : B → Prop) : dCopy [.scr xs] P = P (.o (.lst (xs.map D.int))) := rfl
end DL
set_option maxHeartbeats 4000000
namespace L2
open PySem PySem.Spec PyProof.Rows
structure KB (fs : List Addr) (H H' : Hp) (h B : Heap) : Prop where
  keep : ∀ b o, h.get? b = some o → H b = none → b ∉ fs → B.get? b = some o
  there : ∀ b o, h.get? b = some o → b ∉ fs → ∃ o', B.get? b = some o'
  trk : ∀ a u, H' a = some u → ∃ o, B.get? a = some o
def CXe (P : Program) (w : World) : CXT := fun outer H s E e s' =>
  ∃ (ea : Addr) (cls a0 : Value) (H' : Hp) (B : Heap), e = .ref ea ∧ Heap.FlyingW B outer ea cls a0 s'.heap ∧ KB (frs outer) H H' s.heap B ∧ s'.os = s.os ∧ AllBare s'.gens ∧
    Un (frs outer) [] H H' s.heap s'.heap ∧ HOk P w H' s'.heap ∧ E cls none H'
structure Body (X : Cx) (E : XK) : Prop where
  ex : X.ex = []
  stack : X.stack = X.env :: X.outer
  frame : X.env.frame = some X.env.locals
  xe : ∀ e s', wpAny (model X.prog X.w) X.A (leaving X.env e) (fun _ s'' => CXe X.prog X.w X.outer X.H₀ X.s₀ E e s'') (fun e' s'' => CXe X.prog X.w X.outer X.H₀ X.s₀ E e' s'') s' → X.xe e s'
section
variable {X : Cx} {E : XK} {pins : List (Addr × Obj)} {σ : St} {H : Hp} {s s' : Shared}
end
end L2
set_option maxHeartbeats 4000000
namespace L2
open PySem PySem.Spec PyProof.Rows
abbrev veM : List Value := [.type "ValueError", .type "Exception", .type "BaseException", .type "object"]
def ErrCls (K : PySem.W.Frag) (C : Addr) : Prop := PySem.W.excIn K C veM "ValueError.__new__" = true
section
variable {X : Cx} {E : XK} {C : Addr} {x : Str} {e₀ : Expr} {rest : List Expr} {np cpos pos : Pos} {ta : TA}
end
end L2
set_option maxHeartbeats 4000000
namespace L2
open PySem PySem.Spec PyProof.Rows PySem.W Builtin.Getset_descriptor
structure ExcGet (K : Frag) (C : Addr) : Prop where
  ga : findIn K (.ref C) "__getattribute__" = some (some (.builtin "BaseException.__getattribute__"))
  gt : findIn K (.ref C) "__getattr__" = some none
  cls : findIn K (.ref C) "__class__" = some (some (.builtin "object.__class__"))
  get : specialIn K (.builtin "object.__class__") "__get__" = some (some (.builtin "getset_descriptor.__get__"))
  tk : takesIn K (.builtin "object.__class__") = some true
  mo : mroIn K C (.type "object") = some true
  mb : mroIn K C (.type "BaseException") = some true
  is : (clsIn K C).isSome = true
section
variable {prog : Program} {w : World} {A : Around} {E : Value → Shared → Prop} {s : Shared} {K : Frag} {x C : Addr}
end
section
variable {X : Cx} {C : Addr} {x : Addr} {ox : Obj}
end
end L2
set_option maxHeartbeats 4000000
namespace L2
open PySem PySem.Spec PyProof.Rows PySem.W
structure Flown (X : Cx) (pins : List (Addr × Obj)) (σ : St) (H0 H : Hp) (s0 s : Shared) (ea : Addr) (cls : Value) (B : Heap) : Prop where
  I0 : Inv X pins σ H0 s0
  fl : ∃ a0, Heap.FlyingW B X.stack ea cls a0 s.heap
  kb : KB (frs X.stack) H0 H s0.heap B
  os : s.os = s0.os
  bare : AllBare s.gens
  un : Un (frs X.stack) [] H0 H s0.heap s.heap
  hok : HOk X.prog X.w H s.heap
section
variable {X : Cx} {pins : List (Addr × Obj)} {σ : St} {H0 H : Hp} {s0 s : Shared} {ea : Addr} {cls : Value} {B : Heap}
end
section
variable {X : Cx} {y : Str} {c : Value} {np hpos : Pos} {b₀ : Stmt} {suite : List Stmt} {rest : List ExceptHandler} {ts : Addr → Value → TS} {tr : Value → TS}
end
end L2
set_option maxHeartbeats 4000000
namespace L2
open PySem PySem.Spec PyProof.Rows PySem.W
section
variable {X : Cx} {pins : List (Addr × Obj)} {σ : St} {H : Hp} {s : Shared}
end
section
variable {X : Cx} {y n : Str} {i : Nat} {c : Value} {np hpos : Pos} {b₀ : Stmt} {suite : List Stmt} {rest : List ExceptHandler} {ts : Addr → Value → TS} {tr : Value → TS}
end
section
variable {X : Cx} {CX : CXT} {k : Nat} {f : Addr} {fd : FuncData} {ps : List Str} {sp : Sp} {x : Str} {p pos epos tpos : Pos} {e : Expr} {es : List Expr} {t : TA} {h₀ : ExceptHandler} {hs : List ExceptHandler} {th : Value → TS}
end
section
variable {P : Program} {w : World} {K : PySem.W.Frag} {mg : Str → Option Value} {base : Heap}
structure FnX (P : Program) (w : World) (K : PySem.W.Frag) (mg : Str → Option Value) (base : Heap) (x : Str) (k : Nat) (ps : List Str) (sp : Sp) : Prop where
  ex : ∃ f fd, FnOk P w K mg base (CXe P w) k f fd ps sp ∧ mg x = some (.ref f) ∧ PySem.W.keepIn K (.ref f) = true ∧ Binds K fd ps []
end
end L2
set_option maxHeartbeats 4000000
namespace DL
open PySem L2
abbrev DRX := List D → (B → Prop) → (Value → Prop) → Prop
def spX (K : PySem.W.Frag) (R : DRX) : Sp := fun vs H Q E => ∃ (ds : List D) (G : Hp) (P : B → Prop) (Z : Value → Prop), Same G H ∧ Reps K G vs ds ∧ R ds P Z ∧ (∀ b v H' G', P b → Wd H G H' G' → BRes K H G' H' v b → Q v H') ∧ ∀ cls H', Z cls → Same H H' → E cls none H'
abbrev FnDX (P : Program) (w : World) (K : PySem.W.Frag) (mg : Str → Option Value) (base : Heap) (x : Str) (k : Nat) (ps : List Str) (R : DRX) : Prop := FnX P w K mg base x k ps (spX K R)
structure DX (X : Cx) (H0 : Hp) (st : Stmt) (t : DTS) : Prop where
  ps : ∀ G0, PS X st (cS X.K H0 G0 t)
structure DXs (X : Cx) (H0 : Hp) (st : List Stmt) (t : DTS) : Prop where
  pss : ∀ G0, PSs X st (cS X.K H0 G0 t)
section
variable {X : Cx} {H0 : Hp} {E : XK} {Z : Value → Prop} {st : Stmt} {rest : List Stmt} {t u : DTS} {a b c e : Expr} {es : List Expr} {ta tb te : DT} {pos p epos : Pos} {x : Str} {k : Nat} {ps : List Str} {R : DRX} {tA : DTA} {C : Addr}
theorem dx (h : DS X st t) : DX X H0 st t := ⟨fun G0 => h.ps H0 G0⟩
def dRaise (Z : Value → Prop) (c : Value) (t : DTA) : DTS := fun _ ρ => t (frz ρ) fun _ => Z c
section
variable (bd : Body X E) (hZ : ∀ cls H', Z cls → Same H0 H' → E cls none H') (F : FnDX X.prog X.w X.K X.mg X.base x k ps R) (hr : Room k X.A) (hg : Gl X x) (ha : DA X (e :: es) tA)
include bd hZ F hr hg ha
end
end
section
variable {X : Cx} {H0 : Hp} {tg iter : Expr} {body : List Stmt} {ti : DTA} {g : Tg} {tb : DTS} {pos : Pos}
end
section
variable {P : Program} {w : World} {K : PySem.W.Frag} {mg : Str → Option Value} {base : Heap}
end
structure ErrAt (K : PySem.W.Frag) (mg : Str → Option Value) (x : Str) (C : Addr) : Prop where
  er : ErrCls K C
  at_ : mg x = some (.ref C)
  get : ExcGet K C
end DL
set_option maxHeartbeats 4000000
namespace DL
open PySem L2
section
variable {X : Cx} {o e : Expr} {es : List Expr} {te : DT} {tA : DTA} {pos : Pos}
def dMeth (r : Str → List D → (B → Prop) → Prop) (te : DT) (t : DTA) : DT := fun ρ Q => te ρ fun b => match b.val with
  | .str y => t ρ fun ds => r y ds Q
  | _ => False
def dSplit (a : Str) (ds : List D) (P : B → Prop) : Prop := match ds with
  | [.str y] => (y.length == 0) = false ∧ a.length + 2 ≤ sizeLine ∧ P (.o (.lst ((Txt.split a y).map D.str)))
  | _ => False
def dJoinM (sep : Str) (ds : List D) (P : B → Prop) : Prop := match ds with
  | [.lst xs] => ∃ ts : List Str, xs = ts.map D.str ∧ JoinOk sep ts = true ∧ P (.p (.str (Str.join sep ts)))
  | _ => False
def dStarts (a : Str) (ds : List D) (P : B → Prop) : Prop := match ds with
  | [.str y] => P (.p (.bl (decide (0 + y.length ≤ a.length) && Builtin.Str.subAt a y 0)))
  | _ => False
def dInS : D2 := fun x y Q => match x, y with
  | .str i, .str j => Q (.p (.bl (!(Builtin.Str.occurrences j i 0 j.length 1).isEmpty)))
  | _, _ => False
def dIntT : DR := fun ds P => match ds with
  | [.str x] => ∃ n, PySem.intText? x = some n ∧ x.length ≤ 640 ∧ P (.p (.int n))
  | _ => False
abbrev DTJ := DEnv → Str → (Str → Prop) → Prop
def cJ (K : PySem.W.Frag) (t : DTJ) : TJ := fun σ H acc R => ∃ (G : Hp) (ρ : DEnv) (P : Str → Prop), Same G H ∧ RepE K G σ ρ ∧ t ρ acc P ∧ ∀ out H' G', P out → Wd H G H' G' → R out H'
structure DJ (X : Cx) (es : List Expr) (t : DTJ) : Prop where
  pj : PJ X es (cJ X.K t)
def djNil : DTJ := fun _ acc P => P acc
def djStr (x : Str) (t : DTJ) : DTJ := fun ρ acc P => (acc ++ x).length ≤ sizeLine ∧ t ρ (acc ++ x) P
def djVal (te : DT) (t : DTJ) : DTJ := fun ρ acc P => te ρ fun b => match b.val with
  | .str y => y.length ≤ sizeLine ∧ (acc ++ y).length ≤ sizeLine ∧ t ρ (acc ++ y) P
  | .int i => i.natAbs.log2 < 1920 ∧ (acc ++ (toString i : Str)).length ≤ sizeLine ∧ t ρ (acc ++ (toString i : Str)) P
  | _ => False
def dFmt (t : DTJ) : DT := fun ρ Q => t ρ Str.empty fun out => out.length ≤ sizeLine ∧ Q (.p (.str out))
end
theorem dLen_str (x : Str) (P : B → Prop) : dLen [.str x] P = (x.length ≤ sizeLine ∧ P (.p (.int x.length))) := rfl
theorem dSplit_is (a y : Str) (P : B → Prop) : dSplit a [.str y] P = ((y.length == 0) = false ∧ a.length + 2 ≤ sizeLine ∧ P (.o (.lst ((Txt.split a y).map D.str)))) := rfl
theorem dJoinM_is (sep : Str) (xs : List D) (P : B → Prop) : dJoinM sep [.lst xs] P = ∃ ts : List Str, xs = ts.map D.str ∧ JoinOk sep ts = true ∧ P (.p (.str (Str.join sep ts))) := rfl
theorem dIntT_is (x : Str) (P : B → Prop) : dIntT [.str x] P = ∃ n, PySem.intText? x = some n ∧ x.length ≤ 640 ∧ P (.p (.int n)) := rfl
end DL
set_option maxHeartbeats 4000000
namespace WS
open PySem L2 DL
local macro_rules | `(tactic| walk_at "rs1") => `(tactic| dsimp only [dSeq, dNext, dRet, dRetN, dRetO, dIfS, dSet, dSetP, dSetF, dSetD, dSetDP, dAug, dAsg, dApp, dAppF, dSetIx, dSetIxF, dAugIx, dDrop, dFor, dForD, dForS, dVar, dC, dOp, dI, dIC, dIsN, dNotN, dUn, dNeg, dNotV, dAndV, dOrV, dTst, dNot, dAnd, dOr, dIfE, dChain, dNil, dCons, dTup, dLst, dCall, dCB, dII, dAbs, dInt, dNoPart, dPart, dIsi, dTrue, dget, dput, frz, frz1, B.val, startD, Tg.d, putN, diTup, diRng1, diRng2, diRevr1, di_enumerateT, di_zipT, di_reversedT, onlyP, frD, dLC, List.map, List.length, dIx_lst, dIx_tup, dIx_scr, dAdd_int, dAdd_lst, dAdd_str, dAdd_tup, dMul_int, dEqS_int, dEqS_str, dEqS_bl, dNeS_int, dNeS_str, dNeS_bl, dLen_lst, dLen_tup, dLen_scr, diList_is, itL_lst, itL_scr, dSl_is, slD_lst, slD_scr, slD_tup, dSlS_is, slSD_lst, slSD_scr, dCopy_lst, dCopy_tup, dCopy_scr, dMeth, dSplit_is, dJoinM_is, dStarts, dInS, dIntT_is, djNil, djStr, djVal, dFmt, diStr, dLen_str, dRaise])
structure Blt (mg : Str → Option Value) : Prop where
  b_all : mg "all" = none
  b_len : mg "len" = none
  b_int : mg "int" = none
  b_isinstance : mg "isinstance" = none
  b_ValueError : mg "ValueError" = none
  b_str : mg "str" = none
  b_max : mg "max" = none
  b_range : mg "range" = none
  g_FIGURES : ∃ t, mg "FIGURES" = some (.str "0123456789" t)
  g_MOST_FIGURES : ∃ t, mg "MOST_FIGURES" = some (.int 10 t)
  g_MOST_GAP : ∃ t, mg "MOST_GAP" = some (.int 50 t)
  g_MOST_DEGREE : ∃ t, mg "MOST_DEGREE" = some (.int 200 t)
  g_LEAST_RATE : ∃ t, mg "LEAST_RATE" = some (.int 1 t)
  g_MOST_RATE : ∃ t, mg "MOST_RATE" = some (.int 1000000000 t)
  g_MOST_OF_A_KIND : ∃ t, mg "MOST_OF_A_KIND" = some (.int 12 t)
structure Cls where
  HeatError : Addr
  NoRow : Addr
  NoMeasure : Addr
  WrongWay : Addr
  Full : Addr
  NoStream : Addr
structure Errs (K : PySem.W.Frag) (mg : Str → Option Value) (cs : Cls) : Prop where
  x_HeatError : ErrAt K mg "HeatError" cs.HeatError
  x_NoRow : ErrAt K mg "NoRow" cs.NoRow
  x_NoMeasure : ErrAt K mg "NoMeasure" cs.NoMeasure
  x_WrongWay : ErrAt K mg "WrongWay" cs.WrongWay
  x_Full : ErrAt K mg "Full" cs.Full
  x_NoStream : ErrAt K mg "NoStream" cs.NoStream
  is_NoMeasure_HeatError : PySem.W.kitOne K (.ref cs.NoMeasure) (.ref cs.HeatError) = some true
  ex_NoMeasure_HeatError : PySem.W.exmOne K (.ref cs.NoMeasure) (.ref cs.HeatError) = some true
  is_NoMeasure_NoRow : PySem.W.kitOne K (.ref cs.NoMeasure) (.ref cs.NoRow) = some false
  ex_NoMeasure_NoRow : PySem.W.exmOne K (.ref cs.NoMeasure) (.ref cs.NoRow) = some false
  is_NoMeasure_NoMeasure : PySem.W.kitOne K (.ref cs.NoMeasure) (.ref cs.NoMeasure) = some true
  ex_NoMeasure_NoMeasure : PySem.W.exmOne K (.ref cs.NoMeasure) (.ref cs.NoMeasure) = some true
  is_NoMeasure_WrongWay : PySem.W.kitOne K (.ref cs.NoMeasure) (.ref cs.WrongWay) = some false
  ex_NoMeasure_WrongWay : PySem.W.exmOne K (.ref cs.NoMeasure) (.ref cs.WrongWay) = some false
  is_NoMeasure_Full : PySem.W.kitOne K (.ref cs.NoMeasure) (.ref cs.Full) = some false
  ex_NoMeasure_Full : PySem.W.exmOne K (.ref cs.NoMeasure) (.ref cs.Full) = some false
  is_NoMeasure_NoStream : PySem.W.kitOne K (.ref cs.NoMeasure) (.ref cs.NoStream) = some false
  ex_NoMeasure_NoStream : PySem.W.exmOne K (.ref cs.NoMeasure) (.ref cs.NoStream) = some false
  iv_NoMeasure : PySem.W.kitOne K (.ref cs.NoMeasure) (.type "ValueError") = some true
  is_WrongWay_HeatError : PySem.W.kitOne K (.ref cs.WrongWay) (.ref cs.HeatError) = some true
  ex_WrongWay_HeatError : PySem.W.exmOne K (.ref cs.WrongWay) (.ref cs.HeatError) = some true
  is_WrongWay_NoRow : PySem.W.kitOne K (.ref cs.WrongWay) (.ref cs.NoRow) = some false
  ex_WrongWay_NoRow : PySem.W.exmOne K (.ref cs.WrongWay) (.ref cs.NoRow) = some false
  is_WrongWay_NoMeasure : PySem.W.kitOne K (.ref cs.WrongWay) (.ref cs.NoMeasure) = some false
  ex_WrongWay_NoMeasure : PySem.W.exmOne K (.ref cs.WrongWay) (.ref cs.NoMeasure) = some false
  is_WrongWay_WrongWay : PySem.W.kitOne K (.ref cs.WrongWay) (.ref cs.WrongWay) = some true
  ex_WrongWay_WrongWay : PySem.W.exmOne K (.ref cs.WrongWay) (.ref cs.WrongWay) = some true
  is_WrongWay_Full : PySem.W.kitOne K (.ref cs.WrongWay) (.ref cs.Full) = some false
  ex_WrongWay_Full : PySem.W.exmOne K (.ref cs.WrongWay) (.ref cs.Full) = some false
  is_WrongWay_NoStream : PySem.W.kitOne K (.ref cs.WrongWay) (.ref cs.NoStream) = some false
  ex_WrongWay_NoStream : PySem.W.exmOne K (.ref cs.WrongWay) (.ref cs.NoStream) = some false
  iv_WrongWay : PySem.W.kitOne K (.ref cs.WrongWay) (.type "ValueError") = some true
section
variable {cs : Cls}
variable {Pt : Addr} {P : Program} {w : World} {K : PySem.W.Frag} {mg : Str → Option Value} {base : Heap} {f : Addr} {fd : FuncData}
theorem mulR {i j : Int} (h : -(2 ^ 64) < j ∧ j < 2 ^ 64) : CMul i j := .inr h
theorem mulL {i j : Int} (h : -(2 ^ 64) < i ∧ i < 2 ^ 64) : CMul i j := .inl h
local macro_rules | `(tactic| walk_at "side") => `(tactic| first | decide | omega | exact mulR (by decide) | exact mulL (by decide) | exact ⟨by decide, by decide, by decide⟩ | exact ⟨by omega, by decide⟩ | exact mulL ⟨by omega, by omega⟩ | exact mulR ⟨by omega, by omega⟩ | exact ⟨by omega, by omega⟩)
local macro_rules | `(tactic| walk_at "go") => `(tactic| repeat (refine ⟨by walk_at "side", ?_⟩))
end
end WS
namespace WS
open PySem L2 DL
end WS
open PySem PySem.W PyProof.Rows
set_option maxRecDepth 100000 in
set_option maxHeartbeats 0 in
theorem PySem.Challenge.cw_warmshare_k06_ends_of_a_stream_holds : PySem.Challenge.rw_warmshare_k06_ends_of_a_stream.Holds := by
  w_on; o_law; k_head; (case hw => w_witness2)
  k_fill
  refine L2.walk_ofK (l := PySem.Challenge.rw_warmshare_k06_ends_of_a_stream) (n := 63) (k := 6) (x := "script") (CX := L2.CX0) (sp := DL.spLaw) rfl (by decide) rfl ⟨rfl, by decide, by decide⟩ (fun w h Y => PySem.W.kIn_of Y) ?F (fun _ _ a ns hl _ hS => ⟨a, ns, rfl, hS, hl, fun _ => rfl⟩) fun _ _ _ _ z => z
  case F =>
    intro w mg fa h KX G hmg
    refine' WS.all_mk KX G hmg ?a1 ?l1 ?c1 ?k1 ?a2 ?l2 ?c2 ?k2 ?a3 ?l3 ?c3 ?k3 ?a4 ?l4 ?c4 ?k4 ?a5 ?l5 ?c5 ?k5 ?a6 ?l6 ?c6 ?k6 ?a7 ?l7 ?c7 ?k7 ?a8 ?l8 ?c8 ?k8 ?a9 ?l9 ?c9 ?k9 ?a10 ?l10 ?c10 ?k10 ?a11 ?l11 ?c11 ?k11 ?a12 ?l12 ?c12 ?k12 ?z1 ?z2 ?z3 ?z4 ?z5 ?z6 ?z7 ?z8 ?y1 ?y2 ?y3 ?y4 ?y5 ?y6 ?y7 ?ea1 ?eb1 ?eg1 ?eh1 ?ei1 ?ej1 ?ek1 ?el1 ?ea2 ?eb2 ?eg2 ?eh2 ?ei2 ?ej2 ?ek2 ?el2 ?ea3 ?eb3 ?eg3 ?eh3 ?ei3 ?ej3 ?ek3 ?el3 ?ea4 ?eb4 ?eg4 ?eh4 ?ei4 ?ej4 ?ek4 ?el4 ?ea5 ?eb5 ?eg5 ?eh5 ?ei5 ?ej5 ?ek5 ?el5 ?ea6 ?eb6 ?eg6 ?eh6 ?ei6 ?ej6 ?ek6 ?el6 ?em1 ?em2 ?ef1 ?ef2 ?ef3 ?ef4 ?ef5 ?ef6 ?ef7 ?ef8 ?ef9 ?ef10 ?ef11 ?ef12 ?ef13 ?ef14 ?ef15 ?ef16 ?ef17 ?ef18 ?ef19 ?ef20 ?ef21 ?ef22 ?ef23 ?ef24 ?ef25 ?ef26
    (case a1 => k_is)
    (case l1 => k_is)
    (case c1 => k_is)
    (case k1 => k_is)
    (case a2 => k_is)
    (case l2 => k_is)
    (case c2 => k_is)
    (case k2 => k_is)
    (case a3 => k_is)
    (case l3 => k_is)
    (case c3 => k_is)
    (case k3 => k_is)
    (case a4 => k_is)
    (case l4 => k_is)
    (case c4 => k_is)
    (case k4 => k_is)
    (case a5 => k_is)
    (case l5 => k_is)
    (case c5 => k_is)
    (case k5 => k_is)
    (case a6 => k_is)
    (case l6 => k_is)
    (case c6 => k_is)
    (case k6 => k_is)
    (case a7 => k_is)
    (case l7 => k_is)
    (case c7 => k_is)
    (case k7 => k_is)
    (case a8 => k_is)
    (case l8 => k_is)
    (case c8 => k_is)
    (case k8 => k_is)
    (case a9 => k_is)
    (case l9 => k_is)
    (case c9 => k_is)
    (case k9 => k_is)
    (case a10 => k_is)
    (case l10 => k_is)
    (case c10 => k_is)
    (case k10 => k_is)
    (case a11 => k_is)
    (case l11 => k_is)
    (case c11 => k_is)
    (case k11 => k_is)
    (case a12 => k_is)
    (case l12 => k_is)
    (case c12 => k_is)
    (case k12 => k_is)
    (case z1 => k_is)
    (case z2 => k_is)
    (case z3 => k_is)
    (case z4 => k_is)
    (case z5 => k_is)
    (case z6 => k_is)
    (case z7 => k_is)
    (case z8 => k_is)
    (case y1 => k_is)
    (case y2 => k_is)
    (case y3 => k_is)
    (case y4 => k_is)
    (case y5 => k_is)
    (case y6 => k_is)
    (case y7 => k_is)
    (case ea1 => k_is)
    (case eb1 => k_exc)
    (case eg1 => k_is)
    (case eh1 => k_is)
    (case ei1 => k_is)
    (case ej1 => k_is)
    (case ek1 => k_is)
    (case el1 => k_is)
    (case ea2 => k_is)
    (case eb2 => k_exc)
    (case eg2 => k_is)
    (case eh2 => k_is)
    (case ei2 => k_is)
    (case ej2 => k_is)
    (case ek2 => k_is)
    (case el2 => k_is)
    (case ea3 => k_is)
    (case eb3 => k_exc)
    (case eg3 => k_is)
    (case eh3 => k_is)
    (case ei3 => k_is)
    (case ej3 => k_is)
    (case ek3 => k_is)
    (case el3 => k_is)
    (case ea4 => k_is)
    (case eb4 => k_exc)
    (case eg4 => k_is)
    (case eh4 => k_is)
    (case ei4 => k_is)
    (case ej4 => k_is)
    (case ek4 => k_is)
    (case el4 => k_is)
    (case ea5 => k_is)
    (case eb5 => k_exc)
    (case eg5 => k_is)
    (case eh5 => k_is)
    (case ei5 => k_is)
    (case ej5 => k_is)
    (case ek5 => k_is)
    (case el5 => k_is)
    (case ea6 => k_is)
    (case eb6 => k_exc)
    (case eg6 => k_is)
    (case eh6 => k_is)
    (case ei6 => k_is)
    (case ej6 => k_is)
    (case ek6 => k_is)
    (case el6 => k_is)
    (case em1 => k_is)
    (case em2 => k_is)
    (case ef1 => kit_is)
    (case ef2 => kts_exm)
    (case ef3 => kit_is)
    (case ef4 => kts_exm)
    (case ef5 => kit_is)
    (case ef6 => kts_exm)
    (case ef7 => kit_is)
    (case ef8 => kts_exm)
    (case ef9 => kit_is)
    (case ef10 => kts_exm)
    (case ef11 => kit_is)
    (case ef12 => kts_exm)
    (case ef13 => kit_is)
    (case ef14 => kit_is)
    (case ef15 => kts_exm)
    (case ef16 => kit_is)
    (case ef17 => kts_exm)
    (case ef18 => kit_is)
    (case ef19 => kts_exm)
    (case ef20 => kit_is)
    (case ef21 => kts_exm)
    (case ef22 => kit_is)
    (case ef23 => kts_exm)
    (case ef24 => kit_is)
    (case ef25 => kts_exm)
    (case ef26 => kit_is)
#print axioms PySem.Challenge.cw_warmshare_k06_ends_of_a_stream_holds